"""Points 2 and 18, and points 3, 6, 7 and 17 as far as they are about a house that is led."""

import copy
import itertools
import random
import unittest

from nextalive.desk import Desk
from nextalive.errors import BadOrder, NoFall, NoRise, NothingDone, TooManyDown
from nextalive.houses import House
from nextalive.runs import Run, run_of
from nextalive.surges import surge
from nextalive.worst import worst_load
from tests.brute import RULES, all_orders, begin, ends, load_of, lots, next_events, odd_values, picture_behind
from tests.brute import seconds_of, some_houses
from tests.test_surges import told_surge


def picture_rewritten(picture, service, order):
    """The picture behind a new order of a service, by point 18."""
    down, places = picture
    places = list(places)
    places[service] = ([machine for machine in order if machine not in down] + [-1])[0]
    return down, tuple(places)


def changed(house, picture, change):
    """The house and the picture behind a change: an event, or ("rewrite", service, order)."""
    if change[0] == "rewrite":
        return house.with_order(*change[1:]), picture_rewritten(picture, *change[1:])
    return house, picture_behind(house, picture, change)


def some_change(source, house, picture, most, orders=None):
    """Any change that can come next; new orders are some of these, or of all."""
    events = next_events(house, picture, most)
    if house.services() and (not events or source.random() < 0.3):
        service = source.randrange(len(house.services()))
        return "rewrite", service, source.choice(all_orders(len(house)) if orders is None else orders)
    return source.choice(events) if events else None


def do(desk, change):
    word, *rest = change
    return {"fall": desk.fall, "rise": desk.rise, "rewrite": desk.rewrite}[word](*rest)


class Checks(unittest.TestCase):
    def check_stand(self, desk, stands):
        """The stand of the desk, for the list of all houses and pictures from the beginning on."""
        house, picture = stands[-1]
        self.assertEqual((desk.house_now(), desk.picture(), len(desk)), (house, picture, len(stands) - 1))
        for machine in range(len(house)):
            self.assertEqual(desk.load(machine), load_of(house, picture, machine))
        for service in range(len(house.services())):
            places = [one[1][service] for _, one in stands]
            moves = len([1 for place, after in zip(places, places[1:]) if place != after])
            self.assertEqual(desk.moved(service), moves)

    def check_worst(self, desk, most, machine, load):
        """That worst_here tells this load, and events that lead to it."""
        house, picture = desk.house_now(), desk.picture()
        found = desk.worst_here(machine)
        self.assertEqual((type(found), type(found[1]), found[0]), (tuple, list, load), (house.services(), picture))
        for event in found[1]:
            self.assertIn(event, next_events(house, picture, most), (house.services(), desk.picture(), found))
            picture = picture_behind(house, picture, event)
        self.assertNotIn(machine, picture[0])
        self.assertEqual(load_of(house, picture, machine), load)

    def led(self, house, most, many, source, orders=None):
        """A desk behind so many changes, and the list of the houses and pictures from the beginning on."""
        desk, stands = Desk(house, most), [(house, begin(house))]
        for _ in range(many):
            change = some_change(source, *stands[-1], most, orders)
            if change is not None:
                self.assertIsNone(do(desk, change))
                stands.append(changed(*stands[-1], change))
        return desk, stands


class DeskTest(Checks):
    def test_events_and_new_orders_in_any_row(self):
        source = random.Random(51)
        for house in some_houses(House, 51, 60, 5, 4):
            most = source.randint(0, len(house) + 1)
            desk, stands = Desk(house, most), [(house, begin(house))]
            told = []
            for _ in range(25):
                change = some_change(source, *stands[-1], most)
                if change is not None:
                    do(desk, change)
                    stands.append(changed(*stands[-1], change))
                told.append((desk.house_now(), stands[-1][0]))
                self.check_stand(desk, stands)
            for found, expected in told:
                self.assertEqual(found, expected)
            while len(stands) > 1:
                self.assertIsNone(desk.undo())
                stands.pop()
                self.check_stand(desk, stands)
            for _ in range(2):
                self.assertRaises(NothingDone, desk.undo)
                self.check_stand(desk, stands)

    def test_undone_and_done_anew(self):
        source = random.Random(52)
        for house in some_houses(House, 52, 40, 4, 3):
            desk, stands = self.led(house, 2, 6, source)
            for _ in range(40):
                change = some_change(source, *stands[-1], 2)
                if len(stands) > 1 and source.random() < 0.5:
                    desk.undo()
                    stands.pop()
                elif change is not None:
                    do(desk, change)
                    stands.append(changed(*stands[-1], change))
                self.check_stand(desk, stands)

    def test_a_rewritten_service_goes_at_once(self):
        for rule in RULES:
            desk = Desk(House([9] * 4, [(4, (0, 1), rule), (3, (0, 1), rule)]), 4)
            desk.rewrite(0, (2, 3))
            self.assertEqual(desk.picture(), ((), (2, 0)))
            desk.fall(2)
            desk.fall(0)
            self.assertEqual(desk.picture(), ((0, 2), (3, 1)))
            desk.rewrite(1, (0, 2))
            self.assertEqual(desk.picture(), ((0, 2), (3, -1)))
            desk.rewrite(1, (2, 1, 3))
            self.assertEqual(desk.picture(), ((0, 2), (3, 1)))
            desk.rewrite(1, (2,))
            desk.rise(0)
            self.assertEqual(desk.picture(), ((2,), (3, -1)))
            desk.rise(2)
            self.assertEqual(desk.picture(), ((), ({"first": 2, "home": 2, "stay": 3}[rule], 2)))
            self.assertEqual((len(desk), desk.moved(0), desk.moved(1)), (8, 2 + (rule != "stay"), 5))

    def test_from_nowhere_to_a_living_machine(self):
        for rule in RULES:
            desk = Desk(House([9, 9], [(4, (0,), rule)]), 1)
            desk.fall(0)
            self.assertEqual(desk.picture(), ((0,), (-1,)))
            desk.rewrite(0, (0, 1))
            self.assertEqual((desk.picture(), desk.load(1)), (((0,), (1,)), 4))

    def test_a_service_that_stays_leaves_for_its_new_home(self):
        desk = Desk(House([9] * 3, [(4, (0, 1, 2), "stay")]), 1)
        desk.fall(0)
        desk.rise(0)
        self.assertEqual(desk.picture(), ((), (1,)))
        desk.rewrite(0, (0, 1, 2))
        self.assertEqual((desk.picture(), desk.moved(0), len(desk)), (((), (0,)), 2, 3))

    def test_the_order_that_it_has_is_a_change(self):
        house = House([9, 9], [(4, (0, 1), "first")])
        desk = Desk(house, 1)
        desk.rewrite(0, (0, 1))
        self.assertEqual((len(desk), desk.moved(0), desk.house_now(), desk.picture()), (1, 0, house, ((), (0,))))
        desk.undo()
        self.assertEqual(len(desk), 0)
        self.assertRaises(NothingDone, desk.undo)

    def test_houses_told_earlier_stay(self):
        house = House([9, 9], [(4, (0, 1), "first"), (2, (1,), "stay")])
        desk = Desk(house, 1)
        told = [desk.house_now()]
        for order in ((1, 0), (1,), (0,)):
            desk.rewrite(0, order)
            told.append(desk.house_now())
        self.assertEqual([one.services()[0][1] for one in told], [(0, 1), (1, 0), (1,), (0,)])
        self.assertEqual([one.services()[1] for one in told], [(2, (1,), "stay")] * 4)
        desk.undo()
        self.assertEqual([told[-1].services()[0][1], desk.house_now()], [(0,), told[2]])
        self.assertEqual(house.services()[0], (4, (0, 1), "first"))
        self.assertEqual([type(one) for one in told], [House] * 4)

    def test_hundreds_of_changes(self):
        source = random.Random(53)
        rows = [(at + 1, tuple((at + step) % 5 for step in range(5)), RULES[at % 3]) for at in range(5)]
        house = House([9] * 5, rows)
        desk, stands = self.led(house, 3, 700, source)
        self.assertEqual(len(desk), 700)
        while len(stands) > 1:
            if len(stands) % 50 == 0:
                self.check_stand(desk, stands)
            desk.undo()
            stands.pop()
        self.check_stand(desk, stands)
        self.assertRaises(NothingDone, desk.undo)

    def test_a_number_of_none(self):
        desk = Desk(House([9, 9], [(4, (0, 1), "stay")]), 0)
        for machine in (0, 1):
            with self.assertRaises(TooManyDown) as caught:
                desk.fall(machine)
            self.assertEqual(caught.exception.most, 0)
        self.assertEqual([desk.worst_here(0), desk.worst_here(1)], [(4, []), (0, [])])
        desk.rewrite(0, (1, 0))
        self.assertEqual([desk.worst_here(0), desk.worst_here(1)], [(0, []), (4, [])])
        self.assertEqual((desk.picture(), len(desk)), (((), (1,)), 1))

    def test_no_services(self):
        desk = Desk(House([9, 9], []), 5)
        desk.fall(1)
        desk.fall(0)
        self.assertEqual((desk.picture(), desk.load(0), len(desk)), (((0, 1), ()), 0, 2))
        self.check_worst(desk, 5, 0, 0)

    def test_by_name(self):
        house = House([9] * 3, [(4, (0, 1), "stay")])
        desk = Desk(most=2, house=house)
        found = [desk.fall(machine=0), desk.rise(machine=0), desk.rewrite(order=(2, 1), service=0)]
        self.assertEqual((found, desk.picture()), ([None] * 3, ((), (2,))))
        self.assertEqual([desk.load(machine=2), desk.moved(service=0), desk.worst_here(machine=1)[0]], [4, 2, 4])
        self.assertEqual(desk.surge_here(machines=(2,)), ([(2,)], ((2,), (1,))))


class WorstHereTest(Checks):
    def check_all_machines(self, desk, most):
        house, picture = desk.house_now(), desk.picture()
        reached = ends(house, most, picture)
        stand = (len(desk), copy.deepcopy(house), picture)
        for machine in range(len(house)):
            load = max(load_of(house, one, machine) for one in reached)
            self.assertEqual(worst_load(house, machine, most)[0], load)
            self.check_worst(desk, most, machine, load)
        self.assertEqual((len(desk), desk.house_now(), desk.picture()), stand)

    def test_from_pictures_of_led_houses(self):
        source = random.Random(54)
        for house in some_houses(House, 54, 250, 4, 3):
            most = source.randint(0, len(house))
            self.check_all_machines(self.led(house, most, 12, source)[0], most)

    def test_from_pictures_that_no_history_has(self):
        """What stays keeps the past for ever: two with one order never part, and these were brought apart before."""
        source = random.Random(55)
        pasts = 0
        for _ in range(250):
            machines = source.randint(2, 4)
            orders = [tuple(source.sample(range(machines), machines)) for _ in range(2)]
            rules = [source.choice(("stay", "stay", "stay", "home", "first")) for _ in range(3)]
            house = House([9] * machines, [(2 ** at, source.choice(orders), rule) for at, rule in enumerate(rules)])
            most = source.randint(1, machines)
            desk = self.led(house, most, 15, source, orders)[0]
            desk.rewrite(0, desk.house_now().services()[0][1])
            pasts += desk.picture() not in ends(desk.house_now(), most)
            self.check_all_machines(desk, most)
        self.assertGreater(pasts, 15)

    def test_five_machines_and_five_services(self):
        source = random.Random(56)
        for house in some_houses(House, 56, 300, 5, 5):
            most = source.randint(0, 6)
            desk = self.led(house, most, 30, source)[0]
            for machine in range(len(house)):
                self.check_worst(desk, most, machine, worst_load(desk.house_now(), machine, most)[0])

    def test_two_that_can_never_part_again(self):
        desk = Desk(House([9] * 3, [(4, (0, 1, 2), "stay"), (3, (1, 0, 2), "stay")]), 2)
        for event in (("fall", 0), ("rise", 0)):
            do(desk, event)
        self.assertEqual(desk.picture(), ((), (1, 1)))
        self.check_all_machines(desk, 2)

    def test_a_machine_that_is_down(self):
        desk = Desk(House([9] * 2, [(4, (0, 1), "stay"), (3, (1, 0), "stay")]), 1)
        desk.fall(0)
        self.check_all_machines(desk, 1)
        self.assertEqual([desk.worst_here(machine)[0] for machine in (0, 1)], [7, 7])

    def test_new_orders_while_machines_are_down(self):
        for rules in itertools.product(RULES, repeat=2):
            for orders in itertools.product([(0, 1, 2), (2, 1, 0), (1, 2), (2,)], repeat=2):
                for down in lots(3):
                    desk = Desk(House([9] * 3, [(4, (0, 1, 2), rules[0]), (3, (1, 0, 2), rules[1])]), 2)
                    if len(down) <= 2:
                        for machine in down:
                            desk.fall(machine)
                        desk.rewrite(0, orders[0])
                        desk.rewrite(1, orders[1])
                        self.check_all_machines(desk, 2)

    def test_events_are_a_new_list_each_time(self):
        desk = Desk(House([9] * 3, [(4, (0, 1, 2), "stay")]), 2)
        desk.fall(0)
        one, two = desk.worst_here(2), desk.worst_here(2)
        self.assertEqual(one, two)
        one[1].append(7)
        self.assertEqual(desk.worst_here(2), two)
        self.assertIsNot(desk.worst_here(2)[1], desk.worst_here(2)[1])

    def test_time(self):
        rows = [(10 ** 9, tuple((at + step) % 5 for step in range(5)), RULES[at % 3]) for at in range(5)]
        for most in (1, 3, 5, 10 ** 30):
            desk = self.led(House([9] * 5, rows), most, 400, random.Random(57))[0]
            for machine in range(5):
                self.assertLess(seconds_of(lambda desk=desk, machine=machine: desk.worst_here(machine)), 1)
            self.assertLess(seconds_of(lambda desk=desk: desk.moved(0)), 1)
            self.assertLess(seconds_of(desk.fork), 1)


class SurgeHereTest(Checks):
    def test_from_pictures_of_led_houses(self):
        source = random.Random(58)
        for house in some_houses(House, 58, 150, 5, 5):
            desk, stands = self.led(house, source.randint(0, len(house)), 10, source)
            down = desk.picture()[0]
            for machines in lots(len(house))[1:]:
                if not set(machines) & set(down):
                    told = told_surge(desk.house_now(), desk.picture(), machines)
                    self.assertEqual(desk.surge_here(machines), told)
            self.check_stand(desk, stands)

    def test_the_same_as_surge_behind_a_history(self):
        house = House([9, 6, 9], [(4, (0, 1), "stay"), (5, (1, 2), "stay")])
        desk = Desk(house, 1)
        desk.fall(0)
        desk.rise(0)
        self.assertEqual(desk.surge_here((2,)), surge(house, [("fall", 0), ("rise", 0)], (2,)))
        self.assertEqual(desk.surge_here((2,)), ([(2,), (1,)], ((1, 2), (0, -1))))
        self.assertEqual(desk.surge_here((0, 1, 2)), ([(0, 1, 2)], ((0, 1, 2), (-1, -1))))
        self.assertEqual((len(desk), desk.picture()), (2, ((), (1, 1))))

    def test_rounds_are_a_new_list_each_time(self):
        desk = Desk(House([9, 9], [(4, (0, 1), "stay")]), 1)
        one, two = desk.surge_here((0,)), desk.surge_here((0,))
        one[0].append(7)
        self.assertEqual(desk.surge_here((0,)), two)


class ErrorTest(Checks):
    def values(self):
        house = House([9, 9, 9], [(4, (0, 1), "stay")])
        return odd_values(house, Run(house)) + ["0", -2, 3, (0,), [0], {0: 0}, ("fall", 0), Desk(house, 1), 10 ** 30]

    def check_refused(self, desk, stands, call, kind, shown):
        for _ in range(2):
            with self.assertRaises(kind) as caught:
                call()
            self.assertEqual(list(vars(caught.exception)), list(shown))
            for name, value in shown.items():
                self.assertIs(getattr(caught.exception, name), value)
            self.check_stand(desk, stands)

    def test_no_fall_and_no_rise_for_any_value(self):
        house = House([9, 9, 9], [(4, (0, 1), "stay")])
        for most in (1, 2):
            desk, stands = Desk(house, most), [(house, begin(house))]
            desk.fall(1)
            stands.append(changed(*stands[-1], ("fall", 1)))
            no_machines = [value for value in self.values() if type(value) is not int or not 0 <= value < 3]
            for value in [*no_machines, 1]:
                self.check_refused(desk, stands, lambda value=value: desk.fall(value), NoFall, {"machine": value})
            for value in [*no_machines, 0, 2]:
                self.check_refused(desk, stands, lambda value=value: desk.rise(value), NoRise, {"machine": value})

    def test_too_many_down(self):
        house = House([9] * 4, [(4, (0, 1), "stay")])
        for most in (0, 1, 2, 3):
            desk, stands = Desk(house, most), [(house, begin(house))]
            for machine in range(most):
                desk.fall(machine)
                stands.append(changed(*stands[-1], ("fall", machine)))
            for machine in range(most, 4):
                call = lambda machine=machine: desk.fall(machine)
                self.check_refused(desk, stands, call, TooManyDown, {"most": most})
            for value in (True, -1, 4, "0", *range(most)):
                self.check_refused(desk, stands, lambda value=value: desk.fall(value), NoFall, {"machine": value})
            if most > 0:
                desk.rise(0)
                desk.fall(3)
                self.assertEqual(desk.picture()[0], tuple([*range(1, most), 3]))

    def test_a_great_number_lets_all_fall(self):
        desk = Desk(House([9] * 5, []), 10 ** 30)
        for machine in range(5):
            desk.fall(machine)
        self.assertEqual(desk.picture(), ((0, 1, 2, 3, 4), ()))
        self.assertRaises(NoFall, desk.fall, 0)

    def test_bad_orders(self):
        house = House([9, 9, 9], [(4, (0, 1), "stay")])
        desk, stands = self.led(house, 1, 5, random.Random(59))
        wrong = [(), (0, 0), (3,), (-1,), (0, 3), (True,), (0, True), (0, 1, 2, 0), [0, 1], (0, [1]), ("0",), (None,)]
        for value in self.values() + wrong:
            if value not in [(0,)]:
                call = lambda value=value: desk.rewrite(0, value)
                self.check_refused(desk, stands, call, BadOrder, {"order": value})

    def test_what_is_refused_is_not_undone(self):
        desk = Desk(House([9, 9], [(4, (0, 1), "stay")]), 1)
        desk.fall(0)
        for call in (lambda: desk.fall(1), lambda: desk.fall(0), lambda: desk.rise(1), lambda: desk.rewrite(0, ())):
            self.assertRaises((NoFall, NoRise, TooManyDown, BadOrder), call)
        desk.undo()
        self.assertEqual((desk.picture(), len(desk)), (((), (0,)), 0))
        self.assertRaises(NothingDone, desk.undo)


class ForkTest(Checks):
    def test_both_go_their_own_way(self):
        source = random.Random(60)
        for house in some_houses(House, 60, 60, 4, 3):
            desk, stands = self.led(house, 2, 8, source)
            other, others = desk.fork(), list(stands)
            self.assertIs(type(other), Desk)
            self.check_stand(other, stands)
            for one, rows in [(desk, stands), (other, others)] * 8:
                change = some_change(source, *rows[-1], 2)
                if len(rows) > 1 and source.random() < 0.4:
                    one.undo()
                    rows.pop()
                elif change is not None:
                    do(one, change)
                    rows.append(changed(*rows[-1], change))
                self.check_stand(desk, stands)
                self.check_stand(other, others)

    def test_a_fork_is_undone_back_to_the_beginning(self):
        house = House([9, 9], [(4, (0, 1), "first")])
        desk = Desk(house, 1)
        desk.fall(0)
        desk.rewrite(0, (1, 0))
        other = desk.fork()
        third = other.fork()
        other.undo()
        other.undo()
        self.assertRaises(NothingDone, other.undo)
        self.assertEqual((other.house_now(), other.picture()), (house, ((), (0,))))
        self.assertEqual((len(desk), len(third), third.picture()), (2, 2, desk.picture()))
        self.assertEqual(run_of(house, []).picture(), other.picture())

    def test_a_fork_has_the_same_number(self):
        desk = Desk(House([9] * 3, []), 1).fork()
        desk.fall(0)
        self.assertRaises(TooManyDown, desk.fall, 1)


del Checks

if __name__ == "__main__":
    unittest.main()
