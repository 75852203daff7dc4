"""Points 2, 12 and 13, and point 3 as far as it is about these."""

import copy
import itertools
import random
import unittest

from nextalive.houses import House
from nextalive.runs import Run
from nextalive.worst import gather, is_bar, margin, unsafe, worst_load, worst_loads
from tests.brute import RULES, all_orders, begin, end_of, ends, load_of, lots, next_events, odd_values, picture_behind
from tests.brute import seconds_of, some_houses

WORDS = ("far", "many", "stuck")


def told_bar(house, machine, most, word, numbers):
    """Whether these are a bar, by the words of point 12, for an ascending tuple of one or more services."""
    rows = [house.services()[number] for number in numbers]
    if word == "far":
        order = rows[0][1]
        return len(rows) == 1 and (machine not in order or order.index(machine) > most)
    if not all(machine in order for _, order, _ in rows):
        return False
    if word == "many":
        if any(rule == "stay" for _, _, rule in rows):
            return False
        ahead = {other for _, order, rule in rows if rule == "first" for other in order[:order.index(machine)]}
        homes = {order[0] for _, order, rule in rows if rule == "home"} - {machine}
        return len(ahead | homes) > most
    if any(rule != "home" or order[0] == machine for _, order, rule in rows):
        return False
    for at, (_, order, _) in enumerate(rows):
        others = {other[1][0] for place, other in enumerate(rows) if place != at}
        if len(set(order[:order.index(machine)]) | others) <= most:
            return False
    return True


def all_told_bars(house, machine, most):
    numbers = lots(len(house.services()))[1:]
    return [(word, lot) for word in WORDS for lot in numbers if told_bar(house, machine, most, word, lot)]


class Checks(unittest.TestCase):
    def check_house(self, house, most):
        """All that is told of a house, held against all of its pictures."""
        pictures = list(ends(house, most))
        loads = []
        for machine in range(len(house)):
            alive = [picture for picture in pictures if machine not in picture[0]]
            loads.append(max(load_of(house, picture, machine) for picture in alive))
            self.check_load(house, machine, most, loads[-1])
            for services in lots(len(house.services())):
                self.check_gather(house, machine, services, most, self.together(alive, machine, services))
        self.assertEqual(worst_loads(house, most), loads)
        self.check_unsafe(house, most, loads)

    def together(self, alive, machine, services):
        return any(all(picture[1][number] == machine for number in services) for picture in alive)

    def check_load(self, house, machine, most, load):
        found = worst_load(house, machine, most)
        self.assertIs(type(found), tuple)
        self.assertEqual(found[0], load)
        end = end_of(house, found[1], most)
        self.assertNotIn(machine, end[0])
        self.assertEqual(load_of(house, end, machine), load)

    def check_gather(self, house, machine, services, most, told):
        word, found = gather(house, machine, services, most)
        self.assertEqual(word, "yes" if told else "no", (machine, services, most))
        if told:
            down, places = end_of(house, found, most)
            self.assertNotIn(machine, down)
            self.assertEqual([places[number] for number in services], [machine] * len(services))
        else:
            self.check_bar(house, machine, services, most, found)

    def check_bar(self, house, machine, services, most, bar):
        self.assertIs(type(bar), tuple)
        word, numbers = bar
        self.assertIs(type(numbers), tuple)
        self.assertIn(numbers, lots(5)[1:])
        self.assertLessEqual(set(numbers), set(services))
        self.assertTrue(told_bar(house, machine, most, word, numbers), bar)
        self.assertIs(is_bar(house, machine, most, bar), True)

    def check_unsafe(self, house, most, loads):
        over = [machine for machine, load in enumerate(loads) if load > house.strengths()[machine]]
        found = unsafe(house, most)
        if not over:
            self.assertIsNone(found)
            return
        self.assertIs(type(found), tuple)
        machine, load, history = found
        self.assertEqual((machine, load), (over[0], loads[over[0]]))
        end = end_of(house, history, most)
        self.assertNotIn(machine, end[0])
        self.assertEqual(load_of(house, end, machine), load)


class WorstTest(Checks):
    def test_each_order_and_rule_of_one_service(self):
        for machines in (1, 2, 3):
            for order in all_orders(machines):
                for rule in RULES:
                    for most in range(machines + 2):
                        with self.subTest(machines=machines, order=order, rule=rule, most=most):
                            self.check_house(House([3] * machines, [(4, order, rule)]), most)

    def test_pairs_of_services_on_three_machines(self):
        kinds = [(order, rule) for order in [(0,), (0, 2), (1, 2), (2, 1), (0, 1, 2), (1, 0, 2)] for rule in RULES]
        for one, two in itertools.combinations_with_replacement(kinds, 2):
            house = House([6, 4, 6], [(4, *one), (3, *two)])
            for most in range(4):
                with self.subTest(one=one, two=two, most=most):
                    self.check_house(house, most)

    def test_three_services_on_four_machines(self):
        for house in some_houses(House, 12, 150, 4, 3):
            for most in range(len(house) + 2):
                with self.subTest(services=house.services(), machines=len(house), most=most):
                    self.check_house(house, most)

    def test_services_that_go_home_on_four_machines(self):
        """Random orders that all end with machine 3, so that who comes first and who is in the way matters."""
        source = random.Random(2)
        for _ in range(120):
            rows = []
            for _ in range(3):
                order = (*source.sample(range(3), source.randint(1, 3)), 3)
                rows.append((source.randint(1, 9), order, source.choice(("home", "home", "home", "first", "stay"))))
            house = House([9] * 4, rows)
            for most in (1, 2, 3):
                with self.subTest(services=rows, most=most):
                    self.check_house(house, most)

    def test_five_machines_and_five_services(self):
        source = random.Random(5)
        for _ in range(4):
            rows = []
            for rule in ("home", "home", "first", "stay", "home"):
                rows.append((source.randint(1, 9), tuple(source.sample(range(5), source.randint(2, 5))), rule))
            house = House([9] * 5, rows)
            for most in (0, 2, 3, 7):
                with self.subTest(services=rows, most=most):
                    self.check_house(house, most)

    def test_services_that_come_in_one_row_alone(self):
        services = [(1, (0, 4), "home"), (1, (1, 0, 4), "home"), (1, (2, 1, 0, 4), "home")]
        for row in itertools.permutations(services):
            house = House([9] * 5, list(row))
            with self.subTest(row=row):
                self.check_house(house, 3)
                self.assertEqual(gather(house, 4, (0, 1, 2), 3)[0], "yes")
                self.check_house(house, 2)
        pair = [(1, (0, 1, 3), "home"), (1, (2, 3), "home")]
        for row in itertools.permutations(pair):
            house = House([9] * 4, list(row))
            self.check_house(house, 2)
            self.assertEqual(gather(house, 3, (0, 1), 2)[0], "yes")

    def test_services_that_hinder_each_other(self):
        house = House([9] * 5, [(1, (0, 1, 4), "home"), (1, (2, 3, 4), "home"), (1, (4, 0), "home")])
        self.assertEqual(gather(house, 4, (0, 1, 2), 2), ("no", ("stuck", (0, 1))))
        self.assertEqual(gather(house, 4, (0, 2), 2)[0], "yes")
        self.assertEqual(gather(house, 4, (0, 1, 2), 3)[0], "yes")
        self.assertEqual([worst_load(house, 4, most)[0] for most in range(5)], [1, 1, 2, 3, 3])
        for most in range(6):
            self.check_house(house, most)

    def test_the_home_is_the_machine_itself(self):
        house = House([9] * 3, [(1, (2, 0, 1), "home"), (2, (0, 2), "home"), (4, (1, 2), "home")])
        self.assertEqual([worst_load(house, 2, most)[0] for most in range(4)], [1, 5, 7, 7])
        self.assertIs(is_bar(house, 2, 1, ("many", (0, 1))), False)
        self.assertIs(is_bar(house, 2, 0, ("many", (0,))), False)
        self.assertIs(is_bar(house, 2, 1, ("many", (0, 1, 2))), True)
        self.assertIs(is_bar(house, 2, 0, ("stuck", (0,))), False)
        for most in range(5):
            self.check_house(house, most)

    def test_services_that_stay_are_brought_one_by_one(self):
        house = House([9] * 5, [(1 << at, (at, 4), "stay") for at in range(4)] + [(16, (0, 1, 4), "stay")])
        self.assertEqual([worst_load(house, 4, most)[0] for most in (0, 1, 2, 5)], [0, 15, 31, 31])
        for most in (0, 1, 2):
            self.check_house(house, most)

    def test_services_that_stay_ahead_of_the_other_ones(self):
        house = House([99] * 4, [(1, (0, 1, 2, 3), "stay"), (2, (0, 3), "home"), (4, (1, 3), "first")])
        self.assertEqual([worst_load(house, 3, most)[0] for most in range(5)], [0, 4, 6, 7, 7])
        for most in range(6):
            self.check_house(house, most)

    def test_numbers_beyond_the_machines(self):
        house = House([9] * 3, [(4, (0, 2), "first"), (3, (0, 1, 2), "home"), (2, (1, 2), "home")])
        for machine in range(3):
            self.assertEqual(worst_load(house, machine, 3), worst_load(house, machine, 10 ** 30))
        self.assertEqual(worst_loads(house, 2), worst_loads(house, 10 ** 30))
        self.assertEqual(unsafe(House([9] * 3, house.services()), 10 ** 30), None)
        self.assertEqual(gather(house, 2, (0, 1, 2), 10 ** 30)[0], "yes")

    def test_a_machine_in_no_order(self):
        house = House([0, 5, 0], [(5, (1,), "first"), (5, (1,), "stay")])
        for most in (0, 1, 3):
            self.assertEqual(worst_load(house, 0, most)[0], 0)
            self.assertEqual(gather(house, 0, (), most)[0], "yes")
            self.assertEqual(gather(house, 0, (1,), most), ("no", ("far", (1,))))
            self.assertEqual(worst_loads(house, most), [0, 10, 0])
            self.check_house(house, most)

    def test_a_house_with_no_services(self):
        house = House([0, 0], [])
        for most in (0, 1, 2, 9):
            self.check_house(house, most)
            self.assertEqual((worst_loads(house, most), unsafe(house, most)), ([0, 0], None))
            self.assertIs(is_bar(house, 0, most, ("many", ())), False)
        self.assertEqual(margin(house), 2)

    def test_gather_no_services(self):
        house = House([9] * 3, [(4, (0, 2), "first")])
        for machine in range(3):
            for most in (0, 1, 9):
                word, history = gather(house, machine, (), most)
                self.assertEqual(word, "yes")
                self.assertNotIn(machine, end_of(house, history, most)[0])

    def test_the_past_never_changes_the_greatest_load(self):
        """Point 2: houses that were led by events and by new orders, and all that comes of the picture then."""
        source = random.Random(7)
        orders = [(0, 1, 2), (1, 0, 2)]
        pasts = 0
        for _ in range(200):
            rules = [source.choice(("stay", "stay", "home", "first")) for _ in range(3)]
            rows = [(weight, source.choice(orders), rule) for weight, rule in zip((1, 2, 4), rules)]
            most = source.randint(0, 3)
            house, picture = self.led(House([9] * 3, rows), most, orders, source)
            reached = ends(house, most, picture)
            pasts += sorted(reached) != sorted(ends(house, most))
            told = [max(load_of(house, one, machine) for one in reached) for machine in range(3)]
            with self.subTest(services=house.services(), picture=picture, most=most):
                self.assertEqual(worst_loads(house, most), told)
        self.assertGreater(pasts, 10)

    def led(self, house, most, orders, source):
        """The house and the picture behind events and new orders; who gets one goes to its first living machine."""
        picture = begin(house)
        for _ in range(12):
            events = next_events(house, picture, most)
            if source.random() < 0.4:
                service, order = source.randrange(len(house.services())), source.choice(orders)
                house = house.with_order(service, order)
                places = list(picture[1])
                places[service] = ([machine for machine in order if machine not in picture[0]] + [-1])[0]
                picture = (picture[0], tuple(places))
            elif events:
                picture = picture_behind(house, picture, source.choice(events))
        return house, picture

    def test_by_name_and_by_position(self):
        house = House([5] * 3, [(4, (0, 2), "first"), (3, (0, 1, 2), "home")])
        self.assertEqual(gather(house=house, machine=2, services=(0, 1), most=2), gather(house, 2, (0, 1), 2))
        self.assertIs(is_bar(house=house, machine=2, most=1, value=("far", (1,))), True)
        self.assertEqual(worst_load(house=house, machine=2, most=2), worst_load(house, 2, 2))
        self.assertEqual(worst_loads(house=house, most=2), worst_loads(house, 2))
        self.assertEqual(unsafe(house=house, most=2), unsafe(house, 2))
        self.assertEqual(margin(house=house), margin(house))

    def test_lists_are_new_each_time_and_nothing_is_changed(self):
        house = House([5] * 3, [(4, (0, 2), "first"), (3, (0, 1, 2), "home")])
        kept = copy.deepcopy(house)
        calls = [lambda: gather(house, 2, (0, 1), 2)[1], lambda: gather(house, 2, (), 2)[1],
                 lambda: worst_load(house, 2, 2)[1], lambda: worst_load(house, 2, 0)[1],
                 lambda: worst_loads(house, 2), lambda: unsafe(house, 2)[2]]
        for call in calls:
            one, two = call(), call()
            self.assertEqual(one, two)
            self.assertIsNot(one, two)
            one.append(("fall", 0))
            self.assertEqual(call(), two)
        self.assertEqual([gather(house, 2, (1,), 1) for _ in range(2)], [("no", ("far", (1,)))] * 2)
        self.assertEqual(house, kept)

    def test_time(self):
        for rules in (("home",) * 5, ("stay",) * 5, ("first",) * 5, ("home", "stay", "first", "home", "home")):
            rows = [(10 ** 9, tuple((at + step) % 5 for step in range(5)), rule) for at, rule in enumerate(rules)]
            house = House([10 ** 10] * 5, rows)
            for most in (0, 1, 3, 5, 10 ** 30):
                self.assertLess(seconds_of(lambda house=house, most=most: worst_loads(house, most)), 1)
                self.assertLess(seconds_of(lambda house=house, most=most: unsafe(house, most)), 1)
            self.assertLess(seconds_of(lambda house=house: margin(house)), 1)


class IsBarTest(unittest.TestCase):
    def check_all(self, house, most):
        for machine in range(len(house)):
            bars = all_told_bars(house, machine, most)
            for word in WORDS:
                for numbers in lots(len(house.services())):
                    told = (word, numbers) in bars
                    self.assertIs(is_bar(house, machine, most, (word, numbers)), told, (word, numbers, machine, most))

    def test_all_lots_and_words(self):
        for house in some_houses(House, 14, 150, 5, 4):
            for most in range(len(house) + 2):
                with self.subTest(services=house.services(), machines=len(house), most=most):
                    self.check_all(house, most)

    def test_each_word_just_at_most_and_one_above(self):
        far = House([9] * 4, [(1, (0, 1, 2, 3), "stay")])
        self.assertEqual([is_bar(far, 3, most, ("far", (0,))) for most in (2, 3)], [True, False])
        many = House([9] * 4, [(1, (0, 1, 3), "first"), (1, (2, 3), "home")])
        self.assertEqual([is_bar(many, 3, most, ("many", (0, 1))) for most in (2, 3)], [True, False])
        stuck = House([9] * 5, [(1, (0, 1, 4), "home"), (1, (2, 3, 4), "home")])
        self.assertEqual([is_bar(stuck, 4, most, ("stuck", (0, 1))) for most in (2, 3)], [True, False])
        self.assertEqual([is_bar(stuck, 4, most, ("many", (0, 1))) for most in (1, 2)], [True, False])

    def test_a_service_that_is_far_for_each_rule(self):
        house = House([9] * 3, [(1, (0, 1, 2), rule) for rule in RULES] + [(1, (0,), "home")])
        self.assertEqual([is_bar(house, 2, 1, ("far", (number,))) for number in range(4)], [True] * 4)
        found = [[is_bar(house, 2, 1, (word, (number,))) for number in range(4)] for word in ("many", "stuck")]
        self.assertEqual(found, [[True, False, False, False], [False, True, False, False]])

    def test_one_service_out_of_place_undoes_a_bar(self):
        rows = [(1, (0, 1, 4), "home"), (1, (2, 3, 4), "home"), (1, (0, 1, 2, 4), "stay"), (1, (0, 3), "home")]
        house = House([9] * 5, [*rows, (1, (4, 0), "home")])
        for word, numbers in (("stuck", (0, 1)), ("many", (0, 1))):
            self.assertIs(is_bar(house, 4, 1, (word, numbers)), True)
            self.assertIs(is_bar(house, 4, 1, (word, (*numbers, 2))), False)
            self.assertIs(is_bar(house, 4, 1, (word, (*numbers, 3))), False)
        self.assertIs(is_bar(house, 4, 1, ("stuck", (0, 1, 4))), False)
        self.assertIs(is_bar(house, 4, 1, ("many", (0, 1, 4))), True)

    def test_near_ones(self):
        house = House([9] * 5, [(1, (0, 1, 4), "home"), (1, (2, 3, 4), "home"), (1, (0, 1, 2, 4), "first")])
        good = [("far", (0,)), ("many", (0, 1)), ("many", (0, 1, 2)), ("stuck", (0, 1))]
        for word, numbers in good:
            self.assertIs(is_bar(house, 4, 1, (word, numbers)), True)
            self.assertIs(is_bar(house, 4, 1, (word, numbers)), True)
            near = [[word, numbers], (word, list(numbers)), (word,), (numbers,), (word, numbers, 0), (numbers, word)]
            near += [(word, numbers, numbers), (word, (*numbers, 3)), (word, (*numbers, -1)), (word, ())]
            near += [(word, (numbers,)), (word, *numbers), (word, numbers + numbers), (word, (0, 0)), (word, None)]
            near += [(word.upper(), numbers), (word + " ", numbers), ("", numbers), (None, numbers), ([word], numbers)]
            near += [((word,), numbers), (word.encode(), numbers), (True, numbers), {word: numbers}, (word, {0: 1})]
            near += [(word, tuple(bool(number) for number in numbers)), (word, (False, True)), (word, (False,))]
            near += [(word, (10 ** 30,)), (word, ("0",)), (word, ((),)), (word, ([],)), (word, (None,)), (word, "0")]
            near += [(word, numbers[::-1])] if len(numbers) > 1 else []
            for value in near:
                with self.subTest(value=value):
                    self.assertIs(is_bar(house, 4, 1, value), False)
        self.assertIs(is_bar(house, 4, 1, ("far", (0, 1))), False)
        self.assertIs(is_bar(house, 4, 1, ("near", (0, 1))), False)

    def test_services_that_there_are_not(self):
        house = House([9] * 2, [(1, (0,), "first"), (1, (0,), "home")])
        found = [is_bar(house, 1, 0, ("far", (number,))) for number in (-2, -1, 0, 1, 2, 3)]
        self.assertEqual(found, [False, False, True, True, False, False])

    def test_any_value(self):
        house = House([9] * 3, [(4, (0, 2), "first"), (3, (0, 1, 2), "home"), (2, (1, 2), "home")])
        told = [gather(house, 2, (0, 1), 2), worst_load(house, 2, 2), unsafe(house, 1), Run(house).picture()]
        for value in odd_values(house, Run(house)) + told + [house.services(), house.services()[0]]:
            for most in (0, 1, 2):
                with self.subTest(value=value):
                    self.assertIs(is_bar(house, 2, most, value), False)

    def test_the_value_is_not_changed(self):
        house = House([9] * 2, [(1, (0,), "first")])
        value = ["far", [0]]
        self.assertIs(is_bar(house, 1, 0, value), False)
        self.assertEqual(value, ["far", [0]])


class SafeTest(Checks):
    def test_just_at_the_strength_and_one_above_it(self):
        rows = [(4, (0, 2), "first"), (3, (0, 1, 2), "home"), (2, (1, 2), "home")]
        for most in range(4):
            loads = worst_loads(House([9] * 3, rows), most)
            self.assertIsNone(unsafe(House(loads, rows), most))
            for machine in range(3):
                if loads[machine]:
                    house = House([load - (at == machine) for at, load in enumerate(loads)], rows)
                    found = unsafe(house, most)
                    self.assertEqual(found[:2], (machine, loads[machine]))
                    self.check_unsafe(house, most, loads)

    def test_the_first_machine_that_bears_too_much(self):
        rows = [(4, (0, 1, 2), "stay"), (3, (2, 1, 0), "stay")]
        self.assertEqual(unsafe(House([6, 6, 6], rows), 2)[:2], (0, 7))
        self.assertEqual(unsafe(House([7, 6, 6], rows), 2)[:2], (1, 7))
        self.assertEqual(unsafe(House([7, 7, 6], rows), 2)[:2], (2, 7))
        self.assertIsNone(unsafe(House([7, 7, 7], rows), 2))
        self.assertEqual(unsafe(House([3, 0, 2], rows), 0)[:2], (0, 4))
        self.assertEqual(unsafe(House([4, 0, 2], rows), 0)[:2], (2, 3))
        self.assertIsNone(unsafe(House([4, 0, 3], rows), 0))

    def test_margin_is_the_greatest_number(self):
        for house in some_houses(House, 15, 120, 4, 3):
            safe = []
            for most in range(len(house) + 1):
                alive = [(picture, machine) for picture in ends(house, most) for machine in range(len(house))]
                strengths = house.strengths()
                safe.append(all(load_of(house, picture, machine) <= strengths[machine] for picture, machine in alive))
            with self.subTest(services=house.services(), strengths=house.strengths()):
                self.assertEqual(margin(house), max([most for most, held in enumerate(safe) if held], default=-1))

    def test_margins_of_each_kind(self):
        rows = [(4, (0, 1, 2), "first")]
        found = [margin(House(strengths, rows)) for strengths in ([3, 9, 9], [4, 3, 9], [4, 4, 3], [4, 4, 4])]
        self.assertEqual(found, [-1, 0, 1, 3])
        self.assertEqual(margin(House([0] * 5, [])), 5)
        self.assertEqual(margin(House([4], [(4, (0,), "stay")])), 1)
        self.assertEqual(margin(House([3], [(4, (0,), "stay")])), -1)


del Checks

if __name__ == "__main__":
    unittest.main()
