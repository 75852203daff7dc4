"""What the document promises over the whole program: points 2, 3, 5, 6, 7 and 17, and all functions side by side."""

import copy
import itertools
import random
import time
import unittest

from nextalive import behind, desk, errors, forms, houses, moves, newlists, places, priced, rolling, runs, steered
from nextalive import surges, tables, toldback, tours, worst
from nextalive.houses import House
from tests.brute import RULES, all_orders, begin, end_of, ends, load_of, lots, next_events, picture_behind, seconds_of
from tests.brute import some_houses


def told(call):
    """What a call tells: its result, or the kind of its error and what this has."""
    try:
        return call()
    except errors.HouseError as error:
        return error.__class__.__name__, vars(error)


def questions(house, most):
    """Many questions to one house, a dict from their names to calls."""
    machines, services = len(house), len(house.services())
    prices = [3, 0, 2, 7, 1][:machines]
    short = House(house.strengths(), house.services()[:4])
    order = tuple(range(machines))[::-1]
    asked = {"safe": lambda: worst.unsafe(house, most), "margin": lambda: worst.margin(house),
             "loads": lambda: worst.worst_loads(house, most), "surge": lambda: surges.worst_surge(house, most),
             "settled": lambda: behind.is_settled(house, most), "unsettled": lambda: behind.unsettled(house, most),
             "table": lambda: tables.Table(house, most).pictures(), "busiest": lambda: tours.busiest(house, most),
             "rolling": lambda: rolling.rolling(house, most), "steered": lambda: steered.steered(house, most),
             "fitting": lambda: newlists.fitting(short, 3, "stay", most),
             "room": lambda: newlists.room(short, order, "home", most)}
    for machine in range(machines):
        asked["load", machine] = lambda machine=machine: worst.worst_load(house, machine, most)
        asked["priced", machine] = lambda machine=machine: priced.worst_priced(house, machine, prices, most)
        asked["breaking", machine] = lambda machine=machine: priced.breaking_purse(house, machine, prices)
        for lot in lots(services):
            asked["gather", machine, lot] = lambda machine=machine, lot=lot: worst.gather(house, machine, lot, most)
    for service in range(services):
        asked["form", service] = lambda service=service: forms.short_form(house, service, most)
        asked["moves", service] = lambda service=service: moves.most_moves(house, service, 99, most)
        asked["moving", service] = lambda service=service: moves.moving(house, service, 9, most)
        asked["mending", service] = lambda service=service: newlists.mending(house, service, most)
        for place in range(-1, machines):
            asked["way", service, place] = lambda at=(service, place): places.way_to(house, *at, most)
            asked["least", service, place] = lambda at=(service, place): places.least_events(house, *at)
    return asked


def lists_in(value):
    """All lists and dicts in a value, at whatever depth."""
    found = [value] if isinstance(value, (list, dict)) else []
    parts = [*value, *value.values()] if isinstance(value, dict) else value if isinstance(value, (list, tuple)) else []
    return found + [inner for part in parts for inner in lists_in(part)]


def lead(run, event):
    word, machine = event
    {"fall": run.fall, "rise": run.rise}[word](machine)


class NamesTest(unittest.TestCase):
    def calls(self):
        """Each function of the interface with its arguments by name; and those that go by name alone."""
        house = House([9, 9, 5], [(4, (0, 1), "first"), (3, (0, 1, 2), "stay")])
        low = House([4, 3], [(4, (0, 1), "first")])
        both, picture = [("fall", 0), ("rise", 0)], ((0,), (1, 1))
        prices, seen = [3, 2, 1], [((), 1), ((1,), 2)]
        bar, most, at = ("far", (0,)), {"most": 1}, {"house": house}
        keeping, breaking = steered.steered(house, 1)[1], steered.steered(low, 1)[1]
        numbers = tours.busiest(house, 1)[2]
        barring, rounds = rolling.rolling(low, 0)[1], rolling.rolling(house, 1)[1]
        log, paid = (2, [(("fall", 2), 0)]), {"prices": prices, "purse": 3}
        return [
            (runs.run_of, {**at, "history": both}, {}), (runs.is_history, {**at, "value": both}, {"most": 1}),
            (places.can_be, {**at, "service": 1, "place": 2, "most": 2}, {}),
            (places.least_events, {**at, "service": 1, "place": 2}, {}),
            (places.way_to, {**at, "service": 1, "place": 2, "most": 2}, {}),
            (behind.behind, {**at, "service": 1, "down": (0,), "most": 2}, {}),
            (behind.history_to, {**at, "service": 1, "down": (0,), "place": 2, "most": 2}, {}),
            (behind.is_settled, {**at, **most}, {}), (behind.unsettled, {**at, **most}, {}),
            (worst.gather, {**at, "machine": 1, "services": (0, 1), "most": 1}, {}),
            (worst.is_bar, {**at, "machine": 2, "most": 1, "value": bar}, {}),
            (worst.worst_load, {**at, "machine": 1, "most": 1}, {}), (worst.worst_loads, {**at, **most}, {}),
            (worst.unsafe, {**at, **most}, {}), (worst.margin, at, {}),
            (tables.is_closed, {**at, "most": 1, "value": tables.Table(house, 1).pictures()}, {}),
            (forms.short_form, {**at, "service": 1, "most": 1}, {}),
            (forms.parting, {**at, "other": house.with_order(1, (2, 0)), "most": 1}, {}),
            (moves.moves, {**at, "service": 1, "history": both}, {}),
            (moves.most_moves, {**at, "service": 1, "events": 7, "most": 1}, {}),
            (moves.moving, {**at, "service": 1, "events": 7, "most": 1}, {}),
            (surges.surge, {**at, "history": both, "machines": (1,)}, {}), (surges.worst_surge, {**at, **most}, {}),
            (toldback.order_of, {"machines": 4, "seen": seen}, {}),
            (toldback.orders, {"machines": 4, "seen": seen}, {}),
            (toldback.next_at, {"machines": 4, "seen": seen, "down": (1, 2)}, {}),
            (toldback.order_of_log, {"machines": 3, "rule": "stay", "log": log}, {}),
            (newlists.fitting, {**at, "weight": 2, "rule": "stay", "most": 1}, {}),
            (newlists.room, {**at, "order": (2, 1), "rule": "home", "most": 1}, {}),
            (newlists.mending, {**at, "service": 0, "most": 1}, {}),
            (priced.cost, {"prices": prices, "machines": (2, 0)}, {}),
            (priced.purse_of, {**at, "prices": prices, "history": both}, {}),
            (priced.gather_priced, {**at, "machine": 1, "services": (0, 1), **paid}, {}),
            (priced.is_priced_bar, {**at, "machine": 2, **paid, "value": bar}, {}),
            (priced.worst_priced, {**at, "machine": 1, **paid}, {}),
            (priced.breaking_purse, {**at, "machine": 1, "prices": prices}, {}),
            (rolling.is_calm, {**at, "picture": picture}, {}), (rolling.is_light, {**at, "picture": picture}, {}),
            (rolling.rolling, {**at, **most}, {"limit": 99}),
            (rolling.is_rolling, {**at, "most": 1, "value": rounds}, {}),
            (rolling.is_barring, {"house": low, "most": 0, "value": barring}, {}),
            (tours.weight_moved, {**at, "picture": picture, "event": ("rise", 0)}, {}),
            (tours.tour_mean, {**at, "tour": (both, both)}, {}),
            (tours.is_tour, {**at, "most": 1, "value": (both, both)}, {}),
            (tours.busiest, {**at, **most}, {"limit": 99}),
            (tours.are_numbers, {**at, "most": 1, "mean": (99, 1), "value": numbers}, {"limit": 99}),
            (steered.carries, {**at, "picture": picture}, {}),
            (steered.behind_carry, {"picture": picture, "carry": (1, 2)}, {}),
            (steered.steered, {**at, **most}, {"limit": 99}),
            (steered.is_keeping, {**at, "most": 1, "value": keeping}, {}),
            (steered.is_breaking, {"house": low, "most": 1, "value": breaking}, {}),
        ]

    def test_functions_by_position_and_by_name_in_each_order(self):
        for function, named, more in self.calls():
            with self.subTest(function=function.__name__):
                found = self.shown(function(*named.values(), **more))
                for row in itertools.permutations([*named.items(), *more.items()]):
                    self.assertEqual(self.shown(function(**dict(row))), found)
                for many in range(len(named)):
                    by_name = dict(list(named.items())[many:], **more)
                    self.assertEqual(self.shown(function(*list(named.values())[:many], **by_name)), found)

    def shown(self, value):
        return (value.picture(), value.events()) if isinstance(value, runs.Run) else value

    def test_arguments_are_not_changed(self):
        for function, named, more in self.calls():
            with self.subTest(function=function.__name__):
                kept = copy.deepcopy(named)
                found = self.shown(function(**named, **more))
                self.assertEqual(named, kept)
                self.assertEqual(self.shown(function(**named, **more)), found)
                given = {id(part) for part in lists_in(list(named.values()))}
                self.assertFalse([part for part in lists_in(found) if id(part) in given])

    def test_classes_and_methods(self):
        house = House(services=[(4, (0, 1), "stay")], strengths=[9, 9])
        self.assertEqual(house, House([9, 9], [(4, (0, 1), "stay")]))
        self.assertEqual(house.with_order(order=(1,), service=0), house.with_order(0, (1,)))
        table = tables.Table(limit=9, most=1, house=house)
        self.assertEqual([table.number_of(picture=((), (1,))), len(table.run_to(picture=((), (1,))))], [2, 2])
        for kind in (runs.Run, desk.Desk, steered.Steering):
            one = kind(house=house) if kind is runs.Run else kind(most=1, house=house)
            self.assertEqual([one.fall(machine=0), one.rise(machine=0), one.picture()], [None, None, ((), (1,))])
        self.assertEqual([one.carry(machine=0, service=0), one.picture()], [None, ((), (0,))])
        one = desk.Desk(house, 1)
        self.assertEqual([one.rewrite(order=(1, 0), service=0), one.load(machine=1)], [None, 4])
        self.assertEqual(one.moved(service=0), 1)
        self.assertEqual([one.worst_here(machine=0)[0], one.surge_here(machines=(0,))[0]], [4, [(0,)]])

    def test_errors(self):
        names = {"BadHouse": "number", "BadOrder": "order", "NoFall": "machine", "NoRise": "machine", "NoWay": "needed",
                 "TooManyDown": "most", "TooMany": "limit", "Unlike": "sizes"}
        for name, attribute in names.items():
            kind = getattr(errors, name)
            value = [name]
            self.assertEqual(vars(kind(value)), vars(kind(**{attribute: value})))
            self.assertIs(getattr(kind(value), attribute), value)


class SameHouseTest(unittest.TestCase):
    def check_same(self, house, most):
        """That a house tells what a new house of the same lists tells, also when it is asked all questions twice."""
        asked = questions(house, most)
        for name in [*asked, *reversed(list(asked))]:
            new = House(house.strengths(), house.services())
            self.assertEqual(told(asked[name]), told(questions(new, most)[name]), (name, house.services(), most))

    def test_many_questions_of_one_house(self):
        source = random.Random(121)
        for house in some_houses(House, 121, 12, 4, 3):
            self.check_same(house, source.randint(0, len(house) + 1))

    def test_a_house_with_another_order(self):
        source = random.Random(122)
        for house in some_houses(House, 122, 12, 4, 3):
            if house.services():
                for _ in range(2):
                    service = source.randrange(len(house.services()))
                    house = house.with_order(service, source.choice(all_orders(len(house))))
                self.check_same(house, source.randint(0, len(house)))

    def test_a_house_that_a_desk_tells(self):
        source = random.Random(123)
        for house in some_houses(House, 123, 12, 4, 3):
            if house.services():
                led = desk.Desk(house, 2)
                for machine in range(min(2, len(house))):
                    led.fall(machine)
                    service = source.randrange(len(house.services()))
                    led.rewrite(service, source.choice(all_orders(len(house))))
                self.check_same(led.house_now(), source.randint(0, 2))
                self.assertEqual(runs.Run(led.house_now()).picture(), begin(led.house_now()))

    def test_one_house_asked_with_several_numbers(self):
        house = House([9, 9, 5], [(4, (0, 2, 1), "stay"), (3, (0, 1, 2), "home"), (2, (1, 2), "first")])
        calls = [questions(house, most) for most in (0, 2, 1, 3, 2, 0)]
        news = [questions(House(house.strengths(), house.services()), most) for most in (0, 2, 1, 3, 2, 0)]
        for name in calls[0]:
            self.assertEqual([told(asked[name]) for asked in calls], [told(asked[name]) for asked in news])

    def test_the_house_stays_as_it_is(self):
        for house in some_houses(House, 124, 10, 4, 3):
            kept = copy.deepcopy((house.strengths(), house.services()))
            for call in questions(house, 2).values():
                told(call)
            self.assertEqual((house.strengths(), house.services()), kept)

    def test_no_two_lists_are_the_same_object(self):
        for house in some_houses(House, 125, 15, 4, 3):
            for most in (0, 1, 2):
                asked = questions(house, most)
                answers = [told(call) for call in asked.values()] + [told(call) for call in asked.values()]
                found = [id(part) for part in lists_in(answers)]
                self.assertEqual(len(found), len(set(found)))


class OtherNumbersTest(unittest.TestCase):
    """Machines and services that are numbered in other orders, and weights and strengths times a number."""

    def other(self, house, machines, services):
        """The house in which machine k is machines[k], and service k is services[k]."""
        strengths, rows = [None] * len(house), [None] * len(house.services())
        for machine, strength in enumerate(house.strengths()):
            strengths[machines[machine]] = strength
        for service, (weight, order, rule) in enumerate(house.services()):
            rows[services[service]] = (weight, tuple(machines[machine] for machine in order), rule)
        return House(strengths, rows)

    def plain(self, house, most, machines, services):
        """What does not change by numbers, of a house in which machine k is machines[k], and service k services[k]."""
        prices = {machine: price for machine, price in zip(machines, [3, 0, 2, 7, 1])}
        prices = [prices[machine] for machine in range(len(house))]
        number = lambda lot: tuple(sorted(services[service] for service in lot))
        found = {"margin": worst.margin(house), "safe": worst.unsafe(house, most) is None,
                 "settled": behind.is_settled(house, most), "surge": surges.worst_surge(house, most)[0],
                 "rolling": self.word_of(rolling.rolling, house, most),
                 "steered": self.word_of(steered.steered, house, most)}
        table = told(lambda: tables.Table(house, most))
        if isinstance(table, tables.Table):
            found["table"] = sorted(table.number_of(picture) for picture in table.pictures())
            found["mean"] = told(lambda: tours.busiest(house, most)[0])
        for at, machine in enumerate(machines):
            found["load", at] = worst.worst_load(house, machine, most)[0]
            found["priced", at] = priced.worst_priced(house, machine, prices, most)[0]
            breaking = priced.breaking_purse(house, machine, prices)
            found["breaking", at] = None if breaking is None else breaking[0]
            for lot in lots(len(services)):
                answer = worst.gather(house, machine, number(lot), most)
                found["gather", at, lot] = answer[0], answer[0] == "no" and answer[1][0]
        for at, service in enumerate(services):
            order, rule = forms.short_form(house, service, most)
            found["form", at] = tuple(machines.index(machine) for machine in order), rule
            found["moves", at] = told(lambda: moves.most_moves(house, service, 17, most))
            for place in range(len(machines)):
                found["least", at, place] = places.least_events(house, service, machines[place])
        return found

    def word_of(self, function, house, most):
        answer = told(lambda: function(house, most))
        return (answer[0], len(answer[1]))

    def test_numbered_in_other_orders(self):
        source = random.Random(126)
        for house in some_houses(House, 126, 60, 4, 3):
            most = source.randint(0, len(house))
            machines = source.sample(range(len(house)), len(house))
            services = source.sample(range(len(house.services())), len(house.services()))
            other = self.other(house, machines, services)
            plain = self.plain(house, most, list(range(len(house))), list(range(len(house.services()))))
            self.assertEqual(self.plain(other, most, machines, services), plain, (house.services(), machines, services))

    def test_weights_and_strengths_times_a_number(self):
        source = random.Random(127)
        for house in some_houses(House, 127, 60, 4, 3):
            most, times = source.randint(0, len(house)), source.choice((2, 7, 10 ** 7))
            rows = [(weight * times, order, rule) for weight, order, rule in house.services()]
            other = House([strength * times for strength in house.strengths()], rows)
            one, two = questions(house, most), questions(other, most)
            for name in one:
                found, more = told(one[name]), told(two[name])
                if name == "loads":
                    self.assertEqual([load * times for load in found], more)
                elif name == "safe" and found is not None:
                    self.assertEqual((found[0], found[1] * times, found[2]), more)
                elif name[0] in ("load", "priced"):
                    self.assertEqual((found[0] * times, found[1]), more)
                elif name == "busiest" and len(found) == 3:
                    self.assertEqual(found[0][0] * times * more[0][1], more[0][0] * found[0][1])
                    self.assertEqual(sorted(found[2]), sorted(more[2]))
                elif name not in ("fitting", "room", "busiest"):
                    self.assertEqual(found, more, name)


class LongTest(unittest.TestCase):
    """Histories and runs of more than a thousand events."""

    def setUp(self):
        source = random.Random(128)
        self.house = House([9, 9, 4], [(4, (0, 1, 2), "stay"), (3, (1, 2), "home"), (2, (2, 0, 1), "first")])
        self.history, self.pictures = [], [begin(self.house)]
        for _ in range(5000):
            self.history.append(source.choice(next_events(self.house, self.pictures[-1], 2)))
            self.pictures.append(picture_behind(self.house, self.pictures[-1], self.history[-1]))

    def test_runs(self):
        run = runs.Run(self.house)
        for at, event in enumerate(self.history):
            lead(run, event)
            if at % 500 == 0:
                self.assertEqual((run.picture(), run.events()), (self.pictures[at + 1], self.history[:at + 1]))
        other = run.fork()
        self.assertEqual((other.events(), other.picture()), (self.history, self.pictures[-1]))
        self.assertEqual([other.load(machine) for machine in range(3)],
                         [load_of(self.house, self.pictures[-1], machine) for machine in range(3)])
        self.assertEqual(runs.run_of(self.house, self.history).events(), self.history)
        self.assertEqual(runs.run_of(self.house, self.history).picture(), self.pictures[-1])

    def test_histories(self):
        self.assertEqual([runs.is_history(self.house, self.history, most=most) for most in (1, 2, 3)],
                         [False, True, True])
        self.assertIs(runs.is_history(self.house, self.history + [("rise", 9)]), False)
        for service in range(3):
            seen = [picture[1][service] for picture in self.pictures]
            told_moves = len([1 for one, other in zip(seen, seen[1:]) if one != other])
            self.assertEqual(moves.moves(self.house, service, self.history), told_moves)
        living = tuple(machine for machine in range(3) if machine not in self.pictures[-1][0])
        rounds, picture = surges.surge(self.house, self.history, living)
        self.assertEqual((rounds, picture), ([living], ((0, 1, 2), (-1, -1, -1))))

    def test_desks_and_steerings(self):
        for kind in (desk.Desk, steered.Steering):
            led = kind(self.house, 2)
            for event in self.history[:2000]:
                lead(led, event)
            self.assertEqual((led.picture(), len(led)), (self.pictures[2000], 2000))
            for at in range(2000, 0, -1):
                led.undo()
                self.assertEqual(led.picture(), self.pictures[at - 1])
            self.assertRaises(errors.NothingDone, led.undo)

    def test_tours_and_rolling_histories(self):
        house, both = House([9, 9], [(4, (0, 1), "first")]), [("fall", 0), ("rise", 0)]
        self.assertEqual(tours.tour_mean(house, (both * 900, both * 900)), (4, 1))
        self.assertIs(tours.is_tour(house, 1, (both * 900, both * 900)), True)
        self.assertIs(tours.is_tour(house, 1, (both * 900, both * 900 + both[:1])), False)
        self.assertIs(rolling.is_rolling(house, 1, both * 900 + [("fall", 1), ("rise", 1)]), True)
        self.assertIs(rolling.is_rolling(house, 1, both * 900), False)
        self.assertEqual(priced.purse_of(house, [4, 9], both * 900), 4)


class PointsTest(unittest.TestCase):
    def test_the_main_fact_over_all_that_tells_loads(self):
        """Point 2: numbers, prices of 1, and desks tell one and the same load, and it is the greatest one."""
        for house in some_houses(House, 129, 60, 4, 3):
            for most in range(len(house) + 1):
                pictures = ends(house, most)
                for machine in range(len(house)):
                    load = max(load_of(house, picture, machine) for picture in pictures)
                    found = [worst.worst_load(house, machine, most), desk.Desk(house, most).worst_here(machine),
                             priced.worst_priced(house, machine, [1] * len(house), most)]
                    self.assertEqual([one[0] for one in found], [load] * 3)
                    for _, history in found:
                        self.assertEqual(load_of(house, end_of(house, history, most), machine), load)
                    over = load > house.strengths()[machine]
                    word = any(not rolling.is_calm(house, picture) for picture in pictures)
                    self.assertLessEqual(over, word)
                self.assertEqual(worst.unsafe(house, most) is None,
                                 all(rolling.is_calm(house, picture) for picture in pictures))

    def test_lists_handed_in_may_be_changed_later(self):
        strengths, services = [9, 9], [(4, (0, 1), "first")]
        house = House(strengths, services)
        strengths.append(0)
        services.clear()
        self.assertEqual(house, House([9, 9], [(4, (0, 1), "first")]))
        history = [("fall", 0)]
        run = runs.run_of(house, history)
        history.append(("fall", 1))
        self.assertEqual(run.events(), [("fall", 0)])

    def test_a_house_is_no_other_value(self):
        house = House([9], [])
        led = [runs.Run(house), desk.Desk(house, 1), steered.Steering(house, 1)]
        others = [*led, ([9], []), None, 0, [9], House([9, 9], []), House([8], []), House([9], [(1, (0,), "stay")])]
        self.assertFalse([value for value in others if house == value or value == house])

    def test_each_limit_that_is_left_out(self):
        turned = [tuple((at + step) % 5 for step in range(5)) for at in range(5)]
        for rules in itertools.product(("stay", "home"), ("stay", "first"), ("stay",)):
            house = House([10 ** 10] * 5, [(10 ** 9 - at, order, rules[at % 3]) for at, order in enumerate(turned)])
            for most in (0, 1, 2, 5, 10 ** 30):
                for name, call in questions(house, most).items():
                    if name[0] != "gather":
                        start = time.perf_counter()
                        told(call)
                        self.assertLess(time.perf_counter() - start, 3, (name, most))

    def test_time_of_values_with_great_parts(self):
        house = House([9] * 2, [(1, (0, 1), "stay")])
        values = [[None] * 10 ** 6, (None,) * 10 ** 6, {at: None for at in range(10 ** 5)}, "a" * 10 ** 6, 10 ** 1000]
        for value in values:
            for call in (tables.is_closed, rolling.is_rolling, rolling.is_barring, tours.is_tour, steered.is_keeping,
                         steered.is_breaking):
                self.assertLess(seconds_of(lambda: self.assertIs(call(house, 1, value), False)), 1)
        self.assertEqual(RULES, houses.RULES)


if __name__ == "__main__":
    unittest.main()
