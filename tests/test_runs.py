"""Points 5 to 8, and point 3 as far as it is about runs and histories."""

import itertools
import unittest

from nextalive.errors import NoFall, NoRise
from nextalive.houses import House
from nextalive.runs import Run, is_history, run_of

RULES = ("first", "home", "stay")


def house_of(order, rule):
    """Four machines and one service."""
    return House([9] * 4, [(4, order, rule)])


def places_of(house, text):
    """The places of the first service behind each event of a text such as "f0 r0"."""
    run, found = Run(house), []
    for word in text.split():
        lead(run, event_of(word))
        found.append(run.picture()[1][0])
    return found


def event_of(word):
    return ({"f": "fall", "r": "rise"}[word[0]], int(word[1]))


def lead(run, event):
    (run.fall if event[0] == "fall" else run.rise)(event[1])


def all_histories(machines, events):
    """All histories of so many events."""
    found = [[]]
    for _ in range(events):
        found = [one + [event] for one in found for event in next_events(machines, one)]
    return found


def next_events(machines, history):
    down = down_of(history)
    return [("rise" if machine in down else "fall", machine) for machine in range(machines)]


def down_of(history):
    down = set()
    for word, machine in history:
        (down.add if word == "fall" else down.remove)(machine)
    return down


def told_place(order, rule, history):
    """Where a service is, told by point 6 anew from the words of the document."""
    place, down = order[0], set()
    for word, machine in history:
        (down.add if word == "fall" else down.remove)(machine)
        living = [other for other in order if other not in down]
        if word == "fall" and place == machine:
            place = living[0] if living else -1
        elif word == "rise" and machine in order:
            ahead = [] if place == -1 else order[:order.index(place)]
            if place == -1 or (rule == "first" and machine in ahead) or (rule == "home" and machine == order[0]):
                place = machine
    return place


class EventTest(unittest.TestCase):
    def test_at_the_beginning_all_live_and_services_are_at_home(self):
        house = House([9, 9, 9], [(4, (2, 0), "stay"), (3, (0, 1, 2), "home"), (2, (1,), "first")])
        self.assertEqual(Run(house).picture(), ((), (2, 0, 1)))
        self.assertEqual(Run(House([9], [])).picture(), ((), ()))

    def test_falls_lead_to_the_first_living_machine(self):
        for rule in RULES:
            with self.subTest(rule=rule):
                self.assertEqual(places_of(house_of((0, 1, 2), rule), "f0 f1 f2"), [1, 2, -1])
                self.assertEqual(places_of(house_of((0, 1, 2), rule), "f1 f0"), [0, 2])
                self.assertEqual(places_of(house_of((2, 0), rule), "f2 f0"), [0, -1])

    def test_falls_of_other_machines_move_nothing(self):
        for rule in RULES:
            with self.subTest(rule=rule):
                self.assertEqual(places_of(house_of((0, 1), rule), "f1 f2 f3"), [0, 0, 0])

    def test_the_home_rises(self):
        found = {rule: places_of(house_of((0, 1, 2), rule), "f0 f1 r0") for rule in RULES}
        self.assertEqual(found, {"first": [1, 2, 0], "home": [1, 2, 0], "stay": [1, 2, 2]})

    def test_a_machine_ahead_rises(self):
        found = {rule: places_of(house_of((0, 1, 2), rule), "f0 f1 r1") for rule in RULES}
        self.assertEqual(found, {"first": [1, 2, 1], "home": [1, 2, 2], "stay": [1, 2, 2]})

    def test_a_machine_behind_rises(self):
        for rule in RULES:
            with self.subTest(rule=rule):
                self.assertEqual(places_of(house_of((0, 1, 2), rule), "f0 f2 r2"), [1, 1, 1])

    def test_a_machine_out_of_the_order_rises(self):
        for rule in RULES:
            with self.subTest(rule=rule):
                self.assertEqual(places_of(house_of((1, 2), rule), "f0 f1 r0"), [1, 2, 2])

    def test_ahead_is_told_by_the_order_and_not_by_the_number(self):
        found = {rule: places_of(house_of((3, 2, 0), rule), "f3 f2 r2 r3") for rule in RULES}
        self.assertEqual(found, {"first": [2, 0, 2, 3], "home": [2, 0, 0, 3], "stay": [2, 0, 0, 0]})

    def test_services_that_are_nowhere_go_to_what_rises(self):
        for rule in RULES:
            for machine in range(3):
                with self.subTest(rule=rule, machine=machine):
                    events = f"f0 f1 f2 r{machine}"
                    self.assertEqual(places_of(house_of((0, 1, 2), rule), events), [1, 2, -1, machine])

    def test_services_that_are_nowhere_stay_there_if_another_machine_rises(self):
        for rule in RULES:
            with self.subTest(rule=rule):
                self.assertEqual(places_of(house_of((1, 2), rule), "f3 f1 f2 r3"), [1, 2, -1, -1])

    def test_behind_nowhere(self):
        found = {rule: places_of(house_of((0, 1), rule), "f0 f1 r1 r0") for rule in RULES}
        self.assertEqual(found, {"first": [1, -1, 1, 0], "home": [1, -1, 1, 0], "stay": [1, -1, 1, 1]})

    def test_several_services_at_one_event(self):
        house = House([9] * 3, [(1, (0, 1), "first"), (2, (0, 2, 1), "home"), (3, (0, 1), "stay"), (4, (2,), "stay")])
        run = run_of(house, [("fall", 0)])
        self.assertEqual(run.picture(), ((0,), (1, 2, 1, 2)))
        run.rise(0)
        self.assertEqual(run.picture(), ((), (0, 0, 1, 2)))

    def test_down_is_ascending(self):
        run = run_of(House([9] * 5, []), [("fall", machine) for machine in (3, 0, 4, 1)])
        self.assertEqual(run.picture(), ((0, 1, 3, 4), ()))
        run.rise(3)
        run.fall(2)
        self.assertEqual(run.picture(), ((0, 1, 2, 4), ()))

    def test_every_history_of_seven_events(self):
        orders = [(0,), (1, 0), (0, 1, 2), (2, 0, 1)]
        kinds = [(order, rule) for order in orders for rule in RULES]
        houses = [House([9] * 3, [(1, order, rule) for order, rule in kinds[at:at + 4]]) for at in (0, 4, 8)]
        for history in all_histories(3, 7):
            places = [told_place(order, rule, history) for order, rule in kinds]
            pictures = [run_of(house, history).picture() for house in houses]
            self.assertEqual([down for down, _ in pictures], [tuple(sorted(down_of(history)))] * 3)
            self.assertEqual([place for _, found in pictures for place in found], places)

    def test_what_point_6_says_of_the_rules(self):
        order = (1, 0, 2)
        for history in all_histories(3, 6):
            places = [run_of(house_of(order, rule), history).picture()[1][0] for rule in RULES]
            ahead = [run_of(house_of(order, rule), history[:-1]).picture()[1][0] for rule in RULES]
            living = [machine for machine in order if machine not in down_of(history)]
            self.assertEqual(places[0], living[0] if living else -1)
            self.assertTrue(places[1] == 1 or 1 not in living)
            if places[2] != ahead[2]:
                self.assertTrue(history[-1] == ("fall", ahead[2]) or ahead[2] == -1)

    def test_falls_end_alike_in_every_order(self):
        house = House([9] * 5, [(1, (0, 1, 2, 3, 4), "first"), (1, (4, 2, 0), "home"), (1, (3, 1), "stay")])
        for many in range(1, 6):
            for machines in itertools.combinations(range(5), many):
                rows = itertools.permutations(machines)
                ends = [run_of(house, [("fall", machine) for machine in row]).picture() for row in rows]
                self.assertEqual(ends, [ends[0]] * len(ends))

    def test_falls_end_alike_also_later(self):
        start = [("fall", 0), ("fall", 2), ("rise", 0)]
        house = House([9] * 4, [(1, (0, 2, 1, 3), rule) for rule in RULES])
        rows = itertools.permutations([("fall", 0), ("fall", 1), ("fall", 3)])
        ends = [run_of(house, [*start, *row]).picture() for row in rows]
        self.assertEqual(ends, [((0, 1, 2, 3), (-1, -1, -1))] * 6)


class RunTest(unittest.TestCase):
    def setUp(self):
        self.house = House([9, 9, 5], [(4, (0, 1), "first"), (3, (0, 1, 2), "stay")])

    def test_house(self):
        run = Run(house=self.house)
        self.assertEqual(run.house, self.house)
        run.fall(0)
        self.assertEqual((run.house, run.fork().house), (self.house, self.house))

    def test_fall_and_rise_return_none(self):
        run = Run(self.house)
        self.assertEqual([run.fall(machine=0), run.fall(2), run.rise(machine=0)], [None] * 3)
        self.assertEqual(run.events(), [("fall", 0), ("fall", 2), ("rise", 0)])

    def test_load(self):
        run = Run(self.house)
        self.assertEqual([run.load(machine) for machine in range(3)], [7, 0, 0])
        run.fall(0)
        self.assertEqual([run.load(machine=machine) for machine in range(3)], [0, 7, 0])
        run.rise(0)
        self.assertEqual([run.load(machine) for machine in range(3)], [4, 3, 0])
        run.fall(1)
        self.assertEqual([run.load(machine) for machine in range(3)], [7, 0, 0])
        run.fall(0)
        self.assertEqual([run.load(machine) for machine in range(3)], [0, 0, 3])

    def test_load_is_no_matter_of_strength(self):
        house = House([0], [(10 ** 9, (0,), "first")] * 5)
        self.assertEqual(Run(house).load(0), 5 * 10 ** 9)

    def test_no_services(self):
        run = run_of(House([1, 1], []), [("fall", 1)])
        self.assertEqual((run.picture(), run.load(0), run.load(1)), (((1,), ()), 0, 0))

    def test_events_are_a_new_list_each_time(self):
        run = run_of(self.house, [("fall", 0)])
        found = run.events()
        found.append(("fall", 1))
        self.assertEqual(run.events(), [("fall", 0)])
        self.assertIsNot(run.events(), run.events())
        self.assertEqual(run.picture(), ((0,), (1, 1)))

    def test_no_fall_and_no_rise_for_any_value(self):
        values = [None, True, False, -1, 3, 10 ** 30, "0", "", (0,), (), [0], [], {}, {0: 0}, ("fall", 0)]
        values += [self.house, Run(self.house)]
        run = run_of(self.house, [("fall", 0)])
        for value in [*values, 0]:
            self.check_error(run, run.fall, NoFall, value)
        for value in [*values, 1, 2]:
            self.check_error(run, run.rise, NoRise, value)

    def check_error(self, run, call, kind, value):
        stand = (run.picture(), run.events())
        for _ in range(2):
            with self.subTest(value=value), self.assertRaises(kind) as caught:
                call(value)
            self.assertIs(caught.exception.machine, value)
            self.assertEqual((run.picture(), run.events()), stand)

    def test_a_run_goes_on_behind_an_error(self):
        run = Run(self.house)
        self.assertRaises(NoRise, run.rise, 0)
        self.assertRaises(NoFall, run.fall, True)
        run.fall(1)
        self.assertRaises(NoFall, run.fall, 1)
        run.rise(1)
        self.assertEqual((run.events(), run.picture()), ([("fall", 1), ("rise", 1)], ((), (0, 0))))

    def test_runs_of_one_house_are_apart(self):
        one, two = Run(self.house), Run(self.house)
        one.fall(0)
        self.assertEqual((two.picture(), two.events()), (((), (0, 0)), []))


class ForkTest(unittest.TestCase):
    def setUp(self):
        self.house = House([9, 9, 5], [(4, (0, 1), "first"), (3, (0, 1, 2), "stay")])

    def test_a_fork_stands_as_its_run(self):
        run = run_of(self.house, [("fall", 0), ("rise", 0)])
        other = run.fork()
        self.assertIsInstance(other, Run)
        self.assertIsNot(other, run)
        self.assertEqual((other.picture(), other.events(), other.load(1)), (run.picture(), run.events(), 3))

    def test_both_are_led_on(self):
        run = run_of(self.house, [("fall", 0)])
        other = run.fork()
        run.rise(0)
        other.fall(1)
        third = other.fork()
        run.fall(2)
        other.fall(2)
        third.rise(1)
        self.assertEqual((run.picture(), len(run.events())), (((2,), (0, 1)), 3))
        self.assertEqual((other.picture(), other.events()[1:]), (((0, 1, 2), (-1, -1)), [("fall", 1), ("fall", 2)]))
        self.assertEqual((third.picture(), third.events()[1:]), (((0,), (1, 2)), [("fall", 1), ("rise", 1)]))


class RunOfTest(unittest.TestCase):
    def setUp(self):
        self.house = House([9, 9, 5], [(4, (0, 1), "first"), (3, (0, 1, 2), "stay")])

    def test_run_of(self):
        history = [("fall", 0), ("fall", 2), ("rise", 0)]
        run = run_of(house=self.house, history=history)
        self.assertIsInstance(run, Run)
        self.assertEqual((run.picture(), run.events(), run.house), (((2,), (0, 1)), history, self.house))

    def test_no_events(self):
        run = run_of(self.house, [])
        self.assertEqual((run.picture(), run.events()), (((), (0, 0)), []))

    def test_the_history_may_be_changed(self):
        history = [("fall", 0)]
        run = run_of(self.house, history)
        run.fall(1)
        self.assertEqual(history, [("fall", 0)])
        history.clear()
        self.assertEqual(run.events(), [("fall", 0), ("fall", 1)])


class IsHistoryTest(unittest.TestCase):
    def setUp(self):
        self.house = House([9, 9, 5], [(4, (0, 1), "first"), (3, (0, 1, 2), "stay")])

    def test_histories(self):
        self.assertIs(is_history(self.house, []), True)
        for many in (1, 2, 3, 4):
            for history in all_histories(3, many):
                self.assertIs(is_history(self.house, history), True)

    def test_within_most(self):
        history = [("fall", 2), ("fall", 0), ("rise", 2), ("fall", 1), ("fall", 2)]
        found = [is_history(house=self.house, value=history, most=most) for most in range(6)]
        self.assertEqual(found, [False, False, False, True, True, True])
        found = [is_history(self.house, history[:4], most=most) for most in range(4)]
        self.assertEqual(found, [False, False, True, True])
        found = [is_history(self.house, history[:1], most=most) for most in range(3)]
        self.assertEqual(found, [False, True, True])
        self.assertEqual([is_history(self.house, [], most=most) for most in (0, 10 ** 30)], [True, True])

    def test_too_many_down_in_the_middle(self):
        history = [("fall", 0), ("fall", 1), ("rise", 0), ("rise", 1)]
        self.assertEqual([is_history(self.house, history, most=most) for most in (1, 2)], [False, True])

    def test_most_left_out_is_five(self):
        house = House([1] * 5, [])
        history = [("fall", machine) for machine in range(5)]
        self.assertEqual((is_history(house, history), is_history(house, history, most=4)), (True, False))

    def test_most_is_passed_by_name(self):
        self.assertRaises(TypeError, is_history, self.house, [], 5)

    def test_events_that_cannot_come(self):
        wrong = [[("rise", 0)], [("fall", 0), ("fall", 0)], [("fall", 0), ("rise", 1)], [("fall", 3)], [("fall", -1)]]
        wrong += [[("fall", 0), ("rise", 0), ("rise", 0)], [("fall", 10 ** 30)], [("rise", -1)]]
        for value in wrong:
            with self.subTest(value=value):
                self.assertIs(is_history(self.house, value), False)

    def test_bools_in_place_of_machines(self):
        wrong = [[("fall", True)], [("fall", False)], [("fall", 0), ("rise", False)], [("fall", 1), ("rise", True)]]
        for value in wrong:
            with self.subTest(value=value):
                self.assertIs(is_history(self.house, value), False)

    def test_tuples_and_lists_exchanged(self):
        wrong = [(), (("fall", 0),), [["fall", 0]], [("fall", [0])], [("fall", (0,))], [(("fall",), 0)]]
        for value in wrong:
            with self.subTest(value=value):
                self.assertIs(is_history(self.house, value), False)

    def test_events_of_other_kinds(self):
        words = ["Fall", "", "carry", None, 0, True, (), ["fall"], {}, b"fall"]
        parts = [None, "", "0", {}, [], self.house]
        events = [(word, machine) for word in words for machine in (0, 1)] + [("fall", part) for part in parts]
        events += [None, 0, True, "fall", "f0", (), ("fall",), ("fall", 0, 0), (0, "fall"), {"fall": 0}, {}]
        for event in events:
            with self.subTest(event=event):
                self.assertIs(is_history(self.house, [event]), False)
                self.assertIs(is_history(self.house, [("fall", 1), event]), False)

    def test_any_value(self):
        run = run_of(self.house, [("fall", 0)])
        deep = ()
        for _ in range(49):
            deep = (deep,)
        for value in (None, True, 0, 5, "", "fall", {}, {0: ("fall", 0)}, deep, [deep], self.house, run, [run]):
            with self.subTest(value=value):
                self.assertIs(is_history(self.house, value), False)
                self.assertIs(is_history(self.house, value, most=0), False)

    def test_what_calls_returned(self):
        run = run_of(self.house, [("fall", 0), ("rise", 0)])
        self.assertIs(is_history(self.house, run.events()), True)
        self.assertIs(is_history(self.house, run.picture()), False)
        self.assertIs(is_history(self.house, self.house.services()), False)

    def test_the_value_is_not_changed(self):
        value = [("fall", 0), ["fall", 1]]
        is_history(self.house, value)
        self.assertEqual(value, [("fall", 0), ["fall", 1]])

    def test_a_long_history(self):
        history = [("fall", 0), ("rise", 0)] * 20000
        self.assertIs(is_history(self.house, history, most=1), True)
        self.assertIs(is_history(self.house, history + [("rise", 1)], most=1), False)


if __name__ == "__main__":
    unittest.main()
