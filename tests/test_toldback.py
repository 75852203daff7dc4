"""Points 19 and 20, and point 3 as far as it is about these."""

import copy
import itertools
import random
import unittest

from nextalive.toldback import next_at, order_of, order_of_log, orders
from tests.brute import RULES, lots, place_behind, seconds_of


def first_at(order, down):
    """The first machine of the order that is not in down, -1 if there is none."""
    return [machine for machine in order if machine not in down][0] if len(down) < len(order) else -1


def told_orders(machines, seen):
    """All orders that fit, by the words of point 19, in ascending order."""
    rows = itertools.permutations(range(machines))
    return [order for order in rows if all(first_at(order, down) == place for down, place in seen)]


def all_things(machines):
    """All things that can be seen of so many machines."""
    return [(down, place) for down in lots(machines) for place in range(machines) if place not in down]


def places_along(order, rule, events):
    """The places of a service behind each of the events, by point 6."""
    place, down, found = order[0], (), []
    for event in events:
        down = down_after(down, event)
        place = place_behind((1, order, rule), place, event, down)
        found.append(place)
    return found


def down_after(down, event):
    word, machine = event
    return tuple(sorted({*down, machine} if word == "fall" else set(down) - {machine}))


def told_of_log(machines, rule, log):
    """What point 20 says of a log: the first order that fits, or the least number of rows that none fits."""
    start, rows = log
    events, places = [event for event, _ in rows], [place for _, place in rows]
    begun = [order for order in itertools.permutations(range(machines)) if order[0] == start]
    for number in range(len(rows) + 1):
        if not any(places_along(order, rule, events[:number]) == places[:number] for order in begun):
            return "no", number
    return "yes", [order for order in begun if places_along(order, rule, events) == places][0]


def some_events(source, machines, many):
    """So many events, one after the other; any number of machines may be down."""
    down, events = set(), []
    for _ in range(many):
        machine = source.randrange(machines)
        events.append(("rise" if machine in down else "fall", machine))
        down ^= {machine}
    return events


class Checks(unittest.TestCase):
    def check_seen(self, machines, seen, downs=None):
        told = told_orders(machines, seen)
        self.assertEqual(orders(machines, seen), len(told), seen)
        found = order_of(machines, seen)
        self.assertIs(type(found), tuple)
        if told:
            self.assertEqual(found, ("yes", told[0]), seen)
        else:
            self.assertEqual((len(found), found[0]), (2, "no"), seen)
            self.check_ring(machines, seen, found[1])
        for down in lots(machines) if downs is None else downs:
            self.assertEqual(next_at(machines, seen, down), sorted({first_at(order, down) for order in told}), seen)

    def check_ring(self, machines, seen, ring):
        self.assertIs(type(ring), list)
        row = [machine for _, machine, _ in ring]
        self.assertEqual({type(part) for part in ring}, {tuple})
        self.assertEqual([after for _, _, after in ring], row[1:] + row[:1], seen)
        self.assertGreaterEqual(len(row), 2)
        self.assertEqual(len(set(row)), len(row))
        for number, machine, after in ring:
            self.assertIn(number, range(len(seen)))
            self.assertIn(after, range(machines))
            down, place = seen[number]
            self.assertEqual(machine, place)
            self.assertNotIn(after, down)


class OrderTest(Checks):
    def test_all_lists_of_few_things(self):
        for machines, many in ((1, 3), (2, 4), (3, 2), (4, 1), (5, 1)):
            for length in range(many + 1):
                for seen in itertools.product(all_things(machines), repeat=length):
                    self.check_seen(machines, list(seen))

    def test_things_seen_of_one_order(self):
        source = random.Random(31)
        for machines in range(1, 6):
            for _ in range(40):
                order = tuple(source.sample(range(machines), machines))
                downs = [source.choice(lots(machines)[:-1]) for _ in range(source.randint(0, 8))]
                seen = [(down, first_at(order, down)) for down in downs]
                self.assertIn(order, told_orders(machines, seen))
                self.check_seen(machines, seen)
                self.check_seen(machines, seen + seen[:2])

    def test_things_that_are_spoiled(self):
        source = random.Random(32)
        rings = 0
        for machines in (2, 3, 4, 5):
            for _ in range(60):
                order = tuple(source.sample(range(machines), machines))
                downs = [source.choice(lots(machines)[:-1]) for _ in range(source.randint(1, 6))]
                seen = [(down, first_at(order, down)) for down in downs]
                for _ in range(source.randint(1, 2)):
                    at = source.randrange(len(seen))
                    living = [machine for machine in range(machines) if machine not in seen[at][0]]
                    seen[at] = (seen[at][0], source.choice(living))
                rings += not told_orders(machines, seen)
                self.check_seen(machines, seen, source.sample(lots(machines), 4))
        self.assertGreater(rings, 30)

    def test_any_things(self):
        source = random.Random(33)
        for machines in (3, 4, 5):
            for _ in range(60):
                seen = [source.choice(all_things(machines)) for _ in range(source.randint(2, 5))]
                self.check_seen(machines, seen, source.sample(lots(machines), 4))

    def test_long_rings(self):
        """Rings that go over all machines, and no shorter ones."""
        for machines in (2, 3, 4, 5):
            for row in itertools.permutations(range(machines)):
                pairs = list(zip(row, row[1:] + row[:1]))
                seen = [(tuple(sorted(set(range(machines)) - {one, other})), one) for one, other in pairs]
                word, ring = order_of(machines, seen)
                self.assertEqual((word, len(ring)), ("no", machines))
                self.check_ring(machines, seen, ring)
                self.assertEqual(order_of(machines, seen[:-1]), ("yes", row))

    def test_the_same_thing_twice_is_no_ring(self):
        self.assertEqual(order_of(2, [((), 1), ((), 1)]), ("yes", (1, 0)))
        self.assertEqual(orders(3, [((0,), 1)] * 5), orders(3, [((0,), 1)]))

    def test_nothing_seen(self):
        for machines, many in ((1, 1), (2, 2), (3, 6), (4, 24), (5, 120)):
            self.assertEqual(order_of(machines, []), ("yes", tuple(range(machines))))
            self.assertEqual(orders(machines, []), many)
            self.assertEqual(next_at(machines, [], ()), list(range(machines)))
            self.assertEqual(next_at(machines, [], tuple(range(machines))), [-1])

    def test_no_order_fits(self):
        seen = [((), 1), ((), 0)]
        self.assertEqual((orders(3, seen), next_at(3, seen, ()), next_at(3, seen, (0, 1, 2))), (0, [], []))

    def test_one_machine(self):
        self.check_seen(1, [((), 0)])
        self.assertEqual((next_at(1, [((), 0)], ()), next_at(1, [((), 0)], (0,))), ([0], [-1]))

    def test_by_name_and_by_position(self):
        seen = [((), 1), ((1,), 2)]
        self.assertEqual(order_of(seen=seen, machines=4), order_of(4, seen))
        self.assertEqual(orders(seen=seen, machines=4), orders(4, seen))
        self.assertEqual(next_at(down=(1, 2), seen=seen, machines=4), next_at(4, seen, (1, 2)))

    def test_lists_are_new_each_time_and_nothing_is_changed(self):
        seen, wrong = [((), 1), ((1,), 2)], [((), 1), ((0,), 2), ((), 0)]
        kept = copy.deepcopy((seen, wrong))
        for call in (lambda: order_of(3, wrong)[1], lambda: next_at(4, seen, (1, 2))):
            one, two = call(), call()
            self.assertEqual(one, two)
            self.assertIsNot(one, two)
            one.append(7)
            self.assertEqual(call(), two)
        self.assertEqual([orders(4, seen), orders(4, seen)], [2, 2])
        self.assertEqual((seen, wrong), kept)

    def test_time(self):
        order = (3, 1, 4, 0, 2)
        seen = [(down, first_at(order, down)) for down in lots(5)[:-1]] * 1000
        self.assertLess(seconds_of(lambda: self.assertEqual(order_of(5, seen), ("yes", order))), 1)
        self.assertLess(seconds_of(lambda: self.assertEqual(orders(5, seen), 1)), 1)
        self.assertLess(seconds_of(lambda: self.assertEqual(next_at(5, seen, (3,)), [1])), 1)


class LogTest(unittest.TestCase):
    def check_log(self, machines, rule, log):
        found = order_of_log(machines, rule, log)
        self.assertEqual(found, told_of_log(machines, rule, log), (machines, rule, log))
        self.assertIs(type(found), tuple)

    def test_logs_that_an_order_and_the_rule_give(self):
        source = random.Random(34)
        for machines in (1, 2, 3, 4):
            for rule in RULES:
                for order in itertools.permutations(range(machines)):
                    events = some_events(source, machines, source.randint(0, 14))
                    log = (order[0], list(zip(events, places_along(order, rule, events))))
                    self.assertEqual(order_of_log(machines, rule, log)[0], "yes")
                    for asked in RULES:
                        self.check_log(machines, asked, log)

    def test_logs_with_places_that_are_spoiled(self):
        source = random.Random(35)
        words = {"yes": 0, "no": 0}
        for machines in (1, 2, 3, 4):
            for rule in RULES * 12:
                order = tuple(source.sample(range(machines), machines))
                events = some_events(source, machines, source.randint(1, 12))
                rows = list(zip(events, places_along(order, rule, events)))
                for _ in range(source.randint(1, 2)):
                    at = source.randrange(len(rows))
                    down = ()
                    for event in events[:at + 1]:
                        down = down_after(down, event)
                    rows[at] = (events[at], source.choice([-1, *set(range(machines)) - set(down)]))
                words[order_of_log(machines, rule, (order[0], rows))[0]] += 1
                self.check_log(machines, rule, (order[0], rows))
        self.assertGreater(min(words.values()), 10)

    def test_all_short_logs_of_two_and_three_machines(self):
        for machines, many in ((1, 4), (2, 3), (3, 2)):
            for events in itertools.product(range(machines), repeat=many):
                rows, down = [], ()
                for machine in events:
                    event = ("rise" if machine in down else "fall", machine)
                    down = down_after(down, event)
                    rows.append([(event, place) for place in (-1, *range(machines)) if place not in down])
                for log in itertools.product(*rows):
                    for start in range(machines):
                        for rule in RULES:
                            self.check_log(machines, rule, (start, list(log)))

    def test_nowhere_while_machines_live(self):
        for rule in RULES:
            self.assertEqual(order_of_log(3, rule, (0, [(("fall", 1), -1)])), ("no", 1))
            self.assertEqual(order_of_log(3, rule, (0, [(("fall", 0), 1), (("rise", 0), -1)])), ("no", 2))
            rows = [(("fall", machine), place) for machine, place in ((0, 2), (1, 2), (2, -1))]
            self.assertEqual(order_of_log(3, rule, (0, rows)), ("yes", (0, 2, 1)))

    def test_a_row_that_comes_again_with_another_place(self):
        rows = [(("fall", 0), 1), (("rise", 0), 0)] * 4 + [(("fall", 0), 2)]
        self.assertEqual(order_of_log(3, "first", (0, rows)), ("no", 9))
        self.assertEqual(order_of_log(3, "first", (0, rows[:-1])), ("yes", (0, 1, 2)))
        self.assertEqual(order_of_log(3, "stay", (0, rows)), ("no", 2))

    def test_empty_logs(self):
        for machines in range(1, 6):
            for start in range(machines):
                rest = tuple(machine for machine in range(machines) if machine != start)
                for rule in RULES:
                    self.assertEqual(order_of_log(machines, rule, (start, [])), ("yes", (start, *rest)))

    def test_five_machines(self):
        source = random.Random(36)
        for rule in RULES * 3:
            order = tuple(source.sample(range(5), 5))
            events = some_events(source, 5, 40)
            self.check_log(5, rule, (order[0], list(zip(events, places_along(order, rule, events)))))

    def test_by_name_and_nothing_is_changed(self):
        log = (2, [(("fall", 2), 0), (("rise", 2), 0)])
        kept = copy.deepcopy(log)
        self.assertEqual(order_of_log(log=log, rule="stay", machines=3), order_of_log(3, "stay", log))
        self.assertEqual([order_of_log(3, "home", log) for _ in range(2)], [("no", 2)] * 2)
        self.assertEqual(log, kept)

    def test_time(self):
        source = random.Random(37)
        for rule in RULES:
            events = some_events(source, 5, 20000)
            log = (4, list(zip(events, places_along((4, 2, 0, 1, 3), rule, events))))
            self.assertLess(seconds_of(lambda rule=rule, log=log: order_of_log(5, rule, log)), 1)
            self.assertEqual(order_of_log(5, rule, log), ("yes", (4, 2, 0, 1, 3)))


del Checks

if __name__ == "__main__":
    unittest.main()
