"""Point 15, and point 3 as far as it is about short forms and houses that are told apart."""

import copy
import itertools
import unittest

from nextalive.errors import Unlike
from nextalive.forms import parting, short_form
from nextalive.houses import House
from tests.brute import RULES, all_orders, begin, end_of, next_events, picture_behind, seconds_of, some_houses


def least_parting(one, two, most):
    """The least number of events behind which two houses that are led at once are unlike; None if they never are."""
    level, seen, number = [(begin(one), begin(two))], {(begin(one), begin(two))}, 0
    while level:
        if any(left != right for left, right in level):
            return number
        behind = []
        for left, right in level:
            for event in next_events(one, left, most):
                pair = (picture_behind(one, left, event), picture_behind(two, right, event))
                if pair not in seen:
                    seen.add(pair)
                    behind.append(pair)
        level, number = behind, number + 1
    return None


def told_form(order, rule, most):
    """The short form by the words of point 15."""
    behind_first = order[most + 1:]
    kept = tuple(machine for machine in order if machine not in behind_first)
    return kept, "first" if len(kept) == 1 or (rule == "home" and len(kept) == 2) else rule


class ShortFormTest(unittest.TestCase):
    def test_each_order_and_rule(self):
        for machines in (1, 2, 3, 4):
            for order in all_orders(machines):
                for rule in RULES:
                    house = House([9] * machines, [(1, (0,), "stay"), (4, order, rule)])
                    for most in (*range(machines + 2), 10 ** 30):
                        with self.subTest(order=order, rule=rule, most=most):
                            self.assertEqual(short_form(house, 1, most), told_form(order, rule, most))

    def test_orders_longer_and_shorter_than_the_number(self):
        house = House([9] * 5, [(4, (3, 1, 4, 0), rule) for rule in RULES])
        found = [[short_form(house, service, most) for most in range(6)] for service in range(3)]
        orders = [(3,), (3, 1), (3, 1, 4), (3, 1, 4, 0), (3, 1, 4, 0), (3, 1, 4, 0)]
        rules = [["first"] * 6, ["first"] * 2 + ["home"] * 4, ["first"] + ["stay"] * 5]
        self.assertEqual(found, [list(zip(orders, row)) for row in rules])

    def test_short_orders(self):
        house = House([9] * 3, [(4, order, rule) for order in ((2,), (2, 0)) for rule in RULES[1:]])
        for most in (1, 2, 5):
            found = [short_form(house, service, most) for service in range(4)]
            self.assertEqual(found, [((2,), "first"), ((2,), "first"), ((2, 0), "first"), ((2, 0), "stay")])

    def test_kinds_of_values(self):
        order, rule = short_form(House([9] * 3, [(4, (2, 0, 1), "stay")]), 0, 1)
        self.assertEqual((type(order), type(rule)), (tuple, str))


class PartingTest(unittest.TestCase):
    def check_pair(self, one, two, most):
        least = least_parting(one, two, most)
        forms = [[short_form(house, service, most) for service in range(len(one.services()))] for house in (one, two)]
        self.assertIs(least is None, forms[0] == forms[1])
        history = parting(one, two, most)
        if least is None:
            self.assertIsNone(history)
            return
        self.assertEqual(len(history), least)
        self.assertNotEqual(end_of(one, history, most), end_of(two, history, most))

    def test_each_pair_of_services_on_up_to_three_machines(self):
        for machines in (1, 2, 3):
            kinds = [(order, rule) for order in all_orders(machines) for rule in RULES]
            houses = [House([9] * machines, [(4, *kind)]) for kind in kinds]
            for one, two in itertools.combinations_with_replacement(houses, 2):
                for most in range(4) if machines < 3 else (1, 2):
                    with self.subTest(one=one.services(), two=two.services(), most=most):
                        self.check_pair(one, two, most)

    def test_longer_orders(self):
        orders = [(0, 1, 2, 3), (0, 1, 3, 2), (0, 2, 1, 3), (0, 1, 2), (0, 1), (0,), (1, 0, 2, 3)]
        houses = [House([9] * 4, [(4, order, rule)]) for order in orders for rule in RULES]
        for one, two in itertools.combinations_with_replacement(houses, 2):
            for most in (0, 1, 2, 3, 4, 10 ** 30):
                with self.subTest(one=one.services(), two=two.services(), most=most):
                    self.check_pair(one, two, most)

    def test_several_services(self):
        """Houses that are unlike in one or two services only, so that it matters which of them parts them first."""
        for house in some_houses(House, 19, 60, 4, 3):
            rows = house.services()
            others = [house]
            for number, (weight, order, rule) in enumerate(rows):
                for changed in ((weight, order[:-1] or order, rule), (weight, order, "home"), (weight, order, "stay"),
                                (weight, order[:1] + order[1:][::-1], rule)):
                    others.append(House(house.strengths(), rows[:number] + [changed] + rows[number + 1:]))
            others.append(House(house.strengths(), [(weight, order, "stay") for weight, order, _ in rows]))
            for other in others:
                for most in (1, len(house)):
                    with self.subTest(one=rows, two=other.services(), most=most):
                        self.check_pair(house, other, most)
                        self.check_pair(other, house, most)

    def test_the_least_number_of_all_services(self):
        long_way = [(1, (0, 1, 2), "home"), (1, (0, 1, 2), "first")]
        short_way = [(1, (1, 0), "stay"), (1, (1, 0), "first")]
        for rows in ([long_way, short_way], [short_way, long_way]):
            one, two = House([9] * 3, [row[0] for row in rows]), House([9] * 3, [row[1] for row in rows])
            self.assertEqual(len(parting(one, two, 2)), 2)
            self.check_pair(one, two, 2)

    def test_homes_that_differ(self):
        one, two = House([9, 9], [(1, (0,), "stay")]), House([9, 9], [(1, (1,), "stay")])
        for most in (0, 1, 2, 10 ** 30):
            self.assertEqual(parting(one, two, most), [])

    def test_weights_and_strengths_part_nothing(self):
        one = House([9, 9, 9], [(4, (0, 1, 2), "home"), (1, (2, 1), "stay")])
        two = House([0, 10 ** 10, 3], [(10 ** 9, (0, 1, 2), "home"), (7, (2, 1), "stay")])
        for most in (0, 1, 2, 3, 10 ** 30):
            self.assertIsNone(parting(one, two, most))
            self.assertIsNone(parting(one, one, most))

    def test_the_row_of_the_services_matters(self):
        rows = [(4, (0, 1), "first"), (4, (1, 0), "first")]
        self.assertEqual(parting(House([9, 9], rows), House([9, 9], rows[::-1]), 1), [])

    def test_no_services(self):
        for most in (0, 3):
            self.assertIsNone(parting(House([1, 2], []), House([3, 4], []), most))

    def test_unlike(self):
        row = (1, (0,), "stay")
        houses = [House([9] * machines, [row] * many) for machines in (1, 2, 3, 5) for many in (0, 1, 2, 5)]
        for one, two in itertools.product(houses, repeat=2):
            sizes = (len(two), len(two.services()))
            for most in (0, 2):
                if sizes == (len(one), len(one.services())):
                    self.assertIsNone(parting(one, two, most))
                    continue
                with self.subTest(one=len(one), two=sizes), self.assertRaises(Unlike) as caught:
                    parting(one, two, most)
                self.assertEqual(caught.exception.sizes, sizes)

    def test_by_name_and_by_position(self):
        one, two = House([9] * 3, [(4, (0, 1, 2), "home")]), House([9] * 3, [(4, (0, 1, 2), "first")])
        self.assertEqual(short_form(house=one, service=0, most=1), short_form(one, 0, 1))
        self.assertEqual(parting(house=one, other=two, most=2), parting(one, two, 2))
        self.assertEqual(len(parting(other=one, house=two, most=2)), 3)

    def test_lists_are_new_each_time_and_nothing_is_changed(self):
        one, two = House([9] * 3, [(4, (0, 1, 2), "home")]), House([9] * 3, [(4, (0, 1, 2), "first")])
        kept = copy.deepcopy((one, two))
        for other in (two, House([9] * 3, [(4, (1,), "home")])):
            first, second = parting(one, other, 2), parting(one, other, 2)
            self.assertEqual(first, second)
            self.assertIsNot(first, second)
            first.append(7)
            self.assertEqual(parting(one, other, 2), second)
        self.assertEqual(short_form(one, 0, 2), short_form(one, 0, 2))
        self.assertEqual((one, two), kept)

    def test_time(self):
        rows = [(1, tuple((at + step) % 5 for step in range(5)), "stay") for at in range(5)]
        one = House([9] * 5, rows)
        homes = House([9] * 5, [(weight, order, "home") for weight, order, _ in rows])
        lasts = House([9] * 5, rows[:4] + [(1, rows[4][1][:4], "stay")])
        for most in (3, 5, 10 ** 30):
            for other in (one, homes, lasts):
                self.assertLess(seconds_of(lambda other=other, most=most: parting(one, other, most)), 1)


if __name__ == "__main__":
    unittest.main()
