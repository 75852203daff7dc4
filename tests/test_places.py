"""Point 9, and point 3 as far as it is about places."""

import copy
import unittest

from nextalive.errors import NoWay
from nextalive.houses import House
from nextalive.places import can_be, least_events, way_to
from tests.brute import RULES, all_orders, end_of, ends, seconds_of, some_houses


def least_numbers(house, service, most):
    """The least number of events to each place that the service can have within most."""
    found = {}
    for picture, number in ends(house, most).items():
        place = picture[1][service]
        found[place] = min(number, found.get(place, number))
    return found


def needed_by(house, service, place, most):
    """What way_to raises as needed; "way" if it raises nothing."""
    try:
        way_to(house, service, place, most)
    except NoWay as error:
        return error.needed
    return "way"


class PlacesTest(unittest.TestCase):
    def check_house(self, house):
        """All that is told of a house, held against all of its histories."""
        tables = [[least_numbers(house, service, most) for most in range(len(house) + 3)]
                  for service in range(len(house.services()))]
        for service, rows in enumerate(tables):
            for place in range(-1, len(house)):
                least = rows[-1].get(place)
                self.assertEqual(least_events(house, service, place), least)
                first = [most for most, row in enumerate(rows) if place in row][:1]
                for most, row in enumerate(rows):
                    self.assertIs(can_be(house, service, place, most), place in row)
                    if place in row:
                        self.assertEqual(row[place], least)
                        history = way_to(house, service, place, most)
                        self.assertEqual(len(history), least)
                        self.assertEqual(end_of(house, history, most)[1][service], place)
                    else:
                        self.assertEqual(needed_by(house, service, place, most), first[0] if first else None)

    def test_each_order_and_rule_on_up_to_three_machines(self):
        for machines in (1, 2, 3):
            for order in all_orders(machines):
                for rule in RULES:
                    with self.subTest(machines=machines, order=order, rule=rule):
                        self.check_house(House([9] * machines, [(4, order, rule)]))

    def test_orders_of_four_and_five_machines(self):
        for order in ((3, 1, 0, 2), (2, 3, 1), (1, 3), (0,), (4, 0, 3, 1, 2), (2, 4, 1), (4,)):
            for rule in RULES:
                with self.subTest(order=order, rule=rule):
                    self.check_house(House([9] * (5 if max(order) == 4 else 4), [(4, order, rule)]))

    def test_several_services(self):
        for house in some_houses(House, 9, 40, 4, 3):
            with self.subTest(services=house.services(), machines=len(house)):
                self.check_house(house)

    def test_just_as_many_as_needed_and_one_fewer(self):
        house = House([9] * 5, [(4, (2, 0, 4), "stay")])
        for place, needed in ((2, 0), (0, 1), (4, 2), (-1, 3)):
            with self.subTest(place=place):
                self.assertIs(can_be(house, 0, place, needed), True)
                self.assertEqual(needed_by(house, 0, place, needed), "way")
                if needed:
                    self.assertIs(can_be(house, 0, place, needed - 1), False)
                    self.assertEqual(needed_by(house, 0, place, needed - 1), needed)
                    self.assertEqual(needed_by(house, 0, place, 0), needed)

    def test_machines_that_are_not_in_the_order(self):
        house = House([9] * 5, [(4, (2, 0, 4), "home"), (4, (0, 1, 2, 3, 4), "first")])
        for place in (1, 3):
            for most in (0, 1, 5, 10 ** 30):
                with self.subTest(place=place, most=most):
                    self.assertIs(can_be(house, 0, place, most), False)
                    self.assertIsNone(needed_by(house, 0, place, most))
            self.assertIsNone(least_events(house, 0, place))
            self.assertEqual(least_events(house, 1, place), place)

    def test_numbers_of_any_size(self):
        house = House([9] * 3, [(4, (2, 0, 1), "home")])
        self.assertEqual([can_be(house, 0, place, 10 ** 30) for place in (-1, 0, 1, 2)], [True] * 4)
        self.assertEqual([len(way_to(house, 0, place, 10 ** 30)) for place in (-1, 0, 1, 2)], [3, 1, 2, 0])

    def test_by_name_and_by_position(self):
        house = House([9] * 3, [(4, (2, 0, 1), "stay")])
        self.assertEqual(can_be(house=house, service=0, place=1, most=2), can_be(house, 0, 1, 2))
        self.assertEqual(least_events(house=house, service=0, place=1), least_events(house, 0, 1))
        self.assertEqual(way_to(house=house, service=0, place=1, most=2), way_to(house, 0, 1, 2))

    def test_asked_twice_and_nothing_changed(self):
        house = House([9] * 3, [(4, (2, 0, 1), "stay"), (4, (1,), "first")])
        kept = copy.deepcopy(house)
        one, two = way_to(house, 0, 1, 2), way_to(house, 0, 1, 2)
        self.assertEqual(one, two)
        self.assertIsNot(one, two)
        one.clear()
        self.assertEqual(way_to(house, 0, 1, 2), two)
        self.assertIsNot(way_to(house, 0, 2, 0), way_to(house, 0, 2, 0))
        self.assertEqual([needed_by(house, 1, -1, 0) for _ in range(2)], [1, 1])
        self.assertEqual(house, kept)

    def test_time(self):
        house = House([9] * 5, [(4, (0, 1, 2, 3, 4), rule) for rule in ("stay", "home", "first", "stay", "home")])
        for most in (5, 10 ** 30):
            self.assertLess(seconds_of(lambda most=most: way_to(house, 4, -1, most)), 1)


if __name__ == "__main__":
    unittest.main()
