"""Points 10 and 11, and point 3 as far as it is about these."""

import copy
import unittest

from nextalive.behind import behind, history_to, is_settled, unsettled
from nextalive.errors import NoWay
from nextalive.houses import House
from tests.brute import RULES, all_orders, end_of, ends, lots, seconds_of, some_houses


def places_behind(house, service, most):
    """For each lot of machines that are down, the places of the service with the least number of events to each."""
    found = {}
    for (down, places), number in ends(house, most).items():
        row = found.setdefault(down, {})
        row[places[service]] = min(number, row.get(places[service], number))
    return found


class BehindTest(unittest.TestCase):
    def check_service(self, house, service, most):
        told = places_behind(house, service, most)
        self.assertEqual(sorted(told), sorted(down for down in lots(len(house)) if len(down) <= most))
        for down, row in told.items():
            found = behind(house, service, down, most)
            self.assertEqual(found, sorted(row))
            self.assertIs(type(found), list)
            for place in range(-1, len(house)):
                self.check_history(house, service, (down, place), most, row.get(place))

    def check_history(self, house, service, wanted, most, least):
        down, place = wanted
        if least is None:
            with self.assertRaises(NoWay) as caught:
                history_to(house, service, down, place, most)
            self.assertIsNone(caught.exception.needed)
            return
        history = history_to(house, service, down, place, most)
        end = end_of(house, history, most)
        self.assertEqual((end[0], end[1][service], len(history)), (down, place, least))
        order = house.services()[service][1]
        ahead = [] if place == -1 else [machine for machine in order[:order.index(place)] if machine not in down]
        self.assertEqual(len(history), len(down) + 2 * len(ahead))

    def test_each_order_and_rule_on_up_to_three_machines(self):
        for machines in (1, 2, 3):
            for order in all_orders(machines):
                for rule in RULES:
                    for most in range(machines + 2):
                        with self.subTest(machines=machines, order=order, rule=rule, most=most):
                            self.check_service(House([9] * machines, [(4, order, rule)]), 0, most)

    def test_orders_of_four_and_five_machines(self):
        for order in ((3, 1, 0, 2), (2, 3, 1), (1, 3), (0,), (4, 0, 3, 1, 2), (2, 4, 1), (4,)):
            for rule in RULES:
                machines = 5 if max(order) == 4 else 4
                for most in range(machines + 2):
                    with self.subTest(order=order, rule=rule, most=most):
                        self.check_service(House([9] * machines, [(4, order, rule)]), 0, most)

    def test_several_services(self):
        for house in some_houses(House, 10, 30, 4, 3):
            for service in range(len(house.services())):
                for most in range(len(house) + 2):
                    with self.subTest(services=house.services(), machines=len(house), most=most):
                        self.check_service(house, service, most)

    def test_no_machine_down(self):
        house = House([9] * 3, [(1, (1, 0, 2), rule) for rule in RULES])
        found = [[behind(house, service, (), most) for most in (0, 1, 2, 3)] for service in range(3)]
        self.assertEqual(found[0], [[1]] * 4)
        self.assertEqual(found[1], [[1]] * 4)
        self.assertEqual(found[2], [[1], [0, 1], [0, 1, 2], [0, 1, 2]])

    def test_the_home_down(self):
        house = House([9] * 4, [(1, (1, 0, 2, 3), rule) for rule in RULES])
        found = [[behind(house, service, (1,), most) for most in (1, 2, 3, 10 ** 30)] for service in range(3)]
        self.assertEqual(found[0], [[0]] * 4)
        self.assertEqual(found[1], [[0], [0, 2], [0, 2, 3], [0, 2, 3]])
        self.assertEqual(found[2], found[1])

    def test_all_of_an_order_down(self):
        house = House([9] * 3, [(1, (2, 0), rule) for rule in RULES])
        for service in range(3):
            self.assertEqual(behind(house, service, (0, 2), 2), [-1])
            self.assertEqual(behind(house, service, (0, 1, 2), 3), [-1])
            self.assertEqual(len(history_to(house, service, (0, 1, 2), -1, 3)), 3)

    def test_by_name_and_by_position(self):
        house = House([9] * 3, [(4, (2, 0, 1), "stay")])
        self.assertEqual(behind(house=house, service=0, down=(2,), most=2), behind(house, 0, (2,), 2))
        named = history_to(house=house, service=0, down=(2,), place=1, most=2)
        self.assertEqual(named, history_to(house, 0, (2,), 1, 2))
        self.assertIs(is_settled(house=house, most=2), is_settled(house, 2))
        self.assertEqual(unsettled(house=house, most=2), unsettled(house, 2))

    def test_lists_are_new_each_time_and_nothing_is_changed(self):
        house = House([9] * 3, [(4, (2, 0, 1), "stay"), (2, (1,), "home")])
        kept = copy.deepcopy(house)
        for call in (lambda: behind(house, 0, (), 2), lambda: behind(house, 1, (1,), 2),
                     lambda: history_to(house, 0, (), 1, 2), lambda: history_to(house, 0, (), 2, 2)):
            one, two = call(), call()
            self.assertEqual(one, two)
            self.assertIsNot(one, two)
            one.append(7)
            self.assertEqual(call(), two)
        self.assertEqual(house, kept)


class SettledTest(unittest.TestCase):
    def check_house(self, house, most):
        rows = [places_behind(house, service, most) for service in range(len(house.services()))]
        open_ones = [service for service, row in enumerate(rows) if any(len(places) > 1 for places in row.values())]
        self.assertIs(is_settled(house, most), not open_ones)
        found = unsettled(house, most)
        if not open_ones:
            self.assertIsNone(found)
            return
        self.assertIs(type(found), tuple)
        service, first, second = found
        self.assertEqual(service, open_ones[0])
        one, two = end_of(house, first, most), end_of(house, second, most)
        self.assertEqual(one[0], two[0])
        self.assertNotEqual(one[1][service], two[1][service])

    def test_each_order_and_rule_on_up_to_four_machines(self):
        for machines in (1, 2, 3, 4):
            for order in all_orders(machines) if machines < 4 else [(3, 1, 0, 2), (2, 3, 1), (1, 3), (0,)]:
                for rule in RULES:
                    house = House([9] * machines, [(4, order, rule)])
                    for most in range(machines + 3):
                        with self.subTest(machines=machines, order=order, rule=rule, most=most):
                            self.check_house(house, most)

    def test_what_point_11_says(self):
        for machines in (1, 2, 3, 4, 5):
            for length in range(1, machines + 1):
                for rule in RULES:
                    house = House([9] * machines, [(4, tuple(range(machines))[-length:], rule)])
                    for most in (0, 1, 2, 3, 4, 5, 6, 10 ** 30):
                        told = most == 0 or rule == "first" or length == 1
                        told = told or (rule == "home" and (length == 2 or most == 1))
                        with self.subTest(machines=machines, length=length, rule=rule, most=most):
                            self.assertIs(is_settled(house, most), told)
                            self.assertIs(unsettled(house, most) is None, told)

    def test_several_services(self):
        for house in some_houses(House, 11, 60, 4, 3):
            for most in range(len(house) + 2):
                with self.subTest(services=house.services(), machines=len(house), most=most):
                    self.check_house(house, most)

    def test_the_first_service_that_is_not_settled(self):
        settled, open_one = (1, (0, 1, 2), "first"), (1, (1, 2), "stay")
        for number in range(5):
            house = House([9] * 3, [settled] * number + [open_one] * (5 - number))
            self.assertEqual(unsettled(house, 1)[0], number)
            self.check_house(house, 1)
        self.assertIsNone(unsettled(House([9] * 3, [settled] * 5), 3))

    def test_no_services(self):
        for most in (0, 1, 2, 10 ** 30):
            self.assertEqual((is_settled(House([9, 9], []), most), unsettled(House([9, 9], []), most)), (True, None))

    def test_lists_are_new(self):
        house = House([9] * 3, [(1, (1, 2), "stay")])
        one, two = unsettled(house, 1), unsettled(house, 1)
        self.assertEqual(one, two)
        self.assertEqual(len({id(part) for part in one[1:] + two[1:]}), 4)

    def test_time(self):
        house = House([9] * 5, [(4, (0, 1, 2, 3, 4), "first")] * 4 + [(4, (0, 1, 2, 3, 4), "home")])
        for most in (0, 1, 2, 5, 10 ** 30):
            self.assertLess(seconds_of(lambda most=most: (is_settled(house, most), unsettled(house, most))), 1)
            self.assertLess(seconds_of(lambda most=most: history_to(house, 0, (), 0, most)), 1)


if __name__ == "__main__":
    unittest.main()
