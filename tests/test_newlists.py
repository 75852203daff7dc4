"""Points 12 and 13 as far as orders for new services rest on them, and point 3 as far as it is about these."""

import copy
import itertools
import random
import unittest

from nextalive.houses import House
from nextalive.newlists import fitting, mending, room
from nextalive.worst import unsafe, worst_loads
from tests.brute import RULES, all_orders, ends, load_of, seconds_of, some_houses


def told_loads(house, most):
    """The greatest loads of all machines, found by going through all pictures."""
    found = list(ends(house, most))
    return [max(load_of(house, picture, machine) for picture in found) for machine in range(len(house))]


def told_safe(house, most):
    return all(load <= strength for load, strength in zip(told_loads(house, most), house.strengths()))


def fuller(house, weight, order, rule):
    """The house with one more service."""
    return House(house.strengths(), [*house.services(), (weight, order, rule)])


def asked_orders(house, most):
    """The orders that fitting and mending may tell, in ascending order."""
    return list(itertools.permutations(range(len(house)), min(len(house), most + 1)))


def first_safe(houses, most, is_safe):
    return [order for order, house in houses if is_safe(house, most)][:1]


def later_ones(found):
    """Those of the orders that are not the first ones of all."""
    return [order for order in found if order is not None and order != tuple(range(len(order)))]


def safe_by_loads(house, most):
    """What told_safe tells; the greatest loads are held against all histories by the tests of worst."""
    return unsafe(house, most) is None


class FittingTest(unittest.TestCase):
    def check_fitting(self, house, weight, rule, most, is_safe=safe_by_loads):
        houses = [(order, fuller(house, weight, order, rule)) for order in asked_orders(house, most)]
        found = fitting(house, weight, rule, most)
        told = [] if found is None else [found]
        self.assertEqual(told, first_safe(houses, most, is_safe), (house.services(), house.strengths(), rule, most))
        return found

    def test_held_against_all_histories(self):
        found = []
        for house in some_houses(House, 41, 60, 3, 3):
            for most in range(len(house) + 1):
                for rule in RULES:
                    for weight in (1, 5, 11):
                        found.append(self.check_fitting(house, weight, rule, most, told_safe))
        self.assertGreater(found.count(None), 100)
        self.assertGreater(len(later_ones(found)), 20)

    def test_held_against_the_greatest_loads(self):
        source = random.Random(42)
        found = []
        for house in some_houses(House, 42, 80, 5, 4):
            strengths = [load + source.randint(0, 6) for load in worst_loads(house, 5)]
            for most in (0, 1, 2, 5):
                rule = source.choice(RULES)
                found.append(self.check_fitting(House(strengths, house.services()), 3, rule, most))
        self.assertGreater(found.count(None), 20)
        self.assertGreater(len(later_ones(found)), 20)

    def test_a_house_that_is_not_safe_takes_nothing(self):
        house = House([3, 99, 99], [(4, (0, 1), "first")])
        for most in range(4):
            self.assertIsNone(fitting(house, 1, "first", most))
            self.assertIsNone(fitting(house, 1, "stay", most))

    def test_a_machine_out_of_the_order_may_bear_too_much(self):
        house = House([99, 99, 3], [(4, (0, 2), "first")])
        self.assertEqual(fitting(house, 1, "first", 0), (0,))
        self.assertIsNone(fitting(house, 1, "first", 1))

    def test_lengths(self):
        house = House([9] * 4, [])
        found = [fitting(house, 9, "stay", most) for most in (0, 1, 2, 3, 4, 10 ** 30)]
        self.assertEqual(found, [(0,), (0, 1), (0, 1, 2), (0, 1, 2, 3), (0, 1, 2, 3), (0, 1, 2, 3)])
        self.assertEqual([fitting(house, 10, "stay", most) for most in (0, 2, 10 ** 30)], [None] * 3)

    def test_just_at_a_strength_and_one_above_it(self):
        house = House([4, 7, 9], [(4, (1, 2), "first"), (5, (2, 1), "stay")])
        self.assertEqual([fitting(house, weight, "home", 0) for weight in range(1, 6)],
                         [(0,), (0,), (0,), (0,), None])
        self.assertIsNone(fitting(house, 1, "home", 1))
        house = House([4, 9, 9], [(4, (1, 2), "first"), (5, (2, 1), "stay")])
        self.assertEqual([fitting(house, weight, "home", 1) for weight in range(1, 6)], [(0, 2)] * 4 + [None])
        house = House([4, 10, 9], [(4, (1, 2), "first"), (5, (2, 1), "stay")])
        self.assertEqual([fitting(house, weight, "home", 1) for weight in (1, 2, 5)], [(0, 1), (0, 2), None])

    def test_great_weights(self):
        house = House([10 ** 10] * 2, [(10 ** 9, (0,), "stay")] * 4)
        self.assertEqual([fitting(house, 10 ** 9, rule, 5) for rule in RULES], [(0, 1)] * 3)
        house = House([5 * 10 ** 9 - 1, 10 ** 9], [(10 ** 9, (0,), "stay")] * 4)
        self.assertEqual([fitting(house, weight, "first", 0) for weight in (10 ** 9 - 1, 10 ** 9)], [(0,), (1,)])


class RoomTest(unittest.TestCase):
    def fits(self, house, weight, order, rule, most, loads_of):
        """True if none of the first most + 1 machines of the order bears too much with such a service."""
        loads = loads_of(fuller(house, weight, order, rule), most)
        return all(loads[machine] <= house.strengths()[machine] for machine in order[:most + 1])

    def check_room(self, house, order, rule, most, loads_of=worst_loads):
        found = room(house, order, rule, most)
        self.assertIs(type(found), int)
        self.assertTrue(0 <= found <= 10 ** 9)
        if found > 0:
            self.assertTrue(self.fits(house, found, order, rule, most, loads_of))
        if found < 10 ** 9:
            self.assertFalse(self.fits(house, found + 1, order, rule, most, loads_of))
        return found

    def test_held_against_all_histories(self):
        found = []
        for house in some_houses(House, 43, 40, 3, 3):
            for order in all_orders(len(house)):
                for most in range(len(house) + 1):
                    for rule in RULES:
                        found.append(self.check_room(house, order, rule, most, told_loads))
        self.assertGreater(found.count(0), 50)
        self.assertGreater(len(found) - found.count(0), 500)

    def test_held_against_the_greatest_loads(self):
        source = random.Random(44)
        for house in some_houses(House, 44, 80, 5, 4):
            for order in source.sample(all_orders(len(house)), min(8, len(all_orders(len(house))))):
                for most in (0, 1, 3, 5, 10 ** 30):
                    self.check_room(house, order, source.choice(RULES), most)

    def test_machines_behind_the_first_ones_do_not_matter(self):
        house = House([9, 5, 0], [(2, (1, 2), "stay")])
        self.assertEqual([room(house, (0, 1, 2), "stay", most) for most in range(4)], [9, 3, 0, 0])
        house = House([9, 5, 0], [(2, (2, 1), "stay")])
        self.assertEqual([room(house, (0, 1), "stay", most) for most in range(3)], [9, 3, 3])

    def test_a_machine_that_bears_too_much_without_it(self):
        """The two are at machine 0 together, but the new service never is there with both."""
        house = House([8, 99, 99], [(5, (1, 0), "first"), (5, (2, 0), "first")])
        self.assertEqual(room(house, (0, 1), "first", 1), 3)
        self.assertEqual(room(house, (0, 1), "first", 2), 0)

    def test_at_both_ends(self):
        for rule in RULES:
            self.assertEqual(room(House([10 ** 10], []), (0,), rule, 0), 10 ** 9)
            self.assertEqual(room(House([10 ** 9], []), (0,), rule, 0), 10 ** 9)
            self.assertEqual(room(House([10 ** 9 - 1], []), (0,), rule, 0), 10 ** 9 - 1)
            self.assertEqual(room(House([1], []), (0,), rule, 9), 1)
            self.assertEqual(room(House([0], []), (0,), rule, 9), 0)
            self.assertEqual(room(House([4], [(4, (0,), rule)]), (0,), rule, 1), 0)
            self.assertEqual(room(House([4], [(5, (0,), rule)]), (0,), rule, 1), 0)
            self.assertEqual(room(House([10 ** 10], [(10 ** 9, (0,), rule)] * 4), (0,), rule, 1), 10 ** 9)


class MendingTest(unittest.TestCase):
    def check_mending(self, house, service, most, is_safe=safe_by_loads):
        houses = [(order, house.with_order(service, order)) for order in asked_orders(house, most)]
        found = mending(house, service, most)
        told = [] if found is None else [found]
        self.assertEqual(told, first_safe(houses, most, is_safe), (house.services(), house.strengths(), service, most))
        return found

    def test_held_against_all_histories(self):
        found = []
        for house in some_houses(House, 45, 80, 3, 3):
            for service in range(len(house.services())):
                for most in range(len(house) + 1):
                    found.append(self.check_mending(house, service, most, told_safe))
        self.assertGreater(found.count(None), 50)
        self.assertGreater(len(later_ones(found)), 10)

    def test_held_against_the_greatest_loads(self):
        source = random.Random(46)
        found = []
        for house in some_houses(House, 46, 80, 5, 5):
            strengths = [load + source.randint(-1, 3) for load in worst_loads(house, 1)]
            house = House([max(0, strength) for strength in strengths], house.services())
            for service in range(len(house.services())):
                for most in (0, 1, 5):
                    found.append(self.check_mending(house, service, most))
        self.assertGreater(found.count(None), 20)
        self.assertGreater(len(later_ones(found)), 20)

    def test_the_order_that_the_service_has_does_not_matter(self):
        house = House([9, 6, 5], [(4, (2, 1, 0), "first"), (2, (1, 2), "stay")])
        for order in all_orders(3):
            for most in range(4):
                self.assertEqual(mending(house.with_order(0, order), 0, most), mending(house, 0, most))

    def test_the_only_service(self):
        house = House([3, 4, 5], [(4, (0,), "first")])
        self.assertEqual([mending(house, 0, most) for most in range(4)], [(1,), (1, 2), None, None])


class PlainTest(unittest.TestCase):
    def setUp(self):
        self.house = House([9, 6, 5], [(4, (0, 1), "first"), (2, (1, 2), "stay")])

    def test_no_services(self):
        house = House([3, 0, 5], [])
        self.assertEqual([fitting(house, weight, "stay", 0) for weight in (3, 4, 5, 6)], [(0,), (2,), (2,), None])
        self.assertEqual([fitting(house, 3, "stay", most) for most in (1, 2, 10 ** 30)], [(0, 2), None, None])
        self.assertEqual([room(house, (2, 0, 1), "home", most) for most in (0, 1, 2, 3)], [5, 3, 0, 0])

    def test_the_house_stays_as_it_is(self):
        kept = copy.deepcopy(self.house)
        for _ in range(2):
            self.assertEqual(fitting(self.house, 3, "first", 1), (0, 2))
            self.assertEqual(room(self.house, (0, 2), "stay", 1), 3)
            self.assertEqual(mending(self.house, 0, 1), (0, 1))
        self.assertEqual(self.house, kept)

    def test_by_name_and_by_position(self):
        self.assertEqual(fitting(most=1, rule="first", weight=3, house=self.house), (0, 2))
        self.assertEqual(room(most=1, rule="stay", order=(0, 2), house=self.house), 3)
        self.assertEqual(mending(most=1, service=0, house=self.house), (0, 1))

    def test_five_services_are_more_than_asked_for_and_no_error(self):
        house = House([9, 9], [(1, (0, 1), "stay")] * 5)
        self.assertEqual([fitting(house, weight, "stay", 1) for weight in (4, 5)], [(0, 1), None])
        self.assertEqual(room(house, (0, 1), "stay", 1), 4)

    def test_time(self):
        turned = [tuple((at + step) % 5 for step in range(5)) for at in range(5)]
        for rules in (("home",) * 5, ("stay",) * 5, ("first",) * 5, ("home", "stay", "first", "home", "home")):
            for strength in (10 ** 10, 5 * 10 ** 9, 5 * 10 ** 9 - 1, 4 * 10 ** 9, 10 ** 9):
                rows = [(10 ** 9, order, rule) for order, rule in zip(turned, rules)]
                house, whole = House([strength] * 5, rows[:4]), House([strength] * 5, rows)
                for most in (0, 1, 3, 5, 10 ** 30):
                    calls = [lambda: fitting(house, 10 ** 9, rules[4], most), lambda: mending(whole, 4, most)]
                    for call in [*calls, lambda: room(house, turned[4], rules[4], most)]:
                        self.assertLess(seconds_of(call), 1)


if __name__ == "__main__":
    unittest.main()
