"""Point 4, and point 3 as far as it is about houses."""

import unittest

from nextalive.errors import BadHouse, BadOrder
from nextalive.houses import House
from nextalive.runs import Run

GOOD = (4, (0, 1), "first")


def bad_number(strengths, services):
    """The number with which no house is made of these; "house" if one is made."""
    try:
        House(strengths, services)
    except BadHouse as error:
        return error.number
    return "house"


def nested(levels):
    """A list within a list within a list .."""
    value = []
    for _ in range(levels):
        value = [value]
    return value


def odd_values():
    house = House([9, 9], [GOOD])
    return [None, True, False, 0, 7, -1, "", "first", (), (9,), {}, {0: 9}, nested(50), house, Run(house)]


class HouseTest(unittest.TestCase):
    def test_one_to_five_machines(self):
        for many in range(1, 6):
            with self.subTest(many=many):
                house = House([7] * many, [])
                self.assertEqual((len(house), house.strengths(), house.services()), (many, [7] * many, []))

    def test_no_to_five_services(self):
        for many in range(6):
            with self.subTest(many=many):
                house = House([7, 7], [GOOD] * many)
                self.assertEqual((len(house), house.services()), (2, [GOOD] * many))

    def test_too_many_or_no_machines(self):
        self.assertIsNone(bad_number([], []))
        self.assertIsNone(bad_number([7] * 6, []))
        self.assertIsNone(bad_number([7] * 1000, [GOOD]))

    def test_too_many_services(self):
        self.assertIsNone(bad_number([7, 7], [GOOD] * 6))
        self.assertIsNone(bad_number([7, 7], [None] * 6))

    def test_range_of_strengths(self):
        for strength in (0, 1, 10 ** 10):
            with self.subTest(strength=strength):
                self.assertEqual(House([5, strength], []).strengths(), [5, strength])
        for strength in (-1, 10 ** 10 + 1, -10 ** 30, 10 ** 30, True, False, None, "1", (1,), [1], {}):
            with self.subTest(strength=strength):
                self.assertIsNone(bad_number([strength], []))
                self.assertIsNone(bad_number([5, strength], [GOOD]))

    def test_range_of_weights(self):
        for weight in (1, 2, 10 ** 9):
            with self.subTest(weight=weight):
                self.assertEqual(House([5], [(weight, (0,), "stay")]).services(), [(weight, (0,), "stay")])
        for weight in (0, -1, 10 ** 9 + 1, 10 ** 30, True, False, None, "1", (1,), [1], {}):
            with self.subTest(weight=weight):
                self.assertEqual(bad_number([5], [(weight, (0,), "stay")]), 0)

    def test_all_orders_of_different_machines(self):
        for order in ((0,), (2,), (1, 0), (2, 0), (0, 1, 2), (2, 1, 0)):
            with self.subTest(order=order):
                self.assertEqual(House([5] * 3, [(1, order, "home")]).services()[0][1], order)

    def test_orders_that_are_none(self):
        for order in wrong_orders():
            with self.subTest(order=order):
                self.assertEqual(bad_number([5] * 3, [(1, order, "home")]), 0)

    def test_rules(self):
        for rule in ("first", "home", "stay"):
            with self.subTest(rule=rule):
                self.assertEqual(House([5], [(1, (0,), rule)]).services()[0][2], rule)
        for rule in ("", "First", "first ", "rise", None, True, 0, ("first",), ["first"], b"first"):
            with self.subTest(rule=rule):
                self.assertEqual(bad_number([5], [(1, (0,), rule)]), 0)

    def test_services_that_are_none(self):
        for service in ((), (4,), (4, (0, 1)), (4, (0, 1), "first", 0), [4, (0, 1), "first"], *odd_values()):
            with self.subTest(service=service):
                self.assertEqual(bad_number([5, 5], [service]), 0)

    def test_the_first_wrong_service_is_told(self):
        wrong = (0, (0,), "stay")
        for number in range(5):
            with self.subTest(number=number):
                services = [GOOD] * number + [wrong] * (5 - number)
                self.assertEqual(bad_number([5, 5], services), number)
                self.assertEqual(bad_number([5, 5], [GOOD] * number + [None] + [GOOD] * (4 - number)), number)

    def test_a_service_fits_the_machines_of_its_house(self):
        services = [(4, (0,), "stay"), (4, (1,), "stay"), (4, (2,), "stay")]
        self.assertEqual([bad_number([5] * many, services) for many in (1, 2, 3)], [1, 2, "house"])

    def test_none_comes_ahead_of_a_number(self):
        wrong = [GOOD, (0, (), "no")]
        self.assertEqual(bad_number([5, 5], wrong), 1)
        self.assertIsNone(bad_number([5, -1], wrong))
        self.assertIsNone(bad_number([], wrong))
        self.assertIsNone(bad_number((5, 5), wrong))
        self.assertIsNone(bad_number([5, 5], tuple(wrong)))

    def test_strengths_and_services_may_be_any_values(self):
        for value in odd_values():
            with self.subTest(value=value):
                self.assertIsNone(bad_number(value, []))
                self.assertIsNone(bad_number(value, [GOOD]))
                # A list of one thing could be a list of services, so its thing is the wrong one.
                self.assertEqual(bad_number([9], value), 0 if isinstance(value, list) else None)
                self.assertIsNone(bad_number(value, value))

    def test_parameters_by_name(self):
        house = House(services=[GOOD], strengths=[1, 2])
        self.assertEqual((house.strengths(), house.services()), ([1, 2], [GOOD]))
        self.assertEqual(house.with_order(order=(1,), service=0).services(), [(4, (1,), "first")])

    def test_what_was_handed_in_may_be_changed(self):
        strengths, services = [1, 2], [GOOD]
        house = House(strengths, services)
        strengths[0] = 7
        strengths.append(3)
        services.clear()
        self.assertEqual((len(house), house.strengths(), house.services()), (2, [1, 2], [GOOD]))

    def test_arguments_are_not_changed(self):
        strengths, services = [1, 2], [GOOD]
        House(strengths, services).with_order(0, (1,))
        self.assertEqual((strengths, services), ([1, 2], [GOOD]))

    def test_returned_lists_are_new(self):
        house = House([1, 2], [GOOD])
        house.strengths().append(3)
        house.services()[0] = None
        self.assertEqual((len(house), house.strengths(), house.services()), (2, [1, 2], [GOOD]))
        self.assertIsNot(house.strengths(), house.strengths())
        self.assertIsNot(house.services(), house.services())


class EqualHousesTest(unittest.TestCase):
    def test_the_same_lists(self):
        self.assertTrue(House([1, 2], [GOOD]) == House([1, 2], [GOOD]))
        self.assertFalse(House([1, 2], [GOOD]) != House([1, 2], [GOOD]))

    def test_other_lists(self):
        house = House([1, 2], [GOOD, (5, (1,), "stay")])
        others = [
            House([2, 1], [GOOD, (5, (1,), "stay")]),
            House([1, 2, 3], [GOOD, (5, (1,), "stay")]),
            House([1, 2], [GOOD]),
            House([1, 2], []),
            House([1, 2], [(5, (1,), "stay"), GOOD]),
            House([1, 2], [GOOD, (6, (1,), "stay")]),
            House([1, 2], [GOOD, (5, (0,), "stay")]),
            House([1, 2], [GOOD, (5, (1,), "home")]),
        ]
        for other in others:
            with self.subTest(services=other.services()):
                self.assertFalse(house == other)
                self.assertTrue(house != other)

    def test_other_values(self):
        house = House([1], [])
        for value in (None, True, 1, [1], ([1], []), [[1], []], {}, "house", Run(house), object()):
            with self.subTest(value=value):
                self.assertIs(house == value, False)
                self.assertIs(value == house, False)
                self.assertIs(house != value, True)


class WithOrderTest(unittest.TestCase):
    def test_one_service_has_the_new_order(self):
        house = House([1, 2, 3], [GOOD, (5, (2, 1), "stay"), (6, (0,), "home")])
        found = house.with_order(1, (0, 1, 2))
        self.assertIsInstance(found, House)
        self.assertEqual(found, House([1, 2, 3], [GOOD, (5, (0, 1, 2), "stay"), (6, (0,), "home")]))

    def test_the_house_stays_as_it_was(self):
        house = House([1, 2, 3], [GOOD])
        changed = house.with_order(0, (2,))
        self.assertEqual(house, House([1, 2, 3], [GOOD]))
        self.assertNotEqual(house, changed)

    def test_the_same_order_gives_an_equal_house(self):
        house = House([1, 2, 3], [GOOD])
        self.assertEqual(house.with_order(0, (0, 1)), house)

    def test_orders_that_are_none(self):
        house = House([1, 2, 3], [GOOD, GOOD])
        for order in wrong_orders():
            for _ in range(2):
                with self.subTest(order=order), self.assertRaises(BadOrder) as caught:
                    house.with_order(1, order)
                self.assertIs(caught.exception.order, order)
                self.assertEqual(house, House([1, 2, 3], [GOOD, GOOD]))


def wrong_orders():
    """Values that are no orders of three machines."""
    doubled = [(0, 0), (1, 2, 1), (0, 1, 2, 0), (0,) * 1000]
    missing = [(3,), (0, 3), (-1,), (0, -1), (10 ** 30,)]
    bools = [(True,), (False,), (0, True), (0, False), (True, False)]
    parts = [("0",), (None,), ((0,),), ([0],), (0, {}), ([0], [0]), (nested(49),)]
    return [(), [0], [0, 1], [], *doubled, *missing, *bools, *parts, *[v for v in odd_values() if v != ()]]


if __name__ == "__main__":
    unittest.main()
