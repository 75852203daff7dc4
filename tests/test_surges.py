"""Points 8 and 17, and point 3 as far as it is about surges."""

import copy
import random
import unittest

from nextalive.houses import House
from nextalive.surges import surge, worst_surge
from tests.brute import RULES, begin, end_of, load_of, lots, picture_behind, seconds_of, some_histories, some_houses


def above(house, picture):
    """The living machines with a load above their strength."""
    strengths = house.strengths()
    living = [machine for machine in range(len(house)) if machine not in picture[0]]
    return [machine for machine in living if load_of(house, picture, machine) > strengths[machine]]


def fallen(house, picture, machines):
    for machine in machines:
        picture = picture_behind(house, picture, ("fall", machine))
    return picture


def told_surge(house, picture, machines):
    """The rounds and the picture at the end, by the words of point 17."""
    rounds, falling = [], tuple(machines)
    while falling:
        rounds.append(falling)
        picture = fallen(house, picture, falling[::-1])
        falling = tuple(above(house, picture))
    return rounds, picture


def one_by_one(house, picture, machines, source):
    """The picture at the end if machines above their strength fall one by one, in any order."""
    picture = fallen(house, picture, machines)
    while above(house, picture):
        picture = fallen(house, picture, [source.choice(above(house, picture))])
    return picture


def told_worst(house, most):
    best = (0, ())
    for machines in lots(len(house))[1:]:
        down = told_surge(house, begin(house), machines)[1][0]
        if len(machines) <= most and len(down) > best[0]:
            best = (len(down), machines)
    return best


class SurgeTest(unittest.TestCase):
    def check_surge(self, house, history, machines):
        rounds, picture = found = surge(house, history, machines)
        self.assertEqual(found, told_surge(house, end_of(house, history), machines))
        self.assertEqual((type(found), type(rounds), {type(row) for row in rounds}), (tuple, list, {tuple}))
        self.assertEqual(rounds[0], machines)
        gone = [machine for row in rounds for machine in row]
        self.assertEqual(sorted([*gone, *end_of(house, history)[0]]), sorted(picture[0]))
        self.assertEqual(rounds, [tuple(sorted(row)) for row in rounds])

    def test_from_the_beginning(self):
        for house in some_houses(House, 22, 150, 5, 5):
            for machines in lots(len(house))[1:]:
                with self.subTest(services=house.services(), strengths=house.strengths(), machines=machines):
                    self.check_surge(house, [], machines)

    def test_from_the_ends_of_histories(self):
        for house in some_houses(House, 23, 150, 5, 5):
            for history in some_histories(house, 1, 3, 12, len(house)):
                down = end_of(house, history)[0]
                living = tuple(machine for machine in range(len(house)) if machine not in down)
                for machines in [living] if living else []:
                    self.check_surge(house, history, machines)
                    for many in range(1, len(living)):
                        self.check_surge(house, history, living[:many])
                        self.check_surge(house, history, living[-many:])

    def test_one_by_one_in_any_order_is_the_same_at_the_end(self):
        source = random.Random(6)
        longest = 0
        for house in some_houses(House, 24, 150, 5, 5):
            for machines in lots(len(house))[1:]:
                rounds, picture = surge(house, [], machines)
                longest = max(longest, len(rounds))
                for _ in range(3):
                    self.assertEqual(one_by_one(house, begin(house), machines, source), picture)
        self.assertGreaterEqual(longest, 3)

    def test_loads_just_at_a_strength_and_one_above_it(self):
        rows = [(4, (0, 1, 2), "first"), (5, (1, 2), "stay")]
        self.assertEqual(surge(House([4, 9, 9], rows), [], (0,)), ([(0,)], ((0,), (1, 1))))
        self.assertEqual(surge(House([4, 8, 9], rows), [], (0,)), ([(0,), (1,)], ((0, 1), (2, 2))))
        self.assertEqual(surge(House([4, 8, 8], rows), [], (0,)), ([(0,), (1,), (2,)], ((0, 1, 2), (-1, -1))))
        self.assertEqual(surge(House([4, 9, 8], rows), [], (0,)), ([(0,)], ((0,), (1, 1))))

    def test_machines_that_fall_at_once_in_a_round(self):
        rows = [(4, (0, 1), "first"), (4, (0, 2), "home"), (1, (1, 3), "stay"), (1, (2, 4), "stay")]
        house = House([8, 4, 4, 2, 2], rows)
        self.assertEqual(surge(house, [], (0,)), ([(0,), (1, 2)], ((0, 1, 2), (-1, -1, 3, 4))))
        house = House([8, 4, 5, 2, 2], rows)
        self.assertEqual(surge(house, [], (0,)), ([(0,), (1,)], ((0, 1), (-1, 2, 3, 2))))

    def test_machines_that_are_above_from_the_beginning(self):
        house = House([3, 9, 0, 9], [(4, (0, 1), "first"), (1, (2, 3), "stay")])
        self.assertEqual(surge(house, [], (1,)), ([(1,), (0, 2)], ((0, 1, 2), (-1, 3))))
        self.assertEqual(surge(house, [], (3,)), ([(3,), (0, 2)], ((0, 2, 3), (1, -1))))

    def test_services_that_go_nowhere_burden_nothing(self):
        house = House([9, 0], [(9, (0,), "first")])
        self.assertEqual(surge(house, [], (0,)), ([(0,)], ((0,), (-1,))))

    def test_all_living_machines(self):
        house = House([9, 0, 9], [(9, (0, 1), "first")])
        self.assertEqual(surge(house, [], (0, 1, 2)), ([(0, 1, 2)], ((0, 1, 2), (-1,))))
        self.assertEqual(surge(house, [("fall", 1)], (0, 2)), ([(0, 2)], ((0, 1, 2), (-1,))))

    def test_the_past_matters(self):
        house = House([9, 6, 9], [(4, (0, 1), "stay"), (5, (1, 2), "stay")])
        self.assertEqual(surge(house, [], (2,)), ([(2,)], ((2,), (0, 1))))
        history = [("fall", 0), ("rise", 0)]
        self.assertEqual(surge(house, history, (2,)), ([(2,), (1,)], ((1, 2), (0, -1))))

    def test_by_name_and_by_position(self):
        house = House([9, 6, 9], [(4, (0, 1, 2), "first"), (5, (1, 2), "stay")])
        self.assertEqual(surge(house=house, history=[], machines=(0,)), surge(house, [], (0,)))
        self.assertEqual(worst_surge(house=house, most=1), worst_surge(house, 1))

    def test_lists_are_new_each_time_and_nothing_is_changed(self):
        house = House([9, 6, 9], [(4, (0, 1, 2), "first"), (5, (1, 2), "stay")])
        history = [("fall", 0), ("rise", 0)]
        kept = copy.deepcopy((house, history))
        one, two = surge(house, history, (0,)), surge(house, history, (0,))
        self.assertEqual(one, two)
        self.assertIsNot(one[0], two[0])
        one[0].append(7)
        self.assertEqual(surge(house, history, (0,)), two)
        self.assertEqual([worst_surge(house, 2), worst_surge(house, 2)], [(3, (0, 2))] * 2)
        self.assertEqual((house, history), kept)


class WorstSurgeTest(unittest.TestCase):
    def test_all_numbers(self):
        for house in some_houses(House, 25, 200, 5, 5):
            for most in range(len(house) + 2):
                with self.subTest(services=house.services(), strengths=house.strengths(), most=most):
                    found = worst_surge(house, most)
                    self.assertEqual(found, told_worst(house, most))
                    self.assertEqual([type(found), type(found[1])], [tuple, tuple])

    def test_most_of_none(self):
        for house in (House([0], [(5, (0,), "stay")]), House([0] * 5, []), House([9] * 3, [(1, (0, 1), "first")])):
            self.assertEqual(worst_surge(house, 0), (0, ()))

    def test_numbers_beyond_the_machines(self):
        house = House([9] * 3, [(1, (0, 1), "first")])
        self.assertEqual([worst_surge(house, most) for most in (3, 4, 10 ** 30)], [(3, (0, 1, 2))] * 3)

    def test_shorter_ones_first_and_then_in_ascending_order(self):
        house = House([9] * 4, [])
        self.assertEqual([worst_surge(house, most) for most in (1, 2, 3)], [(1, (0,)), (2, (0, 1)), (3, (0, 1, 2))])
        rows = [(5, (2, 3), "first"), (5, (3, 2), "first")]
        self.assertEqual(worst_surge(House([0, 0, 9, 9], rows), 1), (2, (2,)))
        self.assertEqual(worst_surge(House([0, 0, 9, 9], rows), 2), (3, (0, 2)))
        self.assertEqual(worst_surge(House([0, 0, 9, 9], rows), 4), (4, (0, 1, 2)))

    def test_each_rule_is_alike_from_the_beginning(self):
        for rule in RULES:
            house = House([9, 6, 9], [(4, (0, 1, 2), rule), (5, (1, 2), rule)])
            self.assertEqual([worst_surge(house, most) for most in range(4)],
                             [(0, ()), (2, (0,)), (3, (0, 2)), (3, (0, 2))])

    def test_time(self):
        rows = [(10 ** 9, tuple((at + step) % 5 for step in range(5)), RULES[at % 3]) for at in range(5)]
        for strength in (0, 10 ** 9, 2 * 10 ** 9, 10 ** 10):
            house = House([strength] * 5, rows)
            self.assertLess(seconds_of(lambda house=house: worst_surge(house, 10 ** 30)), 1)


if __name__ == "__main__":
    unittest.main()
