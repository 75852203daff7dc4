"""Points 24 and 25, and point 3 as far as it is about tours."""

import copy
import itertools
import math
import random
import unittest
from fractions import Fraction

from nextalive.errors import NoWay, TooMany
from nextalive.houses import House
from nextalive.runs import Run
from nextalive.tables import Table
from nextalive.tours import are_numbers, busiest, is_tour, tour_mean, weight_moved
from tests.brute import RULES, all_pictures, begin, end_of, ends, next_events, odd_values, picture_behind, seconds_of
from tests.brute import some_histories, some_houses


def told_weight(house, picture, after):
    return sum(row[0] for row, one, other in zip(house.services(), picture[1], after[1]) if one != other)


def net(house, most):
    """For each picture of the table the list of tuples (weight, picture behind, event)."""
    found = {}
    for picture in ends(house, most):
        afters = [(picture_behind(house, picture, event), event) for event in next_events(house, picture, most)]
        found[picture] = [(told_weight(house, picture, after), after, event) for after, event in afters]
    return found


def greatest_mean(house, most):
    """The greatest mean of all tours: Karp's rule over all walks of so many events from the beginning."""
    lines = net(house, most)
    walks = [{begin(house): 0}]
    for _ in lines:
        after = {}
        for picture, weight in walks[-1].items():
            for more, behind, _ in lines[picture]:
                after[behind] = max(after.get(behind, 0), weight + more)
        walks.append(after)
    many = len(lines)
    return max(min(Fraction(weight - walks[at][picture], many - at) for at in range(many) if picture in walks[at])
               for picture, weight in walks[-1].items())


def all_rounds(house, most):
    """The means of all tours that come to no picture twice on their way."""
    lines = net(house, most)
    order = {picture: at for at, picture in enumerate(lines)}
    found = []

    def go(start, picture, weight, passed):
        for more, after, _ in lines[picture]:
            if after == start:
                found.append(Fraction(weight + more, len(passed)))
            elif after not in passed and order[after] > order[start]:
                go(start, after, weight + more, passed | {after})

    for start in lines:
        go(start, start, 0, frozenset({start}))
    return found


def told_numbers(house, most, mean, value):
    """Whether a dict from the pictures of the table to integers is numbers for the mean, by the words of point 25."""
    p, q = mean
    return all(q * weight + value[after] <= p + value[picture]
               for picture, lines in net(house, most).items() for weight, after, _ in lines)


class Checks(unittest.TestCase):
    def check_busiest(self, house, most, told):
        found = busiest(house, most)
        self.assertEqual((type(found), len(found)), (tuple, 3))
        mean, tour, numbers = found
        self.assertEqual((type(mean), Fraction(*mean)), (tuple, told), (house.services(), most))
        self.assertTrue(mean[1] >= 1 and math.gcd(*mean) == 1)
        self.check_tour(house, most, tour, mean)
        self.assertEqual((type(numbers), sorted(numbers)), (dict, sorted(ends(house, most))))
        self.assertEqual({type(number) for number in numbers.values()}, {int})
        self.assertTrue(all(-10 ** 30 <= number <= 10 ** 30 for number in numbers.values()))
        self.assertTrue(told_numbers(house, most, mean, numbers))
        self.assertIs(are_numbers(house, most, mean, numbers), True)

    def check_tour(self, house, most, tour, mean):
        self.assertEqual([type(tour), *[type(part) for part in tour]], [tuple, list, list])
        history, events = tour
        self.assertGreater(len(events), 0)
        picture = end_of(house, history, most)
        self.assertEqual(end_of(house, history + events, most), picture)
        weight = 0
        for event in events:
            after = picture_behind(house, picture, event)
            weight += told_weight(house, picture, after)
            picture = after
        self.assertEqual(Fraction(weight, len(events)), Fraction(*mean))
        self.assertEqual(tour_mean(house, tour), mean)
        self.assertIs(is_tour(house, most, tour), True)


class WeightTest(unittest.TestCase):
    def test_pictures_of_all_kinds(self):
        for house in some_houses(House, 91, 40, 4, 3):
            for picture in all_pictures(house):
                for event in next_events(house, picture, len(house)):
                    after = picture_behind(house, picture, event)
                    self.assertEqual(weight_moved(house, picture, event), told_weight(house, picture, after))

    def test_to_go_nowhere_and_to_come_back_is_to_be_moved(self):
        house = House([9, 9], [(4, (0,), "stay"), (2, (0, 1), "home")])
        self.assertEqual(weight_moved(house, ((), (0, 0)), ("fall", 0)), 6)
        self.assertEqual(weight_moved(house, ((0,), (-1, 1)), ("rise", 0)), 6)
        self.assertEqual(weight_moved(house, ((0,), (-1, 1)), ("fall", 1)), 2)
        self.assertEqual(weight_moved(house, ((), (0, 0)), ("fall", 1)), 0)

    def test_a_service_that_is_nowhere_while_a_machine_lives(self):
        house = House([9, 9, 9], [(4, (0, 1), "stay")])
        self.assertEqual(weight_moved(house, ((1,), (-1,)), ("rise", 1)), 4)
        self.assertEqual(weight_moved(house, ((1,), (-1,)), ("fall", 0)), 0)
        self.assertEqual(weight_moved(house, ((2,), (-1,)), ("rise", 2)), 0)


class MeanTest(unittest.TestCase):
    def some_tours(self, house, seed, most):
        """Tours that are found by chance: from a history and its end to the same picture again."""
        for history in some_histories(house, seed, 20, 12, most):
            pictures = [end_of(house, history[:at], most) for at in range(len(history) + 1)]
            for one, other in itertools.combinations(range(len(pictures)), 2):
                if pictures[one] == pictures[other]:
                    yield history[:one], history[one:other], pictures[one:other + 1]

    def test_tours_found_by_chance(self):
        many = 0
        for house in some_houses(House, 92, 60, 3, 3):
            for most in (1, 2, 3):
                for history, events, pictures in self.some_tours(house, 4, most):
                    weight = sum(told_weight(house, one, other) for one, other in zip(pictures, pictures[1:]))
                    told = Fraction(weight, len(events))
                    mean = tour_mean(house, (history, events))
                    self.assertEqual(mean, (told.numerator, told.denominator))
                    self.assertIs(is_tour(house, most, (history, events)), True)
                    many += 1
        self.assertGreater(many, 500)

    def test_nought(self):
        house = House([9, 9], [(4, (0,), "stay")])
        self.assertEqual(tour_mean(house, ([], [("fall", 1), ("rise", 1)])), (0, 1))
        self.assertEqual(tour_mean(House([9], []), ([("fall", 0)], [("rise", 0), ("fall", 0)] * 3)), (0, 1))

    def test_lowest_terms(self):
        house = House([9, 9], [(4, (0, 1), "first"), (3, (0, 1), "stay")])
        both, other = [("fall", 0), ("rise", 0)], [("fall", 1), ("rise", 1)]
        self.assertEqual(tour_mean(house, (both, both * 6)), (4, 1))
        self.assertEqual(tour_mean(house, ([], both + other)), (7, 2))
        self.assertEqual(tour_mean(house, ([], (both + other) * 1000)), (7, 2))


class IsTourTest(unittest.TestCase):
    def setUp(self):
        self.house = House([9, 9], [(4, (0, 1), "first"), (3, (0, 1), "stay")])
        self.both = [("fall", 0), ("rise", 0)]

    def test_all_pairs_of_short_lists(self):
        events = [(word, machine) for word in ("fall", "rise") for machine in (0, 1)]
        found = []
        for most in (0, 1, 2):
            for first, second in itertools.product(range(3), range(4)):
                for row in itertools.product(events, repeat=first + second):
                    told = second > 0 and self.told(list(row[:first]), list(row[first:]), most)
                    self.assertIs(is_tour(self.house, most, (list(row[:first]), list(row[first:]))), told)
                    found.append(told)
        self.assertGreater(found.count(True), 10)

    def told(self, history, events, most):
        try:
            return end_of(self.house, history, most) == end_of(self.house, history + events, most)
        except AssertionError:
            return False

    def test_near_ones(self):
        house, both = self.house, self.both
        good = (both, both)
        self.assertIs(is_tour(house, 1, good), True)
        near = [list(good), both, both + both, (both,), (both, both, []), (both, []), ([], []), (tuple(both), both)]
        near += [(both, tuple(both)), (None, both), (both, None), ((), both), ([], both), (both[:1], both)]
        near += [(both, both[:1]), (both, both + [("fall", 1)]), ({}, both), (both, {"fall": 0}), [both, both]]
        near += [(both, [list(event) for event in both]), (both, [("fall", False), ("rise", False)])]
        near += [([("fall", False), ("rise", 0)], both), (both, [("fall", 2), ("rise", 2)]), (both, [None]), ("", both)]
        for value in near:
            self.assertIs(is_tour(house, 1, value), False, value)
        self.assertIs(is_tour(house, 0, good), False)
        self.assertIs(is_tour(house, 10 ** 30, good), True)

    def test_within_the_number(self):
        down = [("fall", 0), ("fall", 1), ("rise", 0), ("rise", 1)]
        value = (self.both, down)
        self.assertEqual([is_tour(self.house, most, value) for most in (0, 1, 2)], [False] * 2 + [self.told(*value, 2)])
        house = House([9, 9], [(4, (0, 1), "first")])
        self.assertEqual([is_tour(house, most, ([], down)) for most in (0, 1, 2)], [False, False, True])
        self.assertEqual([is_tour(house, most, (down, down[:1] + [("rise", 0)])) for most in (1, 2)], [False, True])

    def test_any_value(self):
        for value in odd_values(self.house, Run(self.house)) + list(busiest(self.house, 1)) + [busiest(self.house, 1)]:
            told = isinstance(value, tuple) and value == busiest(self.house, 1)[1]
            self.assertIs(is_tour(self.house, 1, value), told)


class BusiestTest(Checks):
    def test_all_tours_of_small_houses(self):
        for house in some_houses(House, 93, 120, 3, 2):
            for most in range(1, len(house) + 2):
                if len(ends(house, most)) <= 13:
                    told = max(all_rounds(house, most))
                    self.assertEqual(greatest_mean(house, most), told)
                    self.check_busiest(house, most, told)

    def test_means_of_walks(self):
        source = random.Random(94)
        for house in some_houses(House, 94, 50, 4, 4):
            most = source.randint(1, len(house) + 1)
            if len(ends(house, most)) <= 120:
                self.check_busiest(house, most, greatest_mean(house, most))

    def test_great_weights(self):
        source = random.Random(95)
        for _ in range(25):
            rows = [(source.choice((1, 10 ** 9, source.randint(1, 10 ** 9))), tuple(source.sample(range(3), 3)), rule)
                    for rule in source.choices(RULES, k=3)]
            house = House([9] * 3, rows)
            self.check_busiest(house, 2, greatest_mean(house, 2))

    def test_nothing_is_moved(self):
        for house in (House([9], []), House([9] * 3, [])):
            for most in (1, 2, 10 ** 30):
                self.check_busiest(house, most, Fraction(0))

    def test_one_service(self):
        for rule in RULES:
            house = House([9], [(7, (0,), rule)])
            self.check_busiest(house, 1, Fraction(7))
        house = House([9, 9], [(7, (0, 1), "stay")])
        self.check_busiest(house, 1, Fraction(7, 2))
        self.check_busiest(house, 2, Fraction(7))

    def test_a_tour_that_is_not_at_the_beginning(self):
        """The two that stay are together only behind a first fall, and from then on for ever."""
        house = House([9] * 3, [(4, (0, 1, 2), "stay"), (3, (1, 0, 2), "stay")])
        self.check_busiest(house, 1, greatest_mean(house, 1))
        self.assertEqual(busiest(house, 1)[0], (7, 2))

    def test_errors(self):
        house = House([9, 9], [(4, (0, 1), "stay")])
        for limit in (1, 3, 400):
            with self.assertRaises(NoWay) as caught:
                busiest(house, 0, limit=limit)
            self.assertEqual(caught.exception.needed, 1)
        many = len(ends(house, 1))
        for limit in range(1, many):
            with self.assertRaises(TooMany) as caught:
                busiest(house, 1, limit=limit)
            self.assertEqual(caught.exception.limit, limit)
        self.assertEqual(busiest(house, 1, limit=many), busiest(house, 1))
        self.assertRaises(TypeError, busiest, house, 1, 400)

    def test_limit_left_out_is_four_hundred(self):
        rows = [(1, order, "stay") for order in [(1, 0, 2, 3, 4), (1, 4, 2, 3, 0), (0, 2, 3, 4, 1), (4, 0, 2, 3, 1)]]
        house = House([9] * 5, rows)
        found = []
        for most in (1, 2, 3, 4, 5):
            many = len(ends(house, most))
            found.append(many > 400)
            if many > 400:
                for call in (lambda: busiest(house, most), lambda: are_numbers(house, most, (0, 1), None)):
                    with self.assertRaises(TooMany) as caught:
                        call()
                    self.assertEqual(caught.exception.limit, 400)
            else:
                self.check_busiest(house, most, Fraction(*busiest(house, most)[0]))
        self.assertEqual(set(found), {True, False})

    def test_time(self):
        source = random.Random(96)
        for _ in range(30):
            rows = [(source.choice((1, 10 ** 9, source.randint(1, 10 ** 9))), tuple(source.sample(range(5), 5)), "stay")
                    for _ in range(source.randint(3, 5))]
            for most in (1, 2, 5):
                house = House([9] * 5, rows)
                self.assertLess(seconds_of(lambda: self.answer(house, most)), 2)

    def answer(self, house, most):
        try:
            return busiest(house, most)
        except TooMany:
            return None


class AreNumbersTest(unittest.TestCase):
    def test_numbers_by_chance(self):
        source = random.Random(97)
        found = []
        for house in some_houses(House, 97, 60, 3, 2):
            for most in range(len(house) + 1):
                pictures = sorted(ends(house, most))
                for _ in range(6):
                    mean = (source.randint(0, 12), source.randint(1, 3))
                    value = {picture: source.randint(-6, 6) for picture in source.sample(pictures, len(pictures))}
                    told = told_numbers(house, most, mean, value)
                    self.assertIs(are_numbers(house, most, mean, value), told)
                    found.append(told)
        self.assertGreater(min(found.count(True), found.count(False)), 30)

    def test_told_numbers_and_ones_near_them(self):
        source = random.Random(98)
        for house in some_houses(House, 98, 40, 3, 2):
            for most in range(1, len(house) + 1):
                (p, q), _, numbers = busiest(house, most)
                for step in (0, 7, -10 ** 40):
                    moved = {picture: number + step for picture, number in numbers.items()}
                    self.assertIs(are_numbers(house, most, (p, q), moved), True)
                    self.assertIs(are_numbers(house, most, (p + 1, q), moved), True)
                    if p > 0:
                        self.assertIs(are_numbers(house, most, (p - 1, q), moved), False)
                doubled = {picture: 2 * number for picture, number in numbers.items()}
                self.assertIs(are_numbers(house, most, (2 * p, 2 * q), doubled), True)
                for picture in source.sample(sorted(numbers), min(5, len(numbers))):
                    for step in (-1, 1, 50, -50):
                        value = {**numbers, picture: numbers[picture] + step}
                        self.assertIs(are_numbers(house, most, (p, q), value), told_numbers(house, most, (p, q), value))

    def test_forms(self):
        house = House([9, 9], [(4, (0, 1), "stay"), (2, (1, 0), "home")])
        mean, _, numbers = busiest(house, 1)
        self.assertIs(are_numbers(house, 1, mean, numbers), True)
        for picture, number in numbers.items():
            without = {one: numbers[one] for one in numbers if one != picture}
            down, places = picture
            for key in self.near_keys(down, places):
                self.assertIs(are_numbers(house, 1, mean, {**without, key: number}), False, key)
            self.assertIs(are_numbers(house, 1, mean, without), False)
            for part in (None, True, False, str(number), (number,), [number], {}, ()):
                self.assertIs(are_numbers(house, 1, mean, {**without, picture: part}), False)
        for more in (((0, 1), (-1, -1)), ((), (-1, 1)), None, 0, "", ()):
            self.assertIs(are_numbers(house, 1, mean, {**numbers, more: 0}), False)
        for value in (list(numbers.items()), tuple(numbers), [numbers], sorted(numbers), {}, None):
            self.assertIs(are_numbers(house, 1, mean, value), False)

    def near_keys(self, down, places):
        """Keys that are near a picture and are none, equal ones with bools among them, or pictures of no table."""
        near = [(places, down), (down,), (down, places, ()), (down, places[:1]), (down, (*places, 0)), (down, (9, 9))]
        near += [(tuple(bool(machine) for machine in down), places)] if down else []
        near += [(down, tuple(bool(place) for place in places)), (down, (bool(places[0]), places[1])), down, 0]
        return [*near, ((0, 1), (-1, -1)), ((), (-1, -1)), str((down, places))]

    def test_a_number_of_none(self):
        house = House([9, 9], [(4, (0, 1), "first")])
        start = ((), (0,))
        for mean in ((0, 1), (0, 5), (7, 2), (10 ** 30, 1)):
            for number in (0, 5, -5, 10 ** 40):
                self.assertIs(are_numbers(house, 0, mean, {start: number}), True)
            for value in ({start: True}, {start: None}, {}, {start: 0, ((), (1,)): 0}, {((), (1,)): 0}, [start], None):
                self.assertIs(are_numbers(house, 0, mean, value), False)
            self.assertIs(are_numbers(house, 0, mean, {((), (False,)): 0}), False)

    def test_too_many_whatever_the_value_is(self):
        house = House([9, 9], [(4, (0, 1), "stay")])
        for value in (None, {}, [], busiest(house, 1)[2], {((), (0,)): 0}, 7):
            with self.assertRaises(TooMany) as caught:
                are_numbers(house, 1, (2, 1), value, limit=3)
            self.assertEqual(caught.exception.limit, 3)
            self.assertIs(are_numbers(house, 1, (2, 1), value, limit=4), value == busiest(house, 1)[2])
        self.assertRaises(TypeError, are_numbers, house, 1, (2, 1), {}, 400)

    def test_any_value(self):
        house = House([9, 9], [(4, (0, 1), "stay")])
        told = [Table(house, 1).pictures(), busiest(house, 1), ends(house, 1)]
        for value in odd_values(house, Run(house)) + told[:2]:
            self.assertIs(are_numbers(house, 1, (9, 1), value), False)
        self.assertIs(are_numbers(house, 1, (9, 1), told[2]), told_numbers(house, 1, (9, 1), told[2]))

    def test_time(self):
        rows = [(10 ** 9, order, "stay") for order in [(1, 0, 2, 3, 4), (1, 4, 2, 3, 0), (0, 2, 3, 4, 1)]]
        house = House([9] * 5, rows)
        mean, _, numbers = busiest(house, 2)
        self.assertLess(seconds_of(lambda: self.assertIs(are_numbers(house, 2, mean, numbers), True)), 1)


class PlainTest(unittest.TestCase):
    def test_by_name_and_by_position(self):
        house, both = House([9, 9], [(4, (0, 1), "first")]), [("fall", 0), ("rise", 0)]
        self.assertEqual(weight_moved(event=("fall", 0), picture=((), (0,)), house=house), 4)
        self.assertEqual(tour_mean(tour=([], both), house=house), (4, 1))
        self.assertIs(is_tour(value=([], both), most=1, house=house), True)
        self.assertEqual(busiest(limit=40, most=1, house=house), busiest(house, 1))
        numbers = busiest(house, 1)[2]
        self.assertIs(are_numbers(limit=40, value=numbers, mean=(4, 1), most=1, house=house), True)

    def test_lists_are_new_each_time_and_nothing_is_changed(self):
        house = House([9, 9], [(4, (0, 1), "first"), (3, (0, 1), "stay")])
        kept = copy.deepcopy(house)
        one, two = busiest(house, 1), busiest(house, 1)
        self.assertEqual(one, two)
        self.assertEqual(len({id(part) for part in (*one[1], *two[1], one[2], two[2])}), 6)
        numbers = copy.deepcopy(one[2])
        self.assertIs(are_numbers(house, 1, one[0], one[2]), True)
        self.assertEqual(one[2], numbers)
        one[1][0].append(7)
        one[1][1].append(7)
        one[2].clear()
        self.assertEqual(busiest(house, 1), two)
        tour = ([("fall", 0), ("rise", 0)], [("fall", 0), ("rise", 0)])
        told = copy.deepcopy(tour)
        self.assertEqual([is_tour(house, 1, tour), tour_mean(house, tour)] * 2, [True, (4, 1)] * 2)
        self.assertEqual((tour, house), (told, kept))


del Checks

if __name__ == "__main__":
    unittest.main()
