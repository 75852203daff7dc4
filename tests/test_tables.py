"""Points 5 and 14, and point 3 as far as it is about tables."""

import copy
import itertools
import random
import unittest

from nextalive.errors import TooMany
from nextalive.houses import House
from nextalive.runs import Run, run_of
from nextalive.tables import Table, is_closed
from tests.brute import RULES, all_orders, all_pictures, begin, end_of, ends, next_events, odd_values, picture_behind
from tests.brute import seconds_of, some_houses


def told_closed(house, most, pictures):
    """Whether a list of pictures is closed, by the words of point 14."""
    if len(set(pictures)) < len(pictures) or begin(house) not in pictures:
        return False
    kept = set(pictures)
    return all(picture_behind(house, picture, event) in kept
               for picture in pictures for event in next_events(house, picture, most))


def near_pictures(picture):
    """Values that are near a picture and are none."""
    down, places = picture
    near = [[down, places], (down,), (places,), (places, down, 0), (down, places, ()), (list(down), places)]
    near += [(down, list(places)), (down, (*places, 0)), (down, places[:-1]), (down, ()), ((), ()), (down, None)]
    near += [(None, places), (down, places[0]), {down: places}, ((*down, *down), places), (down + (9,), places)]
    near += [((-1, *down), places), (down, tuple(str(place) for place in places)), (down, (9,) * len(places))]
    near += [(down, (-2,) * len(places)), (down, ((),) * len(places)), (([],), places), (down, ([],) * len(places))]
    near += [(down, (None,) * len(places)), (down, ("",) * len(places)), (down, ({},) * len(places))]
    return [value for value in near if value != picture or isinstance(value, list)]


def with_bools(picture):
    """The same picture with bools in place of the machines 0 and 1, each alone."""
    down, places = picture
    rows = [(part, at) for part in (0, 1) for at, number in enumerate(picture[part]) if number in (0, 1)]
    found = []
    for part, at in rows:
        changed = [list(down), list(places)]
        changed[part][at] = bool(changed[part][at])
        found.append((tuple(changed[0]), tuple(changed[1])))
    return found


class TableTest(unittest.TestCase):
    def check_table(self, house, most):
        told = ends(house, most)
        table = Table(house, most, limit=len(told))
        self.assertEqual(table.pictures(), sorted(told))
        self.assertEqual([table.number_of(picture) for picture in table.pictures()],
                         [told[picture] for picture in sorted(told)])
        for picture in told:
            history = table.run_to(picture)
            self.assertEqual((end_of(house, history, most), len(history)), (picture, told[picture]))
        for picture in all_pictures(house):
            if picture not in told:
                self.assertIsNone(table.number_of(picture))
        if len(told) > 1:
            with self.assertRaises(TooMany) as caught:
                Table(house, most, limit=len(told) - 1)
            self.assertEqual(caught.exception.limit, len(told) - 1)

    def test_each_order_and_rule_of_one_service(self):
        for machines in (1, 2, 3):
            for order in all_orders(machines):
                for rule in RULES:
                    for most in range(machines + 2):
                        with self.subTest(machines=machines, order=order, rule=rule, most=most):
                            self.check_table(House([9] * machines, [(4, order, rule)]), most)

    def test_several_services(self):
        for house in some_houses(House, 16, 60, 4, 3):
            for most in range(len(house) + 2):
                with self.subTest(services=house.services(), machines=len(house), most=most):
                    self.check_table(house, most)

    def test_five_machines(self):
        rows = [(1, (0, 1, 2, 3, 4), "stay"), (1, (4, 2, 0), "home"), (1, (3, 1), "first"), (1, (2,), "stay")]
        for most in (0, 1, 2, 5, 10 ** 30):
            self.check_table(House([9] * 5, rows), most)

    def test_no_services(self):
        for most in range(5):
            self.check_table(House([9] * 3, []), most)
        self.assertEqual(Table(House([9], []), 1).pictures(), [((), ()), ((0,), ())])

    def test_no_events(self):
        house = House([9] * 3, [(1, (2, 1), "stay")])
        table = Table(house, 0, limit=1)
        start = ((), (2,))
        self.assertEqual((table.pictures(), table.number_of(start), table.run_to(start)), ([start], 0, []))

    def test_number_of_what_is_near_a_picture(self):
        house = House([9] * 3, [(4, (0, 1, 2), "stay"), (3, (1, 0), "home")])
        table = Table(house, 2)
        for picture in table.pictures():
            self.assertIsNotNone(table.number_of(picture))
            for value in near_pictures(picture) + with_bools(picture):
                with self.subTest(value=value):
                    self.assertIsNone(table.number_of(value))

    def test_number_of_any_value(self):
        house = House([9] * 2, [(4, (0, 1), "stay")])
        table = Table(house, 1)
        run = run_of(house, [("fall", 0)])
        told = [table.pictures(), run.events(), house.services(), house.services()[0], table, (run.picture(),) * 2]
        for value in odd_values(house, run) + told:
            with self.subTest(value=value):
                self.assertIsNone(table.number_of(value))
        self.assertEqual(table.number_of(run.picture()), 1)

    def test_number_of_pictures_with_too_many_down(self):
        house = House([9] * 3, [(4, (0, 1, 2), "stay")])
        table = Table(house, 1)
        self.assertIsNone(table.number_of(((0, 1), (2,))))
        self.assertEqual(Table(house, 2).number_of(((0, 1), (2,))), 2)

    def test_limits(self):
        house = House([9] * 4, [(4, (0, 1, 2, 3), "stay"), (4, (3, 2, 1, 0), "stay")])
        many = len(ends(house, 4))
        for limit in (1, 2, many - 1):
            with self.assertRaises(TooMany) as caught:
                Table(house, 4, limit=limit)
            self.assertEqual(caught.exception.limit, limit)
        for limit in (many, many + 1, 10 ** 30):
            self.assertEqual(len(Table(house, 4, limit=limit).pictures()), many)

    def test_limit_left_out_is_four_hundred(self):
        rows = [(1, (1, 0, 2, 3, 4), "stay"), (1, (1, 4, 2, 3, 0), "stay"), (1, (0, 2, 3, 4, 1), "stay")]
        found = []
        for services in (rows[:2], rows, [*rows, (1, (4, 0, 2, 3, 1), "stay")]):
            house = House([9] * 5, services)
            for most in (0, 1, 2, 3, 4, 5):
                many = len(ends(house, most))
                found.append(many > 400)
                if many > 400:
                    with self.assertRaises(TooMany) as caught:
                        Table(house, most)
                    self.assertEqual(caught.exception.limit, 400)
                else:
                    self.assertEqual(len(Table(house, most).pictures()), many)
        self.assertEqual(set(found), {True, False})

    def test_limit_goes_by_its_name_alone(self):
        self.assertRaises(TypeError, Table, House([9], []), 1, 400)

    def test_by_name_and_by_position(self):
        house = House([9] * 2, [(4, (0, 1), "stay")])
        table = Table(house=house, most=1, limit=4)
        self.assertEqual(table.pictures(), Table(house, 1).pictures())
        self.assertEqual(table.number_of(picture=((), (1,))), 2)
        self.assertEqual(table.run_to(picture=((), (1,))), [("fall", 0), ("rise", 0)])
        self.assertIs(is_closed(house=house, most=1, value=table.pictures()), True)

    def test_lists_are_new_each_time(self):
        house = House([9] * 2, [(4, (0, 1), "stay")])
        table = Table(house, 1)
        for call in (table.pictures, lambda: table.run_to(((), (1,))), lambda: table.run_to(((), (0,)))):
            one, two = call(), call()
            self.assertEqual(one, two)
            self.assertIsNot(one, two)
            one.append(7)
            self.assertEqual(call(), two)
        self.assertEqual([table.number_of(((), (1,))) for _ in range(2)], [2, 2])


class IsClosedTest(unittest.TestCase):
    def setUp(self):
        self.house = House([9] * 3, [(4, (0, 1, 2), "stay"), (3, (1, 0), "home")])

    def closed(self, value, most=2):
        found = is_closed(self.house, most, value)
        self.assertIs(type(found), bool)
        return found

    def test_the_table_itself_in_any_order(self):
        source = random.Random(3)
        for house in some_houses(House, 17, 60, 4, 3):
            for most in range(len(house) + 2):
                pictures = sorted(ends(house, most))
                for _ in range(3):
                    self.assertIs(is_closed(house, most, pictures), True)
                    source.shuffle(pictures)

    def test_all_pictures_are_closed_for_each_number(self):
        for house in (self.house, House([9] * 4, [(1, (0, 2, 3), rule) for rule in RULES]), House([9], [])):
            for most in (0, 1, 2, 5, 10 ** 30):
                self.assertIs(is_closed(house, most, all_pictures(house)), True)

    def test_lists_of_any_pictures(self):
        """Closures of any pictures, and the same with one picture left out, doubled or put in."""
        source = random.Random(4)
        for house in some_houses(House, 18, 60, 3, 2):
            for most in range(len(house) + 1):
                pictures = self.closure(house, most, [begin(house), *source.sample(all_pictures(house), 1)])
                self.assertIs(is_closed(house, most, pictures), True)
                for at in range(len(pictures)):
                    fewer = pictures[:at] + pictures[at + 1:]
                    self.assertIs(is_closed(house, most, fewer), told_closed(house, most, fewer))
                    self.assertIs(is_closed(house, most, pictures + [pictures[at]]), False)
                for picture in all_pictures(house):
                    more = pictures + [picture]
                    self.assertIs(is_closed(house, most, more), told_closed(house, most, more))
                    changed = pictures[:-1] + [picture]
                    self.assertIs(is_closed(house, most, changed), told_closed(house, most, changed))

    def closure(self, house, most, pictures):
        found = list(dict.fromkeys(pictures))
        for picture in found:
            for event in next_events(house, picture, most):
                after = picture_behind(house, picture, event)
                if after not in found:
                    found.append(after)
        return found

    def test_pictures_with_more_machines_down_than_the_number(self):
        table = sorted(ends(self.house, 1))
        self.assertIs(self.closed(table, 1), True)
        self.assertIs(self.closed(table + [((0, 1, 2), (-1, -1))], 1), True)
        wanted = [picture_behind(self.house, ((0, 1), (2, -1)), event) for event in (("rise", 0), ("rise", 1))]
        self.assertIs(self.closed(table + [((0, 1), (2, -1))], 1), all(picture in table for picture in wanted))
        self.assertIs(self.closed([begin(self.house), ((0, 1), (2, -1))], 0), True)
        self.assertIs(self.closed([begin(self.house), ((0,), (2, 1))], 0), False)

    def test_a_picture_that_is_the_end_of_no_history(self):
        table = sorted(ends(self.house, 2))
        other = ((2,), (-1, -1))
        self.assertNotIn(other, table)
        self.assertIs(self.closed(table + [other]), False)
        whole = self.closure(self.house, 2, table + [other])
        self.assertGreater(len(whole), len(table) + 1)
        self.assertIs(self.closed(whole), True)
        for picture in whole:
            self.assertEqual(self.closed([one for one in whole if one != picture]),
                             told_closed(self.house, 2, [one for one in whole if one != picture]))

    def test_without_the_beginning(self):
        self.assertIs(self.closed([], 2), False)
        self.assertIs(self.closed([((0, 1, 2), (-1, -1))], 0), False)
        self.assertIs(self.closed([begin(self.house)], 0), True)
        for most in (1, 2):
            pictures = [picture for picture in ends(self.house, most) if picture != begin(self.house)]
            self.assertIs(self.closed(pictures, most), False)

    def test_parts_of_other_kinds(self):
        pictures = sorted(ends(self.house, 2))
        for at, picture in enumerate(pictures):
            for value in near_pictures(picture) + with_bools(picture):
                changed = pictures[:at] + [value] + pictures[at + 1:]
                with self.subTest(value=value):
                    self.assertIs(self.closed(changed), False)
                    self.assertIs(self.closed(pictures + [value]), False)
                    self.assertIs(self.closed([begin(self.house), value], 0), False)

    def test_values_that_are_no_pictures(self):
        wrong = [((0,), (0, 1)), ((0,), (1, 0)), ((1,), (0, 1)), ((), (0, 2)), ((), (3, 1)), ((), (-2, 1))]
        wrong += [((1, 0), (2, -1)), ((0, 0), (1, 1)), ((3,), (0, 1)), ((-1,), (0, 1)), ((), (0,)), ((), (0, 1, 1))]
        for value in wrong:
            with self.subTest(value=value):
                self.assertIs(self.closed([begin(self.house), value], 0), False)
                self.assertIs(self.closed([value, begin(self.house)], 0), False)
        for value in (((), (2, -1)), ((0,), (-1, 1)), ((1, 2), (-1, -1)), ((0, 1, 2), (-1, -1)), ((2,), (1, 0))):
            for most in (0, 1, 2):
                with self.subTest(value=value, most=most):
                    pictures = [*ends(self.house, most), value]
                    self.assertIs(self.closed(pictures, most), told_closed(self.house, most, pictures))

    def test_any_value(self):
        run = run_of(self.house, [("fall", 0)])
        table = Table(self.house, 2)
        told = [run.events(), run.picture(), self.house.services(), table, tuple(table.pictures()), [table.pictures()]]
        told += [{picture: True for picture in table.pictures()}, table.pictures() + [None], table.pictures() + [[]]]
        for value in odd_values(self.house, Run(self.house)) + told:
            for most in (0, 2):
                with self.subTest(value=value):
                    self.assertIs(self.closed(value, most), False)

    def test_bools_are_not_machines_although_they_are_equal_to_them(self):
        house = House([9, 9], [(1, (0, 1), "stay")])
        pictures = Table(house, 1).pictures()
        self.assertIs(is_closed(house, 1, pictures), True)
        self.assertEqual(pictures[1], ((), (True,)))
        self.assertIs(is_closed(house, 1, [pictures[0], ((), (True,)), *pictures[2:]]), False)
        self.assertIs(is_closed(house, 1, [*pictures[:3], ((True,), (0,))]), False)
        self.assertIs(is_closed(house, 1, [((), (False,)), *pictures[1:]]), False)

    def test_the_value_is_not_changed(self):
        value = sorted(ends(self.house, 2))
        kept = copy.deepcopy((value, self.house))
        self.assertEqual([self.closed(value), self.closed(value), self.closed(value[:-1])], [True, True, False])
        self.assertEqual((value, self.house), kept)

    def test_houses_of_one_machine_and_of_no_services(self):
        one = House([9], [(1, (0,), "stay")])
        self.assertIs(is_closed(one, 1, [((), (0,)), ((0,), (-1,))]), True)
        self.assertIs(is_closed(one, 1, [((), (0,)), ((0,), (-1,)), ((), (-1,))]), True)
        self.assertIs(is_closed(one, 1, [((), (0,)), ((0,), (0,))]), False)
        none = House([9, 9], [])
        self.assertIs(is_closed(none, 1, [((), ()), ((0,), ()), ((1,), ())]), True)
        self.assertIs(is_closed(none, 2, [((), ()), ((0,), ()), ((1,), ())]), False)


class TimeTest(unittest.TestCase):
    def largest(self):
        """Five services that go far apart, so that the table is a long one."""
        orders = [(1, 0, 2, 3, 4), (1, 4, 2, 3, 0), (0, 2, 3, 4, 1), (4, 0, 2, 3, 1), (1, 4, 0, 2, 3)]
        return House([9] * 5, [(1, order, "stay") for order in orders])

    def test_a_large_table(self):
        house = self.largest()
        for most in (2, 5, 10 ** 30):
            self.assertLess(seconds_of(lambda most=most: Table(house, most, limit=10 ** 6).pictures()), 1)
        table = Table(house, 5, limit=10 ** 6)
        self.assertGreater(len(table.pictures()), 1000)
        self.assertLess(seconds_of(lambda: is_closed(house, 5, table.pictures())), 1)
        self.assertLess(seconds_of(lambda: self.assertRaises(TooMany, Table, house, 5, limit=1000)), 1)

    def test_all_pictures_of_a_large_house(self):
        house = self.largest()
        pictures = all_pictures(house)
        self.assertEqual(len(pictures), 36232)
        self.assertIs(is_closed(house, 5, pictures), True)
        self.assertLess(seconds_of(lambda: is_closed(house, 5, pictures)), 1.5)
        self.assertIs(is_closed(house, 5, pictures[:-1]), False)

    def test_long_lists_of_one_picture(self):
        house = self.largest()
        pictures = list(itertools.repeat(begin(house), 10 ** 6))
        self.assertLess(seconds_of(lambda: self.assertIs(is_closed(house, 5, pictures), False)), 1)


if __name__ == "__main__":
    unittest.main()
