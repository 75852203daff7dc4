"""Point 16, and point 3 as far as it is about moves."""

import copy
import unittest

from nextalive.errors import NoWay
from nextalive.houses import House
from nextalive.moves import most_moves, moves, moving
from tests.brute import RULES, all_orders, begin, end_of, next_events, picture_behind, seconds_of
from tests.brute import some_histories, some_houses


def told_moves(house, service, history):
    """The number of moves, from the pictures behind each part of the history."""
    places = [end_of(house, history[:many])[1][service] for many in range(len(history) + 1)]
    return sum(one != two for one, two in zip(places, places[1:]))


def most_by_number(house, service, events, most):
    """The greatest number of moves for each number of events, by going through all pictures."""
    best, found = {begin(house): 0}, [0]
    for _ in range(events):
        behind = {}
        for picture, number in best.items():
            for event in next_events(house, picture, most):
                after = picture_behind(house, picture, event)
                moved = number + (after[1][service] != picture[1][service])
                behind[after] = max(moved, behind.get(after, moved))
        best = behind
        found.append(max(best.values()))
    return found


class MovesTest(unittest.TestCase):
    def test_moves_of_histories(self):
        for house in some_houses(House, 20, 60, 5, 3):
            for most in (1, 2, 5):
                for history in some_histories(house, most, 4, 25, most):
                    for service in range(len(house.services())):
                        with self.subTest(services=house.services(), service=service, history=history):
                            self.assertEqual(moves(house, service, history), told_moves(house, service, history))

    def test_to_go_nowhere_and_to_come_back_is_to_be_moved(self):
        house = House([9, 9], [(1, (0,), rule) for rule in RULES] + [(1, (1,), "first")])
        history = [("fall", 0), ("fall", 1), ("rise", 0), ("fall", 0)]
        self.assertEqual([moves(house, service, history) for service in range(4)], [3, 3, 3, 1])
        self.assertEqual([moves(house, 0, history[:many]) for many in range(5)], [0, 1, 1, 2, 3])

    def test_no_events(self):
        house = House([9, 9], [(1, (0, 1), rule) for rule in RULES])
        self.assertEqual([moves(house, service, []) for service in range(3)], [0, 0, 0])

    def test_rules(self):
        house = House([9] * 3, [(1, (0, 1, 2), rule) for rule in RULES])
        history = [("fall", 0), ("fall", 1), ("rise", 1), ("rise", 0)]
        self.assertEqual([moves(house, service, history) for service in range(3)], [4, 3, 2])

    def test_a_long_history(self):
        house = House([9] * 3, [(1, (0, 1, 2), rule) for rule in RULES])
        history = [("fall", 0), ("rise", 0)] * 20000
        self.assertEqual([moves(house, service, history) for service in range(3)], [40000, 40000, 1])
        self.assertLess(seconds_of(lambda: moves(house, 2, history)), 1)


class MostMovesTest(unittest.TestCase):
    def check_service(self, house, service, most, events):
        for number, told in enumerate(most_by_number(house, service, events, most)):
            self.assertEqual(most_moves(house, service, number, most), told, (house.services(), number, most))
            self.check_moving(house, service, number, most, told)

    def check_moving(self, house, service, events, most, told):
        history = moving(house, service, events, most)
        self.assertEqual(len(history), events)
        end_of(house, history, most)
        self.assertEqual(moves(house, service, history), told)

    def test_few_events_of_each_order_and_rule(self):
        for machines in (1, 2, 3):
            for order in all_orders(machines):
                for rule in RULES:
                    house = House([9] * machines, [(4, order, rule)])
                    for most in range(1, machines + 3):
                        with self.subTest(order=order, rule=rule, most=most):
                            self.check_service(house, 0, most, 12)

    def test_orders_of_four_and_five_machines(self):
        for order in ((3, 1, 0, 2), (2, 3, 1), (1, 3), (0,), (4, 0, 3, 1, 2), (2, 4, 1)):
            for rule in RULES:
                machines = 5 if max(order) == 4 else 4
                for most in range(1, machines + 2):
                    with self.subTest(order=order, rule=rule, most=most):
                        self.check_service(House([9] * machines, [(4, order, rule)]), 0, most, 14)

    def test_several_services(self):
        for house in some_houses(House, 21, 25, 4, 3):
            for service in range(len(house.services())):
                for most in (1, 2, len(house)):
                    self.check_service(house, service, most, 8)

    def test_up_to_a_hundred_events(self):
        for order in ((0, 1, 2, 3, 4), (2, 0, 1), (4,)):
            for rule in RULES:
                house = House([9] * 5, [(1, (1, 2), "stay"), (4, order, rule)])
                for most in (1, 2, 3, 4, 5, 6, 10 ** 30):
                    for events in (0, 1, 2, 3, 4, 5, 6, 7, 50, 99, 100):
                        with self.subTest(order=order, rule=rule, most=most, events=events):
                            self.check_moving(house, 1, events, most, most_moves(house, 1, events, most))

    def test_services_that_stay_on_orders_longer_than_the_number(self):
        house = House([9] * 5, [(4, (0, 1, 2, 3, 4), "stay"), (4, (3, 1, 2), "stay")])
        self.assertEqual([most_moves(house, 0, events, 3) for events in range(9)], [0, 1, 2, 3, 3, 4, 4, 5, 5])
        self.assertEqual([most_moves(house, 1, events, 2) for events in range(9)], [0, 1, 2, 2, 3, 3, 4, 4, 5])
        self.assertEqual([most_moves(house, 1, events, 3) for events in range(9)], list(range(9)))
        self.assertEqual([most_moves(house, 0, events, 5) for events in range(9)], list(range(9)))

    def test_very_many_events(self):
        house = House([9] * 5, [(4, (0, 1, 2, 3, 4), rule) for rule in RULES])
        many = 10 ** 18
        for most in (1, 2, 3, 4):
            found = [most_moves(house, service, events, most) for service in range(3) for events in (many, many - 1)]
            self.assertEqual(found, [many, many - 1] * 2 + [(many + most) // 2, (many - 1 + most) // 2])
        for most in (5, 6, 10 ** 18, 10 ** 30):
            self.assertEqual([most_moves(house, service, many, most) for service in range(3)], [many] * 3)
        self.assertEqual(most_moves(House([9], [(1, (0,), "stay")]), 0, many, 1), many)

    def test_no_history_of_so_many_events(self):
        house = House([9] * 3, [(1, order, rule) for order in ((0,), (0, 1, 2)) for rule in RULES[1:]])
        for service in range(4):
            for call in (most_moves, moving):
                for events in (1, 2, 100) + ((10 ** 18,) if call is most_moves else ()):
                    with self.subTest(service=service, events=events), self.assertRaises(NoWay) as caught:
                        call(house, service, events, 0)
                    self.assertEqual(caught.exception.needed, 1)
            self.assertEqual((most_moves(house, service, 0, 0), moving(house, service, 0, 0)), (0, []))
            self.assertEqual((most_moves(house, service, 0, 1), moving(house, service, 0, 1)), (0, []))

    def test_by_name_and_by_position(self):
        house = House([9] * 3, [(4, (0, 1, 2), "stay")])
        history = [("fall", 0), ("rise", 0)]
        self.assertEqual(moves(house=house, service=0, history=history), moves(house, 0, history))
        self.assertEqual(most_moves(house=house, service=0, events=9, most=2), most_moves(house, 0, 9, 2))
        self.assertEqual(moving(house=house, service=0, events=9, most=2), moving(house, 0, 9, 2))

    def test_lists_are_new_each_time_and_nothing_is_changed(self):
        house = House([9] * 3, [(4, (0, 1, 2), "stay")])
        history = [("fall", 0), ("rise", 0), ("fall", 1)]
        kept = copy.deepcopy((house, history))
        self.assertEqual([moves(house, 0, history) for _ in range(2)], [2, 2])
        self.assertEqual((house, history), kept)
        for events in (0, 5):
            one, two = moving(house, 0, events, 2), moving(house, 0, events, 2)
            self.assertEqual(one, two)
            self.assertIsNot(one, two)
            one.append(7)
            self.assertEqual(moving(house, 0, events, 2), two)
        self.assertEqual([most_moves(house, 0, 7, 2) for _ in range(2)], [4, 4])
        self.assertEqual(house, kept[0])


if __name__ == "__main__":
    unittest.main()
