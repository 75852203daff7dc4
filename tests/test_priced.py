"""Point 21, and point 3 as far as it is about falls that have prices."""

import copy
import itertools
import random
import unittest

from nextalive.houses import House
from nextalive.priced import breaking_purse, cost, gather_priced, is_priced_bar, purse_of, worst_priced
from nextalive.runs import Run
from nextalive.worst import gather, is_bar, worst_load
from tests.brute import RULES, begin, end_of, load_of, lots, next_events, odd_values, picture_behind, seconds_of
from tests.brute import some_histories, some_houses

WORDS = ("far", "many", "stuck")


def told_cost(prices, machines):
    return sum(prices[machine] for machine in set(machines))


def priced_ends(house, prices, purse):
    """All ends of histories within the purse."""
    found = [begin(house)]
    known = set(found)
    for picture in found:
        for event in next_events(house, picture, len(house)):
            after = picture_behind(house, picture, event)
            if told_cost(prices, after[0]) <= purse and after not in known:
                known.add(after)
                found.append(after)
    return found


def told_purse(house, prices, history):
    """The dearest moment of a history of the house."""
    picture, purse = begin(house), 0
    for event in history:
        assert event in next_events(house, picture, len(house)), (event, history)
        picture = picture_behind(house, picture, event)
        purse = max(purse, told_cost(prices, picture[0]))
    return purse


def told_bar(house, machine, prices, purse, word, numbers):
    """Whether these are a priced bar, by the words of points 12 and 21, for a lot of one or more services."""
    rows = [house.services()[number] for number in numbers]
    if word == "far":
        order = rows[0][1]
        return len(rows) == 1 and (machine not in order or told_cost(prices, order[:order.index(machine)]) > purse)
    if not all(machine in order for _, order, _ in rows):
        return False
    if word == "many":
        if any(rule == "stay" for _, _, rule in rows):
            return False
        ahead = {other for _, order, rule in rows if rule == "first" for other in order[:order.index(machine)]}
        homes = {order[0] for _, order, rule in rows if rule == "home"} - {machine}
        return told_cost(prices, ahead | homes) > purse
    if any(rule != "home" or order[0] == machine for _, order, rule in rows):
        return False
    for at, (_, order, _) in enumerate(rows):
        others = {other[1][0] for place, other in enumerate(rows) if place != at}
        if told_cost(prices, {*order[:order.index(machine)], *others}) <= purse:
            return False
    return True


def some_prices(source, machines):
    kind = source.randrange(4)
    if kind == 0:
        return [source.choice((1, 7, 10 ** 9))] * machines
    return [source.choice(((0, 1, 2), (0, 0, 5), (1, 2, 3, 4, 5, 6))[kind - 1]) for _ in range(machines)]


def some_purses(source, prices):
    """Purses of each kind: 0, what some machines cost, one less and one more, and more than all prices together."""
    exact = source.choice(lots(len(prices)))
    told = told_cost(prices, exact)
    return sorted({0, told, max(0, told - 1), told + 1, sum(prices) + source.randint(0, 2)})


class Checks(unittest.TestCase):
    def check_house(self, house, prices, purse):
        """All that is told of a house, held against all of its pictures within the purse."""
        pictures = priced_ends(house, prices, purse)
        for machine in range(len(house)):
            alive = [picture for picture in pictures if machine not in picture[0]]
            self.check_load(house, machine, prices, purse, max(load_of(house, picture, machine) for picture in alive))
            for services in lots(len(house.services())):
                told = any(all(picture[1][number] == machine for number in services) for picture in alive)
                self.check_gather(house, machine, services, prices, purse, told)

    def check_load(self, house, machine, prices, purse, load):
        found = worst_priced(house, machine, prices, purse)
        self.assertEqual((type(found), found[0]), (tuple, load), (house.services(), machine, prices, purse))
        self.check_history(house, machine, prices, purse, found[1], load)

    def check_history(self, house, machine, prices, purse, history, load):
        end = end_of(house, history)
        self.assertLessEqual(told_purse(house, prices, history), purse)
        self.assertNotIn(machine, end[0])
        self.assertEqual(load_of(house, end, machine), load)

    def check_gather(self, house, machine, services, prices, purse, told):
        word, found = gather_priced(house, machine, services, prices, purse)
        self.assertEqual(word, "yes" if told else "no", (house.services(), machine, services, prices, purse))
        if told:
            down, places = end_of(house, found)
            self.assertLessEqual(told_purse(house, prices, found), purse)
            self.assertNotIn(machine, down)
            self.assertEqual([places[number] for number in services], [machine] * len(services))
        else:
            self.assertIn(found[1], lots(5)[1:])
            self.assertLessEqual(set(found[1]), set(services))
            self.assertTrue(told_bar(house, machine, prices, purse, *found), found)
            self.assertIs(is_priced_bar(house, machine, prices, purse, found), True)

    def check_breaking(self, house, machine, prices):
        """Held against all purses that can matter: what some machines cost."""
        strength = house.strengths()[machine]
        told = None
        for purse in sorted({told_cost(prices, lot) for lot in lots(len(house))}, reverse=True):
            alive = [one for one in priced_ends(house, prices, purse) if machine not in one[0]]
            if max(load_of(house, picture, machine) for picture in alive) > strength:
                told = purse
        found = breaking_purse(house, machine, prices)
        if told is None:
            self.assertIsNone(found)
            return None
        self.assertEqual((type(found), found[0]), (tuple, told))
        end = end_of(house, found[1])
        self.assertLessEqual(told_purse(house, prices, found[1]), told)
        self.assertNotIn(machine, end[0])
        self.assertGreater(load_of(house, end, machine), strength)
        return told


class CostTest(unittest.TestCase):
    def test_each_machine_once_in_any_order(self):
        prices = [3, 2, 1, 0, 10 ** 9]
        for machines in lots(5):
            for row in itertools.permutations(machines):
                self.assertEqual(cost(prices, row), sum(prices[machine] for machine in machines))
        self.assertEqual([cost([0], ()), cost([0], (0,)), cost([7] * 5, (0, 1, 2, 3, 4))], [0, 0, 35])

    def test_purse_of_histories(self):
        source = random.Random(71)
        for house in some_houses(House, 71, 100, 5, 3):
            prices = some_prices(source, len(house))
            for history in some_histories(house, 2, 4, 14, len(house)):
                self.assertEqual(purse_of(house, prices, history), told_purse(house, prices, history))

    def test_the_dearest_moment_counts(self):
        house = House([9] * 3, [])
        history = [("fall", 0), ("fall", 1), ("rise", 0), ("fall", 2), ("rise", 1)]
        self.assertEqual(purse_of(house, [5, 3, 1], history), 8)
        self.assertEqual(purse_of(house, [5, 3, 6], history), 9)
        self.assertEqual(purse_of(house, [5, 3, 6], history[:1]), 5)
        self.assertEqual(purse_of(house, [0, 3, 6], history[:1]), 0)
        self.assertEqual(purse_of(house, [5, 3, 6], []), 0)

    def test_long_histories(self):
        house = House([9] * 2, [(1, (0, 1), "stay")])
        history = [("fall", 0), ("rise", 0)] * 5000 + [("fall", 1)]
        self.assertEqual(purse_of(house, [4, 5], history), 5)
        self.assertEqual(purse_of(house, [4, 5], history[:-1]), 4)


class GatherTest(Checks):
    def test_small_houses(self):
        source = random.Random(72)
        for house in some_houses(House, 72, 150, 4, 3):
            prices = some_prices(source, len(house))
            for purse in some_purses(source, prices):
                self.check_house(house, prices, purse)

    def test_services_that_go_home(self):
        source = random.Random(73)
        words = []
        for _ in range(60):
            rows = [(2 ** at, tuple([*source.sample(range(4), source.randint(1, 3)), 4]), "home") for at in range(3)]
            house, prices = House([9] * 5, rows), [source.randint(0, 3) for _ in range(5)]
            for purse in some_purses(source, prices):
                self.check_house(house, prices, purse)
                words.append(gather_priced(house, 4, (0, 1, 2), prices, purse)[1])
        self.assertEqual({word[0] for word in words if isinstance(word, tuple)}, set(WORDS))

    def test_five_machines_and_four_services(self):
        source = random.Random(74)
        for house in some_houses(House, 74, 12, 5, 4):
            prices = some_prices(source, len(house))
            for purse in some_purses(source, prices)[1:3]:
                self.check_house(house, prices, purse)

    def test_the_row_in_which_they_come_matters(self):
        """Machine 1 is dear, so what has it ahead comes first, while no home of the other one has to stay down."""
        house = House([9] * 4, [(1, (0, 3), "home"), (1, (2, 1, 3), "home")])
        prices = [2, 3, 1, 9]
        self.assertEqual(gather_priced(house, 3, (0, 1), prices, 3), ("no", ("far", (1,))))
        word, history = gather_priced(house, 3, (0, 1), prices, 4)
        self.assertEqual((word, told_purse(house, prices, history)), ("yes", 4))
        self.check_house(house, prices, 4)
        self.check_house(house, prices, 3)

    def test_no_services_asked(self):
        house = House([9] * 3, [(4, (0, 2), "first")])
        for machine in range(3):
            for prices, purse in (([1, 1, 1], 0), ([0, 5, 10 ** 9], 7)):
                self.check_gather(house, machine, (), prices, purse, True)

    def test_a_machine_that_costs_nothing_falls_within_each_purse(self):
        house = House([9] * 2, [(4, (0, 1), "stay"), (3, (1, 0), "home")])
        self.assertEqual([gather_priced(house, 1, (0,), prices, 0)[0] for prices in ([0, 1], [1, 0])], ["yes", "no"])
        self.assertEqual([worst_priced(house, machine, [0, 1], 0)[0] for machine in (0, 1)], [4, 7])

    def test_great_prices(self):
        house = House([10 ** 10] * 5, [(10 ** 9, (0, 1, 2, 3, 4), rule) for rule in RULES])
        prices = [10 ** 9] * 5
        for purse in (0, 10 ** 9, 4 * 10 ** 9 - 1, 4 * 10 ** 9, 10 ** 30):
            self.check_house(house, prices, purse)
        self.assertEqual(worst_priced(house, 4, prices, 4 * 10 ** 9 - 1)[0], 0)
        self.assertEqual(worst_priced(house, 4, prices, 4 * 10 ** 9)[0], 3 * 10 ** 9)

    def test_prices_of_one_are_numbers(self):
        for house in some_houses(House, 75, 80, 5, 4):
            prices = [1] * len(house)
            for most in range(len(house) + 2):
                for machine in range(len(house)):
                    self.assertEqual(worst_priced(house, machine, prices, most), worst_load(house, machine, most))
                    for services in lots(len(house.services())):
                        found = gather_priced(house, machine, services, prices, most)
                        self.assertEqual(found, gather(house, machine, services, most))
                    for word, numbers in itertools.product(WORDS, lots(len(house.services()))):
                        found = is_priced_bar(house, machine, prices, most, (word, numbers))
                        self.assertIs(found, is_bar(house, machine, most, (word, numbers)))

    def test_two_lists_of_prices_for_one_house(self):
        rows = [(4, (0, 2), "first"), (3, (0, 1, 2), "home"), (2, (1, 2), "home")]
        house = House([9, 9, 5], rows)
        for prices in ([3, 2, 1], [1, 2, 3], [0, 0, 0], [3, 2, 1]):
            for purse in (0, 3, 5):
                for machine in range(3):
                    new = House([9, 9, 5], rows)
                    self.assertEqual(worst_priced(house, machine, prices, purse),
                                     worst_priced(new, machine, prices, purse))
                    self.assertEqual(breaking_purse(house, machine, prices), breaking_purse(new, machine, prices))
                    self.assertEqual(gather_priced(house, machine, (0, 2), prices, purse),
                                     gather_priced(new, machine, (0, 2), prices, purse))


class PricedBarTest(unittest.TestCase):
    def test_all_lots_and_words(self):
        source = random.Random(76)
        found = []
        for house in some_houses(House, 76, 150, 5, 4):
            prices = some_prices(source, len(house))
            for purse in some_purses(source, prices):
                for machine in range(len(house)):
                    for word, numbers in itertools.product(WORDS, lots(len(house.services()))):
                        told = bool(numbers) and told_bar(house, machine, prices, purse, word, numbers)
                        self.assertIs(is_priced_bar(house, machine, prices, purse, (word, numbers)), told)
                        found.append((word, told))
        self.assertEqual(set(found), set(itertools.product(WORDS, (True, False))))

    def test_each_word_just_at_the_purse_and_one_below(self):
        far = House([9] * 4, [(1, (0, 1, 2, 3), "stay")])
        self.assertEqual([is_priced_bar(far, 3, [1, 2, 4, 9], purse, ("far", (0,))) for purse in (6, 7)], [True, False])
        many = House([9] * 4, [(1, (0, 1, 3), "first"), (1, (2, 3), "home")])
        found = [is_priced_bar(many, 3, [1, 2, 4, 9], purse, ("many", (0, 1))) for purse in (6, 7)]
        self.assertEqual(found, [True, False])
        stuck = House([9] * 5, [(1, (0, 1, 4), "home"), (1, (2, 3, 4), "home")])
        found = [is_priced_bar(stuck, 4, [1, 2, 4, 8, 9], purse, ("stuck", (0, 1))) for purse in (6, 7)]
        self.assertEqual(found, [True, False])

    def test_near_ones(self):
        house = House([9] * 5, [(1, (0, 1, 4), "home"), (1, (2, 3, 4), "home"), (1, (0, 1, 2, 4), "first")])
        prices, purse = [2, 2, 2, 2, 0], 2
        for word, numbers in [("far", (0,)), ("many", (0, 1)), ("many", (0, 1, 2)), ("stuck", (0, 1))]:
            self.assertIs(is_priced_bar(house, 4, prices, purse, (word, numbers)), True)
            near = [[word, numbers], (word, list(numbers)), (word,), (numbers,), (word, numbers, 0), (numbers, word)]
            near += [(word, (*numbers, 3)), (word, (*numbers, -1)), (word, ()), (word, (numbers,)), (word, *numbers)]
            near += [(word, numbers + numbers), (word, (0, 0)), (word, None), (word.upper(), numbers), ("", numbers)]
            near += [(None, numbers), ([word], numbers), ((word,), numbers), (True, numbers), {word: numbers}]
            near += [(word, {0: 1}), (word, tuple(bool(number) for number in numbers)), (word, (False, True))]
            near += [(word, (False,)), (word, (10 ** 30,)), (word, ("0",)), (word, ([],)), (word, "0")]
            near += [(word, numbers[::-1])] if len(numbers) > 1 else []
            for value in near:
                with self.subTest(value=value):
                    self.assertIs(is_priced_bar(house, 4, prices, purse, value), False)

    def test_any_value(self):
        house = House([9] * 3, [(4, (0, 2), "first"), (3, (0, 1, 2), "home"), (2, (1, 2), "home")])
        prices = [3, 2, 1]
        told = [gather_priced(house, 2, (0, 1), prices, 9), worst_priced(house, 2, prices, 9), prices, house.services()]
        for value in odd_values(house, Run(house)) + told + [breaking_purse(house, 2, prices)]:
            for purse in (0, 3, 5):
                self.assertIs(is_priced_bar(house, 2, prices, purse, value), False)


class BreakingTest(Checks):
    def test_small_houses(self):
        source = random.Random(77)
        found = []
        for house in some_houses(House, 77, 120, 4, 4):
            prices = some_prices(source, len(house))
            for machine in range(len(house)):
                found.append(self.check_breaking(house, machine, prices))
        self.assertGreater(found.count(None), 50)
        self.assertGreater(len([purse for purse in found if purse]), 15)

    def test_one_less_does_not_break(self):
        source = random.Random(78)
        for house in some_houses(House, 78, 100, 5, 5):
            prices = [source.randint(0, 10 ** 9) for _ in range(len(house))]
            for machine in range(len(house)):
                found = breaking_purse(house, machine, prices)
                if found is not None and found[0] > 0:
                    strength = house.strengths()[machine]
                    self.assertGreater(worst_priced(house, machine, prices, found[0])[0], strength)
                    self.assertLessEqual(worst_priced(house, machine, prices, found[0] - 1)[0], strength)
                if found is None:
                    self.assertLessEqual(worst_load(house, machine, 5)[0], house.strengths()[machine])

    def test_from_the_beginning(self):
        house = House([3, 9], [(4, (0, 1), "first")])
        self.assertEqual(breaking_purse(house, 0, [5, 5]), (0, []))
        self.assertIsNone(breaking_purse(house, 1, [5, 5]))

    def test_just_at_a_strength_and_one_above_it(self):
        rows = [(4, (0, 1), "first"), (3, (1,), "stay")]
        self.assertIsNone(breaking_purse(House([9, 7], rows), 1, [5, 6]))
        self.assertEqual(breaking_purse(House([9, 6], rows), 1, [5, 6]), (5, [("fall", 0)]))
        self.assertEqual(breaking_purse(House([9, 6], rows), 1, [0, 6]), (0, [("fall", 0)]))


class PlainTest(unittest.TestCase):
    def setUp(self):
        self.house = House([9, 9, 5], [(4, (0, 2), "first"), (3, (0, 1, 2), "home"), (2, (1, 2), "home")])
        self.prices = [3, 2, 1]

    def test_by_name_and_by_position(self):
        house, prices = self.house, self.prices
        self.assertEqual(cost(machines=(0, 1), prices=prices), 5)
        self.assertEqual(purse_of(history=[("fall", 1)], prices=prices, house=house), 2)
        found = gather_priced(purse=3, prices=prices, services=(0, 2), machine=2, house=house)
        self.assertEqual(found, gather_priced(house, 2, (0, 2), prices, 3))
        self.assertIs(is_priced_bar(value=("far", (1,)), purse=4, prices=prices, machine=2, house=house), True)
        self.assertEqual(worst_priced(purse=5, prices=prices, machine=2, house=house),
                         worst_priced(house, 2, prices, 5))
        self.assertEqual(breaking_purse(prices=prices, machine=2, house=house), breaking_purse(house, 2, prices))

    def test_lists_are_new_each_time_and_nothing_is_changed(self):
        house, prices, history = self.house, self.prices, [("fall", 1), ("rise", 1)]
        kept = copy.deepcopy((house, prices, history))
        calls = [lambda: gather_priced(house, 2, (0, 1), prices, 9)[1],
                 lambda: gather_priced(house, 2, (), prices, 0)[1],
                 lambda: worst_priced(house, 2, prices, 9)[1], lambda: worst_priced(house, 2, prices, 0)[1],
                 lambda: breaking_purse(house, 2, prices)[1]]
        for call in calls:
            one, two = call(), call()
            self.assertEqual(one, two)
            self.assertIsNot(one, two)
            one.append(7)
            self.assertEqual(call(), two)
        value = ["far", [1]]
        self.assertEqual([is_priced_bar(house, 2, prices, 4, value), value], [False, ["far", [1]]])
        self.assertEqual([purse_of(house, prices, history), cost(prices, (0,))], [2, 3])
        self.assertEqual((house, prices, history), kept)

    def test_time(self):
        turned = [tuple((at + step) % 5 for step in range(5)) for at in range(5)]
        for rules in (("home",) * 5, ("stay",) * 5, ("first",) * 5, ("home", "stay", "first", "home", "home")):
            for strength in (0, 4 * 10 ** 9, 5 * 10 ** 9):
                house = House([strength] * 5, [(10 ** 9, order, rule) for order, rule in zip(turned, rules)])
                prices = [10 ** 9 - 2 ** at for at in range(5)]
                self.assertLess(seconds_of(lambda: breaking_purse(house, 4, prices)), 1)
                self.assertLess(seconds_of(lambda: worst_priced(house, 4, prices, 3 * 10 ** 9)), 1)


del Checks

if __name__ == "__main__":
    unittest.main()
