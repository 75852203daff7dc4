"""Points 22 and 23, and point 3 as far as it is about rolling upkeep."""

import copy
import random
import unittest

from nextalive.errors import TooMany
from nextalive.houses import House
from nextalive.rolling import is_barring, is_calm, is_light, is_rolling, rolling
from nextalive.runs import Run
from tests.brute import RULES, all_pictures, begin, end_of, load_of, lots, next_events, odd_values, picture_behind
from tests.brute import seconds_of, some_histories, some_houses


def calm(house, picture):
    return all(load_of(house, picture, machine) <= strength for machine, strength in enumerate(house.strengths()))


def light(house, picture):
    return calm(house, picture) and -1 not in picture[1]


def following(house, most, standing):
    """All tuples (event, standing) that come of a standing, by the words of point 23."""
    picture, done = standing
    found = []
    for event in next_events(house, picture, most):
        after = picture_behind(house, picture, event)
        if light(house, after):
            found.append((event, (after, tuple(sorted({*done, event[1]} if event[0] == "fall" else done)))))
    return found


def standings(house, most):
    """All standings that come of the beginning, which is light, each with the least number of events."""
    found = {(begin(house), ()): 0}
    for standing in (queue := list(found)):
        for _, after in following(house, most, standing):
            if after not in found:
                found[after] = found[standing] + 1
                queue.append(after)
    return found


def over(house, standing):
    return standing[0][0] == () and standing[1] == tuple(range(len(house)))


def told_barring(house, most, value):
    """Whether a list of standings is a barring list, by the words of point 23."""
    start = (begin(house), ())
    if not light(house, start[0]):
        return value == []
    if len(set(value)) < len(value) or start not in value:
        return False
    if not all(light(house, standing[0]) and not over(house, standing) for standing in value):
        return False
    return all(after in value for standing in value for _, after in following(house, most, standing))


def told_rolling(house, most, history):
    """Whether a history within most is a rolling one, by the words of point 22."""
    picture, fallen = begin(house), set()
    if not light(house, picture):
        return False
    for event in history:
        picture = picture_behind(house, picture, event)
        fallen |= {event[1]} if event[0] == "fall" else set()
        if not light(house, picture):
            return False
    return picture[0] == () and len(fallen) == len(house)


def rolled_houses(seed, many, machines, services):
    """Houses with strengths about as great as their loads, most of them with a light beginning."""
    source = random.Random(seed)
    found = []
    for house in some_houses(House, seed, many, machines, services):
        start = begin(house)
        strengths = [load_of(house, start, machine) + source.choice((0, 3, 9, 30)) for machine in range(len(house))]
        if source.random() < 0.05:
            strengths[0] = max(0, strengths[0] - 31)
        found.append(House(strengths, house.services()))
    return found


class CalmTest(unittest.TestCase):
    def test_pictures_of_all_kinds(self):
        found = []
        for house in some_houses(House, 81, 60, 4, 3):
            for picture in all_pictures(house):
                self.assertIs(is_calm(house, picture), calm(house, picture))
                self.assertIs(is_light(house, picture), light(house, picture))
                found.append((calm(house, picture), light(house, picture)))
        self.assertEqual(set(found), {(True, True), (True, False), (False, False)})

    def test_just_at_a_strength_and_one_above_it(self):
        house = House([9, 4, 0], [(5, (0, 1), "first"), (4, (0, 1), "stay"), (1, (2,), "home")])
        self.assertEqual([is_calm(house, ((), places)) for places in ((0, 0, 2), (0, 0, -1), (0, 1, -1), (1, 0, -1))],
                         [False, True, True, False])
        self.assertEqual([is_light(house, ((), places)) for places in ((0, 0, 2), (0, 0, -1), (0, 1, -1))],
                         [False] * 3)
        house = House([9, 4, 1], house.services())
        self.assertEqual([is_light(house, ((), places)) for places in ((0, 0, 2), (0, 1, 2), (1, 0, 2), (0, 0, -1))],
                         [True, True, False, False])

    def test_no_services(self):
        house = House([0, 0], [])
        for down in lots(2):
            self.assertEqual([is_calm(house, (down, ())), is_light(house, (down, ()))], [True, True])

    def test_nowhere_while_a_machine_lives(self):
        house = House([9, 9], [(4, (0, 1), "first")])
        for down in lots(2):
            self.assertEqual([is_calm(house, (down, (-1,))), is_light(house, (down, (-1,)))], [True, False])


class RollingTest(unittest.TestCase):
    def check_rolling(self, house, most):
        found = rolling(house, most)
        self.assertEqual((type(found), len(found), type(found[1])), (tuple, 2, list))
        if not light(house, begin(house)):
            self.assertEqual(found, ("no", []))
            self.assertEqual(rolling(house, most, limit=1), ("no", []))
            return "heavy"
        told = standings(house, most)
        ends = [told[standing] for standing in told if over(house, standing)]
        self.assertEqual(found[0], "yes" if ends else "no", (house.services(), house.strengths(), most))
        if ends:
            self.assertEqual(len(found[1]), min(ends))
            end_of(house, found[1], most)
            self.assertTrue(told_rolling(house, most, found[1]))
            self.assertIs(is_rolling(house, most, found[1]), True)
            self.assertIs(is_barring(house, most, list(told)), False)
        else:
            self.assertTrue(told_barring(house, most, found[1]))
            self.assertIs(is_barring(house, most, found[1]), True)
        self.check_limit(house, most, len(told), found)
        return found[0]

    def check_limit(self, house, most, many, found):
        self.assertEqual(rolling(house, most, limit=many), found)
        for limit in {1, many - 1} - {0, many}:
            with self.assertRaises(TooMany) as caught:
                rolling(house, most, limit=limit)
            self.assertEqual(caught.exception.limit, limit)

    def test_small_houses(self):
        found = []
        for house in rolled_houses(82, 150, 3, 3):
            for most in range(len(house) + 2):
                found.append(self.check_rolling(house, most))
        self.assertGreater(min(found.count(word) for word in ("yes", "no", "heavy")), 10)

    def test_four_and_five_machines(self):
        words = []
        for house in rolled_houses(83, 25, 5, 4):
            if light(house, begin(house)):
                for most in (1, 2):
                    if len(standings(house, most)) <= 4000:
                        words.append(self.check_rolling(house, most))
        self.assertGreater(min(words.count(word) for word in ("yes", "no")), 5)

    def test_no_services(self):
        for machines in (1, 2, 3):
            house = House([0] * machines, [])
            self.assertEqual(rolling(house, 0), ("no", [(((), ()), ())]))
            for most in range(1, machines + 2):
                word, history = rolling(house, most)
                self.assertEqual((word, len(history)), ("yes", 2 * machines))
                self.check_rolling(house, most)

    def test_a_number_of_none(self):
        house = House([9, 9], [(4, (0, 1), "stay")])
        self.assertEqual(rolling(house, 0), ("no", [(((), (0,)), ())]))
        self.assertEqual(rolling(house, 0, limit=1), ("no", [(((), (0,)), ())]))

    def test_a_beginning_that_is_not_light(self):
        house = House([3, 9], [(4, (0, 1), "stay")])
        for most in (0, 1, 2):
            self.assertEqual([rolling(house, most), rolling(house, most, limit=1)], [("no", [])] * 2)
            self.assertIs(is_barring(house, most, []), True)
            self.assertIs(is_barring(house, most, [(((), (1,)), ())]), False)
            self.assertIs(is_barring(house, most, [(((), (0,)), ())]), False)
            self.assertIs(is_rolling(house, most, [("fall", 0), ("rise", 0), ("fall", 1), ("rise", 1)]), False)

    def test_a_service_with_one_machine_bars_all(self):
        house = House([9, 9], [(4, (0,), "stay")])
        word, found = rolling(house, 2)
        self.assertEqual((word, sorted(found)), ("no", [(((), (0,)), ()), (((), (0,)), (1,)), (((1,), (0,)), (1,))]))

    def test_a_machine_falls_more_than_once(self):
        """Machine 2 has to fall for machine 0 to be left, and again for machine 1 to be left."""
        rows = [(2, (0, 2, 1), "home"), (2, (2, 1, 0), "stay"), (3, (1, 2, 0), "first")]
        house = House([8, 5, 2], rows)
        word, history = rolling(house, 2)
        self.assertEqual((word, len(history), rolling(house, 1)[0]), ("yes", 8, "no"))
        self.check_rolling(house, 2)
        self.check_rolling(house, 1)

    def test_limit_left_out_is_four_thousand(self):
        orders = [(1, 0, 2, 3, 4), (1, 4, 2, 3, 0), (4, 0, 2, 3, 1), (1, 4, 0, 3, 2)]
        few = House([9] * 5, [(1, order, "stay") for order in orders])
        many = House([9] * 5, [*few.services(), (1, (0, 2, 3, 4, 1), "stay")])
        self.assertLessEqual(len(standings(few, 5)), 4000)
        self.assertEqual(rolling(few, 5)[0], "yes")
        self.assertGreater(len(standings(many, 5)), 4000)
        with self.assertRaises(TooMany) as caught:
            rolling(many, 5)
        self.assertEqual(caught.exception.limit, 4000)

    def test_limit_goes_by_its_name_alone(self):
        self.assertRaises(TypeError, rolling, House([9], []), 1, 400)


class IsRollingTest(unittest.TestCase):
    def test_all_histories(self):
        found = []
        for house in rolled_houses(85, 120, 3, 2):
            for most in (1, 2):
                for history in some_histories(house, 3, 12, 12, most):
                    told = told_rolling(house, most, history)
                    self.assertIs(is_rolling(house, most, history), told)
                    found.append(told)
        self.assertGreater(found.count(True), 20)

    def test_near_ones(self):
        house = House([9, 9, 9], [(4, (0, 1), "stay"), (3, (1, 2), "first")])
        history = rolling(house, 1)[1]
        self.assertIs(is_rolling(house, 1, history), True)
        for at, event in enumerate(history):
            for put in ([], [event, event], [list(event)], [event[::-1]], [(event[0], bool(event[1]))], [None]):
                value = history[:at] + put + history[at + 1:]
                self.assertIs(is_rolling(house, 1, value), False, value)
        for value in (tuple(history), [history], history + [("fall", 0)], history[:-1], history[2:], [], None):
            self.assertIs(is_rolling(house, 1, value), False, value)
        self.assertIs(is_rolling(house, 0, history), False)
        self.assertIs(is_rolling(house, 2, history), True)
        self.assertIs(is_rolling(house, 1, history * 400), True)

    def test_pictures_that_are_not_light_on_the_way(self):
        both = [("fall", 0), ("rise", 0), ("fall", 1), ("rise", 1)]
        found = [is_rolling(House(strengths, [(4, (0, 1), "stay")]), 1, both) for strengths in ([4, 4], [4, 3], [3, 4])]
        self.assertEqual(found, [True, False, False])
        self.assertIs(is_rolling(House([9, 9], [(4, (0,), "stay")]), 1, both), False)
        down = [("fall", 0), ("fall", 1), ("rise", 0), ("rise", 1)]
        self.assertIs(is_rolling(House([9, 9], [(4, (0, 1), "stay")]), 2, down), False)
        self.assertIs(is_rolling(House([9, 9, 9], [(4, (2,), "stay")]), 2, down), False)

    def test_any_value(self):
        house = House([9, 9], [(4, (0, 1), "stay")])
        for value in odd_values(house, Run(house)) + [rolling(house, 1), standings(house, 1), [[]]]:
            self.assertIs(is_rolling(house, 1, value), False)


def near_standings(standing):
    """Values that are near a standing of a house that has services, and are none."""
    (down, places), done = standing
    picture = standing[0]
    near = [[picture, done], (picture,), (done,), (done, picture), (picture, done, ()), (picture, list(done))]
    near += [([down, places], done), ((down, list(places)), done), ((list(down), places), done), (places, done)]
    near += [(picture, (*done, 9)), (picture, (-1, *done)), (picture, (*done, *done, 0, 0)), (picture, None)]
    near += [(picture, done[0] if done else 0), (picture, "".join(str(machine) for machine in done) or "0")]
    near += [((down, (*places, 0)), done), ((down, places[:-1]), done), ((down, (9,) * len(places)), done)]
    near += [(picture, tuple(bool(machine) for machine in done[:2]))] if set(done) & {0, 1} else []
    near += [(picture, done[::-1])] if len(done) > 1 else []
    near += [(picture, tuple(machine for machine in done if machine != out)) for out in down]
    return near


class IsBarringTest(unittest.TestCase):
    def all_standings(self, house):
        found = []
        for picture in all_pictures(house):
            found += [(picture, done) for done in lots(len(house)) if set(picture[0]) <= set(done)]
        return found

    def closure(self, house, most, more):
        """All that comes of the beginning and of these standings."""
        found = {(begin(house), ()): True, **{standing: True for standing in more}}
        for standing in (queue := list(found)):
            fresh = [after for _, after in following(house, most, standing) if after not in found]
            found.update({after: True for after in fresh})
            queue.extend(fresh)
        return list(found)

    def test_lists_of_any_standings(self):
        source = random.Random(86)
        found = []
        for house in rolled_houses(86, 80, 3, 2):
            everything = self.all_standings(house)
            lights = [standing for standing in everything if light(house, standing[0])] or everything
            for most in range(len(house) + 1):
                value = self.closure(house, most, source.sample(lights, min(2, len(lights))))
                source.shuffle(value)
                values = [value, value + source.sample(everything, 1), value + value[:1]]
                values += [value[:at] + value[at + 1:] for at in range(min(6, len(value)))]
                for at in range(min(3, len(value))):
                    values += [value[:at] + source.sample(everything, 1) + value[at + 1:]]
                for one in values:
                    told = told_barring(house, most, one)
                    self.assertIs(is_barring(house, most, one), told, (house.services(), most, one))
                    found.append(told)
        self.assertGreater(min(found.count(True), found.count(False)), 50)

    def test_told_ones_with_parts_changed(self):
        source = random.Random(87)
        changed = 0
        for house in rolled_houses(87, 60, 3, 2):
            for most in (0, 1, 2):
                word, value = rolling(house, most)
                if word == "yes" or not value or not house.services():
                    continue
                self.assertIs(is_barring(house, most, value), True)
                for value_in_it in source.sample(value, min(4, len(value))):
                    at = value.index(value_in_it)
                    for near in near_standings(value_in_it):
                        self.assertIs(is_barring(house, most, value[:at] + [near] + value[at + 1:]), False, near)
                        self.assertIs(is_barring(house, most, value + [near]), False, near)
                        changed += 1
                self.assertIs(is_barring(house, most, tuple(value)), False)
                self.assertIs(is_barring(house, most, [value]), False)
                self.assertIs(is_barring(house, most, {standing: True for standing in value}), False)
        self.assertGreater(changed, 500)

    def test_more_machines_down_than_the_number(self):
        house = House([9] * 3, [(4, (0, 1, 2), "stay")])
        start = (((), (0,)), ())
        self.assertIs(is_barring(house, 0, [start]), True)
        self.assertIs(is_barring(house, 0, [start, (((0, 1), (2,)), (0, 1))]), True)
        self.assertIs(is_barring(house, 0, [start, (((0, 1), (2,)), (0, 1, 2))]), True)
        self.assertIs(is_barring(house, 0, [start, (((0, 1), (2,)), (0,))]), False)
        self.assertIs(is_barring(house, 0, [start, (((0,), (1,)), (0,))]), False)
        self.assertIs(is_barring(house, 0, [start, (((0,), (1,)), (0,)), (((), (1,)), (0,))]), True)
        self.assertIs(is_barring(house, 0, [start, (((0, 1, 2), (-1,)), (0, 1, 2))]), False)

    def test_standings_that_are_over(self):
        house = House([9] * 2, [(4, (0, 1), "stay")])
        start = (((), (0,)), ())
        self.assertIs(is_barring(house, 0, [start, (((), (1,)), (0,))]), True)
        self.assertIs(is_barring(house, 0, [start, (((), (1,)), (0, 1))]), False)
        self.assertIs(is_barring(house, 0, [start, (((0,), (1,)), (0, 1))]), False)

    def test_the_empty_list(self):
        for strengths, told in (([4, 4], False), ([3, 4], True), ([4, 3], False)):
            house = House(strengths, [(4, (0, 1), "stay")])
            for most in (0, 1, 2):
                self.assertIs(is_barring(house, most, []), told)
                for value in ((), {}, None, "", 0, False, [[]], [()]):
                    self.assertIs(is_barring(house, most, value), False)

    def test_any_value(self):
        for house in (House([9, 9], [(4, (0, 1), "stay")]), House([3, 9], [(4, (0, 1), "stay")])):
            for value in odd_values(house, Run(house)) + [rolling(house, 1), standings(house, 1), [None], [[]]]:
                if value != [] or not isinstance(value, list):
                    self.assertIs(is_barring(house, 1, value), False)


class PlainTest(unittest.TestCase):
    def test_by_name_and_by_position(self):
        house = House([9, 9], [(4, (0, 1), "stay")])
        self.assertEqual(rolling(limit=40, most=1, house=house), rolling(house, 1))
        self.assertIs(is_calm(picture=((), (0,)), house=house), True)
        self.assertIs(is_light(picture=((), (-1,)), house=house), False)
        self.assertIs(is_rolling(value=rolling(house, 1)[1], most=1, house=house), True)
        self.assertIs(is_barring(value=rolling(house, 0)[1], most=0, house=house), True)

    def test_lists_are_new_each_time_and_nothing_is_changed(self):
        house = House([9, 9], [(4, (0, 1), "stay")])
        heavy = House([3, 9], [(4, (0, 1), "stay")])
        kept = copy.deepcopy((house, heavy))
        for call in (lambda: rolling(house, 1)[1], lambda: rolling(house, 0)[1], lambda: rolling(heavy, 1)[1]):
            one, two = call(), call()
            self.assertEqual(one, two)
            self.assertIsNot(one, two)
            one.append(7)
            self.assertEqual(call(), two)
        history, standing = rolling(house, 1)[1], rolling(house, 0)[1]
        values = copy.deepcopy((history, standing))
        self.assertEqual([is_rolling(house, 1, history), is_barring(house, 0, standing)] * 2, [True] * 4)
        self.assertEqual(((history, standing), (house, heavy)), (values, kept))

    def test_time(self):
        turned = [tuple((at + step) % 5 for step in range(5)) for at in range(5)]
        for rules in (("stay",) * 5, ("home",) * 5, ("first", "home", "stay", "home", "stay")):
            for services in (3, 4, 5):
                house = House([9] * 5, [(1, order, rule) for order, rule in zip(turned[:services], rules)])
                for most in (1, 2, 5):
                    self.assertLess(seconds_of(lambda: self.answer(house, most)), 3)

    def answer(self, house, most):
        try:
            return rolling(house, most)
        except TooMany:
            return None


if __name__ == "__main__":
    unittest.main()
