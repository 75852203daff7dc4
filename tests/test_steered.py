"""Points 26 and 27, and point 3 as far as it is about a steerer."""

import copy
import random
import unittest

from nextalive.errors import NoFall, NoRise, NothingDone, NoWay, TooMany, TooManyDown
from nextalive.houses import House
from nextalive.runs import Run
from nextalive.steered import Steering, behind_carry, carries, is_breaking, is_keeping, steered
from tests.brute import all_pictures, begin, load_of, lots, next_events, odd_values, picture_behind, seconds_of
from tests.brute import RULES, some_houses


def calm(house, picture):
    return all(load_of(house, picture, machine) <= strength for machine, strength in enumerate(house.strengths()))


def told_carries(house, picture):
    """All carries, by the words of point 26."""
    down, places = picture
    found = []
    for service, (_, order, _) in enumerate(house.services()):
        for machine in range(len(house)):
            if machine in order and machine not in down and places[service] not in (-1, machine):
                found.append((service, machine))
    return [None] + found


def told_behind(picture, carry):
    if carry is None:
        return picture
    places = list(picture[1])
    places[carry[0]] = carry[1]
    return picture[0], tuple(places)


def answers(house, picture):
    """The calm pictures behind the carries that can follow."""
    found = [told_behind(picture, carry) for carry in told_carries(house, picture)]
    return [after for after in found if calm(house, after)]


def reached(house, most):
    """All calm pictures that come of a calm beginning by events within most, each with any carry."""
    found = [begin(house)]
    known = set(found)
    for picture in found:
        for event in next_events(house, picture, most):
            for after in answers(house, picture_behind(house, picture, event)):
                if after not in known:
                    known.add(after)
                    found.append(after)
    return found


def kept_of(house, most, pictures):
    """Those of some calm pictures from which the steerer can keep the house; what comes of them is among them."""
    kept = set(pictures)
    lines = {picture: [answers(house, picture_behind(house, picture, event))
                       for event in next_events(house, picture, most)] for picture in pictures}
    while True:
        left = {picture for picture in kept if all(any(after in kept for after in row) for row in lines[picture])}
        if left == kept:
            return kept
        kept = left


def told_keeping(house, most, value):
    """Whether a list of pictures is a keeping list, by the words of point 27."""
    if len(set(value)) < len(value) or begin(house) not in value or not all(calm(house, one) for one in value):
        return False
    return all(any(after in value for after in answers(house, picture_behind(house, picture, event)))
               for picture in value for event in next_events(house, picture, most))


def told_breaking(house, most, value):
    """Whether a dict from pictures to tuples (rank, event) is a breaking dict, by the words of point 27."""
    if not calm(house, begin(house)):
        return value == {}
    if begin(house) not in value or not all(calm(house, picture) for picture in value):
        return False
    for picture, (rank, event) in value.items():
        if rank < 0 or event not in next_events(house, picture, most):
            return False
        for after in answers(house, picture_behind(house, picture, event)):
            if after not in value or value[after][0] >= rank:
                return False
    return True


def steered_houses(seed, many, machines, services):
    """Houses of two to so many machines with strengths that make the game no trifle, a few with none that is calm."""
    source = random.Random(seed)
    found = []
    for _ in range(many):
        size, number = source.randint(2, machines), source.randint(1, services)
        rows = [(source.randint(1, 3), tuple(source.sample(range(size), source.randint(min(2, size), size))),
                 source.choice(RULES)) for _ in range(number)]
        house = House([9] * size, rows)
        strengths = [max(load_of(house, begin(house), machine), source.randint(1, 3 + number))
                     for machine in range(size)]
        if source.random() < 0.1:
            strengths[source.randrange(size)] = 0
        found.append(House(strengths, rows))
    return found


class CarryTest(unittest.TestCase):
    def test_pictures_of_all_kinds(self):
        for house in some_houses(House, 101, 60, 4, 3):
            for picture in all_pictures(house):
                found = carries(house, picture)
                self.assertEqual(found, told_carries(house, picture))
                self.assertEqual((type(found), found[0], sorted(found[1:])), (list, None, found[1:]))
                for carry in found:
                    self.assertEqual(behind_carry(picture, carry), told_behind(picture, carry))

    def test_in_order_and_not_in_that_of_the_service(self):
        house = House([9] * 4, [(4, (3, 1, 0), "first"), (4, (2,), "stay"), (4, (0, 3, 2, 1), "home")])
        found = carries(house, ((), (1, 2, 3)))
        self.assertEqual(found, [None, (0, 0), (0, 3), (2, 0), (2, 1), (2, 2)])
        self.assertEqual(carries(house, ((0, 3), (1, -1, -1))), [None])
        self.assertEqual(carries(house, ((0, 3), (-1, 2, 1))), [None, (2, 2)])

    def test_no_services_and_all_down(self):
        self.assertEqual(carries(House([9], []), ((), ())), [None])
        self.assertEqual(carries(House([9], [(4, (0,), "stay")]), ((0,), (-1,))), [None])
        self.assertEqual(behind_carry(((0,), (-1, 2)), None), ((0,), (-1, 2)))


class Checks(unittest.TestCase):
    def check_steered(self, house, most):
        found = steered(house, most)
        self.assertEqual((type(found), len(found)), (tuple, 2))
        if not calm(house, begin(house)):
            self.assertEqual([found, steered(house, most, limit=1)], [("breaks", {})] * 2)
            self.assertIs(is_breaking(house, most, {}), True)
            return "not calm"
        pictures = reached(house, most)
        kept = kept_of(house, most, pictures)
        told = "keeps" if begin(house) in kept else "breaks"
        self.assertEqual(found[0], told, (house.services(), house.strengths(), most))
        if told == "keeps":
            self.assertIs(type(found[1]), list)
            self.assertTrue(told_keeping(house, most, found[1]))
        else:
            self.assertIs(type(found[1]), dict)
            self.assertTrue(told_breaking(house, most, found[1]))
        self.assertIs(is_keeping(house, most, found[1]), told == "keeps")
        self.assertIs(is_breaking(house, most, found[1]), told == "breaks")
        self.check_limit(house, most, len(pictures), found)
        return told

    def check_limit(self, house, most, many, found):
        self.assertEqual(steered(house, most, limit=many), found)
        for limit in {1, many - 1} - {0, many}:
            with self.assertRaises(TooMany) as caught:
                steered(house, most, limit=limit)
            self.assertEqual(caught.exception.limit, limit)

    def check_stand(self, steering, stands):
        self.assertEqual((steering.picture(), len(steering)), (stands[-1][0], len(stands) - 1))

    def told_advice(self, house, most, stands, kept):
        """What advice has to tell, for all pictures from which the steerer can keep the house."""
        picture, is_event = stands[-1]
        for carry in told_carries(house, picture) if is_event else [None]:
            if told_behind(picture, carry) in kept:
                return "yes", carry
        return "no", None

    def do_any(self, source, house, most, steering, stands):
        """One deed, or one undone; stands is the list of the pictures, each with whether it is behind an event."""
        picture, is_event = stands[-1]
        events = next_events(house, picture, most)
        offers = told_carries(house, picture)[1:] if is_event else []
        if len(stands) > 1 and source.random() < 0.15:
            self.assertIsNone(steering.undo())
            stands.pop()
        elif offers and source.random() < 0.5:
            carry = source.choice(offers)
            self.assertIsNone(steering.carry(*carry))
            stands.append((told_behind(picture, carry), False))
        elif events:
            word, machine = source.choice(events)
            self.assertIsNone({"fall": steering.fall, "rise": steering.rise}[word](machine))
            stands.append((picture_behind(house, picture, (word, machine)), True))


class SteeredTest(Checks):
    def test_small_houses(self):
        found = []
        for house in steered_houses(102, 200, 3, 3):
            for most in range(len(house) + 2):
                found.append(self.check_steered(house, most))
        self.assertGreater(min(found.count(word) for word in ("keeps", "breaks", "not calm")), 20)

    def test_four_machines(self):
        found = []
        for house in steered_houses(103, 40, 4, 4):
            for most in (1, 2):
                found.append(self.check_steered(house, most))
        self.assertGreater(min(found.count(word) for word in ("keeps", "breaks")), 5)

    def test_ranks_from_some_depth(self):
        """Houses in which the steerer can hold out for some events, but not for ever."""
        deepest = 0
        for house in steered_houses(104, 200, 4, 3):
            for most in (1, 2):
                word, found = steered(house, most)
                if word == "breaks" and found:
                    deepest = max(deepest, self.depth(house, found))
        self.assertGreaterEqual(deepest, 3)

    def depth(self, house, rows):
        """How many events the steerer can hold out at most, if those of the dict come."""
        held = {}
        for picture in sorted(rows, key=lambda one: rows[one][0]):
            after = picture_behind(house, picture, rows[picture][1])
            held[picture] = 1 + max([held[one] for one in answers(house, after)], default=0)
        return held[begin(house)]

    def test_no_services_and_a_number_of_none(self):
        for machines in (1, 3):
            house = House([0] * machines, [])
            for most in range(machines + 1):
                self.assertEqual(self.check_steered(house, most), "keeps")
        house = House([4, 0], [(4, (0, 1), "stay")])
        self.assertEqual([steered(house, 0), steered(house, 0, limit=1)], [("keeps", [((), (0,))])] * 2)
        self.assertEqual((self.check_steered(house, 1), begin(house) in steered(house, 1)[1]), ("breaks", True))

    def test_nowhere_is_calm(self):
        house = House([4, 9], [(4, (0,), "stay")])
        self.assertEqual(self.check_steered(house, 1), "keeps")

    def test_limit_left_out_is_three_thousand(self):
        turned = [tuple((at + step) % 5 for step in range(5)) for at in range(5)]
        few, many = House([9] * 5, [(1, order, "stay") for order in turned[:4]]), \
            House([9] * 5, [(1, order, "stay") for order in turned])
        self.assertEqual(len(reached(few, 5)), 5 ** 4 + 5 * 4 ** 4 + 10 * 3 ** 4 + 10 * 2 ** 4 + 5 + 1)
        self.assertEqual((steered(few, 5)[0], len(steered(few, 5)[1])), ("keeps", 2881))
        with self.assertRaises(TooMany) as caught:
            steered(many, 1)
        self.assertEqual(caught.exception.limit, 3000)
        self.assertEqual(len(steered(many, 1, limit=10 ** 4)[1]), 5 ** 5 + 5 * 4 ** 5)

    def test_limit_goes_by_its_name_alone(self):
        self.assertRaises(TypeError, steered, House([9], []), 1, 400)


def near_pictures(picture):
    """Values that are near a picture of a house that has services, and are none; equal ones with bools among them."""
    down, places = picture
    near = [[down, places], (down,), (places, down), (down, places, ()), (list(down), places), (down, list(places))]
    near += [(down, (*places, 0)), (down, places[:-1]), (down, (9,) * len(places)), ((*down, 9), places), None, ()]
    near += [(down, (None, *places[1:])), (down, (str(places[0]), *places[1:])), (None, places), (down, None)]
    near += [(down, (bool(places[0]), *places[1:]))] if places[0] in (0, 1) else []
    near += [((bool(down[0]), *down[1:]), places)] if down and down[0] in (0, 1) else []
    return near


class IsKeepingTest(unittest.TestCase):
    def keeping_lists(self, source, house, most):
        """Keeping lists with pictures of all kinds among them, where there are some."""
        everything = [picture for picture in all_pictures(house) if calm(house, picture)]
        kept = kept_of(house, most, everything)
        if begin(house) in kept:
            yield sorted(kept)
            yield source.sample(sorted(kept), len(kept))
            yield steered(house, most)[1]

    def test_lists_of_any_pictures(self):
        source = random.Random(105)
        found = []
        for house in steered_houses(105, 60, 3, 2):
            everything = all_pictures(house)
            for most in range(len(house) + 1):
                for value in self.keeping_lists(source, house, most):
                    self.assertIs(is_keeping(house, most, value), True)
                    values = [value + source.sample(everything, 1), value + value[:1]]
                    for _ in range(6):
                        at = source.randrange(len(value))
                        for put in ([], source.sample(everything, 1)):
                            values.append(value[:at] + put + value[at + 1:])
                    for one in values:
                        told = told_keeping(house, most, one)
                        self.assertIs(is_keeping(house, most, one), told, (house.services(), most, one))
                        found.append(told)
        self.assertGreater(min(found.count(True), found.count(False)), 100)

    def test_any_lists(self):
        source = random.Random(106)
        found = []
        for house in steered_houses(106, 80, 2, 2):
            everything = all_pictures(house)
            for most in range(len(house) + 1):
                for _ in range(8):
                    value = source.sample(everything, source.randint(0, len(everything)))
                    self.assertIs(is_keeping(house, most, value), told_keeping(house, most, value))
                    found.append(told_keeping(house, most, value))
        self.assertGreater(found.count(True), 3)

    def test_parts_of_other_kinds(self):
        house = House([4, 4, 4], [(4, (0, 1), "first"), (4, (1, 2), "stay")])
        value = steered(house, 1)[1]
        self.assertIs(is_keeping(house, 1, value), True)
        for at, picture in enumerate(value):
            for near in near_pictures(picture):
                self.assertIs(is_keeping(house, 1, value[:at] + [near] + value[at + 1:]), False, near)
                self.assertIs(is_keeping(house, 1, value + [near]), False, near)
                self.assertIs(is_keeping(house, 0, [begin(house), near]), False, near)
        for other in (tuple(value), [value], {picture: True for picture in value}, value + value, value[1:], None):
            self.assertIs(is_keeping(house, 1, other), False)

    def test_more_machines_down_than_the_number(self):
        house = House([8] * 3, [(4, (0, 1, 2), "first"), (3, (0, 1, 2), "stay")])
        start = ((), (0, 0))
        for value in ([start], [start, ((0, 1), (2, 2))], [start, ((0, 1, 2), (-1, -1))], [start, ((1,), (2, 0))],
                      [start, ((0,), (1, 1))], [start, ((1,), (2, 2)), ((), (1, 2))]):
            self.assertIs(is_keeping(house, 0, value), told_keeping(house, 0, value))
            self.assertIs(is_keeping(house, 0, value), True)
        for value in ([start, ((1,), (2, 2))], [start, ((1,), (2, 2)), ((), (2, 2))][:2], [((0, 1), (2, 2))]):
            self.assertIs(is_keeping(house, 0, value), told_keeping(house, 0, value))
            self.assertIs(is_keeping(house, 0, value), False)

    def test_a_beginning_that_is_not_calm(self):
        house = House([3, 9], [(4, (0, 1), "stay")])
        for value in ([], [((), (0,))], [((), (1,))], [((), (0,)), ((), (1,))]):
            for most in (0, 1):
                self.assertIs(is_keeping(house, most, value), False)

    def test_any_value(self):
        house = House([4, 4], [(4, (0, 1), "first")])
        for value in odd_values(house, Run(house)) + [steered(house, 1), Steering(house, 1), [None], [[]], [{}]]:
            self.assertIs(is_keeping(house, 1, value), False)


class IsBreakingTest(unittest.TestCase):
    def breaking_dicts(self, house, most):
        """A breaking dict of all pictures of the house that are lost, where the beginning is one of them."""
        everything = [picture for picture in all_pictures(house) if calm(house, picture)]
        if not calm(house, begin(house)) or begin(house) in kept_of(house, most, everything):
            return []
        found, rank = {}, 0
        while True:
            lost = {}
            for picture in everything:
                for event in next_events(house, picture, most) if picture not in found else []:
                    if all(after in found for after in answers(house, picture_behind(house, picture, event))):
                        lost[picture] = (rank, event)
            if not lost:
                return [found]
            found.update(lost)
            rank += 2

    def test_dicts_of_any_pictures(self):
        source = random.Random(107)
        found = []
        for house in steered_houses(107, 120, 3, 2):
            everything = all_pictures(house)
            for most in (1, 2):
                for value in self.breaking_dicts(house, most):
                    self.assertIs(is_breaking(house, most, value), True)
                    values = [{picture: value[picture] for picture in source.sample(sorted(value), len(value))}]
                    for picture in source.sample(sorted(value), min(4, len(value))):
                        rank, event = value[picture]
                        other = source.choice(next_events(house, picture, 9))
                        values += [{one: value[one] for one in value if one != picture}]
                        values += [{**value, picture: (other_rank, event)} for other_rank in (rank + 1, rank - 1, 0)]
                        values += [{**value, picture: (rank, other)}, {**value, picture: (10 ** 40, event)}]
                        values += [{**value, source.choice(everything): (99, other)}]
                    for one in values:
                        told = told_breaking(house, most, one)
                        self.assertIs(is_breaking(house, most, one), told, (house.services(), most, one))
                        found.append(told)
        self.assertGreater(min(found.count(True), found.count(False)), 100)

    def broken(self):
        """A house with a breaking dict of several ranks."""
        for house in steered_houses(104, 200, 4, 3):
            word, value = steered(house, 1)
            if word == "breaks" and 8 < len(value) < 60 and begin(house)[1]:
                return house, value
        return None

    def test_parts_of_other_kinds(self):
        house, value = self.broken()
        self.assertIs(is_breaking(house, 1, value), True)
        for picture, (rank, event) in value.items():
            rows = [[rank, event], (rank,), (event,), (event, rank), (rank, event, 0), (-1, event), (None, event)]
            rows += [(True, event), (False, event), (str(rank), event), ((rank,), event), (rank, list(event)), None]
            rows += [(rank, event[::-1]), (rank, event[:1]), (rank, (*event, 0)), (rank, None), (rank, ()), rank, event]
            rows += [(rank, (event[0], None)), (rank, (event[0], 9)), (rank, (event[0], -1)), (rank, (event[0], [0]))]
            rows += [(rank, ("fall" if event[0] == "rise" else "rise", event[1])), (rank, ("carry", event[1])), {}]
            rows += [(rank, (event[0], bool(event[1])))] if event[1] in (0, 1) else []
            for row in rows:
                self.assertIs(is_breaking(house, 1, {**value, picture: row}), False, row)
            without = {one: value[one] for one in value if one != picture}
            for near in near_pictures(picture):
                if not any(isinstance(part, list) for part in [near, *(near or ())]):
                    self.assertIs(is_breaking(house, 1, {**without, near: (rank, event)}), False, near)
                    self.assertIs(is_breaking(house, 1, {near: (rank, event), **without}), False, near)
        for other in (list(value), list(value.items()), [value], (value,), {}, None):
            self.assertIs(is_breaking(house, 1, other), False)

    def test_events_beyond_the_number(self):
        house = House([4, 4, 4], [(4, (0, 1), "first"), (4, (1, 2), "stay")])
        start = begin(house)
        self.assertIs(is_breaking(house, 1, {start: (0, ("fall", 0))}), False)
        house = House([4, 3, 9], [(4, (0, 1), "first")])
        self.assertEqual([is_breaking(house, most, {begin(house): (0, ("fall", 0))}) for most in (0, 1)], [False, True])

    def test_a_beginning_that_is_not_calm(self):
        house = House([3, 9], [(4, (0, 1), "stay")])
        for most in (0, 1, 2):
            self.assertIs(is_breaking(house, most, {}), True)
            for value in ({begin(house): (0, ("fall", 1))}, {((), (1,)): (0, ("fall", 1))}, [], (), None, 0, False, ""):
                self.assertIs(is_breaking(house, most, value), False)

    def test_any_value(self):
        for house in (House([4, 4], [(4, (0, 1), "first")]), House([4, 3], [(4, (0, 1), "first")])):
            for value in odd_values(house, Run(house)) + [steered(house, 1), Steering(house, 1), {1: 2}, {"": ()}]:
                self.assertIs(is_breaking(house, 1, value), False)


class SteeringTest(Checks):
    def test_deeds_and_advice_in_any_row(self):
        """Advice is held against the game over all calm pictures, also behind pictures that are not calm."""
        source = random.Random(108)
        found = []
        for house in steered_houses(108, 250, 4, 3):
            most = source.randint(0, len(house))
            kept = kept_of(house, most, [picture for picture in all_pictures(house) if calm(house, picture)])
            steering, stands = Steering(house, most), [(begin(house), False)]
            for _ in range(25):
                self.do_any(source, house, most, steering, stands)
                told = self.told_advice(house, most, stands, kept)
                self.assertEqual(steering.advice(), told, (house.services(), house.strengths(), most, stands))
                self.check_stand(steering, stands)
                found.append((calm(house, stands[-1][0]), stands[-1][1], told[0], told[1] is None))
            while len(stands) > 1:
                steering.undo()
                stands.pop()
                self.check_stand(steering, stands)
            for _ in range(2):
                self.assertRaises(NothingDone, steering.undo)
                self.check_stand(steering, stands)
        # Calm or not, behind an event or not, and each kind of advice that there can be then.
        self.assertEqual(len(set(found)), 8)

    def test_advice_from_four_machines(self):
        source = random.Random(109)
        for house in steered_houses(109, 40, 4, 4):
            most = source.randint(1, 2)
            kept = kept_of(house, most, [picture for picture in all_pictures(house) if calm(house, picture)])
            steering, stands = Steering(house, most), [(begin(house), False)]
            for _ in range(20):
                self.do_any(source, house, most, steering, stands)
                self.assertEqual(steering.advice(), self.told_advice(house, most, stands, kept))

    def test_who_follows_advice_from_a_kept_beginning_stays_calm(self):
        source = random.Random(110)
        followed = 0
        for house in steered_houses(110, 120, 4, 4):
            most = source.randint(1, 2)
            if steered(house, most)[0] == "keeps":
                steering = Steering(house, most)
                self.assertEqual(steering.advice(), ("yes", None))
                for _ in range(30):
                    word, machine = source.choice(next_events(house, steering.picture(), most))
                    {"fall": steering.fall, "rise": steering.rise}[word](machine)
                    answer, carry = steering.advice()
                    self.assertEqual(answer, "yes")
                    if carry is not None:
                        steering.carry(*carry)
                        followed += 1
                    self.assertTrue(calm(house, steering.picture()))
        self.assertGreater(followed, 50)

    def test_advice_where_the_beginning_is_not_kept(self):
        house = House([4, 3, 4], [(4, (0, 1, 2), "stay")])
        steering = Steering(house, 1)
        self.assertEqual((steered(house, 1)[0], steering.advice()), ("keeps", ("yes", None)))
        house = House([3, 4, 4], [(4, (0, 1, 2), "stay")])
        steering = Steering(house, 1)
        self.assertEqual((steered(house, 1), steering.advice()), (("breaks", {}), ("no", None)))
        steering.fall(0)
        self.assertEqual((steering.picture(), steering.advice()), (((0,), (1,)), ("yes", None)))
        steering.rise(0)
        self.assertEqual(steering.advice(), ("yes", None))

    def test_none_alone_behind_a_carry_and_at_the_beginning(self):
        house = House([9, 3, 4], [(4, (0, 1, 2), "stay")])
        steering = Steering(house, 1)
        steering.fall(0)
        self.assertEqual((steering.picture(), steering.advice()), (((0,), (1,)), ("yes", (0, 2))))
        steering.rise(0)
        steering.carry(0, 0)
        self.assertEqual(steering.advice(), ("yes", None))
        steering.undo()
        self.assertEqual(steering.advice(), ("yes", (0, 0)))
        steering.carry(0, 2)
        self.assertEqual((steering.advice(), len(steering)), (("yes", None), 3))
        house = House([3, 9], [(4, (0, 1), "home")])
        steering = Steering(house, 1)
        self.assertEqual(steering.advice(), ("no", None))

    def test_one_carry_behind_each_event(self):
        house = House([9] * 3, [(4, (0, 1, 2), "stay"), (3, (1, 2), "home")])
        steering = Steering(house, 1)
        self.assertRaises(NoWay, steering.carry, 0, 1)
        steering.fall(2)
        steering.carry(0, 1)
        self.assertRaises(NoWay, steering.carry, 0, 0)
        self.assertRaises(NoWay, steering.carry, 0, 0)
        steering.undo()
        steering.carry(0, 1)
        steering.rise(2)
        steering.carry(1, 2)
        self.assertEqual((steering.picture(), len(steering)), (((), (1, 2)), 4))
        steering.fall(0)
        steering.rise(0)
        self.assertEqual(steering.picture(), ((), (1, 2)))
        steering.carry(0, 0)
        for _ in range(7):
            steering.undo()
        self.assertRaises(NothingDone, steering.undo)
        self.assertRaises(NoWay, steering.carry, 0, 1)

    def test_a_house_that_goes_home_again_from_where_it_was_carried(self):
        for rule, place in (("first", 0), ("home", 0), ("stay", 2)):
            steering = Steering(House([9] * 3, [(4, (0, 1, 2), rule)]), 1)
            steering.fall(0)
            steering.carry(0, 2)
            steering.rise(0)
            self.assertEqual(steering.picture(), ((), (place,)))

    def test_a_carry_to_a_machine_that_cannot_bear_it(self):
        house = House([9, 0, 9], [(4, (0, 1, 2), "stay")])
        steering = Steering(house, 1)
        steering.fall(2)
        steering.carry(0, 1)
        self.assertEqual((steering.picture(), steering.advice()), (((2,), (1,)), ("no", None)))
        steering.rise(2)
        self.assertEqual(steering.advice(), ("yes", (0, 0)))

    def test_by_name(self):
        house = House([9] * 3, [(4, (0, 1), "stay")])
        steering = Steering(most=1, house=house)
        found = [steering.fall(machine=0), steering.rise(machine=0), steering.carry(machine=0, service=0)]
        self.assertEqual((found, steering.picture()), ([None] * 3, ((), (0,))))

    def test_time(self):
        turned = [tuple((at + step) % 5 for step in range(5)) for at in range(5)]
        source = random.Random(111)
        for strengths in ([9] * 5, [2] * 5, [0] + [3] * 4):
            for rules in (("stay",) * 5, ("first", "home", "stay", "home", "stay")):
                house = House(strengths, [(1, order, rule) for order, rule in zip(turned, rules)])
                for most in (1, 2, 5):
                    self.assertLess(seconds_of(lambda: self.answer(house, most)), 3)
                    steering = Steering(house, most)
                    for _ in range(5):
                        word, machine = source.choice(next_events(house, steering.picture(), most))
                        {"fall": steering.fall, "rise": steering.rise}[word](machine)
                        self.assertLess(seconds_of(steering.advice), 3)

    def answer(self, house, most):
        try:
            return steered(house, most)
        except TooMany:
            return None


class ErrorTest(Checks):
    def setUp(self):
        self.house = House([9] * 3, [(4, (0, 1), "stay"), (3, (0, 1, 2), "home"), (2, (2,), "first")])

    def check_refused(self, steering, call, kind, shown):
        stand = (steering.picture(), len(steering), steering.advice())
        for _ in range(2):
            with self.assertRaises(kind) as caught:
                call()
            self.assertEqual(list(vars(caught.exception)), list(shown))
            for name, value in shown.items():
                self.assertIs(getattr(caught.exception, name), value)
            self.assertEqual((steering.picture(), len(steering), steering.advice()), stand)

    def values(self):
        more = ["0", -2, 3, (0,), [0], {0: 0}, (0, 1), ("fall", 0), Steering(self.house, 1), 10 ** 30]
        return odd_values(self.house, Run(self.house)) + more

    def test_no_fall_no_rise_and_too_many_down(self):
        for most in (1, 2):
            steering = Steering(self.house, most)
            steering.fall(1)
            wrong = [value for value in self.values() if type(value) is not int or not 0 <= value < 3]
            for value in [*wrong, 1]:
                self.check_refused(steering, lambda value=value: steering.fall(value), NoFall, {"machine": value})
            for value in [*wrong, 0, 2]:
                self.check_refused(steering, lambda value=value: steering.rise(value), NoRise, {"machine": value})
        for most in (0, 1, 2):
            steering = Steering(self.house, most)
            for machine in range(most):
                steering.fall(machine)
            for machine in range(most, 3):
                call = lambda machine=machine: steering.fall(machine)
                self.check_refused(steering, call, TooManyDown, {"most": most})

    def test_carries_that_cannot_be(self):
        steering = Steering(self.house, 2)
        self.check_refused(steering, lambda: steering.carry(0, 1), NoWay, {"needed": None})
        steering.fall(2)
        for service in [*self.values(), 0, 1, 2]:
            for machine in [*self.values(), 0, 1, 2]:
                good = type(service) is int and type(machine) is int and (service, machine) in [(0, 1), (1, 1)]
                if not good:
                    call = lambda service=service, machine=machine: steering.carry(service, machine)
                    with self.assertRaises(NoWay) as caught:
                        call()
                    self.assertIsNone(caught.exception.needed)
        self.assertEqual((steering.picture(), len(steering)), (((2,), (0, 0, -1)), 1))
        self.assertIsNone(steering.carry(1, 1))
        self.check_refused(steering, lambda: steering.carry(0, 1), NoWay, {"needed": None})
        self.check_refused(steering, lambda: steering.carry(None, 1), NoWay, {"needed": None})

    def test_to_carry_nothing_is_no_deed(self):
        steering = Steering(self.house, 2)
        steering.fall(2)
        for service, machine in ((None, None), (None, 0), (0, None), (0, 0), ((0, 1), None), (False, 1), (0, True)):
            self.check_refused(steering, lambda: steering.carry(service, machine), NoWay, {"needed": None})
        steering.undo()
        self.assertRaises(NothingDone, steering.undo)


class ForkTest(Checks):
    def test_both_go_their_own_way(self):
        source = random.Random(112)
        for house in steered_houses(112, 80, 3, 3):
            most = source.randint(1, len(house))
            kept = kept_of(house, most, [picture for picture in all_pictures(house) if calm(house, picture)])
            steering, stands = Steering(house, most), [(begin(house), False)]
            for _ in range(6):
                self.do_any(source, house, most, steering, stands)
            other, others = steering.fork(), list(stands)
            self.assertIs(type(other), Steering)
            for one, rows in [(steering, stands), (other, others)] * 8:
                self.do_any(source, house, most, one, rows)
                self.check_stand(steering, stands)
                self.check_stand(other, others)
                self.assertEqual(one.advice(), self.told_advice(house, most, rows, kept))
            while len(others) > 1:
                other.undo()
                others.pop()
            self.assertRaises(NothingDone, other.undo)
            self.check_stand(steering, stands)
            self.check_stand(other, others)

    def test_a_fork_knows_what_the_last_deed_was(self):
        house = House([9] * 3, [(4, (0, 1), "stay")])
        steering = Steering(house, 1)
        steering.fall(2)
        other = steering.fork()
        steering.carry(0, 1)
        other.carry(0, 1)
        self.assertRaises(NoWay, other.fork().carry, 0, 0)
        self.assertRaises(TooManyDown, other.fork().fall, 0)
        self.assertEqual((len(steering), len(other)), (2, 2))


class PlainTest(unittest.TestCase):
    def setUp(self):
        self.house = House([4, 4, 4], [(4, (0, 1), "first"), (4, (1, 2), "stay")])
        self.other = House([4, 3], [(4, (0, 1), "first")])

    def test_by_name_and_by_position(self):
        picture = ((0,), (1, 1))
        self.assertEqual(carries(picture=picture, house=self.house), [None, (1, 2)])
        self.assertEqual(behind_carry(carry=(1, 2), picture=picture), ((0,), (1, 2)))
        self.assertEqual(steered(limit=90, most=1, house=self.house), steered(self.house, 1))
        self.assertIs(is_keeping(value=steered(self.house, 1)[1], most=1, house=self.house), True)
        self.assertIs(is_breaking(value=steered(self.other, 1)[1], most=1, house=self.other), True)

    def test_lists_are_new_each_time_and_nothing_is_changed(self):
        kept = copy.deepcopy((self.house, self.other))
        heavy = House([3, 9], self.other.services())
        calls = [lambda: carries(self.house, ((), (0, 1))), lambda: steered(self.house, 1)[1]]
        for call in [*calls, lambda: steered(self.other, 1)[1], lambda: steered(heavy, 1)[1]]:
            one, two = call(), call()
            self.assertEqual(one, two)
            self.assertIsNot(one, two)
            one.clear()
            self.assertEqual(call(), two)
        keeping, breaking = steered(self.house, 1)[1], steered(self.other, 1)[1]
        values = copy.deepcopy((keeping, breaking))
        self.assertEqual([is_keeping(self.house, 1, keeping), is_breaking(self.other, 1, breaking)] * 2, [True] * 4)
        self.assertEqual(((keeping, breaking), (self.house, self.other)), (values, kept))

    def test_all_lots_down(self):
        for down in lots(3):
            picture = (down, tuple([2 if 2 not in down else -1]))
            found = carries(House([9] * 3, [(1, (2, 1, 0), RULES[0])]), picture)
            self.assertEqual(found, told_carries(House([9] * 3, [(1, (2, 1, 0), RULES[0])]), picture))


del Checks

if __name__ == "__main__":
    unittest.main()
