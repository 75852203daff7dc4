"""The examples of the document, as they stand there."""

import unittest

from nextalive.errors import HouseError

HOUSES = """\
>>> from nextalive.houses import House
>>> house = House([9, 9, 5], [(4, (0, 1), "first"), (3, (0, 1, 2), "stay")])
>>> [len(house), house.with_order(1, (2, 0)).services()]
[3, [(4, (0, 1), 'first'), (3, (2, 0), 'stay')]]
>>> House([9], [(4, (0, 1), "first")])
raises BadHouse(number=0)
"""

RUNS = """\
>>> from nextalive.houses import House
>>> from nextalive.runs import Run, is_history, run_of
>>> house = House([9, 9, 5], [(4, (0, 1), "first"), (3, (0, 1, 2), "stay")])
>>> run = Run(house)
>>> [run.fall(0), run.picture(), run.load(1), run.rise(0), run.picture(), run.events()]
[None, ((0,), (1, 1)), 7, None, ((), (0, 1)), [('fall', 0), ('rise', 0)]]
>>> run.rise(2)
raises NoRise(machine=2)
>>> [is_history(house, [("fall", 0), ("fall", 1)], most=1), run_of(house, [("fall", 1), ("fall", 0)]).picture()]
[False, ((0, 1), (-1, 2))]
"""

PLACES = """\
>>> from nextalive.houses import House
>>> from nextalive.places import can_be, least_events, way_to
>>> house = House([9, 9, 5], [(4, (0, 1), "first"), (3, (2, 0, 1), "home")])
>>> [can_be(house, 1, 1, 1), least_events(house, 1, 1), least_events(house, 0, 2), least_events(house, 0, -1)]
[False, 2, None, 2]
>>> way_to(house, 1, 0, 1)
[('fall', 2)]
>>> way_to(house, 1, 1, 1)
raises NoWay(needed=2)
"""

BEHIND = """\
>>> from nextalive.behind import behind, is_settled
>>> from nextalive.houses import House
>>> house = House([9, 9, 5], [(4, (0, 1), "first"), (3, (0, 1, 2), "home"), (2, (1, 2), "stay")])
>>> [behind(house, 1, (0,), 2), behind(house, 1, (), 2), behind(house, 2, (0,), 1), behind(house, 0, (0, 1), 2)]
[[1, 2], [0], [1, 2], [-1]]
>>> [is_settled(house, 1), is_settled(House([9, 9], [(3, (0, 1), "home")]), 2)]
[False, True]
"""

WORST = """\
>>> from nextalive.houses import House
>>> from nextalive.worst import gather, is_bar, margin, unsafe, worst_load, worst_loads
>>> house = House([9, 9, 5], [(4, (0, 2), "first"), (3, (0, 1, 2), "home"), (2, (1, 2), "home")])
>>> [worst_loads(house, 1), worst_loads(house, 2), worst_load(house, 2, 1)[0], unsafe(house, 0), margin(house)]
[[7, 5, 4], [7, 5, 9], 4, None, 1]
>>> unsafe(house, 2)[:2]
(2, 9)
>>> row = House([9] * 4, [(5, (0, 1, 3), "home"), (7, (2, 3), "home"), (6, (2, 1, 3), "home")])
>>> [gather(row, 3, (0, 1), 2)[0], gather(row, 3, (0, 2), 2), is_bar(row, 3, 2, ("stuck", (0, 1))), worst_load(row, 3, 2)[0]]
['yes', ('no', ('stuck', (0, 2))), False, 13]
"""

TABLES = """\
>>> from nextalive.houses import House
>>> from nextalive.tables import Table, is_closed
>>> house = House([9, 9], [(4, (0, 1), "stay")])
>>> table = Table(house, 1)
>>> [table.pictures(), table.number_of(((), (1,))), table.run_to(((), (1,))), is_closed(house, 1, table.pictures()[1:])]
[[((), (0,)), ((), (1,)), ((0,), (1,)), ((1,), (0,))], 2, [('fall', 0), ('rise', 0)], False]
"""

FORMS = """\
>>> from nextalive.forms import parting, short_form
>>> from nextalive.houses import House
>>> one, two = House([9, 9, 9], [(4, (0, 1, 2), "home")]), House([9, 9, 9], [(4, (0, 1, 2), "first")])
>>> [short_form(one, 0, 1), short_form(one, 0, 2), parting(one, two, 1), len(parting(one, two, 2))]
[((0, 1), 'first'), ((0, 1, 2), 'home'), None, 3]
"""

MOVES = """\
>>> from nextalive.houses import House
>>> from nextalive.moves import most_moves, moves
>>> house = House([9, 9, 9], [(4, (0, 1, 2), "stay"), (4, (0, 1), "home")])
>>> [most_moves(house, 0, 9, 2), most_moves(house, 1, 9, 2), most_moves(house, 0, 10**18, 1), moves(house, 0, [("fall", 0), ("rise", 0)])]
[5, 9, 500000000000000000, 1]
"""

SURGES = """\
>>> from nextalive.houses import House
>>> from nextalive.surges import surge, worst_surge
>>> house = House([9, 6, 9], [(4, (0, 1, 2), "first"), (5, (1, 2), "stay")])
>>> [surge(house, [], (0,)), worst_surge(house, 1)]
[([(0,), (1,)], ((0, 1), (2, 2))), (2, (0,))]
"""

TOLDBACK = """\
>>> from nextalive.toldback import next_at, order_of, order_of_log, orders
>>> seen = [((), 1), ((1,), 2)]
>>> [order_of(4, seen), orders(4, seen), next_at(4, seen, (1, 2)), next_at(4, seen, (0, 1))]
[('yes', (1, 2, 0, 3)), 2, [0, 3], [2]]
>>> order_of(2, [((), 1), ((), 0)])[0]
'no'
>>> log = (2, [(("fall", 2), 0), (("rise", 2), 0)])
>>> [order_of_log(3, "stay", log), order_of_log(3, "home", log)]
[('yes', (2, 0, 1)), ('no', 2)]
"""

NEWLISTS = """\
>>> from nextalive.houses import House
>>> from nextalive.newlists import fitting, mending, room
>>> house = House([9, 6, 5], [(4, (0, 1), "first"), (2, (1, 2), "stay")])
>>> [fitting(house, 3, "first", 1), fitting(house, 6, "first", 1), room(house, (0, 2), "stay", 1), mending(house, 0, 1)]
[(0, 2), None, 3, (0, 1)]
"""

DESK = """\
>>> from nextalive.desk import Desk
>>> from nextalive.houses import House
>>> desk = Desk(House([9, 9, 9], [(4, (0, 1), "stay"), (3, (1, 2), "home")]), 1)
>>> found = [desk.fall(0), desk.picture(), desk.rise(0), desk.worst_here(0)[0], desk.worst_here(1)[0], desk.surge_here((1,))]
>>> found + [desk.rewrite(0, (2, 0)), desk.picture(), len(desk), desk.moved(0), desk.undo(), desk.picture()]
[None, ((0,), (1, 1)), None, 4, 7, ([(1,)], ((1,), (0, 2))), None, ((), (2, 1)), 3, 2, None, ((), (1, 1))]
"""

PRICED = """\
>>> from nextalive.houses import House
>>> from nextalive.priced import breaking_purse, cost, gather_priced, is_priced_bar, purse_of, worst_priced
>>> house, prices = House([9, 9, 5], [(4, (0, 2), "first"), (3, (0, 1, 2), "home"), (2, (1, 2), "home")]), [3, 2, 1]
>>> [cost(prices, (0, 1)), purse_of(house, prices, [("fall", 1), ("rise", 1), ("fall", 0)])]
[5, 3]
>>> [worst_priced(house, 2, prices, 3)[0], worst_priced(house, 2, prices, 5)[0], gather_priced(house, 2, (0, 2), prices, 3)]
[4, 9, ('no', ('many', (0, 2)))]
>>> [breaking_purse(house, 2, prices)[0], breaking_purse(house, 0, prices), is_priced_bar(house, 2, prices, 4, ("far", (1,)))]
[5, None, True]
"""

ROLLING = """\
>>> from nextalive.houses import House
>>> from nextalive.rolling import is_barring, is_calm, is_light, is_rolling, rolling
>>> house = House([9, 9], [(4, (0, 1), "stay")])
>>> [rolling(house, 1)[0], len(rolling(house, 1)[1]), is_rolling(house, 1, [("fall", 0), ("rise", 0), ("fall", 1)])]
['yes', 4, False]
>>> other = House([4, 9], [(4, (0, 1), "first"), (5, (1,), "stay")])
>>> [rolling(other, 1)[0], is_calm(other, ((1,), (0, -1))), is_light(other, ((1,), (0, -1)))]
['no', True, False]
>>> is_barring(other, 1, [(((), (0, 1)), ()), (((0,), (1, 1)), (0,)), (((), (0, 1)), (0,))])
True
"""

TOURS = """\
>>> from nextalive.houses import House
>>> from nextalive.tours import are_numbers, busiest, is_tour, tour_mean, weight_moved
>>> house, both = House([9, 9], [(4, (0, 1), "first"), (3, (0, 1), "stay")]), [("fall", 0), ("rise", 0)]
>>> [busiest(house, 1)[0], tour_mean(house, (both, both)), tour_mean(house, ([], both + [("fall", 1), ("rise", 1)]))]
[(4, 1), (4, 1), (7, 2)]
>>> [weight_moved(house, ((), (0, 0)), ("fall", 0)), is_tour(house, 1, ([], both)), are_numbers(house, 0, (0, 1), {((), (0, 0)): 5})]
[7, False, True]
"""

STEERED = """\
>>> from nextalive.houses import House
>>> from nextalive.steered import Steering, behind_carry, carries, is_breaking, is_keeping, steered
>>> house = House([4, 4, 4], [(4, (0, 1), "first"), (4, (1, 2), "stay")])
>>> [steered(house, 1)[0], carries(house, ((0,), (1, 1))), behind_carry(((0,), (1, 1)), (1, 2))]
['keeps', [None, (1, 2)], ((0,), (1, 2))]
>>> kept = [((), (0, 1)), ((0,), (1, 2)), ((1,), (0, 2)), ((2,), (0, 1)), ((), (0, 2))]
>>> [is_keeping(house, 1, kept), is_keeping(house, 1, kept[:1] + kept[2:]), is_breaking(house, 1, {((), (0, 1)): (0, ("fall", 0))})]
[True, False, False]
>>> steering = Steering(house, 1)
>>> found = [steering.advice(), steering.fall(0), steering.picture(), steering.advice(), steering.carry(1, 2)]
>>> found + [steering.advice(), steering.rise(0), steering.picture(), len(steering), steering.undo(), steering.picture()]
[('yes', None), None, ((0,), (1, 1)), ('yes', (1, 2)), None, ('yes', None), None, ((), (0, 2)), 3, None, ((0,), (1, 2))]
>>> steering.carry(0, 1)
raises NoWay(needed=None)
"""


def answer_of(line, names):
    """What the line shows: a result, an error with its attributes, or None."""
    try:
        value = eval(compile(line, "example", "single" if line.startswith("from ") else "eval"), names)
    except SyntaxError:
        exec(line, names)
        return None
    except HouseError as error:
        told = ", ".join(f"{name}={value!r}" for name, value in vars(error).items())
        return f"raises {error.__class__.__name__}({told})"
    return None if value is None else repr(value)


def wrong_answers(text):
    """The lines of an example that show something else than it tells, and how many were run."""
    names, wrong, ran = {}, [], 0
    lines = text.splitlines()
    for at, line in enumerate(lines):
        if not line.startswith(">>> "):
            continue
        told = lines[at + 1] if at + 1 < len(lines) and not lines[at + 1].startswith(">>> ") else None
        found = answer_of(line[4:], names)
        ran += 1
        if found != told:
            wrong.append((line, told, found))
    return wrong, ran


class ExamplesTest(unittest.TestCase):
    def test_houses(self):
        self.assertEqual(wrong_answers(HOUSES), ([], 4))

    def test_runs(self):
        self.assertEqual(wrong_answers(RUNS), ([], 7))

    def test_places(self):
        self.assertEqual(wrong_answers(PLACES), ([], 6))

    def test_behind(self):
        self.assertEqual(wrong_answers(BEHIND), ([], 5))

    def test_worst(self):
        self.assertEqual(wrong_answers(WORST), ([], 7))

    def test_tables(self):
        self.assertEqual(wrong_answers(TABLES), ([], 5))

    def test_forms(self):
        self.assertEqual(wrong_answers(FORMS), ([], 4))

    def test_moves(self):
        self.assertEqual(wrong_answers(MOVES), ([], 4))

    def test_surges(self):
        self.assertEqual(wrong_answers(SURGES), ([], 4))

    def test_toldback(self):
        self.assertEqual(wrong_answers(TOLDBACK), ([], 6))

    def test_newlists(self):
        self.assertEqual(wrong_answers(NEWLISTS), ([], 4))

    def test_desk(self):
        self.assertEqual(wrong_answers(DESK), ([], 5))

    def test_priced(self):
        self.assertEqual(wrong_answers(PRICED), ([], 6))

    def test_rolling(self):
        self.assertEqual(wrong_answers(ROLLING), ([], 7))

    def test_tours(self):
        self.assertEqual(wrong_answers(TOURS), ([], 5))

    def test_steered(self):
        self.assertEqual(wrong_answers(STEERED), ([], 10))

    def test_a_wrong_answer_is_seen(self):
        changed = HOUSES.replace("number=0", "number=1").replace("[3, [(4", "[2, [(4")
        self.assertEqual(len(wrong_answers(changed)[0]), 2)


if __name__ == "__main__":
    unittest.main()
