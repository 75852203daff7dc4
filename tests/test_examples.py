"""The examples of the document, as they stand there."""

import unittest

from nextalive.errors import HouseError

HOUSES = """\
>>> from nextalive.houses import House
>>> house = House([9, 9, 5], [(4, (0, 1), "first"), (3, (0, 1, 2), "stay")])
>>> [len(house), house.with_order(1, (2, 0)).services()]
[3, [(4, (0, 1), 'first'), (3, (2, 0), 'stay')]]
>>> House([9], [(4, (0, 1), "first")])
raises BadHouse(number=0)
"""

RUNS = """\
>>> from nextalive.houses import House
>>> from nextalive.runs import Run, is_history, run_of
>>> house = House([9, 9, 5], [(4, (0, 1), "first"), (3, (0, 1, 2), "stay")])
>>> run = Run(house)
>>> [run.fall(0), run.picture(), run.load(1), run.rise(0), run.picture(), run.events()]
[None, ((0,), (1, 1)), 7, None, ((), (0, 1)), [('fall', 0), ('rise', 0)]]
>>> run.rise(2)
raises NoRise(machine=2)
>>> [is_history(house, [("fall", 0), ("fall", 1)], most=1), run_of(house, [("fall", 1), ("fall", 0)]).picture()]
[False, ((0, 1), (-1, 2))]
"""

PLACES = """\
>>> from nextalive.houses import House
>>> from nextalive.places import can_be, least_events, way_to
>>> house = House([9, 9, 5], [(4, (0, 1), "first"), (3, (2, 0, 1), "home")])
>>> [can_be(house, 1, 1, 1), least_events(house, 1, 1), least_events(house, 0, 2), least_events(house, 0, -1)]
[False, 2, None, 2]
>>> way_to(house, 1, 0, 1)
[('fall', 2)]
>>> way_to(house, 1, 1, 1)
raises NoWay(needed=2)
"""

BEHIND = """\
>>> from nextalive.behind import behind, is_settled
>>> from nextalive.houses import House
>>> house = House([9, 9, 5], [(4, (0, 1), "first"), (3, (0, 1, 2), "home"), (2, (1, 2), "stay")])
>>> [behind(house, 1, (0,), 2), behind(house, 1, (), 2), behind(house, 2, (0,), 1), behind(house, 0, (0, 1), 2)]
[[1, 2], [0], [1, 2], [-1]]
>>> [is_settled(house, 1), is_settled(House([9, 9], [(3, (0, 1), "home")]), 2)]
[False, True]
"""

WORST = """\
>>> from nextalive.houses import House
>>> from nextalive.worst import gather, is_bar, margin, unsafe, worst_load, worst_loads
>>> house = House([9, 9, 5], [(4, (0, 2), "first"), (3, (0, 1, 2), "home"), (2, (1, 2), "home")])
>>> [worst_loads(house, 1), worst_loads(house, 2), worst_load(house, 2, 1)[0], unsafe(house, 0), margin(house)]
[[7, 5, 4], [7, 5, 9], 4, None, 1]
>>> unsafe(house, 2)[:2]
(2, 9)
>>> row = House([9] * 4, [(5, (0, 1, 3), "home"), (7, (2, 3), "home"), (6, (2, 1, 3), "home")])
>>> [gather(row, 3, (0, 1), 2)[0], gather(row, 3, (0, 2), 2), is_bar(row, 3, 2, ("stuck", (0, 1))), worst_load(row, 3, 2)[0]]
['yes', ('no', ('stuck', (0, 2))), False, 13]
"""

TABLES = """\
>>> from nextalive.houses import House
>>> from nextalive.tables import Table, is_closed
>>> house = House([9, 9], [(4, (0, 1), "stay")])
>>> table = Table(house, 1)
>>> [table.pictures(), table.number_of(((), (1,))), table.run_to(((), (1,))), is_closed(house, 1, table.pictures()[1:])]
[[((), (0,)), ((), (1,)), ((0,), (1,)), ((1,), (0,))], 2, [('fall', 0), ('rise', 0)], False]
"""

FORMS = """\
>>> from nextalive.forms import parting, short_form
>>> from nextalive.houses import House
>>> one, two = House([9, 9, 9], [(4, (0, 1, 2), "home")]), House([9, 9, 9], [(4, (0, 1, 2), "first")])
>>> [short_form(one, 0, 1), short_form(one, 0, 2), parting(one, two, 1), len(parting(one, two, 2))]
[((0, 1), 'first'), ((0, 1, 2), 'home'), None, 3]
"""

MOVES = """\
>>> from nextalive.houses import House
>>> from nextalive.moves import most_moves, moves
>>> house = House([9, 9, 9], [(4, (0, 1, 2), "stay"), (4, (0, 1), "home")])
>>> [most_moves(house, 0, 9, 2), most_moves(house, 1, 9, 2), most_moves(house, 0, 10**18, 1), moves(house, 0, [("fall", 0), ("rise", 0)])]
[5, 9, 500000000000000000, 1]
"""

SURGES = """\
>>> from nextalive.houses import House
>>> from nextalive.surges import surge, worst_surge
>>> house = House([9, 6, 9], [(4, (0, 1, 2), "first"), (5, (1, 2), "stay")])
>>> [surge(house, [], (0,)), worst_surge(house, 1)]
[([(0,), (1,)], ((0, 1), (2, 2))), (2, (0,))]
"""


def answer_of(line, names):
    """What the line shows: a result, an error with its attributes, or None."""
    try:
        value = eval(compile(line, "example", "single" if line.startswith("from ") else "eval"), names)
    except SyntaxError:
        exec(line, names)
        return None
    except HouseError as error:
        told = ", ".join(f"{name}={value!r}" for name, value in vars(error).items())
        return f"raises {error.__class__.__name__}({told})"
    return None if value is None else repr(value)


def wrong_answers(text):
    """The lines of an example that show something else than it tells, and how many were run."""
    names, wrong, ran = {}, [], 0
    lines = text.splitlines()
    for at, line in enumerate(lines):
        if not line.startswith(">>> "):
            continue
        told = lines[at + 1] if at + 1 < len(lines) and not lines[at + 1].startswith(">>> ") else None
        found = answer_of(line[4:], names)
        ran += 1
        if found != told:
            wrong.append((line, told, found))
    return wrong, ran


class ExamplesTest(unittest.TestCase):
    def test_houses(self):
        self.assertEqual(wrong_answers(HOUSES), ([], 4))

    def test_runs(self):
        self.assertEqual(wrong_answers(RUNS), ([], 7))

    def test_places(self):
        self.assertEqual(wrong_answers(PLACES), ([], 6))

    def test_behind(self):
        self.assertEqual(wrong_answers(BEHIND), ([], 5))

    def test_worst(self):
        self.assertEqual(wrong_answers(WORST), ([], 7))

    def test_tables(self):
        self.assertEqual(wrong_answers(TABLES), ([], 5))

    def test_forms(self):
        self.assertEqual(wrong_answers(FORMS), ([], 4))

    def test_moves(self):
        self.assertEqual(wrong_answers(MOVES), ([], 4))

    def test_surges(self):
        self.assertEqual(wrong_answers(SURGES), ([], 4))

    def test_a_wrong_answer_is_seen(self):
        changed = HOUSES.replace("number=0", "number=1").replace("[3, [(4", "[2, [(4")
        self.assertEqual(len(wrong_answers(changed)[0]), 2)


if __name__ == "__main__":
    unittest.main()
