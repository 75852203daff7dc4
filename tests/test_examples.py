"""The examples of the document, as they stand there."""

import unittest

from nextalive.errors import HouseError

HOUSES = """\
>>> from nextalive.houses import House
>>> house = House([9, 9, 5], [(4, (0, 1), "first"), (3, (0, 1, 2), "stay")])
>>> [len(house), house.with_order(1, (2, 0)).services()]
[3, [(4, (0, 1), 'first'), (3, (2, 0), 'stay')]]
>>> House([9], [(4, (0, 1), "first")])
raises BadHouse(number=0)
"""

RUNS = """\
>>> from nextalive.houses import House
>>> from nextalive.runs import Run, is_history, run_of
>>> house = House([9, 9, 5], [(4, (0, 1), "first"), (3, (0, 1, 2), "stay")])
>>> run = Run(house)
>>> [run.fall(0), run.picture(), run.load(1), run.rise(0), run.picture(), run.events()]
[None, ((0,), (1, 1)), 7, None, ((), (0, 1)), [('fall', 0), ('rise', 0)]]
>>> run.rise(2)
raises NoRise(machine=2)
>>> [is_history(house, [("fall", 0), ("fall", 1)], most=1), run_of(house, [("fall", 1), ("fall", 0)]).picture()]
[False, ((0, 1), (-1, 2))]
"""


def answer_of(line, names):
    """What the line shows: a result, an error with its attributes, or None."""
    try:
        value = eval(compile(line, "example", "single" if line.startswith("from ") else "eval"), names)
    except SyntaxError:
        exec(line, names)
        return None
    except HouseError as error:
        told = ", ".join(f"{name}={value!r}" for name, value in vars(error).items())
        return f"raises {error.__class__.__name__}({told})"
    return None if value is None else repr(value)


def wrong_answers(text):
    """The lines of an example that show something else than it tells, and how many were run."""
    names, wrong, ran = {}, [], 0
    lines = text.splitlines()
    for at, line in enumerate(lines):
        if not line.startswith(">>> "):
            continue
        told = lines[at + 1] if at + 1 < len(lines) and not lines[at + 1].startswith(">>> ") else None
        found = answer_of(line[4:], names)
        ran += 1
        if found != told:
            wrong.append((line, told, found))
    return wrong, ran


class ExamplesTest(unittest.TestCase):
    def test_houses(self):
        self.assertEqual(wrong_answers(HOUSES), ([], 4))

    def test_runs(self):
        self.assertEqual(wrong_answers(RUNS), ([], 7))

    def test_a_wrong_answer_is_seen(self):
        changed = HOUSES.replace("number=0", "number=1").replace("[3, [(4", "[2, [(4")
        self.assertEqual(len(wrong_answers(changed)[0]), 2)


if __name__ == "__main__":
    unittest.main()
