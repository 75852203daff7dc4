"""The errors: their bases, and the attributes that are what was passed."""

import unittest

from nextalive import errors
from nextalive.houses import House
from nextalive.runs import Run

ATTRIBUTES = {
    "BadHouse": "number",
    "BadOrder": "order",
    "NoFall": "machine",
    "NoRise": "machine",
    "TooManyDown": "most",
    "NoWay": "needed",
    "TooMany": "limit",
    "Unlike": "sizes",
}


def values():
    house = House([9], [])
    return [None, True, 0, -3, 10 ** 40, "x", "", (), (1, "a"), [], [[1], {}], {"k": [1]}, house, Run(house), object()]


class ErrorsTest(unittest.TestCase):
    def test_all_ten_are_defined_in_errors(self):
        for name in ["HouseError", "NothingDone", *ATTRIBUTES]:
            with self.subTest(name=name):
                self.assertEqual(getattr(errors, name).__module__, "nextalive.errors")

    def test_bases(self):
        self.assertEqual(errors.HouseError.__bases__, (ValueError,))
        for name in ["NothingDone", *ATTRIBUTES]:
            with self.subTest(name=name):
                self.assertEqual(getattr(errors, name).__bases__, (errors.HouseError,))

    def test_no_error_is_one_of_the_others(self):
        classes = [getattr(errors, name) for name in ["NothingDone", *ATTRIBUTES]]
        for one in classes:
            made = one() if one is errors.NothingDone else one(0)
            for other in [*classes, errors.HouseError, ValueError]:
                with self.subTest(one=one, other=other):
                    self.assertEqual(isinstance(made, other), other in (one, errors.HouseError, ValueError))

    def test_each_attribute_is_what_was_passed(self):
        for name, attribute in ATTRIBUTES.items():
            for value in values():
                with self.subTest(name=name, value=value):
                    made = getattr(errors, name)
                    self.assertIs(getattr(made(value), attribute), value)
                    self.assertIs(getattr(made(**{attribute: value}), attribute), value)
                    self.assertEqual(list(vars(made(value))), [attribute])

    def test_errors_take_just_what_they_show(self):
        self.assertEqual(vars(errors.NothingDone()), {})
        with self.assertRaises(TypeError):
            errors.NothingDone(0)
        for name in ATTRIBUTES:
            with self.subTest(name=name):
                self.assertRaises(TypeError, getattr(errors, name))
                self.assertRaises(TypeError, getattr(errors, name), 1, 2)

    def test_errors_are_raised_and_caught_as_each_of_their_classes(self):
        for kind in (errors.NoWay, errors.HouseError, ValueError):
            with self.subTest(kind=kind), self.assertRaises(kind) as caught:
                raise errors.NoWay(None)
            self.assertIs(caught.exception.needed, None)

    def test_errors_have_messages(self):
        for name in ATTRIBUTES:
            with self.subTest(name=name):
                self.assertNotEqual(str(getattr(errors, name)(None)), "")


if __name__ == "__main__":
    unittest.main()
