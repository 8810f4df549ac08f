"""The error classes of sewnwhole.errors."""

import unittest

from sewnwhole import errors
from sewnwhole.errors import SewnError

LINE_AND_WHAT = ("line", "what")
WHAT = ("what",)
WHAT_AND_PLACE = ("what", "place")

ATTRIBUTES = {
    "TextError": LINE_AND_WHAT,
    "LayoutError": WHAT,
    "PatchError": WHAT_AND_PLACE,
    "PlanError": WHAT_AND_PLACE,
    "AssemblyError": WHAT,
    "FabricError": WHAT,
    "CutError": WHAT_AND_PLACE,
    "WorkroomError": WHAT,
    "JudgeError": WHAT_AND_PLACE,
}
VALUES = {"line": 7, "what": "not a cell", "place": -1}


class ErrorsTest(unittest.TestCase):
    def test_the_base_of_all(self):
        self.assertEqual(SewnError.__bases__, (ValueError,))
        with self.assertRaises(ValueError):
            raise SewnError("fault")

    def test_each_derives_from_the_base_of_all_alone(self):
        for name in ATTRIBUTES:
            self.assertEqual(getattr(errors, name).__bases__, (SewnError,), name)

    def test_none_is_a_base_of_another_one(self):
        classes = [getattr(errors, name) for name in ATTRIBUTES]
        for one in classes:
            self.assertEqual([other for other in classes if issubclass(other, one)], [one])

    def test_there_are_no_others(self):
        found = [name for name, value in vars(errors).items() if isinstance(value, type)]
        self.assertEqual(sorted(found), sorted([*ATTRIBUTES, "SewnError"]))

    def test_created_with_the_values_of_the_attributes_in_their_order(self):
        for name, attributes in ATTRIBUTES.items():
            values = [VALUES[attribute] for attribute in attributes]
            error = getattr(errors, name)(*values)
            for attribute in attributes:
                self.assertEqual(getattr(error, attribute), VALUES[attribute], (name, attribute))
            self.assertEqual(vars(error), dict(zip(attributes, values)), name)

    def test_creation_takes_neither_fewer_nor_more_values(self):
        for name, attributes in ATTRIBUTES.items():
            values = [VALUES[attribute] for attribute in attributes]
            for wrong in (values[:-1], [*values, 0]):
                with self.assertRaises(TypeError, msg=name):
                    getattr(errors, name)(*wrong)

    def test_the_message_tells_the_attributes(self):
        for name, attributes in ATTRIBUTES.items():
            message = str(getattr(errors, name)(*[VALUES[attribute] for attribute in attributes]))
            for attribute in attributes:
                self.assertIn(str(VALUES[attribute]), message, name)


if __name__ == "__main__":
    unittest.main()
