"""Point [3] and the head owedafresh/errors.py."""

import inspect
import unittest

from owedafresh import errors

NAMES = [
    "BillError", "InvalidName", "DoubleName", "InvalidWeight", "NoWeight", "InvalidState", "InvalidRow",
    "UnknownPerson", "UnknownBill", "UnlikePeople", "NotWhole", "NotEven", "NothingToUndo", "Unreadable",
]
CLASSES = [getattr(errors, name) for name in NAMES]


def some_values():
    return [0, -7, "zz", "", None, (1, 2), ([1], [2]), [], [[1], 2], {"a": 1}, b"x", ValueError("why"), object()]


class TestErrors(unittest.TestCase):
    def test_there_are_fourteen_classes_and_no_others(self):
        found = [name for name, one in vars(errors).items() if inspect.isclass(one)]
        self.assertEqual(sorted(found), sorted(NAMES))
        self.assertEqual(len(NAMES), 14)

    def test_each_one_stores_its_value_by_position(self):
        for one in CLASSES:
            for value in some_values():
                self.assertIs(one(value).value, value)

    def test_each_one_stores_its_value_by_name(self):
        for one in CLASSES:
            for value in some_values():
                self.assertIs(one(value=value).value, value)

    def test_each_one_takes_just_one_argument(self):
        for one in CLASSES:
            with self.assertRaises(TypeError):
                one()
            with self.assertRaises(TypeError):
                one(1, 2)
            with self.assertRaises(TypeError):
                one(1, value=2)
            with self.assertRaises(TypeError):
                one(worth=1)

    def test_bill_error_is_a_value_error_and_nothing_between(self):
        self.assertEqual(errors.BillError.__bases__, (ValueError,))

    def test_all_other_ones_are_subclasses_of_bill_error_alone(self):
        for one in CLASSES[1:]:
            self.assertEqual(one.__bases__, (errors.BillError,))

    def test_none_is_a_subclass_of_another_one(self):
        for one in CLASSES[1:]:
            for other in CLASSES[1:]:
                self.assertEqual(issubclass(one, other), one is other)
            self.assertFalse(issubclass(errors.BillError, one))
            self.assertFalse(issubclass(one, LookupError))

    def test_each_one_can_be_raised_and_caught(self):
        for one in CLASSES:
            for caught in (one, errors.BillError, ValueError):
                with self.assertRaises(caught) as raised:
                    raise one("what")
                self.assertIs(type(raised.exception), one)
                self.assertEqual(raised.exception.value, "what")

    def test_objects_do_not_share_their_value(self):
        for one in CLASSES:
            first, second = one([1]), one([2])
            self.assertEqual((first.value, second.value), ([1], [2]))


if __name__ == "__main__":
    unittest.main()
