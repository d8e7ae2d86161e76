import inspect
import unittest

from darkdrawers import errors
from tests.samples import STRANGE_VALUES

# Each error class below DrawerError with its fields, in the order of the document.
WRONG_VALUES = {
    "TooLarge": ["bound"],
    "BadCounts": ["value"],
    "OtherKinds": [],
    "TooMuch": ["total"],
    "TooFew": ["kind"],
    "BadKinds": ["value"],
    "BadWish": ["value"],
    "BadHeap": ["value"],
    "BadStock": ["error"],
    "Busy": [],
    "TooManyEdits": [],
    "BadCount": ["value"],
    "BadCollection": ["value"],
    "TooManyCollections": [],
    "LastCollection": [],
    "NothingToUndo": [],
    "BadEdits": [],
    "BadEdit": ["index"],
    "Rejected": ["index"],
    "BadPlan": ["value"],
    "BadMost": ["value"],
    "TooFull": ["number"],
    "BadText": ["index"],
}
# Each error class that derives from LookupError.
NOT_FOUND = {
    "NoKind": ["value"],
    "NoDrawer": ["value"],
    "NoCollection": ["value"],
    "NoVersion": ["value"],
}
ALL = {**WRONG_VALUES, **NOT_FOUND}


def class_of(name):
    return getattr(errors, name)


class ErrorsTest(unittest.TestCase):
    def test_there_are_exactly_these_error_classes(self):
        found = [name for name, _ in inspect.getmembers(errors, inspect.isclass)]
        self.assertEqual(sorted(found), sorted([*ALL, "DrawerError"]))

    def test_the_base_is_a_value_error_only(self):
        self.assertEqual(errors.DrawerError.__bases__, (ValueError,))

    def test_errors_about_wrong_values_derive_from_drawer_error(self):
        for name in WRONG_VALUES:
            with self.subTest(name):
                self.assertTrue(issubclass(class_of(name), errors.DrawerError))
                self.assertTrue(issubclass(class_of(name), ValueError))
                self.assertFalse(issubclass(class_of(name), LookupError))

    def test_errors_about_what_is_not_there_derive_from_lookup_error_only(self):
        for name in NOT_FOUND:
            with self.subTest(name):
                self.assertEqual(class_of(name).__bases__, (LookupError,))
                self.assertFalse(issubclass(class_of(name), errors.DrawerError))
                self.assertFalse(issubclass(class_of(name), ValueError))

    def test_no_error_class_derives_from_another_one(self):
        for name in ALL:
            for other in ALL:
                if name != other:
                    with self.subTest(name=name, other=other):
                        self.assertFalse(issubclass(class_of(name), class_of(other)))

    def test_fields_are_attributes_with_the_very_values(self):
        for name, fields in ALL.items():
            for sample in [*STRANGE_VALUES, (None, "stock"), (3, "drawer"), object()]:
                with self.subTest(name=name, sample=sample):
                    passed = [sample for _ in fields]
                    error = class_of(name)(*passed)
                    self.assertEqual(list(vars(error)), fields)
                    for field, value in zip(fields, passed):
                        self.assertIs(getattr(error, field), value)

    def test_no_fewer_and_no_more_fields_are_taken(self):
        for name, fields in ALL.items():
            if fields:
                with self.subTest(name):
                    self.assertRaises(TypeError, class_of(name))
                    self.assertRaises(TypeError, class_of(name), *fields, 1)

    def test_each_error_is_caught_by_its_own_class_and_its_base(self):
        for name, fields in ALL.items():
            base = LookupError if name in NOT_FOUND else errors.DrawerError
            for caught in [class_of(name), base]:
                with self.subTest(name=name, caught=caught.__name__):
                    with self.assertRaises(caught) as held:
                        raise class_of(name)(*fields)
                    self.assertIs(type(held.exception), class_of(name))

    def test_the_message_can_be_shown(self):
        for name, fields in ALL.items():
            for sample in STRANGE_VALUES:
                with self.subTest(name=name, sample=sample):
                    error = class_of(name)(*[sample for _ in fields])
                    self.assertIsInstance(str(error), str)
                    self.assertIn(name, repr(error))

    def test_errors_do_not_share_fields(self):
        first, second = errors.TooMuch(51), errors.TooMuch(60)
        self.assertEqual([first.total, second.total], [51, 60])


if __name__ == "__main__":
    unittest.main()
