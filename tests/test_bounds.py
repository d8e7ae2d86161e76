import unittest

from darkdrawers import bounds

EXPECTED = {
    "LIMIT": 10 ** 6,
    "MAX_DRAWERS": 4,
    "MAX_KINDS": 4,
    "MAX_COUNT": 50,
    "MAX_COLLECTIONS": 4,
    "SMALL_PLANS": 2000,
    "SMALL_THINGS": 14,
    "MAX_EDITS": 60,
    "BATCH": 20,
}


class BoundsTest(unittest.TestCase):
    def test_each_constant_has_the_value_of_the_document(self):
        for name, number in EXPECTED.items():
            with self.subTest(name):
                self.assertEqual(getattr(bounds, name), number)

    def test_each_constant_is_a_number(self):
        for name in EXPECTED:
            with self.subTest(name):
                self.assertIs(type(getattr(bounds, name)), int)


if __name__ == "__main__":
    unittest.main()
