import unittest

from affinewalk.kinds import is_between, is_form, is_name, is_whole, plain_name, read_number
from tests.support import KeepsArguments, any_values


class KindsTest(KeepsArguments, unittest.TestCase):
    def test_whole_numbers(self):
        for value in (0, 1, -1, 10 ** 99, -10 ** 99):
            self.assertIs(is_whole(value), True)
        for value in (None, True, False, "1", "", 1.0, (1,), [1], {1: 1}):
            self.assert_false_for(is_whole, value)
            self.assert_false_for(is_between, value, 0, 2)
        self.assertEqual([is_between(n, 2, 4) for n in range(1, 6)], [False, True, True, True, False])

    def test_forms(self):
        self.assertIs(is_form(("unit", None, [1]), "unit", 3), True)
        for value in any_values() + [("unit", 1), ("unit", 1, 2, 3), ("Unit", 1, 2), ["unit", 1, 2], ("", 1, 2), (1, 2, 3)]:
            self.assert_false_for(is_form, value, "unit", 3)

    def test_names(self):
        for value in ("a", "z", "edge", "abcdefgh", "zzzzzzzz"):
            self.assertIs(is_name(value), True)
            self.assert_exactly(plain_name(value), value)
        for value in ("", "abcdefghi", "A", "a1", "a b", " a", "a\n", "a-", "\u00e4", None, True, 1, ("a",), ["a"], {"a": 1}):
            self.assert_false_for(is_name, value)

    def test_numbers_in_texts(self):
        for top in (0, 1, 9, 10, 11, 99, 100, 1000):
            for n in range(0, 1200):
                self.assertEqual(read_number(str(n), top), n if n <= top else None)
        for word in ("", "00", "01", "-1", "+1", " 1", "1 ", "1_0", "a", "1.0", "\u0661", "\u00b2", "1\n", "0" * 9000):
            self.assertIsNone(read_number(word, 10 ** 9))
