import unittest

from affinewalk.errors import InvalidText
from affinewalk.map_notation import format_map, parse_map
from tests.support import SMALL_MODULI, KeepsArguments, all_maps, any_values


class MapNotationTest(KeepsArguments, unittest.TestCase):
    def assert_invalid(self, m, value):
        with self.assertRaises(InvalidText, msg=value) as caught:
            self.call(parse_map, m, value)
        self.assert_exactly(caught.exception.line, 0)

    def test_examples(self):
        self.assert_exactly(format_map((5, 0)), "5*x + 0")
        self.assert_exactly(parse_map(12, "7*x + 2"), (7, 2))
        self.assert_invalid(12, "4*x + 1")

    def test_by_name(self):
        self.assertEqual(format_map(f=(5, 0)), "5*x + 0")
        self.assertEqual(parse_map(text="7*x + 2", m=12), (7, 2))

    def test_each_map_is_read_again(self):
        for m in SMALL_MODULI:
            for f in all_maps(m):
                text = format_map(f)
                self.assertEqual(text, str(f[0]) + "*x + " + str(f[1]))
                self.assert_exactly(parse_map(m, text), f)

    def test_exactly_the_maps_modulo_m(self):
        for m in (2, 9, 12, 30):
            maps = all_maps(m)
            for a in range(-1, m + 3):
                for b in range(-1, m + 3):
                    text = f"{a}*x + {b}"
                    if (a, b) in maps:
                        self.assertEqual(parse_map(m, text), (a, b))
                    else:
                        self.assert_invalid(m, text)

    def test_limits(self):
        m = 10 ** 9
        self.assertEqual(parse_map(m, "999999999*x + 999999999"), (999999999, 999999999))
        self.assertEqual(format_map((999999999, 999999999)), "999999999*x + 999999999")
        self.assert_invalid(m, "1000000001*x + 0")
        self.assert_invalid(m, "1*x + 1000000000")
        self.assert_invalid(m, "1*x + " + "9" * 5000)
        self.assert_invalid(m, "0" * 5000 + "1*x + 1")
        self.assert_invalid(m, "9" * 5000)

    def test_changed_texts(self):
        for m, text in ((12, "7*x + 2"), (12, "11*x + 10"), (10 ** 9, "999999999*x + 0")):
            valid = {format_map(f) for f in all_maps(12)} if m == 12 else set()
            changed = {text[:k] + text[k + 1:] for k in range(len(text))}
            for sign in " 0123456789*x+-/=Xy.,()\n\t_":
                changed.update([text[:k] + sign + text[k + 1:] for k in range(len(text))])
                changed.update([text[:k] + sign + text[k:] for k in range(len(text) + 1)])
            for other in sorted(changed):
                if m == 12 and other not in valid:
                    self.assert_invalid(m, other)
                elif m == 12:
                    self.assertEqual(format_map(parse_map(m, other)), other)
                elif not other.replace("*x + ", "", 1).isdigit():
                    self.assert_invalid(m, other)

    def test_named_faults(self):
        for text in ("", "7", "7*x", "7*x +", "7*x + ", "*x + 2", "7*x+2", "7 * x + 2", " 7*x + 2", "7*x + 2 ", "7*x  + 2",
                     "7*x +  2", "07*x + 2", "7*x + 02", "7*x + 00", "+7*x + 2", "7*x + +2", "-7*x + 2", "7*x + -2",
                     "7*x - 2", "7*x + 2\n", "\n7*x + 2", "7*x + 2*x + 2", "7*x + 7*x + 2", "7*y + 2", "7*X + 2",
                     "x + 2", "2 + 7*x", "7_*x + 2", "1_1*x + 0", "7.0*x + 2", "0*x + 2", "12*x + 0", "19*x + 2",
                     "7*x + 12", "7*x + 14", "(7, 2)", "\u0667*x + 2", "7*x + \u0662", "\u00b2*x + 1", "7*x + 2\x00"):
            self.assert_invalid(12, text)

    def test_any_value(self):
        for value in any_values() + [(7, 2), ["7*x + 2"], ("7*x + 2",), {"7*x + 2": 0}, b"7*x + 2", 7]:
            if value != "5*x + 0":
                self.assert_invalid(12, value)
        self.assertEqual(parse_map(12, "5*x + 0"), (5, 0))
