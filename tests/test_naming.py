"""Point 7: names, spots, marks and their written form."""

import unittest

from kithwhole.errors import InvalidName
from kithwhole.naming import format_name, parse_mark, parse_name, parse_spot

PARSERS = ((parse_name, 2), (parse_spot, 3), (parse_mark, 4))


class WrittenForms(unittest.TestCase):
    def test_format(self):
        self.assertEqual(format_name((2, 15)), "2.15")
        self.assertEqual(format_name((2, 15, 0)), "2.15.0")
        self.assertEqual(format_name((2, 15, 0, 3)), "2.15.0.3")
        self.assertEqual(format_name((0, 999999999999999, 10, 0)), "0.999999999999999.10.0")

    def test_parse_is_the_way_back(self):
        self.assertEqual(parse_name("2.15"), (2, 15))
        self.assertEqual(parse_spot("2.15.0"), (2, 15, 0))
        self.assertEqual(parse_mark("2.15.0.3"), (2, 15, 0, 3))
        for numbers in ((0, 1, 0, 0), (5, 10, 100, 1000), (12, 1, 0, 90)):
            for parse, length in PARSERS:
                name = numbers[:length]
                self.assertEqual(parse(format_name(name)), name)

    def test_the_parts_are_integers_in_a_tuple(self):
        for parse, length in PARSERS:
            told = parse(".".join(["1"] * length))
            self.assertIs(type(told), tuple)
            self.assertEqual([type(part) for part in told], [int] * length)

    def test_a_part_has_at_most_fifteen_digits(self):
        most = "9" * 15
        for parse, length in PARSERS:
            for place in range(length):
                parts = ["1"] * length
                parts[place] = most
                self.assertEqual(parse(".".join(parts))[place], 10 ** 15 - 1)
                for longer in ("1" + "0" * 15, "9" * 16, "9" * 5000):
                    parts[place] = longer
                    self.refused(parse, ".".join(parts))

    def test_no_leading_zeros_and_no_empty_parts(self):
        for parse, length in PARSERS:
            for place in range(length):
                for part in ("01", "00", "", "0001"):
                    parts = ["1"] * length
                    parts[place] = part
                    self.refused(parse, ".".join(parts))

    def test_a_zero_is_a_part_except_for_the_number(self):
        self.assertEqual(parse_mark("0.1.0.0"), (0, 1, 0, 0))
        self.assertEqual(parse_spot("0.1.0"), (0, 1, 0))
        self.assertEqual(parse_name("0.1"), (0, 1))
        self.refused(parse_name, "1.0")
        self.refused(parse_spot, "1.0.1")
        self.refused(parse_mark, "1.0.1.1")

    def test_a_part_more_or_less(self):
        for parse, length in PARSERS:
            for other in (0, 1, length - 1, length + 1, 9):
                self.refused(parse, ".".join(["1"] * other))

    def test_other_characters(self):
        for wrong in ("+1", "-1", " 1", "1 ", "1\n", "a", "1_0", "\u0661", "\u00b2", "1e1", "0x1", ","):
            for parse, length in PARSERS:
                for place in range(length):
                    parts = ["1"] * length
                    parts[place] = wrong
                    self.refused(parse, ".".join(parts))
        for text in (".1.1", "1.1.", "1..1", ".", "..", "...", "1.1\n"):
            for parse, _ in PARSERS:
                self.refused(parse, text)

    def test_what_is_no_string(self):
        for thing in (None, 1, 1.5, True, b"1.1", (1, 1), (1, 1, 1), ["1.1"], [1, 1, 1, 1], {}):
            for parse, _ in PARSERS:
                self.refused(parse, thing)

    def refused(self, parse, text):
        with self.assertRaises(InvalidName, msg=repr(text)[:40]):
            parse(text)


if __name__ == "__main__":
    unittest.main()
