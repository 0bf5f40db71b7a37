"""Names, point [3]."""

import unittest

from depotday.names import is_name


class Names(unittest.TestCase):
    def test_names(self):
        for text in ("a", "z", "m", "day", "abcdefgh", "zzzzzzzz", "aa"):
            self.assertIs(is_name(text), True, text)

    def test_lengths_that_are_no_names(self):
        for text in ("", "abcdefghi", "a" * 100):
            self.assertIs(is_name(text), False, text)

    def test_other_characters(self):
        for code in range(ord(" "), ord("~") + 1):
            sign = chr(code)
            self.assertIs(is_name(sign), "a" <= sign <= "z", sign)
            for text in ("ab" + sign, sign + "ab", "a" + sign + "b"):
                self.assertIs(is_name(text), "a" <= sign <= "z", text)

    def test_a_newline_is_no_letter(self):
        for text in ("\n", "a\n", "\na"):
            self.assertIs(is_name(text), False)


if __name__ == "__main__":
    unittest.main()
