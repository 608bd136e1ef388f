"""Points 8 and 9 (quoted strings, the pieces of a line), and the interface of sixdot/lexer.py."""

import unittest

from sixdot.errors import TextError
from sixdot.lexer import pieces


class PiecesTest(unittest.TestCase):
    def test_pieces(self):
        cases = [
            ("", []),
            ("   ", []),
            ("ab", [("plain", "ab", 1)]),
            ("  ab  c ", [("plain", "ab", 3), ("plain", "c", 7)]),
            ('"ab"', [("quoted", "ab", 1)]),
            (' "a b"  "c"', [("quoted", "a b", 2), ("quoted", "c", 9)]),
            ('""', [("quoted", "", 1)]),
            ('""""', [("quoted", "", 1), ("quoted", "", 3)]),
            ('a"b"c', [("plain", "a", 1), ("quoted", "b", 2), ("plain", "c", 5)]),
            ('"b"c"d"', [("quoted", "b", 1), ("plain", "c", 4), ("quoted", "d", 5)]),
            ('a""b', [("plain", "a", 1), ("quoted", "", 2), ("plain", "b", 4)]),
            (r'"a\"b" c', [("quoted", 'a"b', 1), ("plain", "c", 8)]),
            (r'"\\" "\"" x', [("quoted", "\\", 1), ("quoted", '"', 6), ("plain", "x", 11)]),
            (r'"\\\"\\"', [("quoted", '\\"\\', 1)]),
            (r"a\b \ =", [("plain", "a\\b", 1), ("plain", "\\", 5), ("plain", "=", 7)]),
            (r'\"a"', [("plain", "\\", 1), ("quoted", "a", 2)]),
            ("rule 0 ~!", [("plain", "rule", 1), ("plain", "0", 6), ("plain", "~!", 8)]),
            ('" "', [("quoted", " ", 1)]),
        ]
        for line, wanted in cases:
            with self.subTest(line):
                self.assertEqual(pieces(line, 1), wanted)

    def check_error(self, line, column, reason):
        for number in (1, 17):
            with self.subTest(line), self.assertRaises(TextError) as caught:
                pieces(line, number)
            error = caught.exception
            self.assertEqual((error.line, error.column, error.reason), (number, column, reason))

    def test_characters_that_are_no_signs(self):
        for character in ["\t", "\n", "\r", "\x00", "\x1f", "\x7f", "\u00e9", "\u20ac"]:
            self.check_error(character, 1, "sign")
            self.check_error(f'a "b" {character} c', 7, "sign")
            self.check_error(f'"a{character}"', 3, "sign")
            self.check_error(f"ab {character}{character}", 4, "sign")

    def test_backslash_ahead_of_another_character(self):
        self.check_error(r'"a\b"', 3, "quoted")
        self.check_error(r'x "\n"', 4, "quoted")
        self.check_error(r'"a\ "', 3, "quoted")
        self.check_error(r'"\\\x"', 4, "quoted")

    def test_string_that_does_not_end(self):
        self.check_error('"', 1, "quoted")
        self.check_error('ab "cd', 4, "quoted")
        self.check_error('"a" b"', 6, "quoted")
        self.check_error('"a" "', 5, "quoted")
        self.check_error(r'  "ab\"', 3, "quoted")
        self.check_error(r'"ab\\\"', 1, "quoted")

    def test_backslash_ahead_of_the_end_of_the_line(self):
        self.check_error('"ab\\', 1, "quoted")
        self.check_error('x"\\', 2, "quoted")

    def test_a_character_that_is_no_sign_goes_first(self):
        self.check_error('\t"ab', 1, "sign")
        self.check_error('"ab\t', 4, "sign")
        self.check_error('"a\\b" \x7f', 7, "sign")
        self.check_error('"a\\b\t', 5, "sign")

    def test_the_first_of_two_wrong_strings(self):
        self.check_error(r'"a\b" "c\d"', 3, "quoted")
        self.check_error(r'"a\b" "c', 3, "quoted")
        self.check_error(r'"a\bc', 3, "quoted")
        self.check_error('"a\\b\\', 3, "quoted")
        self.check_error(r'"a" "b\c', 7, "quoted")

    def test_what_is_returned_is_new(self):
        pieces("a b", 1).append(0)
        self.assertEqual(len(pieces("a b", 1)), 2)


if __name__ == "__main__":
    unittest.main()
