"""Points 8, 9 and 10 (texts of tables), and `read_table` of sixdot/reader.py."""

import unittest

from sixdot.errors import TextError, TooLarge
from sixdot.reader import read_table
from sixdot.table import Table, same_table

HEAD = 'signs "abcdef"\nmodes 2\n'
RULE = 'rule 0 "a" = 1 to 0'


class ReadTableTest(unittest.TestCase):
    def check_error(self, text, line, column, reason):
        with self.subTest(text[-60:]), self.assertRaises(TextError) as caught:
            read_table(text)
        error = caught.exception
        self.assertEqual((error.line, error.column, error.reason), (line, column, reason))

    def check_rule_error(self, rule, column, reason):
        """The rule is tried as the first, the second and the last line of the rules."""
        self.check_error(HEAD + rule, 3, column, reason)
        self.check_error(HEAD + rule + "\n", 3, column, reason)
        self.check_error(HEAD + RULE + "\n\n" + rule + "\nx\n", 5, column, reason)

    def test_a_table(self):
        table = read_table(HEAD + 'rule 1 "ab c"= - 1 12 456 to 0 ahead"^a"behind "$"\n'.replace("b c", "bc"))
        self.assertIsInstance(table, Table)
        self.assertEqual((table.signs, table.modes, len(table.rules)), ("abcdef", 2, 1))
        rule = table.rules[0]
        self.assertEqual((rule.mode, rule.text, rule.cells, rule.to), (1, "abc", [0, 1, 3, 56], 0))
        self.assertEqual((rule.ahead, rule.behind), ("^a", "$"))

    def test_no_rules(self):
        for text in [HEAD, HEAD[:-1], HEAD + "\n", "\n  \n" + HEAD + "   \n\n   "]:
            self.assertTrue(same_table(read_table(text), Table("abcdef", 2, [])))

    def test_spaces_and_empty_lines_change_nothing(self):
        lines = ['signs "ab "', "modes 2", 'rule 0 "a b" = 1 - to 1 ahead "a^"', 'rule 1 "b" = 2 to 0 behind "a$"']
        plain = read_table("\n".join(lines))
        self.assertEqual(len(plain.rules), 2)
        wide = [line.replace(" = ", "   =  ").replace(" to ", "  to   ").replace("rule ", "  rule   ") + "  " for line in lines]
        for text in ["\n".join(lines) + "\n", "\n".join(lines) + "\n\n", "\n\n" + "\n   \n\n".join(lines) + "\n  ",
                     "\n".join(wide), "\n".join(wide) + "\n"]:
            self.assertTrue(same_table(read_table(text), plain))
        self.assertEqual(plain.rules[0].text, "a b")

    def test_pieces_need_no_spaces_at_quoted_strings(self):
        near = 'signs"ab"\nmodes 1\nrule 0"a"= 1 to 0 ahead"b"behind"$"'
        far = 'signs "ab"\nmodes 1\nrule 0 "a" = 1 to 0 ahead "b" behind "$"'
        self.assertTrue(same_table(read_table(near), read_table(far)))
        self.check_error('signs"ab"\nmodes 1\nrule 0"a"=1 to 0', 3, 10, "expected")

    def test_ahead_and_behind(self):
        cases = [("", None, None), (' ahead "^"', "^", None), (' behind "$"', None, "$"),
                 (' ahead "ab^" behind "$ba"', "ab^", "$ba")]
        for end, ahead, behind in cases:
            rule = read_table(HEAD + RULE + end).rules[0]
            self.assertEqual((rule.ahead, rule.behind), (ahead, behind))

    def test_sign(self):
        self.check_error("signs \t", 1, 7, "sign")
        self.check_error('signs "a\u00e9"', 1, 9, "sign")
        self.check_error('signs "a"\r\nmodes 1\n', 1, 10, "sign")
        self.check_error('signs "a"\nmodes 1\x7f', 2, 8, "sign")
        self.check_error("\n\n  \t", 3, 3, "sign")
        self.check_rule_error("\trule", 1, "sign")
        self.check_rule_error('rule x "a\x00', 10, "sign")

    def test_quoted(self):
        self.check_error('signs "a', 1, 7, "quoted")
        self.check_error('signs "a\\', 1, 7, "quoted")
        self.check_error(r'signs "a\b"', 1, 9, "quoted")
        self.check_error('modes 1 "', 1, 9, "quoted")
        self.check_rule_error(r'rule 0 "\a" = 1 to 0', 9, "quoted")
        self.check_rule_error('rule 0 "a" = 1 to 0 behind "$', 28, "quoted")
        self.check_rule_error('rule 9 "a" = 1 to 0 behind "$', 28, "quoted")

    def test_line(self):
        self.check_error("modes 1", 1, 1, "line")
        self.check_error("  Signs", 1, 3, "line")
        self.check_error('"signs" "a"', 1, 1, "line")
        self.check_error('signs "a"\nsigns "a"', 2, 1, "line")
        self.check_error('signs "a"\n rule 0 "a" = 1 to 0', 2, 2, "line")
        self.check_error('signsx "a"', 1, 1, "line")
        for first in ["rules", "modes 2", 'signs "a"', '"rule" 0', "0", "=", "rule="]:
            self.check_rule_error(first, 1, "line")
            self.check_rule_error("   " + first + " x", 4, "line")

    def test_eighty_rules(self):
        eighty = HEAD + (RULE + "\n") * 80
        self.assertEqual(len(read_table(eighty).rules), 80)
        self.assertEqual(len(read_table(eighty + "\n   \n").rules), 80)
        self.check_error(eighty + RULE, 83, 1, "line")
        self.check_error(eighty + "\n  " + RULE + "\n", 84, 3, "line")
        self.check_error(eighty + "rule 9", 83, 1, "line")
        self.check_error(eighty + '"a"', 83, 1, "line")
        self.check_error(eighty + 'rule "', 83, 6, "quoted")
        self.check_error(eighty + "rule \t", 83, 6, "sign")

    def test_expected_in_the_line_of_the_signs(self):
        for end, column in [("", 6), ("  ", 8), (" ab", 7), (" 1", 7), (' "a" x', 11), (' "a" "b"', 11), (' "a"b', 10),
                            ("  =", 8)]:
            self.check_error("signs" + end, 1, column, "expected")

    def test_expected_in_the_line_of_the_modes(self):
        for end, column in [("", 6), ("   ", 9), (' "1"', 7), (" x", 7), (" 01", 7), (" 00", 7), (" 1000", 7), (" 0004", 7),
                            (" -1", 7), (" +1", 7), (" 1.", 7), (" 1 1", 9), (' 1""', 8), (" 1_0", 7), (" =", 7)]:
            self.check_error('signs "a"\nmodes' + end, 2, column, "expected")

    def test_expected_at_each_piece_of_a_rule(self):
        whole = ["rule", "0", '"a"', "=", "1", "to", "0", "ahead", '"a"', "behind", '"b"']
        # Behind each piece: the words among the wrong ones that are due there, or are numbers out of range.
        wrong = ["x", '"a"', "=", "to", "ahead", "behind", "1", "0", "-", "rule", '""', "21", "11", "7", "1234"]
        due = {1: ("0", "1", "7", "11", "21"), 2: ('"a"', '""'), 3: ("=",), 4: ("1", "-", "1234"), 5: ("to", "1", "-", "1234"), 6: ("0", "1", "7", "11", "21"),
               7: ("ahead", "behind"), 8: ('"a"', '""'), 9: ("behind",), 10: ('"a"', '""')}
        for at in range(1, len(whole)):
            start = " ".join(whole[:at]) + " "
            for word in wrong:
                if word not in due[at]:
                    self.check_rule_error(start + word, len(start) + 1, "expected")
                    self.check_rule_error(start + word + " " + " ".join(whole[at:]), len(start) + 1, "expected")

    def test_expected_behind_the_form(self):
        for end in ["", ' ahead "a"', ' behind "b"', ' ahead "a" behind "b"']:
            for word in ["x", "=", "1", '"a"', "to", "ahead" if end else "rule"]:
                self.check_rule_error(RULE + end + " " + word, len(RULE + end) + 2, "expected")
        self.check_rule_error(RULE + ' behind "b" ahead "a"', 32, "expected")
        self.check_rule_error(RULE + ' ahead "b" ahead "a"', 31, "expected")
        self.check_rule_error(RULE + ' behind "b" behind "a"', 32, "expected")

    def test_expected_where_the_line_ends(self):
        whole = ["rule", "0", '"a"', "=", "1", "to", "0", "ahead", '"a"', "behind", '"b"']
        for at in (1, 2, 3, 4, 5, 6, 8, 10):
            start = " ".join(whole[:at])
            self.check_rule_error(start, len(start) + 1, "expected")
            self.check_rule_error(start + "  ", len(start) + 3, "expected")
        self.check_rule_error(RULE + " behind", 27, "expected")

    def test_range_of_the_signs(self):
        for signs in ['""', '"aa"', '"a^"', '"$"', '"' + "".join(chr(code) for code in range(95, 127)) * 2 + '"']:
            self.check_error(f"signs {signs}", 1, 7, "range")
            self.check_error(f" signs  {signs} x", 1, 9, "range")
        free = "".join(chr(code) for code in range(33, 127) if chr(code) not in '^$"\\')
        self.assertEqual(read_table(f'signs "{free[:60]}"\nmodes 1').signs, free[:60])
        self.check_error(f'signs "{free[:61]}"\nmodes 1', 1, 7, "range")

    def test_range_of_the_modes(self):
        for modes in ["1", "2", "3", "4"]:
            self.assertEqual(read_table(f'signs "a"\nmodes {modes}').modes, int(modes))
        for modes in ["0", "5", "10", "999"]:
            self.check_error(f'signs "a"\nmodes {modes}', 2, 7, "range")
            self.check_error(f'signs "a"\nmodes {modes} x', 2, 7, "range")

    def test_range_in_a_rule(self):
        for mode in ["2", "10", "999"]:
            self.check_rule_error(f"rule {mode}", 6, "range")
            self.check_rule_error(f'rule {mode} x = 1 to 0', 6, "range")
            self.check_rule_error(f'rule 0 "a" = 1 to {mode} x', 19, "range")
        for text in ['""', '"abcde"', '"g"', '"aG"', '" "', '"^"', '"$"']:
            self.check_rule_error(f"rule 0 {text}", 8, "range")
            self.check_rule_error(f"rule 0  {text} x", 9, "range")
        for text in ['""', '"aba"', '"g"', '" "', '"aa"']:
            self.check_rule_error(RULE + f" ahead {text} x", 27, "range")
            self.check_rule_error(RULE + f" behind {text}", 28, "range")
            self.check_rule_error(RULE + f' ahead "a" behind {text}', 38, "range")
        self.check_rule_error(RULE + ' ahead "$"', 27, "range")
        self.check_rule_error(RULE + ' ahead "^a^"', 27, "range")
        self.check_rule_error(RULE + ' behind "^"', 28, "range")
        self.check_rule_error(RULE + ' behind "a$$"', 28, "range")

    def test_modes_at_their_limit(self):
        for modes in (1, 2, 3, 4):
            head = f'signs "a"\nmodes {modes}\n'
            self.assertEqual(read_table(head + f'rule {modes - 1} "a" = 1 to {modes - 1}').rules[0].to, modes - 1)
            self.check_error(head + f'rule {modes} "a" = 1 to 0', 3, 6, "range")
            self.check_error(head + f'rule 0 "a" = 1 to {modes}', 3, 19, "range")

    def test_texts_of_four_signs(self):
        self.assertEqual(read_table(HEAD + 'rule 0 "abcd" = 1 to 0').rules[0].text, "abcd")

    def test_a_fifth_cell(self):
        self.assertEqual(read_table(HEAD + 'rule 0 "a" = 1 2 3 4 to 0').rules[0].cells, [1, 2, 4, 8])
        self.check_rule_error('rule 0 "a" = 1 2 3 4 5 to 0', 22, "range")
        self.check_rule_error('rule 0 "a" = - - - - -', 22, "range")
        self.check_rule_error('rule 0 "a" = 1 2 3 4 5 x', 22, "range")
        self.check_rule_error('rule 0 "a" = 1 2 3 4 x', 22, "expected")
        self.check_rule_error('rule 0 "a" = 1 2 3 4 ""', 22, "expected")
        self.check_rule_error('rule 0 "a" = 1 2 3 4', 21, "expected")

    def test_cells(self):
        for written, cell in [("-", 0), ("1", 1), ("6", 32), ("16", 33), ("123456", 63), ("135", 21)]:
            self.assertEqual(read_table(HEAD + f'rule 0 "a" = {written} to 0').rules[0].cells, [cell])
        for written in ["0", "7", "11", "21", "1-", "--", "1234567", "12a", "x", "=", "65"]:
            self.check_rule_error(f'rule 0 "a" = {written} to 0', 14, "expected")
            self.check_rule_error(f'rule 0 "a" = 1 {written} to 0', 16, "expected")

    def test_numbers_of_a_rule(self):
        for written in ["00", "01", "0000", "1000", "-0", "", "1x"]:
            if written:
                self.check_rule_error(f'rule {written} "a" = 1 to 0', 6, "expected")
                self.check_rule_error(f'rule 0 "a" = 1 to {written}', 19, "expected")

    def test_the_first_of_two_errors(self):
        self.check_rule_error('rule 2 "abcde" = 1 to 0', 6, "range")
        self.check_rule_error('rule x "abcde" = 1 to 0', 6, "expected")
        self.check_rule_error('rule 0 "abcde" x', 8, "range")
        self.check_rule_error('rule 0 "a" x "b\\c"', 16, "quoted")
        self.check_rule_error('rool "', 6, "quoted")
        self.check_rule_error('rool " \t', 8, "sign")
        self.check_error('signs ""\nmodes 0\n', 1, 7, "range")
        self.check_error('signs "a"\nmodes 5\n\t', 2, 7, "range")
        self.check_error('signs "a"\nmodes 1\nrule\n\t', 3, 5, "expected")

    def test_end(self):
        for text, line in [("", 1), ("\n", 2), ("\n\n  ", 4), ("   ", 2), ('signs "a"', 2), ('signs "a"\n', 2),
                           ('signs "a"\n\n', 3), ('signs "a"\n ', 3), ('\nsigns "a"\n\n  \n', 5)]:
            self.check_error(text, line, 1, "end")

    def test_number_of_characters(self):
        table = read_table(HEAD + " " * (20000 - len(HEAD)))
        self.assertTrue(same_table(table, Table("abcdef", 2, [])))
        self.check_error("\n" * 20000, 20001, 1, "end")
        for text in [HEAD + " " * (20001 - len(HEAD)), "\t" * 20001, "\n" * 20001, '"' * 30000]:
            with self.assertRaises(TooLarge) as caught:
                read_table(text)
            self.assertEqual(caught.exception.limit, "text")


if __name__ == "__main__":
    unittest.main()
