"""The text of rules, the calls rules and show."""

import unittest

from helper import (
    CLEAR, DEFAULT_ROW, HUGE, SHOW, ask, ask_on, assert_refused, default_but, enter, house_with, rules, shown_as,
)

# Each word with one number: least, most, where its number stands in the row.
SINGLE = {
    "places": (2, 60, 0),
    "cap": (1, 9, 2),
    "fee": (0, 9999, 5),
    "fine": (0, 9999, 6),
    "answer": (1, 30, 7),
    "start": (1, 200, 8),
}

UNKNOWN, TWICE, NUMBERS = 1, 2, 3


class RulesCase(unittest.TestCase):

    def right(self, text, row, *lines):
        """The text is right: its row, and the lines that aren't shown as by default."""
        told, shown = ask(rules(text), SHOW)
        self.assertEqual(told, [0] + row, text)
        self.assertEqual(shown, shown_as(default_but(*lines)), text)

    def wrong(self, text, kind, line):
        """The text is wrong, and the rules told before stay."""
        first, told, shown = ask(rules("cap 7\nback 9 9"), rules(text), SHOW)
        self.assertEqual(first[0], 0)
        self.assertEqual(told, [1, kind, line], text)
        self.assertEqual(shown, shown_as(default_but("cap 7", "back 9 9")), text)


class TestDefaults(RulesCase):

    def test_untold_rules_are_shown(self):
        self.assertEqual(ask(SHOW), [shown_as(default_but())])

    def test_shown_to_the_byte(self):
        text = "places 16\nform 4\ncap 4\njudges 1 2\nfee 1000\nfine 500\nanswer 3\nstart 60\nback"
        self.assertEqual(ask(SHOW), [[74] + list(text.encode("ascii"))])

    def test_empty_text(self):
        self.right("", DEFAULT_ROW)

    def test_all_words_in_another_order(self):
        text = "back 200 100 0 0\nstart 90\nanswer 5\nfine 1\nfee 2\njudges 3 4\ncap 6\nform 2\nplaces 60"
        row = [60, 2, 6, 3, 4, 2, 1, 5, 90]
        lines = text.split("\n")
        self.right(text, row, *lines)
        self.assertEqual(ask(rules(text), SHOW)[1], shown_as(lines[::-1]))

    def test_one_word_leaves_the_others(self):
        self.right("fee 250", [16, 4, 4, 1, 2, 250, 500, 3, 60], "fee 250")

    def test_each_rules_begins_anew(self):
        told = ask(rules("cap 7\nfee 1"), rules("fee 3"), SHOW)
        self.assertEqual(told[1], [0, 16, 4, 4, 1, 2, 3, 500, 3, 60])
        self.assertEqual(told[2], shown_as(default_but("fee 3")))

    def test_clear_forgets_the_rules(self):
        self.assertEqual(ask(rules("cap 7\nback 9 9"), CLEAR, SHOW)[1:], [[0], shown_as(default_but())])


class TestBounds(RulesCase):

    def test_single_numbers(self):
        for word, (least, most, at) in SINGLE.items():
            for number in {least, least + 1, most - 1, most}:
                row = list(DEFAULT_ROW)
                row[at] = number
                line = f"{word} {number}"
                self.right(line, row, line)
            if least > 0:
                self.wrong(f"{word} {least - 1}", NUMBERS, 1)
            self.wrong(f"{word} {most + 1}", NUMBERS, 1)

    def test_form(self):
        self.right("form 2", [16, 2, 4, 1, 2, 1000, 500, 3, 60], "form 2")
        self.right("form 4", DEFAULT_ROW)
        for number in (0, 1, 3, 5, 22, 24):
            self.wrong(f"form {number}", NUMBERS, 1)

    def test_judges(self):
        for a, b in ((0, 1), (0, 9), (9, 1), (9, 9), (5, 3)):
            line = f"judges {a} {b}"
            self.right(line, [16, 4, 4, a, b, 1000, 500, 3, 60], line)
        for a, b in ((0, 0), (1, 0), (10, 1), (1, 10)):
            self.wrong(f"judges {a} {b}", NUMBERS, 1)

    def test_how_many_numbers(self):
        for word in list(SINGLE) + ["form"]:
            self.wrong(word, NUMBERS, 1)
            self.wrong(f"{word} 4 4", NUMBERS, 1)
        self.wrong("judges", NUMBERS, 1)
        self.wrong("judges 1", NUMBERS, 1)
        self.wrong("judges 1 2 3", NUMBERS, 1)

    def test_not_numbers(self):
        for number in ("00", "01", "04", "0004", "x", "4x", "x4", "-4", "+4", "4.", "4,", "?", "1_0", "\xb2", "\xb94"):
            self.wrong(f"fee {number}", NUMBERS, 1)
            self.wrong(f"judges {number} 2", NUMBERS, 1)
            self.wrong(f"judges 1 {number}", NUMBERS, 1)
            self.wrong(f"back {number} 2", NUMBERS, 1)
            self.wrong(f"back 3 {number}", NUMBERS, 1)

    def test_digits(self):
        self.right("fee 0", [16, 4, 4, 1, 2, 0, 500, 3, 60], "fee 0")
        self.right("fee 9999", [16, 4, 4, 1, 2, 9999, 500, 3, 60], "fee 9999")
        for number in ("10000", "00000", "00001", "12345", "1" * 990):
            self.wrong(f"fee {number}", NUMBERS, 1)


class TestBack(RulesCase):

    def back(self, line):
        self.right(line, DEFAULT_ROW, line)

    def test_none_to_six_pairs(self):
        line = "back"
        self.back(line)
        for pair in range(6):
            line += f" {60 - 10 * pair} {100 - 20 * pair}"
            self.back(line)
        self.assertEqual(len(line.split(" ")), 13)

    def test_seven_pairs(self):
        self.wrong("back 7 7 6 6 5 5 4 4 3 3 2 2 1 1", NUMBERS, 1)

    def test_half_a_pair(self):
        self.wrong("back 7", NUMBERS, 1)
        self.wrong("back 7 7 6", NUMBERS, 1)
        self.wrong("back 6 6 5 5 4 4 3 3 2 2 1 1 0", NUMBERS, 1)

    def test_bounds(self):
        self.back("back 200 100")
        self.back("back 0 0")
        self.back("back 200 0")
        self.back("back 0 100")
        self.wrong("back 201 100", NUMBERS, 1)
        self.wrong("back 200 101", NUMBERS, 1)
        self.wrong("back 201 9 5 5", NUMBERS, 1)
        self.wrong("back 9 101 5 5", NUMBERS, 1)

    def test_days_fall(self):
        self.back("back 30 50 29 40")
        self.wrong("back 30 50 30 40", NUMBERS, 1)
        self.wrong("back 30 50 31 40", NUMBERS, 1)
        self.wrong("back 30 50 20 40 20 30", NUMBERS, 1)

    def test_percents_do_not_rise(self):
        self.back("back 30 50 20 50 10 50")
        self.back("back 30 50 20 49")
        self.wrong("back 30 50 20 51", NUMBERS, 1)
        self.wrong("back 30 50 20 40 10 41", NUMBERS, 1)


class TestLines(RulesCase):

    def test_unknown_words(self):
        for word in ("plac", "placess", "Places", "PLACES", "back2", "7", "none", "pl\xe4ces", "?", "-", "#"):
            self.wrong(f"{word} 4", UNKNOWN, 1)
        self.wrong("4 places", UNKNOWN, 1)

    def test_told_twice(self):
        for word in list(SINGLE) + ["form"]:
            self.wrong(f"{word} 2\n{word} 2", TWICE, 2)
        self.wrong("judges 1 2\njudges 1 2", TWICE, 2)
        self.wrong("back\nback", TWICE, 2)
        self.wrong("fee 1\nfine 1\n\nfee 2", TWICE, 4)

    def test_first_kind_of_a_line(self):
        self.wrong("fee 1\nfee x", TWICE, 2)
        self.wrong("fees x", UNKNOWN, 1)
        self.wrong("fees 1\nfees 1", UNKNOWN, 1)

    def test_first_wrong_line(self):
        self.wrong("fee 1\nfine x\nfees 1\nfee 2", NUMBERS, 2)
        self.wrong("fee 1\nfees 1\nfine x", UNKNOWN, 2)
        self.wrong("fee 1\n\nfee 2\nfees 1", TWICE, 3)
        self.wrong("fee x\nfee 1", NUMBERS, 1)

    def test_lines_without_words(self):
        row = [16, 4, 5, 1, 2, 7, 500, 3, 60]
        for text in ("fee 7\ncap 5", "\n\nfee 7\n\ncap 5\n", "   \nfee 7\n \ncap 5\n  ", "fee 7\ncap 5\n\n\n"):
            self.right(text, row, "fee 7", "cap 5")
        for text in ("\n", " ", "\n\n\n", "  \n  "):
            self.right(text, DEFAULT_ROW)

    def test_lines_without_words_are_counted(self):
        self.wrong("\n  \nfees", UNKNOWN, 3)
        self.wrong("\nfee 1\n\nfee 1", TWICE, 4)

    def test_several_blanks(self):
        self.right("  judges   3    4  ", [16, 4, 4, 3, 4, 1000, 500, 3, 60], "judges 3 4")
        self.right("   back  9    8 7  6 ", DEFAULT_ROW, "back 9 8 7 6")
        self.right("back   ", DEFAULT_ROW)

    def test_blank_is_the_only_blank(self):
        for sign in ("\t", "\r", "\x0b", "\x0c", "\x00", "\x1c", "\x1d", "\x1e", "\x1f", "\x85", "\xa0", "\xff"):
            self.wrong(f"fee{sign}7", UNKNOWN, 1)
            self.wrong(f"fee 7{sign}", NUMBERS, 1)
            self.wrong(f"fee {sign}7", NUMBERS, 1)
            self.wrong(f"fee 7 {sign}", NUMBERS, 1)
            self.wrong(f"{sign}fee 7", UNKNOWN, 1)
            self.wrong(f"\n{sign}", UNKNOWN, 2)
            self.wrong(f"judges 1{sign}2", NUMBERS, 1)

    def test_row_end_is_the_only_row_end(self):
        self.wrong("fee 7\rcap 5", NUMBERS, 1)
        self.wrong("fee 7\r\ncap 5", NUMBERS, 1)
        self.wrong("fee 7\x0bcap 5", NUMBERS, 1)


class TestRefusals(unittest.TestCase):

    def test_how_many_numbers(self):
        self.assertEqual(ask(rules([32] * 1000))[0], [0] + DEFAULT_ROW)
        self.assertEqual(ask(rules([10] * 1000))[0], [0] + DEFAULT_ROW)
        self.assertEqual(ask(rules([10] * 999 + [99])), [[1, UNKNOWN, 1000]])
        for row in ([32] * 1001, [10] * 1001, [32] * 1100, list(b"fees") * 251):
            assert_refused(self, house_with("cap 7"), rules(row), -1)

    def test_numbers_outside(self):
        for number in (-1, 256, -HUGE, HUGE, -256, 266, 288):
            for row in ([number], [10, number], [number] + [32] * 999, list(b"fees 1\n") + [number]):
                assert_refused(self, house_with("cap 7"), rules(row), -1)

    def test_numbers_on_the_bounds(self):
        self.assertEqual(ask(rules([0])), [[1, UNKNOWN, 1]])
        self.assertEqual(ask(rules([255])), [[1, UNKNOWN, 1]])

    def test_schools_are_there(self):
        house = house_with("cap 7", [(1, 1, 0)])
        assert_refused(self, house, rules("cap 5"), -4)
        assert_refused(self, house, rules("fees"), -4)

    def test_not_day_0(self):
        assert_refused(self, house_with("cap 7", day=1), rules("cap 5"), -4)

    def test_closed(self):
        house = house_with("cap 7")
        house.closed = True
        assert_refused(self, house, rules("cap 5"), -4)

    def test_row_ahead_of_closed(self):
        house = house_with("cap 7", [(1, 1, 0)], day=1)
        house.closed = True
        assert_refused(self, house, rules([256]), -1)
        assert_refused(self, house, rules([32] * 1001), -1)
        assert_refused(self, house, rules([32] * 1000), -4)

    def test_right_again_behind_clear(self):
        house = house_with("cap 7", [(1, 1, 0)], day=1)
        house.closed = True
        told = ask_on(house, CLEAR, rules("cap 5"))
        self.assertEqual(told, [[0], [0, 16, 4, 5, 1, 2, 1000, 500, 3, 60]])

    def test_show_stays_behind_a_refusal(self):
        told = ask(rules("fee 5"), enter(1, 1), rules("fee 6"), rules([-1]), SHOW)
        self.assertEqual(told[2:], [[-4], [-1], shown_as(default_but("fee 5"))])

    def test_show_changes_nothing(self):
        told = ask(rules("fee 5"), SHOW, enter(1, 1), SHOW)
        self.assertEqual(told[1], told[3])


if __name__ == "__main__":
    unittest.main()
