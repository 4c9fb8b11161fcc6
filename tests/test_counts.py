"""The calls school and counts."""

import unittest

from helper import (
    CLEAR, CLOSE, COUNTS, HUGE, accept, ask, ask_on, assert_refused, bring, decline, drop, enter, house_with, last,
    night, nights, pay, payout, picture, rules, school, settled, transfer, want,
)

TWO = [(5, 9, 0), (3, 9, 0)]


class TestSchool(unittest.TestCase):

    def test_at_first(self):
        self.assertEqual(last(enter(5, 7, 9), school(5)), [0, 7, 0, 9, 0])

    def test_each_number(self):
        house = settled("judges 3 2\ncap 9", [(5, 8, 4), (3, 9, 2)], has=[5, 3, 5, 5], offers=[5, 3, 5])
        self.assertEqual(ask_on(house, school(5), school(3)), [[3, 8, 2, 4, 5], [1, 9, 1, 2, 2]])

    def test_behind_each_call(self):
        told = ask(enter(5, 3), enter(3, 1), night(1), school(5), accept(0), school(5), decline(2), school(5),
                   want(5, 9), school(5), bring(5, 6), school(5), decline(1), want(3, 4), transfer(5, 3), school(5),
                   school(3), drop(3, 1), school(3))
        rows = [numbers for numbers in told if len(numbers) == 5]
        self.assertEqual(rows, [
            [0, 3, 3, 0, 0], [1, 3, 2, 0, 1], [1, 2, 1, 0, 1], [1, 9, 1, 0, 1], [1, 9, 1, 6, 1], [0, 8, 1, 6, 0],
            [1, 4, 0, 0, 1], [0, 3, 0, 0, 0],
        ])

    def test_no_such_school(self):
        house = house_with("", TWO)
        for number in (0, -1, 1, 4, 6, 999, 1000, HUGE, -HUGE):
            assert_refused(self, house, school(number), -5)
        self.assertEqual(ask(enter(5, 1), CLEAR, school(5)), [[0], [0], [-5]])

    def test_it_changes_nothing(self):
        house = settled("", TWO, has=[5], offers=[5, 3])
        before = picture(house)
        ask_on(house, school(5), school(3))
        self.assertEqual(picture(house), before)


class TestCounts(unittest.TestCase):

    def test_at_first(self):
        self.assertEqual(ask(COUNTS), [[0, 0, 0, 0, 0, 0, 0, 0]])
        self.assertEqual(last(rules("back 9 40"), COUNTS), [0, 0, 0, 0, 0, 0, 40, 0])

    def test_each_number(self):
        told = ask(rules("start 9\nback 2 30"), enter(5, 3), enter(3, 2), night(1), accept(0), accept(1), decline(2),
                   pay(5, 9), COUNTS, drop(5, 1), COUNTS, night(6), COUNTS, night(1), COUNTS, night(1), CLOSE, COUNTS)
        counts = [numbers for numbers in told if len(numbers) == 8]
        self.assertEqual(counts, [
            [1, 2, 2, 2, 5, 0, 30, 3], [1, 2, 1, 2, 5, 0, 30, 4], [7, 2, 1, 0, 5, 0, 30, 4],
            [8, 2, 1, 0, 5, 0, 0, 4], [9, 2, 1, 0, 5, 1, 0, 5],
        ])

    def test_offers_made_ever(self):
        told = ask(rules("places 2\nanswer 1"), enter(5, 9), night(1), COUNTS, night(2), COUNTS, decline(2), COUNTS,
                   night(2), COUNTS)
        self.assertEqual([numbers[3:5] for numbers in told if len(numbers) == 8], [[2, 2], [2, 4], [1, 4], [2, 6]])

    def test_days_without_a_school(self):
        self.assertEqual(last(*nights(1000), COUNTS), [1000, 0, 0, 0, 0, 0, 0, 0])

    def test_entries_of_all_kinds(self):
        told = ask(rules("start 1"), enter(5, 2), enter(3, 1), COUNTS, pay(5, 3), COUNTS, payout(5), COUNTS, night(1),
                   accept(0), COUNTS, decline(1), want(3, 1), transfer(5, 3), COUNTS, drop(3, 1), COUNTS, accept(2),
                   COUNTS, CLOSE, COUNTS)
        self.assertEqual([numbers[7] for numbers in told if len(numbers) == 8], [0, 1, 2, 3, 5, 6, 7, 8])

    def test_what_is_refused_does_not_count(self):
        told = ask(enter(5, 1), night(1), accept(1), decline(7), drop(5, 1), pay(5, 0), payout(5), transfer(5, 5),
                   CLOSE, enter(5, 1), enter(0, 1), night(0), night(31), COUNTS)
        self.assertEqual(told[-1], [1, 1, 0, 1, 1, 0, 0, 0])

    def test_clear(self):
        told = ask(rules("back 0 9"), enter(5, 2), night(1), accept(0), CLEAR, COUNTS)
        self.assertEqual(told[-1], [0] * 8)

    def test_it_changes_nothing(self):
        house = settled("", TWO, has=[5], offers=[5, 3], day=7)
        before = picture(house)
        ask_on(house, COUNTS, COUNTS)
        self.assertEqual(picture(house), before)


if __name__ == "__main__":
    unittest.main()
