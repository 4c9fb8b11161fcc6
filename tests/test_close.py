"""The call close, and what is refused and what still answers behind it."""

import unittest

from helper import (
    CLEAR, CLOSE, COUNTS, MONEY, OFFERS, QUEUE, SHOW, accept, account, ask, ask_on, assert_refused, bring, decline,
    default_but, drop, enter, fill_ledger, house_with, last, night, nights, pay, payout, picture, places_of, rules,
    school, settled, shown_as, transfer, want,
)
from entryhouse.house import answers
from entryhouse.state import House


class TestAnswer(unittest.TestCase):

    def test_no_school(self):
        self.assertEqual(last(night(30), night(30), CLOSE), [0, 1, 0, 0])
        self.assertEqual(answers([1, 7] + list(b"start 1") + [12, 1, 13])[11:], [1, 1, 4, 0, 1, 0, 0])

    def test_one_school(self):
        told = last(rules("start 1"), enter(5, 3), night(1), accept(0), accept(1), accept(2), CLOSE)
        self.assertEqual(told, [3, 1, 1, 3, 5, 3, 2])

    def test_several_schools_in_their_order(self):
        told = last(rules("start 1"), enter(50, 3, 1), enter(3, 1, 0), enter(700, 2, 2), night(1), accept(0),
                    accept(1), accept(2), accept(3), accept(4), CLOSE)
        self.assertEqual(told, [5, 1, 3, 9, 50, 2, 0, 3, 1, 1, 700, 2, 0])

    def test_30_schools(self):
        told = last(rules("start 1"), *[enter(number, 1) for number in range(30, 0, -1)], night(1), CLOSE)
        self.assertEqual(told[:4], [0, 1, 0, 90])
        self.assertEqual(told[4:], [told for number in range(30, 0, -1) for told in (number, 0, 0)])

    def test_schools_without_places(self):
        told = last(rules("start 1\njudges 9 1"), enter(5, 3, 2), enter(3, 1, 0), night(1), CLOSE)
        self.assertEqual(told, [0, 1, 0, 6, 5, 0, 0, 3, 0, 0])


class TestSwing(unittest.TestCase):

    def swing(self, form, taken):
        calls = [accept(offer) for offer in range(taken)]
        told = last(rules(f"start 1\ncap 9\nform {form}"), enter(5, 9), night(1), *calls, CLOSE)
        self.assertEqual(told[0], taken)
        self.assertEqual(told[1], 1)
        return told[2]

    def test_rooms_of_four(self):
        self.assertEqual([self.swing(4, taken) for taken in range(10)], [0, 3, 2, 1, 0, 3, 2, 1, 0, 3])

    def test_rooms_of_two(self):
        self.assertEqual([self.swing(2, taken) for taken in range(10)], [0, 1, 0, 1, 0, 1, 0, 1, 0, 1])


class TestFines(unittest.TestCase):

    def closed(self, text, has, judges):
        """What close tells of a school's judges, its fines, and how many entries close makes."""
        accepted = [accept(offer) for offer in range(has)]
        told = ask(rules("start 1\ncap 9\n" + text), enter(5, 9, judges), night(1), *accepted, COUNTS, CLOSE,
                   account(5), COUNTS)
        return (told[-3][6], told[-2][4], told[-1][7] - told[-4][7])

    def test_judges_missing(self):
        told = [self.closed("judges 2 3\nfine 70", has, 1) for has in range(7)]
        self.assertEqual(told, [
            (0, 0, 0), (0, 0, 0), (1, 70, 1), (1, 70, 1), (2, 140, 1), (3, 210, 1), (3, 210, 1),
        ])

    def test_judges_brought_and_their_neighbours(self):
        told = [self.closed("judges 3 2", 3, judges) for judges in (0, 3, 4, 5, 6, 99)]
        self.assertEqual(told, [(5, 2500, 1), (2, 1000, 1), (1, 500, 1), (0, 0, 0), (0, 0, 0), (0, 0, 0)])

    def test_none_owed(self):
        self.assertEqual(self.closed("judges 0 1", 4, 0), (0, 0, 0))
        self.assertEqual(self.closed("judges 0 9", 9, 0), (0, 0, 0))

    def test_a_fine_of_0(self):
        self.assertEqual(self.closed("fine 0", 4, 0), (2, 0, 0))

    def test_the_greatest_fine(self):
        self.assertEqual(self.closed("judges 9 1\nfine 9999", 9, 0), (81, 809919, 1))

    def test_each_school_s_own(self):
        told = ask(rules("start 1\nfine 10\nfee 0\njudges 1 1"), enter(5, 2, 1), enter(3, 1, 1), enter(9, 2), night(1),
                   *[accept(offer) for offer in range(5)], CLOSE, account(5), account(3), account(9), MONEY, COUNTS)
        self.assertEqual(told[-6], [5, 1, 3, 9, 5, 2, 1, 3, 1, 0, 9, 2, 2])
        self.assertEqual(told[-5:-1], [
            [-10, 0, 0, 0, 10, 0], [0] * 6, [-20, 0, 0, 0, 20, 0], [-30, 0, 0, 0, 30, 0],
        ])
        self.assertEqual(told[-1], [1, 3, 5, 0, 5, 1, 0, 7])

    def test_what_was_brought_last_counts(self):
        calls = [rules("start 1"), enter(5, 2), night(1), accept(0), accept(1)]
        self.assertEqual(last(*calls, CLOSE), [2, 1, 2, 3, 5, 2, 1])
        self.assertEqual(last(*calls, bring(5, 1), CLOSE), [2, 1, 2, 3, 5, 2, 0])


class TestOffersAndWanted(unittest.TestCase):

    def test_open_offers_are_gone_and_wanted_stays(self):
        told = ask(rules("start 1\nplaces 3"), enter(5, 3), enter(3, 9), night(1), accept(0), CLOSE, OFFERS, school(5),
                   school(3), accept(1), decline(2), COUNTS)
        self.assertEqual(told[5], [1, 1, 3, 6, 5, 1, 1, 3, 0, 0])
        self.assertEqual(told[6:9], [[0], [1, 3, 0, 0, 1], [0, 9, 0, 0, 0]])
        self.assertEqual(told[9:11], [[-5], [-5]])
        self.assertEqual(told[11], [1, 2, 1, 0, 3, 1, 0, 2])

    def test_nothing_lapses_or_is_made_behind_it(self):
        told = ask(rules("start 1\nplaces 3"), enter(5, 3), enter(3, 9), night(1), CLOSE, night(30), OFFERS,
                   school(5), school(3), COUNTS)
        self.assertEqual(told[5:], [
            [31], [0], [0, 3, 0, 0, 0], [0, 9, 0, 0, 0], [31, 2, 0, 0, 3, 1, 0, 0],
        ])


class TestRefusals(unittest.TestCase):

    def test_the_day_of_the_start(self):
        for start in (1, 2, 30, 60, 199, 200):
            house = house_with(f"start {start}", [(5, 3, 0)])
            ask_on(house, *nights(start - 1))
            assert_refused(self, house, CLOSE, -6)
            self.assertEqual(ask_on(house, night(1), CLOSE)[1], [0, 1, 0, 3, 5, 0, 0])

    def test_behind_the_start(self):
        calls = [rules("start 3"), *nights(5)]
        self.assertEqual(last(*calls, CLOSE), [0, 1, 0, 0])
        self.assertEqual(last(*nights(1000), CLOSE), [0, 1, 0, 0])

    def test_by_default_day_60(self):
        self.assertEqual(last(*nights(59), CLOSE), [-6])
        self.assertEqual(last(*nights(60), CLOSE), [0, 1, 0, 0])
        self.assertEqual(ask(CLOSE), [[-6]])

    def test_twice(self):
        house = house_with("start 1", [(5, 3, 0)])
        ask_on(house, night(1), CLOSE)
        assert_refused(self, house, CLOSE, -4)
        ask_on(house, night(9))
        assert_refused(self, house, CLOSE, -4)

    def test_order_of_refusals(self):
        house = house_with("start 2", [(5, 3, 0)])
        ask_on(house, night(1))
        fill_ledger(house, 400)
        assert_refused(self, house, CLOSE, -6)
        ask_on(house, night(1))
        assert_refused(self, house, CLOSE, -9)
        house.closed = True
        assert_refused(self, house, CLOSE, -4)
        house.day = 1
        assert_refused(self, house, CLOSE, -4)

    def test_no_school_with_400_entries(self):
        self.assertEqual(last(*nights(60), CLOSE), [0, 1, 0, 0])


class TestBehindClose(unittest.TestCase):

    def closed(self):
        """A house with places taken, money of all kinds, and close on day 2."""
        house = house_with("start 2\nplaces 4\nfee 100\nback 0 25\nfine 30", [(5, 3, 0), (3, 3, 1)])
        ask_on(house, night(1), accept(0), accept(1), accept(2), drop(5, 1), pay(5, 500), night(1))
        self.assertEqual(ask_on(house, CLOSE), [[2, 1, 2, 6, 5, 1, 1, 3, 1, 0]])
        return house

    def test_refused(self):
        house = self.closed()
        for call in (rules(""), rules("x"), enter(9, 1), enter(5, 1), want(5, 3), want(5, 0), bring(5, 1), drop(5, 1),
                     drop(5, 9), transfer(5, 3), transfer(3, 5), CLOSE):
            assert_refused(self, house, call, -4)

    def test_refused_for_what_is_told_first(self):
        house = self.closed()
        for call, refusal in ((rules([256]), -1), (enter(0, 1), -1), (want(9, 1), -5), (want(5, 21), -1),
                              (bring(9, 1), -5), (bring(5, 100), -1), (accept(3), -5), (decline(3), -5),
                              (drop(9, 1), -5), (drop(5, 0), -1), (transfer(9, 5), -5), (transfer(5, 9), -5),
                              (transfer(5, 5), -1)):
            assert_refused(self, house, call, refusal)

    def test_still_answered(self):
        house = self.closed()
        self.assertEqual(ask_on(house, SHOW), [
            shown_as(default_but("start 2", "places 4", "fee 100", "back 0 25", "fine 30"))])
        self.assertEqual(ask_on(house, school(5), school(3)), [[1, 2, 0, 0, 1], [1, 3, 0, 1, 1]])
        self.assertEqual(ask_on(house, account(5), account(3)), [
            [295, 500, 200, 25, 30, 0], [-100, 0, 100, 0, 0, 0]])
        self.assertEqual(ask_on(house, OFFERS, QUEUE), [[0], [3, 5, 3, 3]])
        self.assertEqual(ask_on(house, MONEY, COUNTS), [[195, 500, 300, 25, 30, 0], [2, 2, 2, 0, 5, 1, 25, 6]])
        self.assertEqual(ask_on(house, night(1), pay(3, 7), payout(5), payout(3)), [[3], [-93], [295], [-6]])
        self.assertEqual(ask_on(house, COUNTS), [[3, 2, 2, 0, 5, 1, 0, 8]])

    def test_clear(self):
        house = self.closed()
        self.assertEqual(ask_on(house, CLEAR), [[0]])
        self.assertEqual(picture(house), picture(House()))
        self.assertEqual(ask_on(house, rules("cap 2"), enter(5, 9), night(1), OFFERS), [
            [0, 16, 4, 2, 1, 2, 1000, 500, 3, 60], [0], [1, 0, 5, 1, 1, 5, 1],
            [2, 4, 0, 5, 1, 4, 4, 1, 5, 1, 4]])

    def test_places_stay(self):
        house = self.closed()
        self.assertEqual(places_of(house, 5), (1, 2, 0))
        self.assertEqual(places_of(house, 3), (1, 3, 0))

    def test_nobody_s_place_changes_places_any_more(self):
        house = settled("start 1", [(5, 2, 0), (3, 2, 0)], has=[5], offers=[3], day=1)
        ask_on(house, CLOSE)
        ask_on(house, accept(0), drop(5, 1), transfer(5, 3), want(3, 9), night(3))
        self.assertEqual(places_of(house, 5), (1, 2, 0))
        self.assertEqual(places_of(house, 3), (0, 2, 0))


if __name__ == "__main__":
    unittest.main()
