"""The calls pay, payout, account and money, and the bound of 400 entries."""

import unittest

from helper import (
    CLOSE, COUNTS, HUGE, MONEY, account, accept, ask, ask_on, assert_refused, decline, drop, enter, fill_ledger,
    house_with, last, night, pay, payout, rules, settled, transfer,
)
from entryhouse.house import answers

TWO = [(5, 9, 0), (3, 9, 0)]
NOWHERE = (0, -1, 1, 4, 6, 999, 1000, HUGE, -HUGE)


class TestPay(unittest.TestCase):

    def test_its_account_then(self):
        told = ask(enter(5, 1), enter(3, 1), pay(5, 70), pay(3, 5), pay(5, 7))
        self.assertEqual(told[2:], [[70], [5], [77]])

    def test_below_0_is_no_refusal(self):
        calls = [rules("fee 1000"), enter(5, 1), night(1), accept(0)]
        for paid, told in ((1, -999), (991, -9), (995, -5), (999, -1), (1000, 0), (1001, 1)):
            self.assertEqual(last(*calls, pay(5, paid)), [told])
            self.assertEqual(last(*calls, pay(5, paid), account(5)), [told, paid, 1000, 0, 0, 0])

    def test_bounds(self):
        for n in (1, 2, 999999, 1000000):
            self.assertEqual(last(enter(5, 1), pay(5, n)), [n])
        for n in (0, -1, 1000001, 1000002, HUGE, -HUGE):
            assert_refused(self, house_with("", TWO), pay(5, n), -1)

    def test_no_such_school(self):
        house = house_with("", TWO)
        for number in NOWHERE:
            assert_refused(self, house, pay(number, 1), -5)

    def test_an_entry(self):
        house = house_with("", TWO)
        ask_on(house, pay(5, 70))
        self.assertEqual(house.ledger.entries, [(5, "paid", 70)])

    def test_400_entries(self):
        house = house_with("", TWO)
        for entries in range(0, 400, 100):
            told = ask_on(house, *[pay(5, 2)] * 100)
            self.assertEqual(told, [[2 * paid] for paid in range(entries + 1, entries + 101)])
        self.assertEqual(ask_on(house, COUNTS)[0][7], 400)
        assert_refused(self, house, pay(5, 2), -9)
        assert_refused(self, house, pay(3, 2), -9)

    def test_order_of_refusals(self):
        house = house_with("", TWO)
        fill_ledger(house, 400)
        assert_refused(self, house, pay(4, 0), -5)
        assert_refused(self, house, pay(4, 1), -5)
        assert_refused(self, house, pay(5, 0), -1)
        assert_refused(self, house, pay(5, 1000001), -1)
        assert_refused(self, house, pay(5, 1), -9)

    def test_behind_close(self):
        self.assertEqual(ask(rules("start 1"), enter(5, 1), night(1), CLOSE, pay(5, 30), pay(5, 3))[4:], [[30], [33]])


class TestPayout(unittest.TestCase):

    def test_the_whole_account(self):
        told = ask(enter(5, 1), pay(5, 70), pay(5, 7), payout(5), account(5))
        self.assertEqual(told[3:], [[77], [0, 77, 0, 0, 0, 77]])

    def test_above_0(self):
        self.assertEqual(last(enter(5, 1), pay(5, 1), payout(5)), [1])

    def test_at_0(self):
        assert_refused(self, house_with("", TWO), payout(5), -6)
        self.assertEqual(ask(enter(5, 1), pay(5, 9), payout(5), payout(5))[2:], [[9], [-6]])
        calls = [rules("fee 50"), enter(5, 1), night(1), accept(0), pay(5, 50)]
        self.assertEqual(last(*calls, payout(5)), [-6])

    def test_around_0(self):
        calls = [rules("fee 50"), enter(5, 1), night(1), accept(0)]
        self.assertEqual(last(*calls, payout(5)), [-6])
        self.assertEqual(last(*calls, pay(5, 49), payout(5)), [-6])
        self.assertEqual(last(*calls, pay(5, 51), payout(5)), [1])
        house = settled("fee 50", TWO)
        house.make_offer(house.schools[5])
        ask_on(house, accept(0))
        assert_refused(self, house, payout(5), -6)

    def test_another_school_s_money_does_not_count(self):
        told = ask(enter(5, 1), enter(3, 1), pay(3, 9), payout(5), payout(3), payout(3))
        self.assertEqual(told[3:], [[-6], [9], [-6]])

    def test_what_was_given_back(self):
        calls = [rules("fee 50\nback 0 40"), enter(5, 1), night(1), accept(0), pay(5, 50), drop(5, 1)]
        self.assertEqual(ask(*calls, payout(5), account(5))[5:], [[20, 40], [20], [0, 50, 50, 20, 0, 20]])

    def test_an_entry(self):
        house = house_with("", TWO)
        ask_on(house, pay(5, 70), payout(5))
        self.assertEqual(house.ledger.entries, [(5, "paid", 70), (5, "paid out", 70)])

    def test_no_such_school(self):
        house = house_with("", TWO)
        for number in NOWHERE:
            assert_refused(self, house, payout(number), -5)

    def test_400_entries(self):
        house = house_with("", TWO)
        ask_on(house, pay(5, 70), pay(3, 7))
        fill_ledger(house, 399)
        self.assertEqual(ask_on(house, payout(5)), [[70]])
        self.assertEqual(len(house.ledger.entries), 400)
        assert_refused(self, house, payout(3), -9)

    def test_order_of_refusals(self):
        house = house_with("", TWO)
        ask_on(house, pay(3, 7))
        fill_ledger(house, 400)
        assert_refused(self, house, payout(4), -5)
        assert_refused(self, house, payout(5), -6)
        assert_refused(self, house, payout(3), -9)

    def test_behind_close(self):
        told = ask(rules("start 1"), enter(5, 1), pay(5, 9), night(1), CLOSE, payout(5), payout(5))
        self.assertEqual(told[5:], [[9], [-6]])


class TestAccount(unittest.TestCase):

    def test_at_first(self):
        self.assertEqual(last(enter(5, 1), account(5)), [0] * 6)

    def test_paid_and_paid_out(self):
        told = ask(enter(5, 1), enter(3, 1), pay(5, 70), pay(5, 7), account(5), payout(5), pay(5, 1), account(5),
                   account(3))
        self.assertEqual([told[4], told[7], told[8]], [[77, 77, 0, 0, 0, 0], [1, 78, 0, 0, 0, 77], [0] * 6])

    def test_fees(self):
        told = ask(rules("fee 30"), enter(5, 2), night(1), account(5), accept(0), account(5), accept(1), account(5))
        self.assertEqual(told[3::2], [[0] * 6, [-30, 0, 30, 0, 0, 0], [-60, 0, 60, 0, 0, 0]])

    def test_declined_costs_nothing(self):
        self.assertEqual(last(enter(5, 1), night(1), decline(0), account(5)), [0] * 6)

    def test_given_back_by_a_drop(self):
        calls = [rules("fee 333\nback 0 50"), enter(5, 3), night(1), accept(0), accept(1), accept(2)]
        self.assertEqual(last(*calls, drop(5, 2), account(5)), [-667, 0, 999, 332, 0, 0])
        self.assertEqual(last(*calls, drop(5, 2), drop(5, 1), account(5)), [-501, 0, 999, 498, 0, 0])

    def test_given_back_by_a_transfer(self):
        told = ask(rules("fee 333\nback 0 50"), enter(5, 1), enter(3, 1), night(1), accept(0), decline(1),
                   [4, 3, 1], transfer(5, 3), account(5), account(3))
        self.assertEqual(told[7:], [[0], [0, 0, 333, 333, 0, 0], [-333, 0, 333, 0, 0, 0]])

    def test_fines(self):
        told = ask(rules("fee 30\nfine 8\njudges 2 1\nstart 1"), enter(5, 2, 1), night(1), accept(0), accept(1), CLOSE,
                   account(5))
        self.assertEqual(told[6], [-84, 0, 60, 0, 24, 0])

    def test_refusals_numbers_with_a_row(self):
        calls = [rules("fee 9"), enter(5, 1), night(1), accept(0)]
        self.assertEqual(last(*calls, account(5)), [-9, 0, 9, 0, 0, 0])
        self.assertEqual(last(*calls, pay(5, 4), account(5)), [-5, 4, 9, 0, 0, 0])
        self.assertEqual(last(*calls, pay(5, 8), account(5)), [-1, 8, 9, 0, 0, 0])

    def test_no_such_school(self):
        house = house_with("", TWO)
        for number in NOWHERE:
            assert_refused(self, house, account(number), -5)

    def test_large(self):
        told = last(enter(5, 1), *[pay(5, 1000000)] * 198, account(5))
        self.assertEqual(told, [198000000, 198000000, 0, 0, 0, 0])


class TestMoney(unittest.TestCase):

    def test_at_first(self):
        self.assertEqual(ask(MONEY), [[0] * 6])
        self.assertEqual(answers([18]), [6, 0, 0, 0, 0, 0, 0])

    def test_all_accounts_together(self):
        told = ask(rules("fee 100\nback 0 33\nfine 7\njudges 1 1\nstart 1"), enter(5, 3), enter(3, 1, 9), night(1),
                   accept(0), accept(1), accept(2), pay(5, 500), drop(5, 1), payout(5), MONEY, CLOSE, MONEY,
                   account(5), account(3))
        self.assertEqual(told[8:11], [[33, 33], [333], [-100, 500, 300, 33, 0, 333]])
        self.assertEqual(told[12:], [
            [-107, 500, 300, 33, 7, 333], [-7, 500, 200, 33, 7, 333], [-100, 0, 100, 0, 0, 0],
        ])

    def test_below_0_is_no_refusal(self):
        told = ask(rules("fee 5"), enter(5, 1), night(1), accept(0), MONEY)
        self.assertEqual(told[-1], [-5, 0, 5, 0, 0, 0])

    def test_a_transfer_leaves_it(self):
        told = ask(rules("fee 40"), enter(5, 1), enter(3, 1), night(1), accept(0), decline(1), MONEY, [4, 3, 1],
                   transfer(5, 3), MONEY)
        self.assertEqual(told[6], [-40, 0, 40, 0, 0, 0])
        self.assertEqual(told[9], [-40, 0, 80, 40, 0, 0])

    def test_gone_behind_clear(self):
        self.assertEqual(ask(enter(5, 1), pay(5, 9), [0], MONEY, enter(5, 1), account(5))[3:], [[0] * 6, [0], [0] * 6])


class TestEntries(unittest.TestCase):
    """The 400 entries, each of them made by a call."""

    def paid_up(self, entries, text="", schools=TWO):
        """A house that has so many entries, and offers of one night."""
        house = house_with(text, schools)
        ask_on(house, night(1), *[pay(schools[0][0], 1)] * entries)
        return house

    def entries(self, house):
        return ask_on(house, COUNTS)[0][7]

    def test_accept(self):
        house = self.paid_up(399)
        self.assertEqual(ask_on(house, accept(1)), [[1, 3]])
        self.assertEqual(self.entries(house), 400)
        assert_refused(self, house, accept(0), -9)
        self.assertEqual(ask_on(house, decline(0)), [[8, 5]])

    def test_drop(self):
        house = self.paid_up(397)
        ask_on(house, accept(0), accept(2))
        self.assertEqual(ask_on(house, drop(5, 1)), [[0, 0]])
        self.assertEqual(self.entries(house), 400)
        assert_refused(self, house, drop(5, 1), -9)

    def test_transfer_makes_two(self):
        schools = [(5, 2, 0), (3, 1, 0)]
        for entries, refused in ((396, False), (397, False), (398, True), (399, True)):
            house = self.paid_up(entries, "places 2", schools)
            ask_on(house, accept(0), decline(1), [4, 3, 1])
            self.assertEqual(self.entries(house), entries + 1)
            if refused:
                assert_refused(self, house, transfer(5, 3), -9)
            else:
                self.assertEqual(ask_on(house, transfer(5, 3)), [[0]])
                self.assertEqual(self.entries(house), entries + 3)

    def test_pay_and_payout(self):
        house = self.paid_up(398)
        self.assertEqual(ask_on(house, payout(5), pay(5, 6), pay(5, 6), payout(5)), [[398], [6], [-9], [-9]])

    def test_close_as_if_each_were_fined(self):
        for schools in (1, 2, 30):
            entered = [(number, 1, 99) for number in range(1, schools + 1)]
            house = self.paid_up(400 - schools, "start 1", entered)
            self.assertEqual(ask_on(house, CLOSE)[0][0], 0)
            self.assertEqual(self.entries(house), 400 - schools)
            assert_refused(self, self.paid_up(401 - schools, "start 1", entered), CLOSE, -9)
            assert_refused(self, self.paid_up(400, "start 1", entered), CLOSE, -9)

    def test_close_with_a_fine_of_0_and_with_no_judges_owed(self):
        for text in ("start 1\nfine 0", "start 1\njudges 0 1"):
            assert_refused(self, self.paid_up(399, text), CLOSE, -9)
            self.assertEqual(ask_on(self.paid_up(398, text), CLOSE)[0][0], 0)

    def test_each_kind_counts(self):
        told = ask(rules("start 1\nfee 0\nfine 1\njudges 1 1"), enter(5, 2), enter(3, 1, 9), night(1), COUNTS,
                   accept(0), COUNTS, decline(1), COUNTS, accept(2), drop(5, 1), COUNTS, [4, 3, 1], transfer(5, 3),
                   COUNTS, pay(3, 5), COUNTS, payout(3), COUNTS, CLOSE, COUNTS)
        entries = [numbers[7] for numbers in told if len(numbers) == 8]
        self.assertEqual(entries, [0, 1, 1, 3, 5, 6, 7, 7])


if __name__ == "__main__":
    unittest.main()
