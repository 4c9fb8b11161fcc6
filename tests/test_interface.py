"""How calls are handed in and answers given back, the call clear, and that nothing is kept."""

import unittest

from entryhouse.house import answers
from entryhouse.state import House
from helper import (
    CLEAR, CLOSE, COUNTS, DEFAULT_ROW, MONEY, OFFERS, QUEUE, SHOW, accept, account, ask, ask_on, bring, decline,
    default_but, drop, enter, fill_ledger, flat, house_with, night, pay, payout, picture, rules, school, shown_as,
    transfer, want,
)


class TestForm(unittest.TestCase):

    def test_one_number(self):
        self.assertEqual(answers([0]), [1, 0])
        self.assertEqual(answers([3, 5, 2, 0]), [1, 0])

    def test_a_refusal_is_its_number_alone(self):
        self.assertEqual(answers([6, 0]), [1, -5])
        self.assertEqual(answers([1, 1, 256]), [1, -1])

    def test_rules(self):
        self.assertEqual(answers([1, 0]), [10, 0] + DEFAULT_ROW)
        self.assertEqual(answers([1, 2, 10, 99]), [3, 1, 1, 2])

    def test_show(self):
        shown = shown_as(default_but())
        self.assertEqual(answers([2]), [len(shown)] + shown)

    def test_calls_in_order(self):
        calls = [3, 5, 2, 0, 4, 5, 7, 5, 5, 1, 8, 5, 1, 9, 5, 5, 7, 3, 6, 3]
        self.assertEqual(answers(calls), [1, 0, 1, 7, 1, 0, 1, -6, 1, -1, 1, -5, 1, -5])

    def test_rows_of_rules_among_others(self):
        calls = [3, 5, 2, 0, 1, 3, 3, 5, 2, 0, 1, 0, 3, 6, 1, 1]
        self.assertEqual(answers(calls), [1, 0, 1, -4, 1, 0, 10, 0] + DEFAULT_ROW + [1, 0])

    def test_rows_of_offers(self):
        house = house_with("", [(5, 3, 0)], offers=[5, 5])
        self.assertEqual(ask_on(house, accept(0), decline(1), drop(5, 1)), [[1, 5], [2, 5], [0, 0]])

    def test_money(self):
        calls = [3, 5, 1, 0, 10, 5, 70, 15, 5, 18, 11, 5, 11, 5]
        told = [1, 0, 1, 70, 6, 70, 70, 0, 0, 0, 0, 6, 70, 70, 0, 0, 0, 0, 1, 70, 1, -6]
        self.assertEqual(answers(calls), told)

    def test_below_0_and_no_refusal(self):
        calls = [rules("fee 9"), enter(5, 1), night(1), accept(0)]
        head = answers(flat(calls))
        self.assertEqual(answers(flat(calls + [account(5), MONEY])), head + [6, -9, 0, 9, 0, 0, 0] * 2)
        self.assertEqual(answers(flat(calls + [pay(5, 4), account(5)])), head + [1, -5, 6, -5, 4, 9, 0, 0, 0])

    def test_nights_offers_and_queue(self):
        self.assertEqual(answers([12, 1, 16, 17]), [1, 1, 1, 0, 1, 0])
        self.assertEqual(answers([3, 5, 1, 0, 17, 12, 1, 16]), [1, 0, 2, 1, 5, 4, 1, 0, 5, 1, 5, 1, 0, 5, 1, 4])
        self.assertEqual(answers([3, 5, 2, 0, 17, 12, 1, 16]),
                         [1, 0, 3, 2, 5, 5, 7, 1, 0, 5, 1, 1, 5, 1, 11, 2, 4, 0, 5, 1, 4, 4, 1, 5, 1, 4])

    def test_school_and_counts(self):
        self.assertEqual(answers([3, 5, 2, 7, 14, 5, 19]), [1, 0, 5, 0, 2, 0, 7, 0, 8, 0, 1, 0, 0, 0, 0, 0, 0])

    def test_close(self):
        calls = flat([rules("start 1"), enter(5, 1), enter(3, 1, 1), night(1), accept(0)])
        head = answers(calls)
        self.assertEqual(answers(calls + [13, 13]), head + [10, 1, 1, 3, 6, 5, 1, 1, 3, 0, 0, 1, -4])

    def test_200_calls(self):
        self.assertEqual(answers([0] * 200), [1, 0] * 200)

    def test_200_calls_of_all_kinds(self):
        block = [rules("start 1\nfee 7"), SHOW, enter(5, 2), enter(3, 2), want(3, 3), bring(5, 1), night(1), OFFERS,
                 accept(0), decline(1), drop(5, 1), accept(2), QUEUE, pay(5, 20), payout(5), night(3), want(3, 9),
                 COUNTS, transfer(5, 3), school(3), account(3), MONEY, CLOSE, night(30), CLEAR]
        once = ask(*block)
        self.assertEqual(len(block), 25)
        self.assertEqual({call[0] for call in block}, set(range(20)))
        self.assertEqual(ask(*block * 8), once * 8)
        self.assertTrue(all(told[0] >= 0 for told in once if len(told) == 1), once)

    def test_200_calls_with_40_nights(self):
        calls = [enter(5, 20), enter(3, 20)] + [night(1), QUEUE, OFFERS, COUNTS] * 40 + [MONEY] * 38
        told = ask(*calls)
        self.assertEqual(len(calls), 200)
        self.assertEqual(len(told), 200)
        self.assertEqual([numbers[0] for numbers in told[2:162:4]], list(range(1, 41)))

    def test_longest_list(self):
        row = [32] * 1100
        calls = flat([rules(row)] * 15)
        self.assertEqual(answers(calls), [1, -1] * 15)

    def test_plain_numbers_in_a_plain_list(self):
        told = answers(flat([rules("fee 3"), SHOW, enter(1, 2), bring(1, 2), rules("x")]))
        self.assertIs(type(told), list)
        self.assertEqual({type(number) for number in told}, {int})


class TestNothingIsKept(unittest.TestCase):

    CALLS = flat([
        rules("cap 2\nback 9 9"), SHOW, enter(5, 3, 1), enter(3, 2, 0), want(5, 9), bring(3, 4), accept(0),
        decline(0), drop(5, 1), transfer(5, 3), rules("x"), night(1), accept(0), decline(1), transfer(5, 3),
        pay(5, 10 ** 6), payout(5), night(30), night(30), CLOSE, school(5), account(5), OFFERS, QUEUE, MONEY, COUNTS,
        CLEAR, rules("fee x"),
    ])

    def test_the_list_stays_as_it_was(self):
        calls = list(self.CALLS)
        answers(calls)
        self.assertEqual(calls, self.CALLS)

    def test_the_list_is_not_changed_for_a_while(self):
        answers(Unchanging(self.CALLS))

    def test_two_runs_answer_alike(self):
        self.assertEqual(answers(self.CALLS), answers(self.CALLS))
        for left in ([enter(5, 1)], [enter(number, 1) for number in range(1, 31)], [rules("places 9")]):
            answers(flat(left))
            self.assertEqual(ask(enter(5, 1), want(6, 1)), [[0], [-5]])

    def test_rules_are_forgotten(self):
        answers(flat([rules("cap 2")]))
        self.assertEqual(ask(SHOW), [shown_as(default_but())])

    def test_days_offers_and_money_are_forgotten(self):
        answers(flat([rules("start 1"), enter(5, 1), night(1), pay(5, 9), CLOSE]))
        self.assertEqual(ask(COUNTS, OFFERS, MONEY, enter(5, 1), night(1)), [
            [0] * 8, [0], [0] * 6, [0], [1, 0, 5, 1]])

    def test_what_is_given_back_is_ones_own(self):
        told = answers([1, 0])
        told.clear()
        self.assertEqual(answers([1, 0]), [10, 0] + DEFAULT_ROW)


class TestClear(unittest.TestCase):

    def test_all_is_as_at_first(self):
        house = house_with("cap 2\nback 9 9", [(5, 3, 1)], offers=[5, 5], day=4)
        fill_ledger(house, 7)
        ask_on(house, accept(0))
        house.closed = True
        self.assertEqual(ask_on(house, CLEAR), [[0]])
        self.assertEqual(picture(house), picture(House()))

    def test_at_first(self):
        self.assertEqual(ask(CLEAR, CLEAR, enter(5, 1)), [[0], [0], [0]])

    def test_schools_are_gone(self):
        told = ask(enter(5, 1), enter(6, 1), CLEAR, want(5, 1), enter(5, 1))
        self.assertEqual(told, [[0], [1], [0], [-5], [0]])

    def test_numbers_of_offers_begin_anew(self):
        house = house_with("", [(5, 3, 0)], offers=[5, 5])
        ask_on(house, CLEAR, enter(6, 3))
        house.make_offer(house.schools[6])
        self.assertEqual(ask_on(house, accept(1), accept(0)), [[-5], [1, 6]])


class Unchanging(list):
    """A list that can only be read."""

    def refuse(self, *args, **kwargs):
        raise AssertionError("what is handed in is changed")

    __setitem__ = __delitem__ = __iadd__ = __imul__ = refuse
    append = extend = insert = pop = remove = clear = sort = reverse = refuse


if __name__ == "__main__":
    unittest.main()
