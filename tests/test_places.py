"""The calls accept, decline, drop and transfer, and the entries of money that they make."""

import itertools
import unittest

from helper import (
    HUGE, accept, ask, ask_on, assert_refused, decline, drop, fill_ledger, house_with, picture, places_of, settled,
    transfer,
)

TWO = [(5, 9, 0), (3, 9, 0)]
BACK = "start 60\nfee 333\nback 30 80 10 50 0 10"


class TestAccept(unittest.TestCase):

    def test_places_then_and_the_school(self):
        house = house_with("", TWO, offers=[5, 3, 5])
        self.assertEqual(ask_on(house, accept(2), accept(0), accept(1)), [[1, 5], [2, 5], [1, 3]])

    def test_what_changes(self):
        house = house_with("fee 70", TWO, offers=[5, 3, 5])
        ask_on(house, accept(2))
        self.assertEqual(places_of(house, 5), (1, 9, 1))
        self.assertEqual(places_of(house, 3), (0, 9, 1))
        self.assertEqual(list(house.offers), [0, 1])
        self.assertEqual(house.ledger.entries, [(5, "fee", 70)])

    def test_a_fee_of_nothing_is_an_entry(self):
        house = house_with("fee 0", TWO, offers=[5])
        ask_on(house, accept(0))
        self.assertEqual(house.ledger.entries, [(5, "fee", 0)])

    def test_the_offer_is_gone(self):
        house = house_with("", TWO, offers=[5, 3])
        self.assertEqual(ask_on(house, accept(0)), [[1, 5]])
        assert_refused(self, house, accept(0), -5)
        assert_refused(self, house, decline(0), -5)
        self.assertEqual(ask_on(house, accept(1)), [[1, 3]])

    def test_numbers_of_offers_go_on(self):
        house = house_with("", TWO, offers=[5])
        ask_on(house, accept(0))
        house.make_offer(house.schools[3])
        self.assertEqual(ask_on(house, accept(0), accept(1)), [[-5], [1, 3]])

    def test_no_such_offer(self):
        house = house_with("", TWO, offers=[5, 3])
        for offer in (-1, 2, 5, HUGE, -HUGE):
            assert_refused(self, house, accept(offer), -5)
        self.assertEqual(ask(accept(0)), [[-5]])

    def test_400_entries(self):
        house = house_with("", TWO, offers=[5, 3])
        fill_ledger(house, 399)
        self.assertEqual(ask_on(house, accept(1)), [[1, 3]])
        self.assertEqual(len(house.ledger.entries), 400)
        assert_refused(self, house, accept(0), -9)

    def test_order_of_refusals(self):
        house = house_with("", TWO, offers=[5])
        fill_ledger(house, 400)
        assert_refused(self, house, accept(1), -5)
        house.closed = True
        assert_refused(self, house, accept(1), -5)
        assert_refused(self, house, accept(0), -4)


class TestDecline(unittest.TestCase):

    def test_wanted_then_and_the_school(self):
        house = house_with("", [(5, 9, 0), (3, 2, 0)], offers=[5, 3, 5])
        self.assertEqual(ask_on(house, decline(2), decline(1), decline(0)), [[8, 5], [1, 3], [7, 5]])

    def test_what_changes(self):
        house = settled("", TWO, has=[5], offers=[5, 3, 5])
        ask_on(house, decline(0))
        self.assertEqual(places_of(house, 5), (1, 8, 1))
        self.assertEqual(places_of(house, 3), (0, 9, 1))
        self.assertEqual(list(house.offers), [1, 2])
        self.assertEqual(house.ledger.entries, [])

    def test_down_to_none_wanted(self):
        house = house_with("", [(5, 1, 0)], offers=[5])
        self.assertEqual(ask_on(house, decline(0)), [[0, 5]])

    def test_the_offer_is_gone(self):
        house = house_with("", TWO, offers=[5, 3])
        ask_on(house, decline(1))
        assert_refused(self, house, decline(1), -5)
        assert_refused(self, house, accept(1), -5)

    def test_no_such_offer(self):
        house = house_with("", TWO, offers=[5, 3])
        for offer in (-1, 2, 5, HUGE, -HUGE):
            assert_refused(self, house, decline(offer), -5)

    def test_closed(self):
        house = house_with("", TWO, offers=[5])
        house.closed = True
        assert_refused(self, house, decline(1), -5)
        assert_refused(self, house, decline(0), -4)

    def test_400_entries_do_not_matter(self):
        house = house_with("", TWO, offers=[5])
        fill_ledger(house, 400)
        self.assertEqual(ask_on(house, decline(0)), [[8, 5]])


class TestDrop(unittest.TestCase):

    def test_percent_by_day(self):
        percents = {0: 80, 29: 80, 30: 80, 31: 50, 49: 50, 50: 50, 51: 10, 59: 10, 60: 10, 61: 0, 62: 0, 1000: 0}
        for day, percent in percents.items():
            house = settled(BACK, TWO, has=[5], day=day)
            self.assertEqual(ask_on(house, drop(5, 1)), [[333 * percent // 100, percent]], day)

    def test_last_pair_ahead_of_the_start(self):
        for day, percent in {8: 40, 9: 0, 10: 0, 11: 0}.items():
            house = settled("start 10\nfee 100\nback 2 40", TWO, has=[5], day=day)
            self.assertEqual(ask_on(house, drop(5, 1)), [[percent, percent]], day)

    def test_percents_are_not_taken_for_days(self):
        for day, percent in {0: 5, 30: 5, 31: 3, 40: 3, 50: 3, 51: 0, 56: 0}.items():
            house = settled("fee 100\nback 30 5 10 3", TWO, has=[5], day=day)
            self.assertEqual(ask_on(house, drop(5, 1)), [[percent, percent]], day)

    def test_without_pairs(self):
        house = settled("", TWO, has=[5, 5])
        self.assertEqual(ask_on(house, drop(5, 1)), [[0, 0]])
        self.assertEqual(house.ledger.entries, [(5, "given back", 0)])
        self.assertEqual(places_of(house, 5), (1, 8, 0))

    def test_rounded_down_for_each(self):
        house = settled("fee 333\nback 0 50", TWO, has=[5, 5, 5])
        self.assertEqual(ask_on(house, drop(5, 3)), [[498, 50]])
        self.assertEqual(house.ledger.entries, [(5, "given back", 498)])

    def test_the_whole_fee(self):
        house = settled("fee 9999\nback 60 100", TWO, has=[5, 5])
        self.assertEqual(ask_on(house, drop(5, 2)), [[19998, 100]])

    def test_what_changes(self):
        house = settled(BACK, TWO, has=[5, 3, 5, 5], offers=[5, 3])
        self.assertEqual(ask_on(house, drop(5, 2)), [[532, 80]])
        self.assertEqual(places_of(house, 5), (1, 7, 1))
        self.assertEqual(places_of(house, 3), (1, 9, 1))
        self.assertEqual(list(house.offers), [0, 1])

    def test_more_than_it_has(self):
        house = settled("", TWO, has=[5, 5, 3], offers=[5])
        assert_refused(self, house, drop(5, 3), -6)
        self.assertEqual(ask_on(house, drop(5, 2)), [[0, 0]])
        assert_refused(self, house, drop(5, 1), -6)

    def test_bounds(self):
        house = settled("places 60\ncap 9", TWO, has=[5])
        for n in (0, -1, 61, HUGE, -HUGE):
            assert_refused(self, house, drop(5, n), -1)
        assert_refused(self, house, drop(5, 60), -6)
        self.assertEqual(ask_on(house, drop(5, 1)), [[0, 0]])

    def test_no_such_school(self):
        house = settled("", TWO, has=[5])
        for number in (0, -1, 1, 4, 6, 1000, HUGE, -HUGE):
            assert_refused(self, house, drop(number, 1), -5)

    def test_400_entries(self):
        house = settled("", TWO, has=[5, 5])
        fill_ledger(house, 399)
        self.assertEqual(ask_on(house, drop(5, 1)), [[0, 0]])
        assert_refused(self, house, drop(5, 1), -9)

    def test_many_places_are_one_entry(self):
        house = settled("", TWO, has=[5, 5, 5])
        fill_ledger(house, 399)
        self.assertEqual(ask_on(house, drop(5, 3)), [[0, 0]])

    def test_order_of_refusals(self):
        house = settled("", TWO, has=[5])
        fill_ledger(house, 400)
        assert_refused(self, house, drop(4, 0), -5)
        assert_refused(self, house, drop(5, 61), -1)
        assert_refused(self, house, drop(5, 2), -6)
        house.closed = True
        assert_refused(self, house, drop(4, 1), -5)
        assert_refused(self, house, drop(5, 0), -1)
        assert_refused(self, house, drop(5, 2), -4)
        assert_refused(self, house, drop(5, 1), -4)


class TestTransfer(unittest.TestCase):

    def test_places_of_a_then(self):
        house = settled("", TWO, has=[5, 5])
        self.assertEqual(ask_on(house, transfer(5, 3), transfer(5, 3)), [[1], [0]])

    def test_what_changes(self):
        house = settled("fee 70\nback 0 40", TWO, has=[5, 5, 3], offers=[5, 3])
        ask_on(house, transfer(5, 3))
        self.assertEqual(places_of(house, 5), (1, 8, 1))
        self.assertEqual(places_of(house, 3), (2, 9, 1))
        self.assertEqual(list(house.offers), [0, 1])
        self.assertEqual(house.ledger.entries, [(5, "given back", 70), (3, "fee", 70)])

    def test_the_whole_fee_on_any_day(self):
        house = settled("fee 70\nstart 5\nback 3 40", TWO, has=[5], day=9)
        self.assertEqual(ask_on(house, transfer(5, 3)), [[0]])
        self.assertEqual(house.ledger.entries, [(5, "given back", 70), (3, "fee", 70)])

    def test_there_and_back(self):
        house = settled("", [(5, 2, 0), (3, 2, 0)], has=[5, 5])
        self.assertEqual(ask_on(house, transfer(5, 3), transfer(3, 5)), [[1], [-7]])

    def test_no_such_school(self):
        house = settled("", TWO, has=[5])
        for number in (0, -1, 1, 4, 6, 1000, HUGE, -HUGE):
            assert_refused(self, house, transfer(number, 3), -5)
            assert_refused(self, house, transfer(5, number), -5)
            assert_refused(self, house, transfer(number, number), -5)

    def test_the_same(self):
        house = settled("", TWO, has=[5])
        assert_refused(self, house, transfer(5, 5), -1)
        assert_refused(self, house, transfer(3, 3), -1)

    def test_a_has_none(self):
        house = settled("", TWO, has=[3], offers=[5])
        assert_refused(self, house, transfer(5, 3), -6)
        self.assertEqual(ask_on(house, accept(0), transfer(5, 3)), [[1, 5], [0]])

    def test_b_waits_by_what_it_wants(self):
        for wanted, has, offers, waits in ((3, 3, 0, False), (3, 2, 1, False), (3, 0, 3, False), (3, 2, 0, True),
                                           (3, 1, 1, True), (3, 0, 2, True), (1, 0, 0, True)):
            house = settled("", [(5, 9, 0), (3, wanted, 0)], has=[5] + [3] * has, offers=[3] * offers)
            self.transferred(house, waits)

    def test_b_waits_by_cap(self):
        for has, offers, waits in ((2, 0, False), (1, 1, False), (0, 2, False), (1, 0, True), (0, 1, True)):
            house = settled("cap 2", TWO, has=[5] + [3] * has, offers=[3] * offers)
            self.transferred(house, waits)

    def transferred(self, house, waits):
        if waits:
            self.assertEqual(ask_on(house, transfer(5, 3)), [[0]])
        else:
            assert_refused(self, house, transfer(5, 3), -7)

    def test_400_entries(self):
        house = settled("", TWO, has=[5, 5])
        fill_ledger(house, 398)
        self.assertEqual(ask_on(house, transfer(5, 3)), [[1]])
        self.assertEqual(len(house.ledger.entries), 400)
        assert_refused(self, house, transfer(5, 3), -9)
        house = settled("", TWO, has=[5, 5])
        fill_ledger(house, 399)
        assert_refused(self, house, transfer(5, 3), -9)

    def test_order_of_refusals(self):
        house = settled("cap 2", TWO, has=[3, 3])
        fill_ledger(house, 400)
        assert_refused(self, house, transfer(5, 3), -6)
        assert_refused(self, house, transfer(5, 5), -1)
        full = settled("cap 2", TWO, has=[5, 3, 3])
        fill_ledger(full, 399)
        assert_refused(self, full, transfer(5, 3), -7)
        for closed in (house, full):
            closed.closed = True
            assert_refused(self, closed, transfer(4, 3), -5)
            assert_refused(self, closed, transfer(5, 4), -5)
            assert_refused(self, closed, transfer(5, 5), -1)
            assert_refused(self, closed, transfer(5, 3), -4)


class TestPromises(unittest.TestCase):

    def test_no_more_than_places_cap_and_wanted(self):
        """Each line of three calls, from a house where all bounds are near."""
        calls = [accept(0), accept(1), decline(0), drop(5, 1), drop(3, 1), transfer(5, 3), transfer(3, 5),
                 [4, 5, 1], [4, 5, 3], [4, 3, 2], [4, 3, 0]]
        for line in itertools.product(calls, repeat=3):
            house = settled("places 4\ncap 2", [(5, 3, 0), (3, 2, 0)], has=[5, 3], offers=[5, 3])
            for call in line:
                ask_on(house, call)
                self.within(house, line)

    def within(self, house, line):
        schools = list(house.schools.values())
        self.assertLessEqual(sum(school.load() for school in schools), 4, line)
        for school in schools:
            self.assertLessEqual(school.load(), school.wanted, line)
            self.assertLessEqual(school.load(), 2, line)
            self.assertGreaterEqual(min(school.has, school.offered, school.wanted), 0, line)
            open_offers = [offer for offer in house.offers.values() if offer.school == school]
            self.assertEqual(school.offered, len(open_offers), line)

    def test_order_of_answers_does_not_matter(self):
        answers = [accept(0), decline(1), decline(2), accept(3)]
        ends = []
        for line in itertools.permutations(answers):
            house = settled("", TWO, has=[3], offers=[5, 3, 5, 3], day=7)
            ask_on(house, *line)
            house.ledger.entries = sorted(house.ledger.entries)
            ends.append(picture(house))
        self.assertEqual(len(ends), 24)
        for end in ends:
            self.assertEqual(end, ends[0])

    def test_money_entry_by_entry(self):
        house = house_with("fee 90\nback 20 50", TWO, offers=[5, 5, 3, 3])
        ask_on(house, accept(3), accept(0), decline(2), transfer(5, 3), accept(9), accept(1), drop(3, 2), drop(3, 1))
        self.assertEqual(house.ledger.entries, [
            (3, "fee", 90), (5, "fee", 90), (5, "given back", 90), (3, "fee", 90), (5, "fee", 90),
            (3, "given back", 90),
        ])


if __name__ == "__main__":
    unittest.main()
