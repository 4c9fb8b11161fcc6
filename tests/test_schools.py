"""The calls enter, want and bring."""

import unittest

from helper import (
    HUGE, accept, ask, ask_on, assert_refused, bring, drop, enter, fill_ledger, house_with, places_of, rules, settled,
    transfer, want,
)

NOWHERE = (0, -1, 1, 3, 6, 8, 999, 1000, HUGE, -HUGE)


def thirty_schools():
    return house_with("", [(number, 1, 0) for number in range(100, 130)])


class TestEnter(unittest.TestCase):

    def test_how_many_there_were(self):
        calls = [enter(number, 2, 1) for number in (50, 3, 999, 1)]
        self.assertEqual(ask(*calls), [[0], [1], [2], [3]])

    def test_what_a_school_is(self):
        house = house_with("", [(50, 7, 9), (3, 20, 0)])
        self.assertEqual(list(house.schools), [50, 3])
        self.assertEqual(places_of(house, 50), (0, 7, 0))
        self.assertEqual(places_of(house, 3), (0, 20, 0))
        self.assertEqual([school.judges for school in house.schools.values()], [9, 0])

    def test_bounds(self):
        for call in ([3, 1, 1, 0], [3, 999, 20, 99], [3, 2, 2, 1], [3, 998, 19, 98]):
            self.assertEqual(ask(call), [[0]])
        for number in (0, -1, 1000, HUGE, -HUGE):
            assert_refused(self, house_with(), enter(number, 1, 0), -1)
        for wanted in (0, -1, 21, HUGE, -HUGE):
            assert_refused(self, house_with(), enter(1, wanted, 0), -1)
        for judges in (-1, 100, HUGE, -HUGE):
            assert_refused(self, house_with(), enter(1, 1, judges), -1)

    def test_more_than_cap_may_be_wanted(self):
        self.assertEqual(ask(rules("cap 1"), enter(1, 20))[1], [0])

    def test_closed(self):
        house = house_with("", [(1, 1, 0)])
        house.closed = True
        assert_refused(self, house, enter(2, 1), -4)

    def test_in_already(self):
        house = house_with("", [(1, 1, 0), (2, 1, 0)])
        assert_refused(self, house, enter(1, 5, 5), -3)
        assert_refused(self, house, enter(2, 1, 0), -3)
        self.assertEqual(ask_on(house, enter(3, 1)), [[2]])

    def test_thirty_schools(self):
        calls = [enter(number, 1) for number in range(1, 32)]
        self.assertEqual(ask(*calls), [[were] for were in range(30)] + [[-9]])
        assert_refused(self, thirty_schools(), enter(1, 1), -9)

    def test_order_of_refusals(self):
        house = thirty_schools()
        assert_refused(self, house, enter(100, 1), -3)
        assert_refused(self, house, enter(100, 0), -1)
        assert_refused(self, house, enter(1, 0), -1)
        house.closed = True
        assert_refused(self, house, enter(100, 1), -4)
        assert_refused(self, house, enter(1, 1), -4)
        assert_refused(self, house, enter(1, 1, 100), -1)

    def test_entries_of_money_do_not_matter(self):
        house = house_with("", [(1, 1, 0)])
        fill_ledger(house, 400)
        self.assertEqual(ask_on(house, enter(2, 1)), [[1]])


class TestWant(unittest.TestCase):

    def test_without_places(self):
        self.assertEqual(ask(enter(7, 3), want(7, 5), want(7, 0), want(7, 20)), [[0], [5], [0], [20]])

    def test_it_wants_so_many(self):
        house = house_with("", [(7, 3, 0), (2, 4, 0)])
        ask_on(house, want(7, 11))
        self.assertEqual(places_of(house, 7), (0, 11, 0))
        self.assertEqual(places_of(house, 2), (0, 4, 0))

    def test_less_its_load(self):
        house = settled("", [(7, 9, 0)], has=[7, 7], offers=[7])
        self.assertEqual(ask_on(house, want(7, 20), want(7, 4), want(7, 3)), [[17], [1], [0]])
        self.assertEqual(places_of(house, 7), (2, 3, 1))

    def test_less_than_its_load(self):
        house = settled("", [(7, 9, 0)], has=[7, 7], offers=[7])
        for n in (2, 1, 0):
            assert_refused(self, house, want(7, n), -6)
        assert_refused(self, house_with("", [(7, 9, 0)], offers=[7]), want(7, 0), -6)
        assert_refused(self, settled("", [(7, 9, 0)], has=[7]), want(7, 0), -6)

    def test_bounds(self):
        house = house_with("", [(7, 3, 0)])
        self.assertEqual(ask_on(house, want(7, 0), want(7, 1), want(7, 19), want(7, 20)), [[0], [1], [19], [20]])
        for n in (-1, 21, HUGE, -HUGE):
            assert_refused(self, house, want(7, n), -1)

    def test_no_such_school(self):
        house = house_with("", [(7, 3, 0), (5, 3, 0)])
        for number in NOWHERE:
            assert_refused(self, house, want(number, 2), -5)
        self.assertEqual(ask(want(1, 1)), [[-5]])

    def test_order_of_refusals(self):
        house = settled("", [(7, 9, 0)], has=[7, 7])
        assert_refused(self, house, want(8, 21), -5)
        assert_refused(self, house, want(7, -1), -1)
        house.closed = True
        assert_refused(self, house, want(8, 2), -5)
        assert_refused(self, house, want(7, 21), -1)
        assert_refused(self, house, want(7, 5), -4)
        assert_refused(self, house, want(7, 1), -4)


class TestBring(unittest.TestCase):

    def owed(self, text, has):
        """What a school with so many places owes."""
        house = settled(text + "\ncap 9", [(7, 20, 0)], has=[7] * has)
        self.assertEqual(house.schools[7].has, has)
        return ask_on(house, bring(7, 3))[0]

    def test_without_places_none_is_owed(self):
        self.assertEqual(ask(enter(7, 3), bring(7, 5)), [[0], [0]])

    def test_by_default_one_for_each_two(self):
        self.assertEqual([self.owed("", has) for has in range(6)], [[0], [1], [1], [2], [2], [3]])

    def test_times_the_teams_ahead_of_dividing(self):
        self.assertEqual([self.owed("judges 3 2", has) for has in range(5)], [[0], [2], [3], [5], [6]])
        self.assertEqual([self.owed("judges 2 9", has) for has in range(1, 10)],
                         [[1], [1], [1], [1], [2], [2], [2], [2], [2]])
        self.assertEqual([self.owed("judges 9 1", has) for has in range(3)], [[0], [9], [18]])

    def test_none_owed_by_the_rules(self):
        self.assertEqual([self.owed("judges 0 1", has) for has in range(3)], [[0], [0], [0]])

    def test_open_offers_and_wanted_do_not_count(self):
        house = settled("judges 1 1", [(7, 9, 0)], has=[7], offers=[7, 7])
        self.assertEqual(ask_on(house, bring(7, 50)), [[1]])

    def test_it_brings_so_many(self):
        house = house_with("", [(7, 3, 2), (2, 4, 1)])
        ask_on(house, bring(7, 11))
        self.assertEqual([school.judges for school in house.schools.values()], [11, 1])
        self.assertEqual(places_of(house, 7), (0, 3, 0))

    def test_owed_follows_places(self):
        house = house_with("judges 2 1", [(7, 3, 0), (8, 3, 0)], offers=[7, 7])
        told = ask_on(house, accept(0), bring(7, 0), accept(1), bring(7, 0), transfer(7, 8), bring(8, 0), drop(7, 1),
                      bring(7, 0))
        self.assertEqual(told[1::2], [[2], [4], [2], [0]])

    def test_bounds(self):
        house = house_with("", [(7, 3, 5)])
        for n in (0, 1, 98, 99):
            self.assertEqual(ask_on(house, bring(7, n)), [[0]])
            self.assertEqual(house.schools[7].judges, n)
        for n in (-1, 100, HUGE, -HUGE):
            assert_refused(self, house, bring(7, n), -1)

    def test_no_such_school(self):
        house = house_with("", [(7, 3, 0), (5, 3, 0)])
        for number in NOWHERE:
            assert_refused(self, house, bring(number, 2), -5)

    def test_order_of_refusals(self):
        house = house_with("", [(7, 3, 0)])
        assert_refused(self, house, bring(8, 100), -5)
        house.closed = True
        assert_refused(self, house, bring(8, 2), -5)
        assert_refused(self, house, bring(7, 100), -1)
        assert_refused(self, house, bring(7, 2), -4)


if __name__ == "__main__":
    unittest.main()
