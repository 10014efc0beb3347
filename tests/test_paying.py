"""Promises 5 to 7: load, cost, try."""

import unittest

from lines import (
    ALL_THINGS, HIGHEST, LOWEST, begin, choose, cost, last_told, load, thing, things, told, try_set, user,
)


class Load(unittest.TestCase):
    def test_none(self):
        self.assertEqual(told(begin(), load(0), load(15)), [0, 0, 0])
        self.assertEqual(told(begin(), user(0), user(things(7)), load(0), load(15))[3:], [0, 0])

    def test_one(self):
        for r in (0, 15):
            with self.subTest(r=r):
                expected = [0] * 16
                expected[r] = 1
                loads = [load(s) for s in range(16)]
                self.assertEqual(told(begin(), user(things(r)), user(0), *loads)[3:], expected)

    def test_several(self):
        users = [user(things(0, 15)), user(ALL_THINGS), user(things(15)), user(0)]
        self.assertEqual(told(begin(), *users, load(0), load(15), load(8))[5:], [2, 3, 1])

    def test_six(self):
        loads = [load(r) for r in range(16)]
        self.assertEqual(told(begin(), *[user(ALL_THINGS)] * 6, *loads)[7:], [6] * 16)

    def test_only_the_chosen_set_counts(self):
        calls = [begin(), user(1, 2), load(0), load(1), choose(0, 1), load(0), load(1)]
        self.assertEqual(told(*calls), [0, 1, 1, 0, 0, 0, 1])

    def test_refused(self):
        for r in (-1, 16, LOWEST, HIGHEST):
            with self.subTest(r=r):
                self.assertEqual(told(begin(), user(ALL_THINGS), load(r)), [0, 1, -1])


class Cost(unittest.TestCase):
    def test_one_user_on_a_thing(self):
        self.assertEqual(last_told(begin(), thing(3, 7, 20), user(things(3)), cost(0)), 27)

    def test_several_users_on_a_thing(self):
        calls = [begin(), thing(3, 7, 20)] + [user(things(3))] * 3
        self.assertEqual(told(*calls, cost(0), cost(1), cost(2))[5:], [41, 41, 41])

    def test_things_are_added_up_each_with_its_own_users(self):
        prices = [thing(0, 1, 100), thing(1, 10, 0), thing(15, 1000, 5)]
        users = [user(things(0, 1)), user(things(1, 15)), user(things(1))]
        calls = [begin(), *prices, *users, cost(0), cost(1), cost(2)]
        self.assertEqual(told(*calls)[7:], [131, 1035, 30])

    def test_an_empty_set(self):
        dear = [thing(r, 1000, 1000) for r in range(16)]
        calls = [begin(), *dear, user(0), user(ALL_THINGS), cost(0), cost(1)]
        self.assertEqual(told(*calls)[-2:], [0, 32000])

    def test_the_most(self):
        dear = [thing(r, 1000, 1000) for r in range(16)]
        self.assertEqual(last_told(begin(), *dear, *[user(ALL_THINGS)] * 6, cost(5)), 112000)

    def test_follows_the_choices(self):
        calls = [begin(), thing(0, 5, 1), thing(1, 2, 0), user(1, 2), user(1, 2)]
        moves = [cost(0), choose(1, 1), cost(0), cost(1), choose(0, 1), cost(0), cost(1)]
        self.assertEqual(told(*calls, *moves)[5:], [11, 0, 6, 2, 0, 4, 4])

    def test_no_such_user(self):
        self.assertEqual(told(begin(), cost(0), cost(-1)), [0, -1, -1])
        for i in (-1, -2, 2, LOWEST, HIGHEST):
            with self.subTest(i=i):
                self.assertEqual(last_told(begin(), thing(0, 1, 1), user(1), user(1), cost(i)), -1)


class Try(unittest.TestCase):
    PRICES = (thing(0, 1, 0), thing(1, 10, 3), thing(2, 100, 7))

    def test_the_set_chosen_now_costs_what_is_paid_now(self):
        users = [user(things(0, 1), things(2)), user(things(1), things(0, 2))]
        calls = [begin(), *self.PRICES, *users, try_set(0, 0), cost(0), choose(0, 1), try_set(0, 1), cost(0)]
        self.assertEqual(told(*calls)[6:], [24, 24, 0, 107, 107])

    def test_another_set_that_shares_things_with_the_chosen_one(self):
        users = [user(things(0, 1), things(1, 2)), user(things(1, 2))]
        calls = [begin(), *self.PRICES, *users, try_set(0, 1), cost(0)]
        self.assertEqual(told(*calls)[6:], [23 + 207, 1 + 23])

    def test_another_set_that_shares_none(self):
        users = [user(things(0), things(2), 0), user(things(2)), user(things(2))]
        calls = [begin(), *self.PRICES, *users, try_set(0, 1), try_set(0, 2)]
        self.assertEqual(told(*calls)[7:], [307, 0])

    def test_the_others_choices_are_as_they_are(self):
        users = [user(1, 2), user(1, 2)]
        calls = [begin(), *self.PRICES, *users, choose(1, 1), try_set(0, 0), try_set(0, 1)]
        self.assertEqual(told(*calls)[7:], [1, 23])

    def test_the_choice_stays(self):
        users = [user(1, 2), user(1, 4)]
        after = [try_set(0, 1), load(0), load(1), cost(0), cost(1)]
        self.assertEqual(told(begin(), *self.PRICES, *users, *after)[6:], [13, 2, 0, 2, 2])

    def test_says_what_is_paid_once_it_is_chosen(self):
        sets = (things(0, 1), things(1, 2), 0, things(0), things(0, 1, 2), things(2))
        users = [begin(), *self.PRICES, user(*sets), user(*sets), user(*sets), choose(2, 4)]
        for k in range(6):
            with self.subTest(k=k):
                tried = last_told(*users, try_set(1, k))
                self.assertEqual(tried, last_told(*users, choose(1, k), cost(1)))

    def test_refused(self):
        before = [begin(), *self.PRICES, user(1, 2, 4), user(1, 2)]
        no_user = [(i, k) for i in (-2, -1, 2, LOWEST, HIGHEST) for k in (0, -1)]
        no_set = [(0, k) for k in (-3, -1, 3, LOWEST, HIGHEST)]
        not_its_set = [(1, k) for k in (-2, -1, 2, LOWEST, HIGHEST)]
        for i, k in no_user + no_set + not_its_set:
            with self.subTest(i=i, k=k):
                self.assertEqual(told(*before, try_set(i, k), load(0))[6:], [-1, 2])
        self.assertEqual(told(begin(), try_set(0, 0)), [0, -1])


if __name__ == "__main__":
    unittest.main()
