"""Promises 1 to 4: begin, thing, user, choose."""

import unittest

from lines import (
    ALL_THINGS, HIGHEST, LOWEST, begin, choose, cost, last_told, load, thing, things, told, try_set, user,
)


def price(before, r, x):
    """What thing r costs each of x users, behind calls that add no user."""
    return last_told(begin(), *before, *[user(things(r))] * x, cost(0))


def prices(before):
    return [(price(before, r, 1), price(before, r, 2)) for r in range(16)]


class Begin(unittest.TestCase):
    def test_answers_0(self):
        self.assertEqual(told(begin()), [0])
        self.assertEqual(told(begin(), begin()), [0, 0])

    def test_all_things_cost_0(self):
        self.assertEqual(prices([]), [(0, 0)] * 16)

    def test_no_users(self):
        self.assertEqual(told(begin(), cost(0), load(0), user(1)), [0, -1, 0, 1])

    def test_again_makes_all_things_cost_0(self):
        dear = [thing(r, 3 + r, 100 + r) for r in range(16)]
        self.assertEqual(prices(dear + [begin()]), [(0, 0)] * 16)

    def test_again_leaves_no_users(self):
        before = [begin(), user(ALL_THINGS, 1), user(ALL_THINGS), choose(0, 1)]
        after = [begin(), load(0), cost(0), try_set(0, 0), choose(0, 0)]
        self.assertEqual(told(*before, *after)[len(before):], [0, 0, -1, -1, -1])

    def test_again_forgets_choices_and_numbers_users_anew(self):
        before = [begin(), user(1, 2), choose(0, 1)] + [user(1)] * 5
        after = [begin(), user(1, 2), load(0), load(1)]
        self.assertEqual(told(*before, *after)[len(before):], [0, 1, 1, 0])


class Thing(unittest.TestCase):
    def test_takes_the_edges(self):
        for r in (0, 15):
            for a in (0, 1000):
                for b in (0, 1000):
                    with self.subTest(r=r, a=a, b=b):
                        self.assertEqual(told(begin(), thing(r, a, b)), [0, 0])
                        expected = [(0, 0)] * 16
                        expected[r] = (a + b, 2 * a + b)
                        self.assertEqual(prices([thing(r, a, b)]), expected)

    def test_each_thing_has_its_own_a_and_b(self):
        calls = [thing(r, 7 * r + 1, 500 - r) for r in range(16)]
        expected = [(7 * r + 1 + 500 - r, 14 * r + 2 + 500 - r) for r in range(16)]
        self.assertEqual(prices(calls), expected)

    def test_holds_from_now_on_also_for_users_that_are_there(self):
        calls = [begin(), user(1), cost(0), thing(0, 2, 5), cost(0), thing(0, 0, 9), cost(0)]
        self.assertEqual(told(*calls), [0, 1, 0, 0, 7, 0, 9])

    def test_refused_and_nothing_changed(self):
        good = [thing(r, 11 + r, 40 + 3 * r) for r in range(16)]
        unchanged = prices(good)
        wrong_things = [(r, 5, 6) for r in (-1, 16, LOWEST, HIGHEST)]
        wrong_a = [(r, a, 6) for r in (0, 15) for a in (-1, 1001, LOWEST, HIGHEST)]
        wrong_b = [(r, 5, b) for r in (0, 15) for b in (-1, 1001, LOWEST, HIGHEST)]
        all_wrong = [(-1, -1, -1), (16, 1001, 1001)]
        for r, a, b in wrong_things + wrong_a + wrong_b + all_wrong:
            with self.subTest(r=r, a=a, b=b):
                self.assertEqual(told(begin(), thing(r, a, b)), [0, -1])
                self.assertEqual(prices(good + [thing(r, a, b)]), unchanged)


class User(unittest.TestCase):
    def test_one_set(self):
        self.assertEqual(told(begin(), user(5), try_set(0, 0), try_set(0, 1)), [0, 1, 0, -1])

    def test_six_sets_an_empty_one_and_all_things_among_them(self):
        dear = [thing(r, 1, 10) for r in range(16)]
        sets = (things(3), 0, ALL_THINGS, things(0, 15), 0, things(1, 2, 4))
        tries = [try_set(0, k) for k in range(7)]
        answered = told(begin(), *dear, user(*sets), *tries)
        self.assertEqual(answered[17:], [1, 11, 0, 176, 22, 0, 33, -1])

    def test_set_0_is_chosen(self):
        calls = [begin(), user(things(4), things(9)), user(0, ALL_THINGS), load(4), load(9), load(0)]
        self.assertEqual(told(*calls), [0, 1, 2, 1, 0, 0])

    def test_answers_how_many_users_there_are_then(self):
        self.assertEqual(told(begin(), *[user(0)] * 6), [0, 1, 2, 3, 4, 5, 6])

    def test_no_set_is_refused(self):
        self.assertEqual(told(begin(), user(), cost(0), user(1), user(), cost(1)), [0, -1, -1, 1, -1, -1])

    def test_no_set_is_refused_so_where_there_are_six_already(self):
        self.assertEqual(told(begin(), *[user(1)] * 6, user())[7:], [-1])

    def test_more_than_six_sets_are_refused_so(self):
        self.assertEqual(told(begin(), user(1, 2, 3, 4, 5, 6, 7), load(0)), [0, -1, 0])

    def test_a_seventh_is_refused_and_nothing_added(self):
        six = [begin(), thing(0, 1, 0)] + [user(1, 2)] * 6
        after = [user(1, 2), load(0), cost(5), cost(6), choose(6, 0), try_set(6, 0), user(1, 2)]
        self.assertEqual(told(*six, *after)[len(six):], [-2, 6, 6, -1, -1, -1, -2])

    def test_a_seventh_is_taken_behind_another_begin(self):
        self.assertEqual(told(begin(), *[user(1)] * 6, begin(), user(1))[7:], [0, 1])


class Choose(unittest.TestCase):
    SETS = (things(0), things(1), things(2), things(3), things(4), things(5))

    def loads(self, *calls):
        return told(begin(), *calls, *[load(r) for r in range(6)])[-6:]

    def test_each_set(self):
        for k in range(6):
            with self.subTest(k=k):
                self.assertEqual(told(begin(), user(*self.SETS), choose(0, k))[2:], [0])
                expected = [0] * 6
                expected[k] = 1
                self.assertEqual(self.loads(user(*self.SETS), choose(0, k)), expected)

    def test_the_last_choice_holds(self):
        self.assertEqual(self.loads(user(*self.SETS), choose(0, 4), choose(0, 0)), [1, 0, 0, 0, 0, 0])

    def test_only_user_i_has_chosen(self):
        three = [user(*self.SETS)] * 3
        self.assertEqual(self.loads(*three, choose(1, 5)), [2, 0, 0, 0, 0, 1])

    def test_no_users_at_all(self):
        self.assertEqual(told(begin(), choose(0, 0), choose(-1, 0)), [0, -1, -1])

    def test_refused_and_the_choices_stay(self):
        before = [user(*self.SETS), user(*self.SETS[:3]), choose(0, 4), choose(1, 1)]
        no_user = [(i, k) for i in (-2, -1, 2, LOWEST, HIGHEST) for k in (0, 2, -1)]
        no_set = [(0, k) for k in (-6, -1, 6, LOWEST, HIGHEST)]
        not_its_set = [(1, k) for k in (-3, -1, 3, 5, LOWEST, HIGHEST)]
        for i, k in no_user + no_set + not_its_set:
            with self.subTest(i=i, k=k):
                self.assertEqual(last_told(begin(), *before, choose(i, k)), -1)
                self.assertEqual(self.loads(*before, choose(i, k)), [0, 1, 0, 0, 1, 0])


if __name__ == "__main__":
    unittest.main()
