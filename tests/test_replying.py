"""Promises 9 to 11: reply, rests, settle."""

import unittest

from lines import (
    HIGHEST, LOWEST, begin, choose, cost, last_told, load, potential, reply, rests, settle, thing, things, told,
    total, try_set, user,
)

LOADS = tuple(load(r) for r in range(16))


def loads(*calls):
    return told(*calls, *LOADS)[-16:]


class Reply(unittest.TestCase):
    ALIKE = (thing(0, 1, 1), thing(1, 1, 1), thing(2, 0, 2), thing(3, 0, 3))

    def test_one_set(self):
        self.assertEqual(last_told(begin(), *self.ALIKE, user(things(3)), reply(0)), 0)
        self.assertEqual(last_told(begin(), user(0), reply(0)), 0)

    def test_the_set_with_which_it_pays_least(self):
        for k in range(6):
            with self.subTest(k=k):
                sets = [things(3)] * 6
                sets[k] = things(2)
                self.assertEqual(last_told(begin(), *self.ALIKE, user(*sets), reply(0)), k)

    def test_the_first_of_two_that_cost_the_same(self):
        self.assertEqual(last_told(begin(), *self.ALIKE, user(1, 2), reply(0)), 0)
        self.assertEqual(last_told(begin(), *self.ALIKE, user(8, 4, 1, 2), reply(0)), 1)

    def test_the_first_also_where_the_other_one_is_chosen_now(self):
        self.assertEqual(last_told(begin(), *self.ALIKE, user(1, 2), choose(0, 1), reply(0)), 0)
        for k in range(4):
            with self.subTest(k=k):
                self.assertEqual(last_told(begin(), *self.ALIKE, user(8, 4, 1, 2), choose(0, k), reply(0)), 1)

    def test_an_empty_set(self):
        self.assertEqual(last_told(begin(), thing(0, 0, 1), user(1, 0), reply(0)), 1)
        self.assertEqual(last_told(begin(), thing(0, 0, 1), user(0, 1), choose(0, 1), reply(0)), 0)
        self.assertEqual(last_told(begin(), user(1, 0), choose(0, 1), reply(0)), 0)

    def test_hangs_on_what_the_others_have_chosen(self):
        calls = [begin(), thing(0, 5, 0), thing(1, 5, 3), user(1, 2), user(1, 2)]
        self.assertEqual(told(*calls, reply(0), choose(1, 1), reply(0))[5:], [1, 0, 0])

    def test_the_user_itself_counts_once(self):
        calls = [begin(), thing(0, 10, 0), thing(1, 0, 15), user(1, 2)]
        self.assertEqual(told(*calls, reply(0), choose(0, 1), reply(0))[4:], [0, 0, 0])
        dearer = [begin(), thing(0, 10, 0), thing(1, 0, 9), user(1, 2)]
        self.assertEqual(told(*dearer, reply(0), choose(0, 1), reply(0))[4:], [1, 0, 1])

    def test_each_user_has_its_own(self):
        users = [user(8, 4), user(4, 8), user(8, 8, 0)]
        self.assertEqual(told(begin(), *self.ALIKE, *users, reply(0), reply(1), reply(2))[8:], [1, 0, 2])

    def test_the_choice_stays_as_it_was(self):
        calls = [begin(), thing(0, 5, 0), thing(1, 5, 3), user(1, 2), user(1, 2)]
        after = [reply(0), load(0), load(1), cost(0), cost(1), reply(1), load(0)]
        self.assertEqual(told(*calls, *after)[5:], [1, 2, 0, 10, 10, 1, 2])

    def test_no_such_user(self):
        self.assertEqual(told(begin(), reply(0), reply(-1)), [0, -1, -1])
        calls = [begin(), *self.ALIKE, user(8, 4), user(8, 4)]
        for i in (-2, -1, 2, LOWEST, HIGHEST):
            with self.subTest(i=i):
                self.assertEqual(told(*calls, reply(i), load(3), load(2))[7:], [-1, 2, 0])


class Rests(unittest.TestCase):
    def test_no_users(self):
        self.assertEqual(told(begin(), rests(), thing(0, 1, 1), rests()), [0, 1, 0, 1])

    def test_one_set_each(self):
        self.assertEqual(last_told(begin(), thing(0, 9, 9), *[user(1)] * 6, rests()), 1)

    def test_the_same_but_not_less(self):
        calls = [begin(), thing(0, 1, 1), thing(1, 1, 1), user(1, 2)]
        self.assertEqual(told(*calls, rests(), choose(0, 1), rests())[4:], [1, 0, 1])

    def test_the_same_but_not_less_with_others(self):
        calls = [begin(), thing(0, 1, 0), thing(1, 0, 2), user(1, 2), user(1, 2), rests()]
        self.assertEqual(last_told(*calls), 1)

    def test_one_that_could_pay_less(self):
        for i in range(6):
            with self.subTest(i=i):
                users = [user(1, 2)] * 6
                users[i] = user(1, 0)
                calls = [begin(), thing(0, 0, 1), thing(1, 0, 1), *users]
                self.assertEqual(told(*calls, rests(), choose(i, 1), rests())[9:], [0, 0, 1])

    def test_less_by_1(self):
        calls = [begin(), thing(0, 0, 1000), thing(1, 0, 999), user(1, 2), rests()]
        self.assertEqual(last_told(*calls), 0)

    def test_follows_the_things(self):
        calls = [begin(), user(1, 2), rests(), thing(0, 0, 1), rests(), thing(1, 1, 0), rests()]
        self.assertEqual(told(*calls), [0, 1, 1, 0, 0, 0, 1])

    def test_changes_nothing(self):
        calls = [begin(), thing(0, 0, 1), user(1, 0), rests(), load(0), cost(0), rests()]
        self.assertEqual(told(*calls)[3:], [0, 1, 1, 0])


class Settle(unittest.TestCase):
    # The order of the turns shows here: with the last, the next or the one that gains most in the place of the first
    # user that gains, or all at once, there are fewer turns, and user 0 stays.
    IN_ORDER = (
        begin(), thing(0, 7, 4), thing(1, 8, 1), thing(2, 5, 8),
        user(things(2), things(1)),
        user(things(1, 2), things(0, 1), things(0)),
        user(things(0, 1, 2), things(0, 1), things(1, 2)),
    )
    LONGER = (
        begin(), thing(0, 7, 9), thing(1, 6, 5), thing(2, 4, 4),
        user(things(1, 2), things(0)),
        user(things(0, 1), things(1), things(2)),
        user(things(0, 2), things(0, 1), things(0)),
    )

    def test_no_users(self):
        self.assertEqual(told(begin(), settle(), thing(0, 1, 1), settle()), [0, 0, 0, 0])

    def test_rests_already(self):
        calls = [begin(), thing(0, 1, 1), thing(1, 1, 1), user(1, 2), choose(0, 1)]
        self.assertEqual(told(*calls, settle(), load(0), load(1))[5:], [0, 0, 1])

    def test_one_turn(self):
        calls = [begin(), thing(0, 5, 0), thing(1, 5, 3), user(1, 2), user(1, 2)]
        after = [settle(), load(0), load(1), cost(0), cost(1), try_set(0, 0), try_set(1, 1)]
        self.assertEqual(told(*calls, *after)[5:], [1, 1, 1, 8, 5, 10, 13])

    def test_a_turn_takes_the_first_of_the_best_sets_at_once(self):
        prices = [thing(0, 0, 9), thing(1, 0, 5), thing(2, 0, 2), thing(3, 0, 2)]
        calls = [begin(), *prices, user(1, 2, 4, 8), settle()]
        self.assertEqual(last_told(*calls), 1)
        self.assertEqual(loads(*calls)[:4], [0, 0, 1, 0])

    def test_several_turns_in_order(self):
        after = [settle(), load(0), load(1), load(2), cost(0), cost(1), cost(2), try_set(0, 0), try_set(2, 1)]
        self.assertEqual(told(*self.IN_ORDER, *after)[7:], [3, 1, 2, 1, 17, 11, 30, 18, 35])

    def test_a_user_may_have_several_turns(self):
        after = [settle(), load(0), load(1), load(2), cost(0), cost(1), cost(2)]
        self.assertEqual(told(*self.LONGER, *after)[7:], [5, 2, 0, 1, 23, 8, 23])

    def test_begins_with_what_is_chosen_now(self):
        chosen = [choose(0, 0), choose(1, 2), choose(2, 1)]
        after = [rests(), settle(), cost(0), cost(1), cost(2)]
        self.assertEqual(told(*self.IN_ORDER, *chosen, *after)[10:], [1, 0, 13, 18, 27])

    def test_all_users_may_have_a_turn(self):
        calls = [begin(), thing(0, 0, 1), *[user(1, 0)] * 6]
        self.assertEqual(told(*calls, settle(), load(0), total())[8:], [6, 0, 0])

    def test_rests_behind_it_and_a_second_one_has_no_turns(self):
        for calls in (self.IN_ORDER, self.LONGER):
            answered = told(*calls, rests(), settle(), rests(), *LOADS, settle(), rests(), *LOADS)
            first, second = answered[-36:-18], answered[-18:]
            self.assertEqual(answered[7], 0)
            self.assertEqual(second[:2], [0, 1])
            self.assertEqual(first[1], 1)
            self.assertEqual(first[2:], second[2:])

    def test_the_potential_falls(self):
        for calls in (self.IN_ORDER, self.LONGER):
            before, turns, after = told(*calls, potential(), settle(), potential())[7:]
            self.assertLess(after, before)

    def test_again_behind_a_choice(self):
        calls = [*self.IN_ORDER, settle(), choose(0, 0), rests(), settle(), cost(0)]
        self.assertEqual(told(*calls)[8:], [0, 0, 1, 17])


if __name__ == "__main__":
    unittest.main()
