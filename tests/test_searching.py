"""Promises 12 and 13: least and worst."""

import unittest

from lines import (
    ALL_THINGS, MadeUpNumbers, Model, begin, choose, cost, last_told, least, load, rests, settle, thing, things, told,
    total, user, worst,
)

LEAST_AND_WORST = (least(), worst())


def least_and_worst(*calls):
    return told(begin(), *calls, *LEAST_AND_WORST)[-2:]


def braess(*sets):
    """Six users from one place to another; thing 4 is a road across from one way to the other."""
    prices = [thing(0, 10, 0), thing(1, 1, 50), thing(2, 1, 50), thing(3, 10, 0), thing(4, 1, 10)]
    return prices + [user(*sets)] * 6


WAYS = (things(0, 1), things(2, 3))
WAY_ACROSS = things(0, 4, 3)

# All on thing 0 rests, at 2 each; all together pay least with one on each.
PIGOU = (thing(0, 1, 0), thing(1, 0, 2), user(1, 2), user(1, 2))

# Each has a thing of its own that is cheaper where the other keeps off it; where both have taken the other's, neither
# gains by going back alone.
TWO_THAT_REST = (
    thing(0, 10, 0), thing(1, 10, 0), thing(2, 0, 5), thing(3, 0, 5),
    user(things(0), things(1, 2)), user(things(1), things(0, 3)),
)


class Least(unittest.TestCase):
    def test_no_users(self):
        self.assertEqual(told(begin(), least(), thing(0, 9, 9), least()), [0, 0, 0, 0])

    def test_one_user(self):
        prices = [thing(0, 2, 5), thing(1, 3, 1), thing(2, 0, 9)]
        self.assertEqual(last_told(begin(), *prices, user(1), least()), 7)
        self.assertEqual(last_told(begin(), *prices, user(1, 4, 2), least()), 4)
        self.assertEqual(last_told(begin(), *prices, user(2, 4, 1), least()), 4)
        self.assertEqual(last_told(begin(), *prices, user(1, 0, 2), least()), 0)

    def test_one_set_each(self):
        calls = [begin(), thing(0, 7, 20), user(1), user(1), user(1)]
        self.assertEqual(told(*calls, least(), total())[5:], [123, 123])

    def test_what_rests_is_not_what_costs_least(self):
        self.assertEqual(told(begin(), *PIGOU, total(), rests(), least())[5:], [4, 1, 3])
        self.assertEqual(last_told(begin(), *braess(*WAYS, WAY_ACROSS), least()), 498)

    def test_where_one_pays_more_so_that_all_pay_less(self):
        calls = [begin(), thing(0, 10, 0), thing(1, 0, 45), *[user(1)] * 2, user(1, 2)]
        self.assertEqual(told(*calls, rests(), total(), least())[6:], [1, 90, 85])

    def test_the_greatest_numbers(self):
        dear = [thing(r, 1000, 1000) for r in range(16)]
        self.assertEqual(last_told(begin(), *dear, *[user(ALL_THINGS)] * 6, least()), 672000)

    def test_changes_no_choice(self):
        after = [least(), load(0), load(1), cost(0), cost(1), total()]
        self.assertEqual(told(begin(), *PIGOU, choose(0, 1), choose(1, 1), *after)[7:], [3, 0, 2, 2, 2, 4])

    def test_does_not_hang_on_what_is_chosen_now(self):
        for i in range(2):
            for k in range(2):
                with self.subTest(i=i, k=k):
                    self.assertEqual(last_told(begin(), *PIGOU, choose(0, i), choose(1, k), least()), 3)


class Worst(unittest.TestCase):
    def test_no_users(self):
        self.assertEqual(told(begin(), worst(), thing(0, 9, 9), worst()), [0, 0, 0, 0])

    def test_one_user(self):
        prices = [thing(0, 2, 5), thing(1, 3, 1), thing(2, 0, 9)]
        self.assertEqual(last_told(begin(), *prices, user(1), worst()), 7)
        self.assertEqual(last_told(begin(), *prices, user(1, 4, 2), worst()), 4)
        self.assertEqual(last_told(begin(), *prices, user(1, 0, 2), worst()), 0)

    def test_several_that_rest_with_different_totals(self):
        both_rest = [rests(), total(), choose(0, 1), choose(1, 1), rests(), total()]
        self.assertEqual(told(begin(), *TWO_THAT_REST, *both_rest)[7:], [1, 20, 0, 0, 1, 30])
        self.assertEqual(least_and_worst(*TWO_THAT_REST), [20, 30])

    def test_settle_need_not_lead_to_it(self):
        calls = [begin(), *TWO_THAT_REST, choose(0, 1), settle(), total(), worst()]
        self.assertEqual(told(*calls)[8:], [1, 20, 30])

    def test_what_costs_more_but_does_not_rest_is_left_out(self):
        self.assertEqual(told(begin(), thing(0, 0, 1000), user(1, 0), total(), worst())[3:], [1000, 0])
        everywhere = [thing(0, 9, 9), thing(1, 1, 0), thing(2, 1, 0)]
        users = [user(7, 1, 2, 4), user(4, 2, 7, 1)]
        self.assertEqual(told(begin(), *everywhere, *users, total(), worst())[6:], [23, 2])

    def test_one_that_pays_the_same_rests(self):
        self.assertEqual(least_and_worst(*PIGOU), [3, 4])

    def test_the_same_for_one_but_dearer_for_another(self):
        prices = [thing(0, 5, 0), thing(1, 0, 10)]
        torn = [(1, 2), (2, 1)]
        for sets in torn:
            with self.subTest(sets=sets):
                self.assertEqual(least_and_worst(*prices, user(1), user(*sets)), [15, 20])
                self.assertEqual(least_and_worst(*prices, user(*sets), user(1)), [15, 20])

    def test_where_only_one_of_many_users_gains(self):
        for i in range(6):
            with self.subTest(i=i):
                users = [user(1)] * 6
                users[i] = user(1, 2)
                prices = [thing(0, 1, 0), thing(1, 0, 5)]
                self.assertEqual(least_and_worst(*prices, *users), [30, 30])

    def test_a_road_more_makes_all_slower(self):
        self.assertEqual(least_and_worst(*braess(*WAYS)), [498, 498])
        self.assertEqual(least_and_worst(*braess(*WAYS, WAY_ACROSS)), [498, 552])

    def test_the_greatest_numbers(self):
        dear = [thing(r, 1000, 1000) for r in range(16)]
        self.assertEqual(last_told(begin(), *dear, *[user(ALL_THINGS)] * 6, worst()), 672000)

    def test_changes_no_choice(self):
        after = [worst(), load(0), load(1), load(2), cost(0), cost(1), total()]
        self.assertEqual(told(begin(), *TWO_THAT_REST, choose(0, 1), *after)[8:], [30, 0, 2, 1, 25, 20, 45])

    def test_does_not_hang_on_what_is_chosen_now(self):
        for i in range(2):
            for k in range(2):
                with self.subTest(i=i, k=k):
                    self.assertEqual(last_told(begin(), *TWO_THAT_REST, choose(0, i), choose(1, k), worst()), 30)


class AskedAgain(unittest.TestCase):
    def test_behind_a_thing_that_changes(self):
        calls = [begin(), *TWO_THAT_REST, *LEAST_AND_WORST, thing(2, 0, 15), *LEAST_AND_WORST]
        self.assertEqual(told(*calls)[7:], [20, 30, 0, 20, 20])

    def test_behind_another_user(self):
        calls = [begin(), *PIGOU, *LEAST_AND_WORST, user(things(0, 1)), *LEAST_AND_WORST]
        self.assertEqual(told(*calls)[5:], [3, 4, 3, 7, 8])

    def test_behind_another_begin(self):
        calls = [begin(), *PIGOU, *LEAST_AND_WORST, begin(), *LEAST_AND_WORST]
        self.assertEqual(told(*calls)[5:], [3, 4, 0, 0, 0])

    def test_behind_choices_turns_and_refusals(self):
        changes = [choose(0, 1), settle(), thing(0, 1001, 0), thing(16, 5, 5), user(), choose(2, 0)]
        for change in changes:
            with self.subTest(change=change):
                calls = [begin(), *TWO_THAT_REST, *LEAST_AND_WORST, change, *LEAST_AND_WORST]
                self.assertEqual(told(*calls)[-2:], [20, 30])


class SixUsersOfSixSets(unittest.TestCase):
    ONE_THING_EACH = tuple(things(r) for r in range(6))

    def test_a_thing_for_each(self):
        prices = [thing(r, 1, 0) for r in range(6)]
        users = [user(*self.ONE_THING_EACH)] * 6
        self.assertEqual(told(begin(), *prices, *users, total(), *LEAST_AND_WORST)[13:], [36, 6, 6])

    def test_one_thing_that_is_cheap_for_all(self):
        prices = [thing(0, 10, 0)] + [thing(r, 0, 60) for r in range(1, 6)]
        users = [user(*self.ONE_THING_EACH)] * 6
        # With three on thing 0 and three elsewhere 270 is paid; with six on it none pays less elsewhere.
        self.assertEqual(least_and_worst(*prices, *users), [270, 360])

    def test_all_things_cost_0(self):
        users = [user(*[9362 * k + i for k in range(6)]) for i in range(6)]
        self.assertEqual(least_and_worst(*users), [0, 0])

    def test_held_against_the_model(self):
        for seed, cost_limit, set_limit in ((1, 1001, 65536), (2, 5, 64)):
            with self.subTest(seed=seed):
                source = MadeUpNumbers(seed)
                prices = [thing(r, source.below(cost_limit), source.below(cost_limit)) for r in range(16)]
                users = [user(*[source.below(set_limit) for k in range(6)]) for i in range(6)]
                calls = [begin(), *prices, *users, *LEAST_AND_WORST]
                model = Model()
                self.assertEqual(told(*calls), [model.tell(call) for call in calls])


if __name__ == "__main__":
    unittest.main()
