"""Promise 8: total and potential."""

import unittest

from lines import ALL_THINGS, begin, choose, cost, load, potential, thing, things, told, total, user

BOTH = (total(), potential())


def both(*calls):
    """The total and the potential behind these calls."""
    return told(begin(), *calls, *BOTH)[-2:]


class TotalAndPotential(unittest.TestCase):
    def test_no_users(self):
        self.assertEqual(both(), [0, 0])
        self.assertEqual(both(*[thing(r, 1000, 1000) for r in range(16)]), [0, 0])

    def test_one_user(self):
        self.assertEqual(both(thing(0, 2, 5), thing(1, 3, 0), thing(2, 9, 9), user(things(0, 1))), [10, 10])

    def test_several_users_on_one_thing(self):
        self.assertEqual(both(thing(3, 7, 20), *[user(things(3))] * 2), [34 * 2, 27 + 34])
        self.assertEqual(both(thing(3, 7, 20), *[user(things(3))] * 3), [41 * 3, 27 + 34 + 41])

    def test_users_on_things_of_their_own(self):
        prices = [thing(0, 4, 1), thing(15, 5, 2)]
        self.assertEqual(both(*prices, user(things(0)), user(things(15))), [12, 12])

    def test_each_thing_with_its_own_users(self):
        prices = [thing(0, 1, 100), thing(1, 10, 0), thing(15, 1000, 5)]
        users = [user(things(0, 1)), user(things(1, 15)), user(things(1))]
        self.assertEqual(both(*prices, *users), [131 + 1035 + 30, 101 + (10 + 20 + 30) + 1005])

    def test_a_is_0(self):
        self.assertEqual(both(thing(0, 0, 9), *[user(1)] * 3), [27, 27])

    def test_b_is_0(self):
        self.assertEqual(both(thing(0, 4, 0), *[user(1)] * 3), [36, 4 + 8 + 12])

    def test_a_and_b_are_0(self):
        self.assertEqual(both(thing(0, 5, 5), thing(0, 0, 0), *[user(ALL_THINGS)] * 6), [0, 0])

    def test_empty_sets(self):
        self.assertEqual(both(thing(0, 4, 4), user(0), user(0)), [0, 0])
        self.assertEqual(both(thing(0, 4, 4), user(0), user(1)), [8, 8])

    def test_the_greatest_numbers(self):
        dear = [thing(r, 1000, 1000) for r in range(16)]
        each_thing = sum(1000 * x + 1000 for x in range(1, 7))
        self.assertEqual(both(*dear, *[user(ALL_THINGS)] * 6), [6 * 112000, 16 * each_thing])

    def test_only_the_chosen_sets_count(self):
        prices = [thing(0, 2, 0), thing(1, 3, 1)]
        users = [user(1, 2), user(1, 2)]
        self.assertEqual(both(*prices, *users), [8, 6])
        self.assertEqual(both(*prices, *users, choose(1, 1)), [6, 6])
        self.assertEqual(both(*prices, *users, choose(1, 1), choose(0, 1)), [14, 11])

    def test_follow_a_thing_that_is_changed(self):
        self.assertEqual(told(begin(), user(1), user(1), *BOTH, thing(0, 3, 2), *BOTH)[3:], [0, 0, 0, 16, 13])

    def test_the_total_is_what_all_pay(self):
        prices = [thing(r, 3 * r + 1, 50 - r) for r in range(16)]
        users = [user(ALL_THINGS >> i, 5461 * i) for i in range(6)]
        calls = [begin(), *prices, *users, choose(1, 1), choose(4, 1)]
        paid = told(*calls, *[cost(i) for i in range(6)])[-6:]
        self.assertEqual(told(*calls, total())[-1], sum(paid))

    def test_change_nothing(self):
        calls = [begin(), thing(0, 2, 1), user(1, 2), user(1, 2), choose(1, 1)]
        asked = [load(0), load(1), cost(0), cost(1)]
        self.assertEqual(told(*calls, *BOTH, *asked, *BOTH)[5:], [3, 3, 1, 1, 3, 0, 3, 3])


if __name__ == "__main__":
    unittest.main()
