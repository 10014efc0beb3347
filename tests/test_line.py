"""What the document says of a whole line of calls, and of the list that is handed in and given back."""

import ast
import contextlib
import io
import pathlib
import unittest

import roadsharers
from lines import (
    MadeUpNumbers, Model, begin, choose, cost, joined, least, load, potential, reply, rests, settle, thing, told, total,
    try_set, user, worst,
)
from roadsharers.roads import answers


class ReadOnlyList(list):
    """A list that may not be changed, not for a while either."""

    def refuse(self, *given):
        raise AssertionError("what is handed in was changed")

    append = extend = insert = pop = remove = clear = sort = reverse = refuse
    __setitem__ = __delitem__ = __iadd__ = __imul__ = refuse


class MadeUpLine:
    """Lines with small numbers have many sets that cost the same; those with great ones reach the edges."""

    def __init__(self, seed):
        self.source = MadeUpNumbers(seed)
        small = seed % 2 == 1
        self.cost_limit = 4 if small else 1003
        self.set_limit = 32 if small else 65536
        self.most_sets = 3 if seed % 4 < 2 else 6

    def cost(self):
        return self.source.below(self.cost_limit) - (self.source.below(12) == 0)

    def sets(self):
        count = self.source.below(self.most_sets) + 1 if self.source.below(8) else 0
        return [self.source.below(self.set_limit) for step in range(count)]

    def one_call(self):
        i = self.source.below(8) - 1
        k = self.source.below(self.most_sets + 2) - 1
        r = self.source.below(18) - 1
        # Those that build are there more often, as little is to be told of where little was built.
        kinds = [
            *[thing(r, self.cost(), self.cost())] * 8, *[user(*self.sets())] * 4, *[choose(i, k)] * 4,
            load(r), cost(i), cost(i), try_set(i, k), try_set(i, k), total(), potential(), reply(i), reply(i),
            rests(), settle(), least(), worst(), begin() if self.source.below(4) == 0 else rests(),
        ]
        return kinds[self.source.below(len(kinds))]

    def calls(self):
        return [begin()] + [self.one_call() for step in range(399)]


def made_up_line(seed):
    return MadeUpLine(seed).calls()


# Both on thing 0 pay 10; user 0 gains by going to thing 1, and then user 1 stays.
ALL_FOURTEEN = (
    begin(), rests(), settle(), least(), worst(), thing(0, 5, 0), thing(1, 5, 3), thing(16, 0, 0), thing(0, 0, 1001),
    user(), user(1, 2), user(1, 2), load(0), load(16), cost(1), cost(2), try_set(0, 1), try_set(0, 2), try_set(2, 0),
    total(), potential(), reply(0), reply(1), reply(2), reply(-1), rests(), least(), worst(), settle(), rests(),
    settle(), cost(0), cost(1), total(), potential(), choose(0, 2), choose(2, 0), choose(1, 1), total(), potential(),
    reply(0), rests(), worst(), settle(), load(0), load(1), least(),
)
ALL_FOURTEEN_TOLD = [
    0, 1, 0, 0, 0, 0, 0, -1, -1,
    -1, 1, 2, 2, -1, 10, -1, 8, -1, -1,
    20, 15, 1, 1, -1, -1, 0, 13, 13, 1, 1,
    0, 8, 5, 13, 13, -1, -1, 0, 26, 21,
    0, 0, 13, 1, 1, 1, 13,
]


class Line(unittest.TestCase):
    def test_the_empty_list(self):
        self.assertEqual(answers([]), [])

    def test_the_form_of_calls_and_answers(self):
        calls = [0, 1, 0, 5, 2, 2, 2, 1, 3, 2, 1, 1, 3, 0, 1, 4, 0, 5, 0, 6, 0, 0, 2, 0, 3, 9, 9]
        self.assertEqual(answers(calls), [1, 0, 1, 0, 1, 1, 1, 2, 1, 0, 1, 2, 1, 12, 1, 12, 1, -1, 1, -1])

    def test_the_form_of_the_calls_without_numbers_and_of_reply(self):
        calls = [0, 7, 8, 1, 0, 1, 0, 2, 2, 1, 0, 9, 0, 10, 12, 13, 11, 9, 5, 7]
        self.assertEqual(answers(calls), [1, 0, 1, 0, 1, 0, 1, 0, 1, 1, 1, 1, 1, 0, 1, 0, 1, 0, 1, 1, 1, -1, 1, 0])

    def test_begin_alone(self):
        self.assertEqual(answers([0]), [1, 0])

    def test_whole_numbers_and_lists_alone(self):
        given_back = answers(joined(made_up_line(1)))
        self.assertIs(type(given_back), list)
        self.assertEqual({type(number) for number in given_back}, {int})

    def test_lines_of_400_calls(self):
        for seed in range(60):
            with self.subTest(seed=seed):
                calls = made_up_line(seed)
                model = Model()
                self.assertEqual(told(*calls), [model.tell(call) for call in calls])

    def test_400_calls_with_users_of_six_sets(self):
        calls = [begin()] + [user(1, 2, 4, 8, 16, 32)] * 399
        self.assertEqual(told(*calls), [0, 1, 2, 3, 4, 5, 6] + [-2] * 393)

    def test_400_calls_of_least_and_worst_with_six_users_of_six_sets(self):
        prices = [thing(r, 60 - r, 7 * r) for r in range(16)]
        users = [user(*[4369 * k + 257 * i for k in range(6)]) for i in range(6)]
        asked = [least(), worst(), settle()] * 125
        calls = [begin(), *prices, *users, *asked, rests(), total()]
        self.assertEqual(len(calls), 400)
        model = Model()
        expected = [model.tell(call) for call in calls[:26]]
        answered = told(*calls)
        self.assertEqual(answered[:26], expected)
        self.assertEqual(answered[26:398], [expected[23], expected[24], 0] * 124)
        self.assertEqual(answered[398:], [1, model.tell(total())])

    def test_all_fourteen_calls_in_one_line_with_refusals_among_them(self):
        self.assertEqual(told(*ALL_FOURTEEN), ALL_FOURTEEN_TOLD)

    def test_a_second_begin_leaves_nothing_of_what_was_there(self):
        nothing = [
            begin(), total(), potential(), rests(), settle(), least(), worst(), *[load(r) for r in range(16)],
            *[call(i) for call in (cost, reply) for i in range(6)], choose(0, 0), try_set(0, 0),
        ]
        expected = [0, 0, 0, 1, 0, 0, 0] + [0] * 16 + [-1] * 14
        self.assertEqual(told(*nothing), expected)
        self.assertEqual(told(*ALL_FOURTEEN, *nothing)[-len(nothing):], expected)
        self.assertEqual(told(*ALL_FOURTEEN, *ALL_FOURTEEN), ALL_FOURTEEN_TOLD * 2)

    def test_a_second_begin_leaves_no_costs_and_no_choices(self):
        users = [user(1, 2), user(3, 1), total(), potential(), reply(0), rests(), least(), worst(), load(0)]
        self.assertEqual(told(*ALL_FOURTEEN, begin(), *users)[-9:], [1, 2, 0, 0, 0, 1, 0, 0, 2])

    def test_what_is_handed_in_is_not_changed(self):
        for seed in range(5):
            numbers = joined(made_up_line(seed))
            handed_in = ReadOnlyList(numbers)
            self.assertEqual(answers(handed_in), answers(list(numbers)))
            self.assertEqual(list(handed_in), numbers)

    def test_nothing_is_kept_from_one_time_to_the_next(self):
        first = joined([begin(), thing(0, 9, 9), user(1, 2), user(1), choose(0, 1), cost(1)])
        second = joined([begin(), load(0), user(1), cost(0), user(1), cost(0), cost(2)])
        self.assertEqual(answers(second), [1, 0, 1, 0, 1, 1, 1, 0, 1, 2, 1, 0, 1, -1])
        self.assertEqual(answers(first), [1, 0, 1, 0, 1, 1, 1, 2, 1, 0, 1, 18])
        self.assertEqual(answers(second), [1, 0, 1, 0, 1, 1, 1, 0, 1, 2, 1, 0, 1, -1])
        self.assertEqual(answers(first), [1, 0, 1, 0, 1, 1, 1, 2, 1, 0, 1, 18])
        self.assertEqual(answers([]), [])

    def test_nothing_is_printed(self):
        printed = io.StringIO()
        with contextlib.redirect_stdout(printed), contextlib.redirect_stderr(printed):
            answers(joined(ALL_FOURTEEN))
        self.assertEqual(printed.getvalue(), "")

    def test_nothing_is_imported(self):
        for path in pathlib.Path(roadsharers.__file__).parent.glob("*.py"):
            with self.subTest(path=path.name):
                parts = ast.walk(ast.parse(path.read_text(encoding="utf-8")))
                self.assertEqual([part for part in parts if isinstance(part, (ast.Import, ast.ImportFrom))], [])

    def test_what_is_given_back_is_the_callers_own(self):
        given_back = answers([0])
        given_back.append(7)
        self.assertEqual(answers([0]), [1, 0])
        nothing = answers([])
        nothing.append(7)
        self.assertEqual(answers([]), [])


if __name__ == "__main__":
    unittest.main()
