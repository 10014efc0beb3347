"""What the document says of a whole line of calls, and of the list that is handed in and given back."""

import unittest

from lines import begin, choose, cost, joined, load, thing, told, try_set, user
from roadsharers.roads import answers


class ReadOnlyList(list):
    """A list that may not be changed, not for a while either."""

    def refuse(self, *given):
        raise AssertionError("what is handed in was changed")

    append = extend = insert = pop = remove = clear = sort = reverse = refuse
    __setitem__ = __delitem__ = __iadd__ = __imul__ = refuse


class MadeUpNumbers:
    """The same on every run."""

    def __init__(self, seed):
        self.state = seed

    def below(self, limit):
        self.state = (self.state * 1103515245 + 12345) % 2147483648
        return (self.state >> 8) % limit


def made_up_call(source):
    kind = source.below(12)
    i = source.below(8) - 1
    k = source.below(8) - 1
    if kind <= 2:
        return thing(source.below(18) - 1, source.below(1002), source.below(1002))
    if kind <= 4:
        return user(*[source.below(65536) for step in range(source.below(7))])
    if kind <= 6:
        return choose(i, k)
    if kind == 7:
        return load(source.below(18) - 1)
    if kind <= 9:
        return cost(i)
    if kind == 10 and source.below(8) == 0:
        return begin()
    return try_set(i, k)


def made_up_line(seed):
    source = MadeUpNumbers(seed)
    return [begin()] + [made_up_call(source) for step in range(399)]


class Model:
    """The words of the document once more, written otherwise: for each user its sets as sets of Python's."""

    def __init__(self):
        self.costs = {}
        self.users = []

    def paid(self, chosen_sets, i):
        used = [r for chosen in chosen_sets for r in chosen]
        pairs = [(self.costs.get(r, (0, 0)), used.count(r)) for r in chosen_sets[i]]
        return sum(a * x + b for (a, b), x in pairs)

    def chosen_sets(self):
        return [sets[k] for sets, k in self.users]

    def knows(self, i, k):
        return i in range(len(self.users)) and k in range(len(self.users[i][0]))

    def tell(self, call):
        number, given = call[0], call[1:]
        return (self.begin, self.thing, self.user, self.choose, self.load, self.cost, self.try_set)[number](*given)

    def begin(self):
        self.costs, self.users = {}, []
        return 0

    def thing(self, r, a, b):
        if r not in range(16) or a not in range(1001) or b not in range(1001):
            return -1
        self.costs[r] = (a, b)
        return 0

    def user(self, n, *sets):
        if n not in range(1, 7):
            return -1
        if len(self.users) == 6:
            return -2
        self.users.append(([{r for r in range(16) if bits & 2 ** r} for bits in sets], 0))
        return len(self.users)

    def choose(self, i, k):
        if not self.knows(i, k):
            return -1
        self.users[i] = (self.users[i][0], k)
        return 0

    def load(self, r):
        return sum(r in chosen for chosen in self.chosen_sets()) if r in range(16) else -1

    def cost(self, i):
        return self.paid(self.chosen_sets(), i) if i in range(len(self.users)) else -1

    def try_set(self, i, k):
        if not self.knows(i, k):
            return -1
        chosen_sets = self.chosen_sets()
        chosen_sets[i] = self.users[i][0][k]
        return self.paid(chosen_sets, i)


class Line(unittest.TestCase):
    def test_the_empty_list(self):
        self.assertEqual(answers([]), [])

    def test_the_form_of_calls_and_answers(self):
        calls = [0, 1, 0, 5, 2, 2, 2, 1, 3, 2, 1, 1, 3, 0, 1, 4, 0, 5, 0, 6, 0, 0, 2, 0, 3, 9, 9]
        self.assertEqual(answers(calls), [1, 0, 1, 0, 1, 1, 1, 2, 1, 0, 1, 2, 1, 12, 1, 12, 1, -1, 1, -1])

    def test_begin_alone(self):
        self.assertEqual(answers([0]), [1, 0])

    def test_whole_numbers_and_lists_alone(self):
        given_back = answers(joined(made_up_line(1)))
        self.assertIs(type(given_back), list)
        self.assertEqual({type(number) for number in given_back}, {int})

    def test_lines_of_400_calls(self):
        for seed in range(40):
            with self.subTest(seed=seed):
                calls = made_up_line(seed)
                model = Model()
                self.assertEqual(told(*calls), [model.tell(call) for call in calls])

    def test_400_calls_with_users_of_six_sets(self):
        calls = [begin()] + [user(1, 2, 4, 8, 16, 32)] * 399
        self.assertEqual(told(*calls), [0, 1, 2, 3, 4, 5, 6] + [-2] * 393)

    def test_what_is_handed_in_is_not_changed(self):
        for seed in range(5):
            numbers = joined(made_up_line(seed))
            handed_in = ReadOnlyList(numbers)
            self.assertEqual(answers(handed_in), answers(list(numbers)))
            self.assertEqual(list(handed_in), numbers)

    def test_nothing_is_kept_from_one_time_to_the_next(self):
        first = joined([begin(), thing(0, 9, 9), user(1, 2), user(1), choose(0, 1), cost(1)])
        second = joined([begin(), load(0), user(1), cost(0), user(1), cost(0), cost(2)])
        self.assertEqual(answers(second), [1, 0, 1, 0, 1, 1, 1, 0, 1, 2, 1, 0, 1, -1])
        self.assertEqual(answers(first), [1, 0, 1, 0, 1, 1, 1, 2, 1, 0, 1, 18])
        self.assertEqual(answers(second), [1, 0, 1, 0, 1, 1, 1, 0, 1, 2, 1, 0, 1, -1])
        self.assertEqual(answers(first), [1, 0, 1, 0, 1, 1, 1, 2, 1, 0, 1, 18])
        self.assertEqual(answers([]), [])

    def test_what_is_given_back_is_the_callers_own(self):
        given_back = answers([0])
        given_back.append(7)
        self.assertEqual(answers([0]), [1, 0])
        nothing = answers([])
        nothing.append(7)
        self.assertEqual(answers([]), [])


if __name__ == "__main__":
    unittest.main()
