"""How the tests write calls down and read what is answered, and a second model to hold the answers against."""

from itertools import product

from roadsharers.roads import answers

LOWEST = -2147483648
HIGHEST = 2147483647
ALL_THINGS = 65535


def begin():
    return [0]


def thing(r, a, b):
    return [1, r, a, b]


def user(*sets):
    return [2, len(sets), *sets]


def choose(i, k):
    return [3, i, k]


def load(r):
    return [4, r]


def cost(i):
    return [5, i]


def try_set(i, k):
    return [6, i, k]


def total():
    return [7]


def potential():
    return [8]


def reply(i):
    return [9, i]


def rests():
    return [10]


def settle():
    return [11]


def least():
    return [12]


def worst():
    return [13]


def joined(calls):
    return [number for call in calls for number in call]


def told(*calls):
    """The one number that is answered to each of these calls, in order."""
    given_back = answers(joined(calls))
    counts = given_back[0::2]
    if counts != [1] * len(calls):
        raise AssertionError(f"not one number for each call: {given_back}")
    return given_back[1::2]


def last_told(*calls):
    return told(*calls)[-1]


def things(*numbers):
    """The sixteen bits of a set that holds these things."""
    return sum(1 << r for r in numbers)


class MadeUpNumbers:
    """The same on every run."""

    def __init__(self, seed):
        self.state = seed

    def below(self, limit):
        self.state = (self.state * 1103515245 + 12345) % 2147483648
        return (self.state >> 8) % limit


def total_of(prices, loads):
    return sum(x * (a * x + b) for (a, b), x in zip(prices, loads))


def potential_of(prices, loads):
    return sum(a * x * (x + 1) // 2 + b * x for (a, b), x in zip(prices, loads))


class Model:
    """The words of the document once more, written otherwise: for each user its sets as sets of Python's."""

    def __init__(self):
        self.costs = {}
        self.users = []

    def paid(self, chosen_sets, i):
        used = [r for chosen in chosen_sets for r in chosen]
        pairs = [(self.costs.get(r, (0, 0)), used.count(r)) for r in chosen_sets[i]]
        return sum(a * x + b for (a, b), x in pairs)

    def chosen_sets(self):
        return [sets[k] for sets, k in self.users]

    def knows(self, i, k):
        return i in range(len(self.users)) and k in range(len(self.users[i][0]))

    def tell(self, call):
        number, given = call[0], call[1:]
        return (
            self.begin, self.thing, self.user, self.choose, self.load, self.cost, self.try_set,
            self.total, self.potential, self.reply, self.rests, self.settle, self.least, self.worst,
        )[number](*given)

    def begin(self):
        self.costs, self.users = {}, []
        return 0

    def thing(self, r, a, b):
        if r not in range(16) or a not in range(1001) or b not in range(1001):
            return -1
        self.costs[r] = (a, b)
        return 0

    def user(self, n, *sets):
        if n not in range(1, 7):
            return -1
        if len(self.users) == 6:
            return -2
        self.users.append(([{r for r in range(16) if bits & 2 ** r} for bits in sets], 0))
        return len(self.users)

    def choose(self, i, k):
        if not self.knows(i, k):
            return -1
        self.users[i] = (self.users[i][0], k)
        return 0

    def load(self, r):
        return sum(r in chosen for chosen in self.chosen_sets()) if r in range(16) else -1

    def cost(self, i):
        return self.paid(self.chosen_sets(), i) if i in range(len(self.users)) else -1

    def try_set(self, i, k):
        if not self.knows(i, k):
            return -1
        chosen_sets = self.chosen_sets()
        chosen_sets[i] = self.users[i][0][k]
        return self.paid(chosen_sets, i)

    def total(self):
        return sum(self.cost(i) for i in range(len(self.users)))

    def potential(self):
        return potential_of(self.priced(), self.loads(self.chosen_sets()))

    def reply(self, i):
        if i not in range(len(self.users)):
            return -1
        return min(range(len(self.users[i][0])), key=lambda k: (self.try_set(i, k), k))

    def gaining(self):
        return [i for i in range(len(self.users)) if self.try_set(i, self.reply(i)) < self.cost(i)]

    def rests(self):
        return int(not self.gaining())

    def settle(self):
        turns = 0
        while self.gaining():
            i = self.gaining()[0]
            self.choose(i, self.reply(i))
            turns += 1
        return turns

    def priced(self):
        return [self.costs.get(r, (0, 0)) for r in range(16)]

    def loads(self, chosen_sets):
        return [sum(r in chosen for chosen in chosen_sets) for r in range(16)]

    def every_choice(self):
        return product(*[range(len(sets)) for sets, k in self.users])

    def loads_of(self, choice):
        return self.loads([sets[k] for (sets, chosen), k in zip(self.users, choice)])

    def least(self):
        prices = self.priced()
        return min(total_of(prices, self.loads_of(choice)) for choice in self.every_choice())

    def worst(self):
        """One that changes its choice alone changes the potential by as much as it changes what it pays itself: so
        it rests where no such change makes the potential less."""
        prices = self.priced()
        potentials = {choice: potential_of(prices, self.loads_of(choice)) for choice in self.every_choice()}
        at_rest = [choice for choice in potentials if not self.can_fall(potentials, choice)]
        return max(total_of(prices, self.loads_of(choice)) for choice in at_rest)

    def can_fall(self, potentials, choice):
        for i, (sets, chosen) in enumerate(self.users):
            for k in range(len(sets)):
                if potentials[choice[:i] + (k,) + choice[i + 1:]] < potentials[choice]:
                    return True
        return False
