"""Things that cost more the more use them, and the calls on them answered one behind another."""

THING_COUNT = 16
MOST_USERS = 6
MOST_SETS = 6
MOST_COST = 1000

BEGIN = 0
THING = 1
USER = 2
CHOOSE = 3
LOAD = 4
COST = 5

# By a call's number, the last being that of try: how many whole numbers stand behind it, rows aside.
NUMBERS_BEHIND = (0, 3, 0, 2, 1, 1, 2)


def is_thing(r):
    return 0 <= r < THING_COUNT


def is_cost(number):
    return 0 <= number <= MOST_COST


def has_thing(things, r):
    return (things >> r) & 1 == 1


# An object holds all that a line's calls build up, so that nothing outlives the line.
class Sharing:
    def __init__(self):
        self.begin()

    def begin(self):
        self.slopes = [0] * THING_COUNT
        self.bases = [0] * THING_COUNT
        self.sets = []
        self.chosen = []
        return 0

    def change_thing(self, r, a, b):
        if not is_thing(r) or not is_cost(a) or not is_cost(b):
            return -1
        self.slopes[r] = a
        self.bases[r] = b
        return 0

    def add_user(self, sets):
        if not 1 <= len(sets) <= MOST_SETS:
            return -1
        if len(self.sets) >= MOST_USERS:
            return -2
        self.sets.append(list(sets))
        self.chosen.append(0)
        return len(self.sets)

    def choose(self, i, k):
        if not self.has_set(i, k):
            return -1
        self.chosen[i] = k
        return 0

    def load(self, r):
        if not is_thing(r):
            return -1
        return len(self.users_of(r))

    def cost(self, i):
        if not self.has_user(i):
            return -1
        return self.pays_with(i, self.chosen[i])

    def cost_if_chosen(self, i, k):
        if not self.has_set(i, k):
            return -1
        return self.pays_with(i, k)

    def has_user(self, i):
        return 0 <= i < len(self.sets)

    def has_set(self, i, k):
        return self.has_user(i) and 0 <= k < len(self.sets[i])

    def users_of(self, r):
        return [j for j in range(len(self.sets)) if has_thing(self.sets[j][self.chosen[j]], r)]

    def pays_with(self, i, k):
        paid = 0
        for r in range(THING_COUNT):
            if has_thing(self.sets[i][k], r):
                # User i counts once, whether or not the set it has chosen now holds the thing too.
                others = [j for j in self.users_of(r) if j != i]
                paid += self.slopes[r] * (len(others) + 1) + self.bases[r]
        return paid


def answer(sharing, call, given):
    if call == BEGIN:
        return sharing.begin()
    if call == THING:
        return sharing.change_thing(given[0], given[1], given[2])
    if call == USER:
        return sharing.add_user(given)
    if call == CHOOSE:
        return sharing.choose(given[0], given[1])
    if call == LOAD:
        return sharing.load(given[0])
    if call == COST:
        return sharing.cost(given[0])
    # Only try is left, as no call beyond it has a place in NUMBERS_BEHIND.
    return sharing.cost_if_chosen(given[0], given[1])


def answers(calls):
    sharing = Sharing()
    told = []
    at = 0
    while at < len(calls):
        call = calls[at]
        start = at + 1
        count = NUMBERS_BEHIND[call]
        if call == USER:
            count = calls[start]
            start += 1
        end = start + count
        told.append(1)
        told.append(answer(sharing, call, calls[start:end]))
        at = end
    return told
