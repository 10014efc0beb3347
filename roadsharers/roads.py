"""Things that cost more the more use them, and the calls on them answered one behind another."""

THING_COUNT = 16
MOST_USERS = 6
MOST_SETS = 6
MOST_COST = 1000

BEGIN = 0
THING = 1
USER = 2
CHOOSE = 3
LOAD = 4
COST = 5
TRY = 6
TOTAL = 7
POTENTIAL = 8
REPLY = 9
RESTS = 10
SETTLE = 11
LEAST = 12
WORST = 13

# By a call's number: how many whole numbers stand behind it, rows aside.
NUMBERS_BEHIND = (0, 3, 0, 2, 1, 1, 2, 0, 0, 1, 0, 0, 0, 0)

# Below every total, so that whatever rests is greater.
NOTHING_RESTS = -1


def is_thing(r):
    return 0 <= r < THING_COUNT


def is_cost(number):
    return 0 <= number <= MOST_COST


def has_thing(things, r):
    return (things >> r) & 1 == 1


def added_up(numbers, things):
    return sum([numbers[r] for r in range(THING_COUNT) if has_thing(things, r)])


def raised(numbers, times, more):
    return [number + times * extra for number, extra in zip(numbers, more)]


def numbered_through(sets):
    places = []
    for i, own in enumerate(sets):
        places.extend([(i, things) for things in own])
    return places


def places_by_user(sets):
    own_places = []
    start = 0
    for own in sets:
        own_places.append(list(range(start, start + len(own))))
        start += len(own)
    return own_places


def shared_with(slopes, places, i, things):
    # A user uses one of its sets at a time, so that none of them makes another of its own dearer.
    return [0 if j == i else added_up(slopes, things & other) for j, other in places]


# There may be 46656 choices to go through, too many to go through the things for each. A user pays what its set costs
# one alone, and for each other user the a of every thing that both use: so two sets' share is added up once for all.
# All sets have a place, those of user 0 first; lists of what is paid, or added, tell it of each place.
class Search:
    def __init__(self, slopes, bases, sets):
        places = numbered_through(sets)
        self.own_places = places_by_user(sets)
        self.alone = [added_up(slopes, things) + added_up(bases, things) for i, things in places]
        self.shared = [shared_with(slopes, places, i, things) for i, things in places]

    def least_total(self):
        if len(self.own_places) == 0:
            return 0
        return self.least_added(0, self.alone)

    # The least by which user i and those behind it raise the total, where those ahead of it have chosen.
    def least_added(self, i, added):
        if self.is_last(i):
            return self.lowest(i, added)
        sums = []
        for place in self.own_places[i]:
            # What two share is paid by both of them.
            behind = raised(added, 2, self.shared[place])
            sums.append(added[place] + self.least_added(i + 1, behind))
        return min(sums)

    def worst_total(self):
        return self.worst_behind([], self.alone)

    # The greatest total that rests where the first users have chosen these places.
    def worst_behind(self, chosen, paid):
        i = len(chosen)
        if i == len(self.own_places):
            return self.total_at_rest(chosen, paid)
        greatest = NOTHING_RESTS
        for place in self.places_that_may_rest(i, paid):
            total = self.worst_behind(chosen + [place], raised(paid, 1, self.shared[place]))
            greatest = max(greatest, total)
        return greatest

    def places_that_may_rest(self, i, paid):
        if not self.is_last(i):
            return self.own_places[i]
        # All others have chosen, so what the last one would pay is known: most choices are left out here.
        best = self.lowest(i, paid)
        return [place for place in self.own_places[i] if paid[place] == best]

    def total_at_rest(self, chosen, paid):
        for i, place in enumerate(chosen):
            if paid[place] > self.lowest(i, paid):
                return NOTHING_RESTS
        return sum([paid[place] for place in chosen])

    def lowest(self, i, numbers):
        return min([numbers[place] for place in self.own_places[i]])

    def is_last(self, i):
        return i == len(self.own_places) - 1


# An object holds all that a line's calls build up, so that nothing outlives the line.
class Sharing:
    def __init__(self):
        self.begin()

    def begin(self):
        self.slopes = [0] * THING_COUNT
        self.bases = [0] * THING_COUNT
        self.sets = []
        self.chosen = []
        self.forget_found()
        return 0

    def change_thing(self, r, a, b):
        if not is_thing(r) or not is_cost(a) or not is_cost(b):
            return -1
        self.slopes[r] = a
        self.bases[r] = b
        self.forget_found()
        return 0

    def add_user(self, sets):
        if not 1 <= len(sets) <= MOST_SETS:
            return -1
        if len(self.sets) >= MOST_USERS:
            return -2
        self.sets.append(list(sets))
        self.chosen.append(0)
        self.forget_found()
        return len(self.sets)

    def choose(self, i, k):
        if not self.has_set(i, k):
            return -1
        self.chosen[i] = k
        return 0

    def load(self, r):
        if not is_thing(r):
            return -1
        return len(self.users_of(r))

    def cost(self, i):
        if not self.has_user(i):
            return -1
        return self.pays_now(i)

    def cost_if_chosen(self, i, k):
        if not self.has_set(i, k):
            return -1
        return self.pays_with(i, k)

    def total(self):
        return sum([self.pays_now(i) for i in range(len(self.sets))])

    def potential(self):
        added = 0
        for r in range(THING_COUNT):
            for x in range(1, len(self.users_of(r)) + 1):
                added += self.slopes[r] * x + self.bases[r]
        return added

    def reply(self, i):
        if not self.has_user(i):
            return -1
        return self.best_reply(i)

    def rests(self):
        return 1 if self.first_that_gains() is None else 0

    def settle(self):
        turns = 0
        i = self.first_that_gains()
        while i is not None:
            self.chosen[i] = self.best_reply(i)
            turns += 1
            i = self.first_that_gains()
        return turns

    def least(self):
        if LEAST not in self.found:
            self.found[LEAST] = Search(self.slopes, self.bases, self.sets).least_total()
        return self.found[LEAST]

    def worst(self):
        if WORST not in self.found:
            self.found[WORST] = Search(self.slopes, self.bases, self.sets).worst_total()
        return self.found[WORST]

    # A search takes long, and what is chosen now changes nothing of what it finds: only things and users do.
    def forget_found(self):
        self.found = {}

    def has_user(self, i):
        return 0 <= i < len(self.sets)

    def has_set(self, i, k):
        return self.has_user(i) and 0 <= k < len(self.sets[i])

    def users_of(self, r):
        return [j for j in range(len(self.sets)) if has_thing(self.sets[j][self.chosen[j]], r)]

    def pays_with(self, i, k):
        paid = 0
        for r in range(THING_COUNT):
            if has_thing(self.sets[i][k], r):
                # User i counts once, whether or not the set it has chosen now holds the thing too.
                others = [j for j in self.users_of(r) if j != i]
                paid += self.slopes[r] * (len(others) + 1) + self.bases[r]
        return paid

    def pays_now(self, i):
        return self.pays_with(i, self.chosen[i])

    def best_reply(self, i):
        paid = [self.pays_with(i, k) for k in range(len(self.sets[i]))]
        return paid.index(min(paid))

    def gains(self, i):
        return self.pays_with(i, self.best_reply(i)) < self.pays_now(i)

    def first_that_gains(self):
        for i in range(len(self.sets)):
            if self.gains(i):
                return i
        return None


def answer(sharing, call, given):
    if call == BEGIN:
        return sharing.begin()
    if call == THING:
        return sharing.change_thing(given[0], given[1], given[2])
    if call == USER:
        return sharing.add_user(given)
    if call == CHOOSE:
        return sharing.choose(given[0], given[1])
    if call == LOAD:
        return sharing.load(given[0])
    if call == COST:
        return sharing.cost(given[0])
    if call == TRY:
        return sharing.cost_if_chosen(given[0], given[1])
    if call == TOTAL:
        return sharing.total()
    if call == POTENTIAL:
        return sharing.potential()
    if call == REPLY:
        return sharing.reply(given[0])
    if call == RESTS:
        return sharing.rests()
    if call == SETTLE:
        return sharing.settle()
    if call == LEAST:
        return sharing.least()
    # Only worst is left, as no call beyond it has a place in NUMBERS_BEHIND.
    return sharing.worst()


def answers(calls):
    sharing = Sharing()
    told = []
    at = 0
    while at < len(calls):
        call = calls[at]
        start = at + 1
        count = NUMBERS_BEHIND[call]
        if call == USER:
            count = calls[start]
            start += 1
        end = start + count
        told.append(1)
        told.append(answer(sharing, call, calls[start:end]))
        at = end
    return told
