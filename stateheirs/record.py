"""What is kept of the states; sets of states or treaties, told as numbers."""

MOST_STATES = 12


def is_in(one, many):
    return (many >> one) & 1 == 1


def with_one(one, many):
    return many | (1 << one)


def without_one(one, many):
    return many & ~(1 << one)


def how_many(many):
    count = 0
    while many > 0:
        count = count + (many & 1)
        many = many >> 1
    return count


def kept_share(owes, p, q):
    """What the old state keeps of its debt; the rest is the new one's, so that nothing is lost by rounding."""
    return owes * p // (p + q)


class State:
    def __init__(self, bound, may_follow, owes):
        self.there = True
        self.bound = bound
        self.may_follow = may_follow
        self.owes = owes

    def vanish(self):
        """Who is gone is bound by nothing and owes nothing, so sums and sets over all states need not leave it out."""
        self.there = False
        self.bound = 0
        self.may_follow = 0
        self.owes = 0


class Record:
    """The one object of a list of calls; without states or treaties till a start."""

    def __init__(self):
        self.treaties = 0
        self.states = []

    def begin(self, n, t):
        self.treaties = t
        self.states = [State(0, 0, 0) for number in range(n)]

    def has_state(self, i):
        return i < len(self.states) and self.states[i].there

    def has_treaty(self, t):
        return t < self.treaties

    def is_full(self):
        """States that are gone count too: a number is never given twice."""
        return len(self.states) >= MOST_STATES

    def count_there(self):
        return len([state for state in self.states if state.there])

    def total_debt(self):
        return sum([state.owes for state in self.states])

    def who_is_bound(self, t):
        many = 0
        for number, state in enumerate(self.states):
            if is_in(t, state.bound):
                many = with_one(number, many)
        return many

    def part(self, i, mode, p, q):
        """Give back the new state's number."""
        old = self.states[i]
        kept = kept_share(old.owes, p, q)
        new_bound = old.bound if mode == 1 else 0
        self.states.append(State(new_bound, old.bound, old.owes - kept))
        old.owes = kept
        return len(self.states) - 1

    def take_up(self, i, j, mode):
        taker = self.states[i]
        gone = self.states[j]
        if mode == 1:
            taker.bound = taker.bound | gone.bound
        taker.may_follow = taker.may_follow | gone.bound
        taker.owes = taker.owes + gone.owes
        gone.vanish()
