"""What is kept of the states; sets of states or treaties, told as numbers."""

MOST_STATES = 12
MOST_TAKEN_BACK = 20


def is_in(one, many):
    return (many >> one) & 1 == 1


def with_one(one, many):
    return many | (1 << one)


def without_one(one, many):
    return many & ~(1 << one)


def how_many(many):
    count = 0
    while many > 0:
        count = count + (many & 1)
        many = many >> 1
    return count


def kept_share(owes, p, q):
    """What the old state keeps of its debt; the rest is the new one's, so that nothing is lost by rounding."""
    return owes * p // (p + q)


class State:
    def __init__(self, bound, may_follow, owes, parted_from):
        self.bound = bound
        self.may_follow = may_follow
        self.owes = owes
        self.parted_from = parted_from
        self.taken_by = None

    def is_there(self):
        return self.taken_by is None

    def vanish_into(self, taker):
        """Who is gone is bound by nothing and owes nothing, so sums and sets over all states need not leave it out."""
        self.taken_by = taker
        self.bound = 0
        self.may_follow = 0
        self.owes = 0

    def copied(self):
        twin = State(self.bound, self.may_follow, self.owes, self.parted_from)
        twin.taken_by = self.taken_by
        return twin


class Record:
    """The one object of a list of calls; without states or treaties till a start."""

    def __init__(self):
        self.begin(0, 0)

    def begin(self, n, t):
        self.treaties = t
        self.states = [State(0, 0, 0, None) for number in range(n)]
        self.earlier = []
        self.undone = []

    def has_state(self, i):
        return self.had_state(i) and self.states[i].is_there()

    def had_state(self, i):
        return i < len(self.states)

    def has_treaty(self, t):
        return t < self.treaties

    def is_full(self):
        """States that are gone count too: their numbers stay theirs."""
        return len(self.states) >= MOST_STATES

    def who_is_there(self):
        many = 0
        for number, state in enumerate(self.states):
            if state.is_there():
                many = with_one(number, many)
        return many

    def total_debt(self):
        return sum([state.owes for state in self.states])

    def who_is_bound(self, t):
        many = 0
        for number, state in enumerate(self.states):
            if is_in(t, state.bound):
                many = with_one(number, many)
        return many

    def line(self, i):
        many = with_one(i, 0)
        parent = self.states[i].parted_from
        while parent is not None:
            many = with_one(parent, many)
            parent = self.states[parent].parted_from
        return many

    def ends_up_in(self, i):
        """Takers were there when they took, so the way never comes round to where it began."""
        while not self.states[i].is_there():
            i = self.states[i].taken_by
        return i

    def heirs(self, i):
        many = 0
        for number in range(len(self.states)):
            if is_in(i, self.line(number)):
                many = with_one(self.ends_up_in(number), many)
        return many

    def part(self, i, mode, p, q):
        """Give back the new state's number."""
        old = self.states[i]
        kept = kept_share(old.owes, p, q)
        new_bound = old.bound if mode == 1 else 0
        self.states.append(State(new_bound, old.bound, old.owes - kept, i))
        old.owes = kept
        return len(self.states) - 1

    def take_up(self, i, j, mode):
        taker = self.states[i]
        gone = self.states[j]
        if mode == 1:
            taker.bound = taker.bound | gone.bound
        taker.may_follow = taker.may_follow | gone.bound
        taker.owes = taker.owes + gone.owes
        gone.vanish_into(i)

    def copied_states(self):
        return [state.copied() for state in self.states]

    def keep_change(self, before):
        """Another change stands now, so what was taken back can't be done again any more."""
        self.earlier.append(before)
        if len(self.earlier) > MOST_TAKEN_BACK:
            self.earlier.pop(0)
        self.undone = []

    def take_back(self):
        self.undone.append(self.states)
        self.states = self.earlier.pop()

    def do_again(self):
        self.earlier.append(self.states)
        self.states = self.undone.pop()
