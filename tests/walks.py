"""Lists of calls, each made by a fixed rule, so that every run is the same; and what of them stands."""

from tests.support import CHANGES

FAR = (12, 31, 4294967295)


class Numbers:
    """A plain row of numbers that looks without order."""

    def __init__(self, seed):
        self.seed = seed * 7919 + 17
        # Some lists owe, some part so much that the most there may be is reached.
        self.greed = seed % 4 * 8
        self.strife = seed % 3 * 3

    def below(self, top):
        self.seed = (self.seed * 6364136223846793005 + 1442695040888963407) % 2 ** 64
        return (self.seed >> 33) % top

    def one_of(self, row):
        return row[self.below(len(row))]

    def state(self):
        return self.below(12) if self.below(30) else self.one_of(FAR)

    def early_state(self):
        return self.below(6) if self.below(3) else self.state()

    def treaty(self):
        return self.below(4) if self.below(12) else self.one_of((4, 7, 8, 4294967295))

    def mode(self):
        return self.below(2) if self.below(12) else 2

    def parts(self):
        return self.below(11)

    def units(self):
        return self.one_of((0, 1, 3, 10, 99, 12345, 400000, 1000000, 1000001) + (1000000,) * self.greed)

    def change(self):
        names = ("sign", "sign", "leave", "follow", "follow", "owe", "owe", "pay", "part", "join")
        name = self.one_of(names + ("part",) * self.strife)
        i = self.early_state()
        if name in ("sign", "leave", "follow"):
            return (name, i, self.treaty())
        if name in ("owe", "pay"):
            return (name, i, self.units())
        if name == "part":
            return (name, i, self.mode(), self.parts(), self.parts())
        return (name, i, self.early_state(), self.mode())

    def question(self):
        name = self.one_of(("treaties", "bound", "common", "debt", "total", "from", "line", "heirs", "heirs", "kin",
                            "whole", "could", "would", "state", "state"))
        if name in ("total", "state"):
            return (name,)
        if name in ("bound", "whole"):
            return (name, self.treaty())
        if name in ("common", "kin"):
            return (name, self.early_state(), self.early_state())
        if name == "would":
            return (name, self.early_state(), self.parts(), self.parts())
        return (name, self.early_state())

    def start(self):
        return ("start", self.one_of((0, 1, 2, 3, 4, 4, 5)), self.one_of((0, 4, 5, 8, 8, 9)))

    def to_and_fro(self):
        """Several in a row, or there would never be many at once; what is refused or asks may stand between."""
        calls = [("back",)] * (1 + self.below(self.one_of((2, 3, 5, 23))))
        calls += [self.question() for step in range(self.below(3))]
        calls += [("start", 0, 0)] * (1 - min(1, self.below(6)))
        return calls + [("again",)] * self.below(self.one_of((2, 3, 6, 23)))

    def some_calls(self):
        kind = self.below(120)
        if kind < 78:
            return [self.change()]
        if kind < 114:
            return [self.question()]
        return [self.start()] if kind == 114 else self.to_and_fro()


def walk_of_changes(seed, steps):
    numbers = Numbers(seed)
    calls = [("start", 1 + numbers.below(4), 1 + numbers.below(8))]
    return calls + [numbers.change() for step in range(steps)]


def walk_of_all(seed, steps):
    """So many calls in all, of every kind."""
    numbers = Numbers(seed)
    calls = [("start", 1 + numbers.below(4), 1 + numbers.below(8))]
    while len(calls) < steps:
        calls += numbers.some_calls()
    return calls[:steps]


class Standing:
    """The start and the changes that stand, counted without looking at any state."""

    def __init__(self):
        self.calls = []
        self.taken_back = []
        self.reach = 0

    def see(self, call, answer):
        if answer[0] < 0:
            return
        if call[0] == "start":
            self.calls = [call]
            self.taken_back = []
            self.reach = 0
        elif call[0] in CHANGES:
            self.calls.append(call)
            self.taken_back = []
            self.reach = min(20, self.reach + 1)
        elif call[0] == "back":
            self.taken_back.append(self.calls.pop())
            self.reach -= 1
        elif call[0] == "again":
            self.calls.append(self.taken_back.pop())
            self.reach += 1

    def counted(self):
        return [self.reach, len(self.taken_back)]
