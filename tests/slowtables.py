"""Tables of a pact by the words of [10], as sets of crowds of small lots, each a number."""

from tests.samples import Houses, told_behind

STEPS = ("ask", "echo", "vote", "look", "hold")


class SlowTables:
    def __init__(self, pact):
        self.pact = pact
        self.houses = Houses(pact[0])
        self.everything = set(self.houses.crowds)
        self.changes = pact[4]
        self.come = told_behind(pact[4], 0)
        self.kinds = range(len(pact[3][0]))
        self.known = {}

    def step(self, word, c, k):
        place = (word, c, k)
        if place not in self.known:
            self.known[place] = self.houses.in_trust(self.pact[3][c][k][STEPS.index(word)])
        return self.known[place]

    def begin(self, d, b):
        found = self.step("ask", d, b)
        return found & self.step("echo", d, b) if self.pact[1] == "sworn" else found

    def enough(self, d, b):
        return self.begin(d, b) & self.step("vote", d, b)

    def over_kinds(self, call, d):
        return set().union(*[call(d, b) for b in self.kinds])

    def both(self, sets):
        found = set(self.everything)
        for one in sets:
            found &= one
        return found

    def behind(self, d):
        return told_behind(self.changes, d)

    def wakers(self):
        return self.both([self.over_kinds(self.enough, d) for d in self.come])

    def outwakers(self):
        rule = self.pact[2]
        if rule == "own":
            return self.wakers()
        if rule == "calm":
            led = {d for c in self.come for d in self.changes[c]}
            sets = [self.over_kinds(self.enough, d) for d in led]
            if 0 not in led:
                sets.append(self.over_kinds(self.begin if self.changes[0] else self.enough, 0))
            return self.both(sets)
        out = {d: set() for d in self.come}
        while True:
            new = {
                d: {
                    x for x in self.everything
                    if any(x in self.begin(d, b) and (x in self.step("vote", c, b) or x in out[c]) for b in self.kinds for c in self.behind(d))
                }
                for d in self.come
            }
            if new == out:
                return self.both(list(out.values()))
            out = new

    def carriers(self, c, d):
        charters = range(len(self.changes))
        held = {x: set() for x in charters}
        led = {(x, b): set() for x in charters for b in self.kinds}
        held[c] = set(self.everything)
        while True:
            before = (sum(map(len, held.values())), sum(map(len, led.values())))
            for x in charters:
                for e in charters:
                    if x in self.changes[e]:
                        for b in self.kinds:
                            held[x] |= led[e, b]
                            led[x, b] |= self.step("vote", x, b) & led[e, b]
                for b in self.kinds:
                    led[x, b] |= held[x] & self.begin(x, b) & self.step("vote", x, b)
            if before == (sum(map(len, held.values())), sum(map(len, led.values()))):
                return set().union(*[led[d, b] for b in self.kinds])

    def mislookers(self):
        found = set()
        for d in self.come:
            for c in self.behind(d) if self.pact[2] == "bold" else (d,) + self.changes[d]:
                for k in self.kinds:
                    for a in self.kinds:
                        found |= self.houses.common(self.step("look", d, k), self.step("vote", c, a))
        return found

    def misholders(self):
        found = set()
        for c in self.come:
            for a in self.kinds:
                for b in self.kinds:
                    both = self.step("ask", c, b) & self.step("vote", c, b)
                    found |= self.houses.common(self.step("hold", c, a), both)
        return found

    def stair(self, crowds):
        return self.houses.stair(crowds)
