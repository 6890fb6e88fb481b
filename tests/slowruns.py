"""Runs done house by house, straight from the words of the document, and moves for them at random."""

import itertools

from tests.samples import sizes_of, told_holds

STEPS = ("ask", "echo", "vote", "look", "hold")


def charter(roll):
    changes = [deed[1] for deed in roll if deed[0] == "change"]
    return changes[-1] if changes else 0


def begin(one, two):
    return len(one) <= len(two) and two[:len(one)] == one


def part(one, two):
    return not begin(one, two) and not begin(two, one)


def houses_of(crowd):
    return [(lot, n) for lot, spans in enumerate(crowd) for first, end in spans for n in range(first, end)]


def crowd_of_houses(lots, houses):
    """The crowd of some houses, written as spans."""
    found = []
    for lot, (_, size) in enumerate(lots):
        spans, n = [], 0
        while n < size:
            end = n
            while end < size and (lot, end) in houses:
                end += 1
            if end > n:
                spans.append((n, end))
            n = end + 1
        found.append(tuple(spans))
    return tuple(found)


def best_of(tellings):
    reign = max(r for r, _ in tellings)
    many = max(len(roll) for r, roll in tellings if r == reign)
    return reign, min(roll for r, roll in tellings if r == reign and len(roll) == many)


class SlowRun:
    """What both manners share."""

    start = None

    def __init__(self, pact, liars=()):
        self.pact = pact
        self.lots = pact[0]
        self.houses = [(lot, n) for lot, (_, size) in enumerate(self.lots) for n in range(size)]
        self.lying = set(liars)
        self.desk = {house: self.start for house in self.houses}
        self.before = []
        self.answer = {}
        self.back = set()
        self.look = []
        self.up = set(self.houses)
        self.narrow = False
        self.gone = set()

    def stretch(self, crowd):
        new = type(self)(self.pact, self.lying)
        new.desk = dict(self.desk)
        new.up = set(houses_of(crowd))
        new.narrow = True
        new.gone = self.gone | self.used()
        return new

    def in_trust(self, step, c, k, houses):
        counts = tuple(sum(1 for lot, _ in set(houses) if lot == at) for at in range(len(self.lots)))
        return told_holds(self.lots, self.pact[3][c][k][STEPS.index(step)], counts)

    def kind(self, r):
        return r % len(self.pact[3][0])

    def do(self, move):
        """The word that refuses move, or None and it is done."""
        named = "let_" + move[0]
        crowds = {"answer": 2, "take": 2, "store": 3, "return": 1, "tell": 2, "tellhead": 2, "forge": 2, "lay": 2,
                  "echo": 4, "lock": 4, "telllie": 2}
        if self.narrow and move[0] in crowds:
            if move[0] == "return" or not set(houses_of(move[crowds[move[0]]])) <= self.up:
                return "asleep"
        word = getattr(self, named)(*move[1:])
        if word is not None:
            return word
        self.before.append(dict(self.desk))
        getattr(self, "do_" + move[0])(*move[1:])
        return None

    def let_answer(self, r, crowd):
        houses = houses_of(crowd)
        if self.lying & set(houses):
            return "liar"
        if not all(self.desk[house][0] < r for house in houses):
            return "promise"

    def do_answer(self, r, crowd):
        for house in houses_of(crowd):
            self.answer[house, r] = self.desk[house][1:3]
            self.desk[house] = (r,) + self.desk[house][1:]

    def let_return(self, crowd, at):
        if self.lying & set(houses_of(crowd)):
            return "liar"
        if at > len(self.before):
            return "at"

    def do_return(self, crowd, at):
        # This move's own state is in before already.
        for house in houses_of(crowd):
            if at < len(self.before) - 1:
                self.desk[house] = self.before[at][house]
            self.back.add(house)

    def let_open(self, k):
        return None

    def do_open(self, k):
        ahead = [roll for _, roll in self.settled_rolls()]
        self.look.append({"word": "desk", "k": k, "told": [], "houses": set(), "ahead": ahead, "shown": None})

    def let_tell(self, j, crowd):
        if j >= len(self.look) or self.look[j]["word"] != "desk" or self.look[j]["shown"] is not None:
            return "look"
        if self.lying & set(houses_of(crowd)):
            return "liar"

    def do_tell(self, j, crowd):
        for house in houses_of(crowd):
            self.look[j]["told"].append(self.desk[house][1:3])
            self.look[j]["houses"].add(house)

    def let_show(self, j):
        if j >= len(self.look) or self.look[j]["word"] != "desk" or self.look[j]["shown"] is not None:
            return "look"
        look = self.look[j]
        best = best_of(look["told"] + [(0, ())])
        if not self.in_trust("look", charter(best[1]), look["k"], look["houses"]):
            return "tellers"
        if best != (0, ()) and best not in self.settled_rolls():
            return "settled"

    def do_show(self, j):
        self.look[j]["shown"] = best_of(self.look[j]["told"] + [(0, ())])[1]

    # What a run tells.

    def told_desks(self):
        found = []
        for lot, (_, size) in enumerate(self.lots):
            rows = []
            for n in range(size):
                desk = self.desk[lot, n]
                if rows and rows[-1][2:] == desk:
                    rows[-1] = (rows[-1][0], n + 1) + desk
                else:
                    rows.append((n, n + 1) + desk)
            found.append(tuple(rows))
        return tuple(found)

    def told_parted(self, names):
        """names tells for each settled (reign, roll) how it is told, as they are sorted."""
        rows = sorted(self.settled_rolls())
        pairs = [(one, two) for one, two in itertools.combinations(rows, 2) if part(one[1], two[1])]
        if not pairs:
            return None
        last = min(two for _, two in pairs)
        first = min(one for one, two in pairs if two == last)
        return names(first), names(last)

    def told_looks(self):
        return tuple(
            (look["word"], look["shown"], None if look["shown"] is None else all(begin(roll, look["shown"]) for roll in look["ahead"]))
            for look in self.look
        )

    def told_fallen(self):
        return crowd_of_houses(self.lots, self.back | self.lying)

    def told_awake(self):
        return crowd_of_houses(self.lots, self.up)


class SlowPlain(SlowRun):
    start = (0, 0, ())

    def __init__(self, pact, liars=()):
        super().__init__(pact, liars)
        self.roll = {}
        self.ever = set()

    def used(self):
        return set(self.roll)

    def settled(self, r, m):
        if r not in self.roll or not self.roll[r][0] <= m <= len(self.roll[r][1]):
            return False
        houses = {house for house, reign, many in self.ever if reign == r and many >= m}
        return self.in_trust("vote", charter(self.roll[r][1][:m]), self.kind(r), houses)

    def told_settled(self):
        return tuple((r, m) for r in sorted(self.roll) for m in range(61) if self.settled(r, m))

    def settled_rolls(self):
        return [(r, self.roll[r][1][:m]) for r, m in self.told_settled()]

    def base(self, r, crowd, known):
        told = [self.answer[house, r] for house in houses_of(crowd)] + [(0, ())]
        if known is not None:
            told.append((known[0], self.roll[known[0]][1][:known[1]]))
        return best_of(told)[1]

    def let_take(self, r, crowd, known):
        if r in self.gone:
            return "gone"
        if r in self.roll:
            return "taken"
        if not all((house, r) in self.answer for house in houses_of(crowd)):
            return "answers"
        if known is not None:
            q, m = known
            if not (q < r and q in self.roll and self.roll[q][0] <= m <= len(self.roll[q][1])):
                return "known"
        if not self.in_trust("ask", charter(self.base(r, crowd, known)), self.kind(r), houses_of(crowd)):
            return "ask"

    def do_take(self, r, crowd, known):
        base = self.base(r, crowd, known)
        self.roll[r] = (len(base), base)

    def let_write(self, r, deed):
        if r not in self.roll:
            return "roll"
        if deed[0] == "change":
            roll = self.roll[r][1]
            if deed[1] not in self.pact[4][charter(roll)]:
                return "change"
            if self.pact[2] == "own" and not self.settled(r, len(roll)):
                return "rule"
            places = [at for at, one in enumerate(roll) if one[0] == "change"]
            if self.pact[2] == "calm" and places:
                ahead = roll[:places[-1] + 1]
                if not any(q <= r and begin(ahead, other) for q, other in self.settled_rolls()):
                    return "rule"

    def do_write(self, r, deed):
        self.roll[r] = (self.roll[r][0], self.roll[r][1] + (deed,))

    def let_store(self, r, m, crowd):
        if r not in self.roll:
            return "roll"
        if not self.roll[r][0] <= m <= len(self.roll[r][1]):
            return "length"
        if any(self.desk[house][0] > r for house in houses_of(crowd)):
            return "promise"
        if any(self.desk[house][1] == r and len(self.desk[house][2]) >= m for house in houses_of(crowd)):
            return "stored"

    def do_store(self, r, m, crowd):
        for house in houses_of(crowd):
            self.desk[house] = (r, r, self.roll[r][1][:m])
            self.ever.add((house, r, m))

    def let_openhead(self, r):
        return None if r in self.roll else "roll"

    def do_openhead(self, r):
        ahead = [roll for _, roll in self.settled_rolls()]
        self.look.append(
            {"word": "head", "r": r, "noted": len(self.roll[r][1]), "houses": set(), "ahead": ahead, "shown": None}
        )

    def let_tellhead(self, j, crowd):
        if j >= len(self.look) or self.look[j]["word"] != "head" or self.look[j]["shown"] is not None:
            return "look"
        if any(self.desk[house][0] > self.look[j]["r"] for house in houses_of(crowd)):
            return "promise"

    def do_tellhead(self, j, crowd):
        self.look[j]["houses"] |= set(houses_of(crowd))

    def let_showhead(self, j, m):
        if j >= len(self.look) or self.look[j]["word"] != "head" or self.look[j]["shown"] is not None:
            return "look"
        look = self.look[j]
        roll = self.roll[look["r"]][1]
        if not look["noted"] <= m <= len(roll):
            return "length"
        if not self.settled(look["r"], m):
            return "settled"
        if not self.in_trust("hold", charter(roll[:m]), self.kind(look["r"]), look["houses"]):
            return "tellers"

    def do_showhead(self, j, m):
        self.look[j]["shown"] = self.roll[self.look[j]["r"]][1][:m]

    def told(self):
        """All that the methods of the run have to tell."""
        return {
            "desks": self.told_desks(),
            "rolls": tuple((r, base, roll) for r, (base, roll) in sorted(self.roll.items())),
            "settled": self.told_settled(),
            "parted": self.told_parted(lambda row: (row[0], len(row[1]))),
            "awake": self.told_awake(),
            "fallen": self.told_fallen(),
            "looks": self.told_looks(),
            "pact": self.pact,
        }


class SlowSworn(SlowRun):
    start = (0, 0, (), 0, (), ())

    def __init__(self, pact, liars=()):
        super().__init__(pact, liars)
        self.laid = set()
        self.echoes = set()
        self.votes = set()

    def used(self):
        return {r for r, _ in self.laid}

    def locked(self, r, base, roll):
        if (r, base) not in self.laid or not begin(base, roll):
            return False
        houses = {h for h, q, b, other in self.echoes if (q, b) == (r, base) and begin(roll, other)}
        return self.in_trust("echo", charter(base), self.kind(r), houses)

    def settled(self, r, base, roll):
        if not self.locked(r, base, roll):
            return False
        houses = {h for h, q, b, other in self.votes if (q, b) == (r, base) and begin(roll, other)}
        return self.in_trust("vote", charter(roll), self.kind(r), houses)

    def lines(self):
        """All that may be locked: no trust holds at nobody, so someone echoed it or more."""
        told = {(q, b, other[:n]) for _, q, b, other in self.echoes for n in range(len(b), len(other) + 1)}
        return sorted(told)

    def all_locked(self):
        return [line for line in self.lines() if self.locked(*line)]

    def settled_rolls(self):
        return sorted({(r, roll) for r, base, roll in self.all_locked() if self.settled(r, base, roll)})

    def lock_of(self, q, roll):
        return any((r, other) == (q, roll) for r, _, other in self.all_locked())

    def honest(self, crowd):
        return [house for house in houses_of(crowd) if house not in self.lying]

    def let_forge(self, r, crowd, q, roll):
        if self.honest(crowd):
            return "honest"
        if (q, roll) != (0, ()) and not (q < r and self.lock_of(q, roll)):
            return "lock"

    def do_forge(self, r, crowd, q, roll):
        for house in houses_of(crowd):
            self.answer[house, r] = (q, roll)

    def let_lay(self, r, crowd, known, base):
        if r in self.gone:
            return "gone"
        if not all((house, r) in self.answer for house in houses_of(crowd)):
            return "answers"
        if known is not None and not (1 <= known[0] < r and self.lock_of(*known)):
            return "known"
        told = [self.answer[house, r] for house in houses_of(crowd)] + [(0, ())] + ([] if known is None else [known])
        top = max((q, len(roll)) for q, roll in told)
        if base not in [roll for q, roll in told if (q, len(roll)) == top]:
            return "base"
        if not self.in_trust("ask", charter(base), self.kind(r), houses_of(crowd)):
            return "ask"

    def do_lay(self, r, crowd, known, base):
        self.laid.add((r, base))

    def let_echo(self, r, base, roll, crowd):
        if (r, base) not in self.laid or not begin(base, roll):
            return "base"
        honest = self.honest(crowd)
        if any(self.desk[house][0] > r for house in honest):
            return "promise"
        for house in honest:
            _, _, _, reign, echo_base, echo_roll = self.desk[house]
            if reign == r and not (echo_base == base and begin(echo_roll, roll)):
                return "line"
        if not honest:
            return None
        places = [at for at in range(len(base), len(roll)) if roll[at][0] == "change"]
        if any(roll[at][1] not in self.pact[4][charter(roll[:at])] for at in places):
            return "change"
        for at in places:
            ahead = roll[:at]
            if self.pact[2] == "own" and not self.settled(r, base, ahead):
                return "rule"
            changes = [n for n, deed in enumerate(ahead) if deed[0] == "change"]
            if self.pact[2] == "calm" and changes:
                begun = ahead[:changes[-1] + 1]
                if not any(q <= r and begin(begun, other) for q, other in self.settled_rolls()):
                    return "rule"

    def do_echo(self, r, base, roll, crowd):
        for house in self.honest(crowd):
            self.desk[house] = (r,) + self.desk[house][1:3] + (r, base, roll)
        self.echoes |= {(house, r, base, roll) for house in houses_of(crowd)}

    def let_lock(self, r, base, roll, crowd):
        if (r, base) not in self.laid or not begin(base, roll):
            return "base"
        honest = self.honest(crowd)
        if any(self.desk[house][0] > r for house in honest):
            return "promise"
        if honest and not self.locked(r, base, roll):
            return "lock"
        for house in honest:
            _, reign, old = self.desk[house][:3]
            if reign == r and not (begin(old, roll) and old != roll):
                return "line"

    def do_lock(self, r, base, roll, crowd):
        for house in self.honest(crowd):
            self.desk[house] = (r, r, roll) + self.desk[house][3:]
        self.votes |= {(house, r, base, roll) for house in houses_of(crowd)}

    def let_telllie(self, j, crowd, q, roll):
        if j >= len(self.look) or self.look[j]["shown"] is not None:
            return "look"
        if self.honest(crowd):
            return "honest"
        if (q, roll) != (0, ()) and not self.lock_of(q, roll):
            return "lock"

    def do_telllie(self, j, crowd, q, roll):
        self.look[j]["told"].append((q, roll))
        self.look[j]["houses"] |= set(houses_of(crowd))

    def told(self):
        locked = self.all_locked()
        return {
            "desks": self.told_desks(),
            "laid": tuple(sorted(self.laid)),
            "locked": tuple(
                (r, base, roll) for r, base, roll in locked
                if not any((q, b) == (r, base) and begin(roll, other) and other != roll for q, b, other in locked)
            ),
            "settled": tuple(self.settled_rolls()),
            "parted": self.told_parted(lambda row: row),
            "awake": self.told_awake(),
            "fallen": self.told_fallen(),
            "looks": self.told_looks(),
            "liars": crowd_of_houses(self.lots, self.lying),
            "pact": self.pact,
        }


class Moves:
    """Moves at random over a small pact, of which many can be done."""

    def __init__(self, dice, pact, reigns=4):
        self.dice = dice
        self.pact = pact
        self.lots = pact[0]
        self.top = reigns
        self.houses = [(lot, n) for lot, (_, size) in enumerate(self.lots) for n in range(size)]

    def crowd(self, houses=None):
        """Some crowd of at least one house, often of all of them."""
        houses = sorted(self.houses if not houses else houses)
        many = len(houses) if self.dice.random() < 0.5 else self.dice.randint(1, len(houses))
        return crowd_of_houses(self.lots, self.dice.sample(houses, many))

    def deed(self):
        if self.dice.random() < 0.4:
            return ("change", self.dice.randrange(len(self.pact[3])))
        return ("do", 0, 1, 0, self.dice.randint(0, 1))

    def reign(self):
        return self.dice.randint(1, self.top)

    def plain(self, slow):
        """A move of a plain run."""
        dice = self.dice
        word = dice.choice(
            ("answer", "take", "take", "write", "write", "store", "store", "store", "return", "open", "tell", "tell", "show",
             "openhead", "tellhead", "showhead")
        )
        r, crowd, j = self.reign(), self.crowd(slow.up if slow.narrow and dice.random() < 0.9 else None), self.number(slow)
        if word in ("write", "store", "openhead") and slow.roll and dice.random() < 0.8:
            r = dice.choice(sorted(slow.roll))
        if word == "answer":
            return word, r, crowd
        if word == "take":
            known = None if dice.random() < 0.6 else (self.reign(), dice.randint(0, 3))
            return word, r, crowd, known
        if word == "write":
            return word, r, self.deed()
        if word == "store":
            most = len(slow.roll[r][1]) if r in slow.roll else 2
            return word, r, dice.randint(0, most) if dice.random() < 0.9 else most + 1, crowd
        if word == "return":
            return word, crowd, dice.randint(0, len(slow.before) + 1)
        if word == "open":
            return word, dice.randrange(len(self.pact[3][0]))
        if word in ("tell", "tellhead"):
            return word, j, crowd
        if word == "show":
            return word, j
        if word == "openhead":
            return word, r
        return word, j, dice.randint(0, 5)

    def number(self, slow):
        """Often the number of a look that has not shown."""
        still = [at for at, look in enumerate(slow.look) if look["shown"] is None]
        return self.dice.choice(still) if still and self.dice.random() < 0.8 else self.dice.randint(0, 3)

    def lock(self, slow):
        """Often a lock, (0, ()), or something else."""
        found = [(r, roll) for r, _, roll in slow.all_locked()] + [(0, ())]
        return self.dice.choice(found) if self.dice.random() < 0.9 else (self.reign(), (self.deed(),))

    def sworn(self, slow):
        """A move of a sworn run."""
        dice = self.dice
        word = dice.choice(
            ("answer", "answer", "forge", "lay", "lay", "echo", "echo", "echo", "lock", "lock", "lock", "return", "open", "tell",
             "tell", "telllie", "show")
        )
        honest = set(slow.up) - slow.lying
        among = dice.choice([honest, slow.lying, set(self.houses), slow.up, honest, slow.up])
        r, crowd, j = self.reign(), self.crowd(among), self.number(slow)
        if word == "answer":
            return word, r, self.crowd(honest) if dice.random() < 0.8 else crowd
        if word == "forge":
            return (word, r, self.crowd(slow.lying) if dice.random() < 0.8 else crowd) + self.lock(slow)
        if word == "lay":
            known = self.lock(slow) if dice.random() < 0.4 else None
            told = [(0, ())] + list(slow.answer.values()) + ([] if known is None else [known])
            return word, r, crowd, known, dice.choice(told)[1]
        if word in ("echo", "lock"):
            laid = sorted(slow.laid) or [(r, ())]
            r, base = dice.choice(laid) if dice.random() < 0.95 else (r, (self.deed(),))
            told = [other for _, q, b, other in sorted(slow.echoes) if (q, b) == (r, base)] + [base]
            roll = dice.choice(told)
            if word == "echo":
                roll = roll + tuple(self.deed() for _ in range(dice.choice((0, 1, 1, 2))))
            else:
                roll = roll[:max(0, len(roll) - dice.choice((0, 0, 1)))]
            return word, r, base, roll, crowd
        if word == "return":
            return word, crowd, dice.randint(0, len(slow.before) + 1)
        if word == "open":
            return word, dice.randrange(len(self.pact[3][0]))
        if word == "tell":
            return word, j, crowd
        if word == "telllie":
            return (word, j, self.crowd(slow.lying) if dice.random() < 0.8 else crowd) + self.lock(slow)
        return word, j
