"""[49], [54]: splitters, against all pairs of subsets of the houses."""

import random
import time

from assentwhole.entrylists import entries_of, entry_stair
from assentwhole.errors import BadPact
from assentwhole.orders import within
from assentwhole.splitting import splitters
from assentwhole.stairjoins import either_of
from tests.samples import DUO, LOTS, PACT, RULES, SWORN, Checks, Houses, some_pacts, step_trust
from tests.test_entrylists import told_entries, trusts_of


def exchanged(rows, charter, kind, step, trust):
    row = rows[charter][kind]
    row = row[:step] + (trust,) + row[step + 1:]
    there = rows[charter][:kind] + (row,) + rows[charter][kind + 1:]
    return rows[:charter] + (there,) + rows[charter + 1:]


class SplitterTests(Checks):
    def test_examples(self):
        self.equal((splitters(DUO), splitters(SWORN)), (((1, 0),), ((2,),)))
        self.equal(splitters(PACT), ((1, 0),))

    def test_small_pacts_against_all_crowds(self):
        for pact in some_pacts(8, 149):
            houses = Houses(pact[0])
            found = set()
            for entry in told_entries(pact):
                one, two = [houses.in_trust(trust) for trust in trusts_of(pact, entry)]
                found |= houses.common(one, two)
            self.equal(splitters(pact), houses.stair(found))

    def test_either_of_the_entries(self):
        for pact in some_pacts(10, 150):
            either = ()
            for entry in entries_of(pact):
                either = either_of(pact[0], either, entry_stair(pact, entry))
            self.equal(splitters(pact), either)

    def test_wider_trusts_have_wider_splitters(self):
        dice = random.Random(151)
        for pact in some_pacts(10, 151):
            lots, rows = pact[0], pact[3]
            for _ in range(4):
                charter, kind, step = dice.randrange(len(rows)), dice.randrange(len(rows[0])), dice.choice((0, 1, 2, 3, 4))
                old = rows[charter][kind][step]
                if old is None:
                    continue
                wide = ("any", 1, (old, step_trust(dice, lots)))
                wider = pact[:3] + (exchanged(rows, charter, kind, step, wide), pact[4])
                self.equal(within(lots, splitters(pact), splitters(wider)), True)

    def test_charters_and_kinds_in_another_sequence(self):
        dice = random.Random(152)
        for pact in some_pacts(10, 152):
            lots, manner, rule, rows, changes = pact
            order = [0] + dice.sample(range(1, len(rows)), len(rows) - 1)
            kinds = dice.sample(range(len(rows[0])), len(rows[0]))
            moved = tuple(tuple(rows[c][k] for k in kinds) for c in order)
            led = tuple(tuple(sorted(order.index(d) for d in changes[c])) for c in order)
            self.equal(splitters((lots, manner, rule, moved, led)), splitters(pact))

    def test_rules(self):
        # Under own and calm 2 is paired less than under bold; 1 and 2 only by calm and bold.
        a, b = ("lot", 0, 1), ("lot", 1, 1)
        every, some_a, some_b = ("any", 2, (a, b)), ("any", 2, (("lot", 0, 3), a)), b
        rows = tuple(((trust, None, trust, trust, trust),) for trust in (every, some_a, some_b))
        found = [splitters((LOTS, "plain", rule, rows, ((1, 2), (), ()))) for rule in RULES]
        self.equal(found, [((0, 1), (1, 0)), ((0, 0),), ((0, 0),)])
        chain = [splitters((LOTS, "plain", rule, (rows[1], rows[0], rows[2]), ((1,), (2,), ()))) for rule in RULES]
        self.equal(chain, [((0, 1), (1, 0)), ((0, 1), (1, 0)), ((0, 0),)])

    def test_at_the_limits(self):
        # 36 pairs of 9 entries, of commons of 7 with 7 members.
        lots = (("a", 10 ** 12), ("b", 10 ** 12), ("c", 10 ** 12))
        unit = 10 ** 11
        rows = []
        for at in range(6):
            stair = tuple((unit * n, unit * (6 - n), unit * (n * (6 - n) % 4)) for n in range(7))
            rows.append((("least", stair), None, ("least", stair), ("lot", 0, 5), ("lot", 1, 5)))
        pact = (lots, "plain", "bold", tuple((row,) * 3 for row in rows), ((1,), (2,), (3,), (4,), (5,), ()))
        start = time.process_time()
        found = splitters(pact)
        self.assertLess(time.process_time() - start, 10)
        self.assertGreater(len(found), 0)

    def test_wrong_pact(self):
        self.refused(BadPact(0, "hold"), splitters, (LOTS, "plain", "own", (((PACT[3][0][0][:4] + (None,)),),), ((),)))
