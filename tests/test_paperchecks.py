"""[39]: papers checked."""

import random

from assentwhole.grids import atoms_of
from assentwhole.paperchecks import is_paper
from tests.samples import BOTH, LOTS, ONLY, TWO, Checks, random_trust, sizes_of, told_holds

ONE = ("lot", 0, 1)
TREE = (("first", 0, 2), ("first",), ("second", 0, 2), ("second",), ("wish",))
ALWAYS, NEVER = ("lot", 0, 0), ("any", 1, ())


def told_leaf(lots, first, second, wish, word, box):
    if word == "wish":
        common = tuple(max(0, a + b - size) for a, b, (_, size) in zip(box[0], box[2], lots))
        return told_holds(lots, wish, common)
    if word == "first":
        return not told_holds(lots, first, box[1])
    return word == "second" and not told_holds(lots, second, box[3])


def told_tree(lots, first, second, wish, tree, box):
    """What is left of tree behind one tree at box; None if it is not right. It calls itself."""
    if not tree:
        return None
    entry, rest = tree[0], tree[1:]
    if len(entry) == 1:
        return rest if told_leaf(lots, first, second, wish, entry[0], box) else None
    word, i, k = entry
    at = 0 if word == "first" else 2
    if (i, k) not in atoms_of(lots, first if word == "first" else second):
        return None
    if not box[at][i] < k <= box[at + 1][i]:
        return None
    less, more = [list(map(list, box)), list(map(list, box))]
    less[at + 1][i] = k - 1
    more[at][i] = k
    rest = told_tree(lots, first, second, wish, rest, less)
    return None if rest is None else told_tree(lots, first, second, wish, rest, more)


class PaperCheckTests(Checks):
    def answers(self, wanted, thing, first=TWO, second=TWO, wish=ONE, lots=LOTS):
        self.assertIs(is_paper(lots, first, second, wish, thing), wanted, thing)

    def closed(self, wanted, *tree, **named):
        self.answers(wanted, ("closed", tree), **named)

    def test_examples(self):
        self.closed(True, *TREE)

    def test_open(self):
        self.answers(True, ("open", (2, 0), (2, 1)), wish=TWO)
        self.answers(True, ("open", (2, 0), (2, 0)), wish=ONLY)
        self.answers(True, ("open", (3, 0), (2, 0)), wish=("lot", 0, 3))
        self.answers(False, ("open", (1, 0), (2, 0)), wish=TWO)
        self.answers(False, ("open", (2, 0), (1, 0)), wish=TWO)
        self.answers(False, ("open", (3, 0), (2, 0)), wish=TWO)
        self.answers(False, ("open", (2, 0), (2, 0)))
        self.answers(False, ("open", (2, 0), (2, 0)), wish=ALWAYS)
        self.answers(True, ("open", (3, 1), (3, 1)), wish=NEVER)

    def test_open_forms(self):
        for thing in (
            ("open", (2, 0)), ("open", (2, 0), (2, 0), (2, 0)), ["open", (2, 0), (2, 0)], ("open", [2, 0], (2, 0)),
            ("open", (2, 0), [2, 0]), ("open", (2, False), (2, 0)), ("open", (2, 0), (2, False)), ("open", (4, 0), (2, 0)),
            ("open", (2, 0, 0), (2, 0)), ("open", (2,), (2, 0)), ("open", None, (2, 0)), ("open", (2, 0), (2, -1)),
            ("Open", (2, 0), (2, 0)), ("closed", (2, 0), (2, 0)), ("open", "20", "20"), ("open", (2, "0"), (2, 0)),
        ):
            self.answers(False, thing, wish=TWO)

    def test_a_single_leaf(self):
        self.closed(True, ("wish",), wish=ALWAYS)
        self.closed(False, ("wish",))
        self.closed(True, ("first",), first=NEVER)
        self.closed(False, ("first",))
        self.closed(True, ("second",), second=NEVER)
        self.closed(False, ("second",))
        self.closed(False, ("first",), second=NEVER)
        self.closed(False, ("second",), first=NEVER)

    def test_too_few_and_too_many(self):
        self.closed(False)
        for many in range(len(TREE)):
            self.closed(False, *TREE[:many])
        self.closed(False, *TREE, ("wish",))
        self.closed(False, *TREE, *TREE)
        self.closed(False, ("wish",), ("wish",), wish=ALWAYS)
        self.closed(False, wish=ALWAYS)

    def test_nodes_beside_their_box(self):
        first = ("any", 2, (TWO, ("lot", 0, 1)))
        self.closed(True, ("first", 0, 1), ("first",), *TREE, first=first)
        self.closed(True, ("first", 0, 2), ("first", 0, 1), ("first",), ("first",), *TREE[2:], first=first)
        # k is at most low, and above high.
        self.closed(False, ("first", 0, 2), ("first",), ("first", 0, 1), ("wish",), *TREE[2:], first=first)
        self.closed(False, ("first", 0, 1), ("first", 0, 2), ("first",), ("wish",), *TREE, first=first)
        self.closed(False, ("first", 0, 1), ("first", 0, 1), ("first",), ("first",), *TREE, first=first)
        # No atoms of their trust.
        for node in (("first", 0, 1), ("first", 0, 3), ("first", 1, 1), ("second", 0, 1), ("first", 0, 0), ("first", 2, 1)):
            self.closed(False, node, ("first",), *TREE)
        self.closed(False, ("first", 1, 1), ("first",), *TREE, first=TWO, second=BOTH)
        self.closed(True, ("second", 1, 1), ("second",), *TREE, first=TWO, second=BOTH)

    def test_which_side_is_less(self):
        self.closed(False, ("first", 0, 2), ("second", 0, 2), ("second",), ("wish",), ("first",))
        self.closed(True, ("second", 0, 2), ("second",), ("first", 0, 2), ("first",), ("wish",))
        self.closed(False, ("second", 0, 2), ("first",), ("first", 0, 2), ("second",), ("wish",))

    def test_forms(self):
        for thing in (
            None, True, (), ("closed",), ("closed", TREE, TREE), ["closed", TREE], ("closed", list(TREE)), TREE,
            ("closed", (["wish"],)), ("closed", ("wish",)), ("closed", (("wish", 0),)), ("closed", (("look",),)),
            ("closed", (("first", False, 2),) + TREE[1:]), ("closed", (("first", 0, 2, 0),) + TREE[1:]),
            ("closed", (["first", 0, 2],) + TREE[1:]), ("closed", (("first", (0, 2)),) + TREE[1:]),
            ("closed", ((True, 0, 2),) + TREE[1:]), ("closed", (("wish", 0, 2),) + TREE[1:]), ("closed", (1, 2, 3)),
            ("closed", (("first", "0", 2),) + TREE[1:]), ("closed", (("first", 0, None),) + TREE[1:]),
            ("closed", (("first", (0,), 2),) + TREE[1:]), ("open", TREE), ("closed", None), ("closed", ((),)),
            ("closed", (("first", -1, 2),) + TREE[1:]), ("closed", (([],),)), 10 ** 59, "closed",
        ):
            self.answers(False, thing)
        one = ("lot", 1, 1)
        self.closed(True, ("first", 1, 1), ("first",), ("wish",), first=one, second=ALWAYS, wish=ALWAYS)
        for node in (("first", True, 1), ("first", 1, True)):
            self.closed(False, node, ("first",), ("wish",), first=one, second=ALWAYS, wish=ALWAYS)

    def test_against_a_slow_reader(self):
        dice = random.Random(39)
        found = {True: 0, False: 0}
        for _ in range(3000):
            first, second, wish = [random_trust(dice, LOTS, 2) for _ in range(3)]
            told = {"first": first, "second": second}
            open_ends, tree = 1, []
            while open_ends and len(tree) < 12:
                entry = (dice.choice(("first", "second", "wish")),)
                atoms = atoms_of(LOTS, told.get(entry[0], NEVER))
                if atoms and dice.random() < 0.45:
                    entry += dice.choice(atoms)
                open_ends += 1 if len(entry) == 3 else -1
                tree.append(entry)
            box = ((0, 0), sizes_of(LOTS), (0, 0), sizes_of(LOTS))
            wanted = told_tree(LOTS, first, second, wish, tuple(tree), box) == ()
            self.closed(wanted, *tree, first=first, second=second, wish=wish)
            found[wanted] += 1
        self.assertGreater(found[True], 200)

    def test_a_deep_tree(self):
        # Parted number by number it is as deep as there are atoms.
        lots = (("a", 1000),)
        first = ("least", ((900,),))
        names = tuple(("lot", 0, at) for at in range(1, 900))
        parts = tuple(("any", 1, names[at:at + 11]) for at in range(0, 899, 11))
        first = ("any", len(parts), parts)
        last = max(min(part[2][at][2] for at in range(len(part[2]))) for part in parts)
        nodes = tuple(("first", 0, at) for at in range(899, last - 1, -1)) + tuple(
            ("first", 0, at) for at in range(last - 1, 0, -1)
        )
        leaves = (("first",),) * last + (("wish",),) * (899 - last + 1)
        self.closed(True, *nodes, *leaves, first=first, second=("lot", 0, 0), wish=("lot", 0, 0), lots=lots)
        self.closed(False, *nodes, *leaves[1:], first=first, second=("lot", 0, 0), wish=("lot", 0, 0), lots=lots)
