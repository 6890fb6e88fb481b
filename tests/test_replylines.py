"""[102], [103]: lines that ask a shelf."""

import random

from assentwhole.bearing import bears
from assentwhole.crowds import counts_of
from assentwhole.crowdtexts import crowd_text
from assentwhole.errors import NotFor, NotUsable
from assentwhole.mislooking import misholders, mislookers
from assentwhole.outwaking import outwakers
from assentwhole.pacttexts import pact_text
from assentwhole.replylines import reply_lines
from assentwhole.routes import route_of
from assentwhole.shelves import Shelf
from assentwhole.splitcourses import fewest_reigns
from assentwhole.splitting import splitters
from assentwhole.stairs import stair_holds
from assentwhole.sufficing import suffice
from assentwhole.trusttexts import trust_text
from assentwhole.waking import stoppers, wakers
from assentwhole.widening import is_full, widened
from tests.playing import A, AB, B, TWO_LOTS, all_crowds
from tests.samples import DUO, PACT, SWORN, Checks
from tests.test_joints import PAIR
from tests.test_lones import some_cases

CALM = PACT[:2] + ("calm",) + PACT[3:]
APART = DUO[:4] + (((), ()),)
CROSS = (TWO_LOTS, "plain", "own", (((A, None, A, A, A),), ((B, None, AB, AB, AB),)), ((1,), ()))
STAIRS = {
    "splitters": splitters, "wakers": wakers, "stoppers": stoppers, "outwakers": outwakers, "mislookers": mislookers,
    "misholders": misholders,
}


def a_shelf():
    shelf = Shelf()
    for word, pact, words in (
        ("p", PACT, ("old",)), ("duo", DUO, ("old", "new")), ("vow", SWORN, ("c",)), ("pair", PAIR, ("x", "y")), ("calm", CALM, ("c",)),
        ("apart", APART, ("old", "far")), ("cross", CROSS, ("c", "d")),
    ):
        shelf.put(word, pact_text(pact, words))
    return shelf


def stair_told(lots, stair):
    """The members, as trust_text writes them in a least."""
    if not stair:
        return "never"
    return trust_text(lots, ("least", stair))[len("least ("):-1].replace(" | ", " or ")


class ReplyTests(Checks):
    def asked(self, line, wanted, shelf=None):
        self.equal(reply_lines(a_shelf() if shelf is None else shelf, line), [wanted])

    def all_asked(self, rows):
        shelf = a_shelf()
        self.equal(reply_lines(shelf, "\n".join(line for line, _ in rows)), [wanted for _, wanted in rows])
        for line, wanted in rows:
            self.asked(line, wanted, shelf)

    def test_examples(self):
        shelf = Shelf()
        shelf.put("p", pact_text(PACT, ("old",)))
        wanted = ["2 a", "yes 2", "2 a", "refused NoSuch"]
        self.equal(reply_lines(shelf, "wakers p\nsplits p a:0 b:0\nsuffice p vote old : 1 in a\nwakers q"), wanted)

    def test_stairs(self):
        rows = []
        for word, pact in (("p", PACT), ("duo", DUO), ("pair", PAIR), ("calm", CALM), ("vow", SWORN), ("cross", CROSS)):
            for name, call in STAIRS.items():
                try:
                    told = stair_told(pact[0], call(pact))
                except NotFor:
                    told = "refused NotFor"
                rows.append((f"{name} {word}", told))
        self.all_asked(rows)
        told = dict(rows)
        wanted = {
            "splitters duo": "1 a", "wakers duo": "2 a 1 b", "stoppers duo": "1 b or 2 a", "misholders vow": "refused NotFor",
            "misholders calm": "refused NotFor", "splitters cross": "nobody",
        }
        self.equal({line: told[line] for line in wanted}, wanted)

    def test_never_and_nobody(self):
        every = ("any", 2, (("lot", 0, 3), ("lot", 1, 1)))
        row = (every, None, every, every, every)
        shelf = Shelf()
        shelf.put("each", pact_text(PACT[:3] + (((row,),), ((),)), ("c",)))
        self.asked("splitters each", "3 a 1 b", shelf)
        self.asked("suffice each vote c : 0 of ()", "refused NotUsable", shelf)
        self.asked("suffice each vote c : 1 of ()", "never", shelf)
        self.asked("suffice each vote c : least ()", "never", shelf)
        self.asked("suffice each vote c : 1 in a", "1 a", shelf)

    def test_splits_and_wakes(self):
        self.all_asked((
            ("splits p a:0", "yes 2"), ("splits p b:0", "no"), ("splits p nobody", "no"), ("splits p a:0-2 b:0", "yes 2"), ("splits vow n:0-1", "yes"),
            ("splits vow n:0", "no"), ("splits cross nobody", "yes 3"), ("splits cross a:0", "yes 2"), ("wakes p a:0-1", "yes"), ("wakes p a:0 b:0", "no"),
            ("wakes p nobody", "no"), ("wakes duo a:0-1 b:0", "yes"), ("wakes duo a:0-2", "no"), ("wakes vow n:0-2", "yes"), ("wakes vow n:0,2-3", "yes"),
            ("wakes p a:0,1", "refused BadText"), ("splits p a:3", "refused BadText"), ("splits p n:0", "refused BadText"),
            ("splits p a:0  b:0", "refused BadText"), ("splits p  a:0", "refused BadText"), ("splits p a:0 ", "refused BadText"),
            ("wakes p x", "refused BadText"), ("wakes q x", "refused NoSuch"), ("splits p b:0 a:0", "refused BadText"),
        ))

    def test_wishes(self):
        self.all_asked((
            ("suffice duo look new : 1 of (a, b)", "1 b or 2 a"), ("suffice duo look old : 1 of (a, b)", "2 a"), ("suffice duo hold new : a", "2 a"),
            ("suffice duo hold new : 1 in a", "2 a"), ("suffice vow vote c : 2 in n", "3 n"), ("suffice vow hold c : 2 in n", "refused NotFor"),
            ("suffice calm hold c : a", "refused NotFor"), ("suffice p vote none : a", "refused NotUsable"), ("suffice p vote none : x", "refused NotUsable"),
            ("suffice apart vote far : a", "refused NotUsable"), ("suffice apart vote far : x", "refused BadText"), ("suffice p vote old : x", "refused BadText"),
            ("suffice p vote old :  a ", "2 a"), ("suffice p vote old :   ", "refused BadText"), ("suffice p vote old : ", "unknown"),
            ("suffice p vote old :", "unknown"), ("suffice p vote old a", "unknown"), ("suffice p echo old : a", "unknown"), ("suffice q vote old : x", "refused NoSuch"),
            ("suffice p Vote old : a", "unknown"), ("suffice p vote : a", "unknown"), ("suffice p vote : : a", "refused NotUsable"),
            ("suffice p vote old  : a", "unknown"), ("suffice p  vote old : a", "unknown"), ("suffice p vote old: a", "unknown"), ("suffice p vote old : 0 in a", "refused NotUsable"),
            ("bears duo : a", "yes"), ("bears duo : b", "no"), ("bears duo : 1 of (a, b)", "yes"), ("bears duo : all in a", "no"), ("bears duo :a", "unknown"),
            ("bears duo: a", "unknown"), ("bears duo a", "unknown"), ("bears duo : c", "refused BadText"), ("bears none : c", "refused NoSuch"),
            ("bears duo : mirror (all in a)", "yes"), ("bears duo : 0 in a", "refused NotUsable"), ("bears duo : 4 in a", "no"), ("bears duo : 5 in a", "refused BadText"),
            ("widen duo : a", "no"), ("widen p : a", "yes"), ("widen duo : b", "none"), ("widen duo : x", "refused BadText"), ("widen duo : 0 in a", "refused NotUsable"),
            ("widen q : a", "refused NoSuch"), ("widen p : a : b", "refused BadText"), ("widen p", "unknown"), ("widen p :", "unknown"),
        ))

    def test_routes(self):
        shelf = a_shelf()
        shelf.put("tri", "manner plain\nrule own\nlot a 1\nlot b 1\nlot c 1\ntrust both = 2 of (a, b)\ncharter x\nrow ask a;vote a;look a;hold a\n"
                         "charter y\nrow ask both;vote both;look both;hold both\ncharter z\nrow ask b;vote b;look b;hold b")
        for line, wanted in (
            ("route tri x z : 1 of (a, b)", "by x y z"), ("route tri z x : 1 of (a, b)", "by z y x"), ("route tri x x : a", "by x"), ("route tri x z : a", "none"),
            ("route tri z z : a", "none"), ("route tri x y : a", "by x y"), ("route pair x y : 1 of (a, b)", "none"), ("route duo old new : a", "by old new"),
            ("route calm c c : a", "refused NotFor"), ("route vow c c : 2 in n", "by c"), ("route tri x w : ?", "refused NotUsable"), ("route tri w ? : ?", "refused NotUsable"),
            ("route tri x z : ?", "refused BadText"), ("route no w ? : ?", "refused NoSuch"), ("route tri x : a", "unknown"), ("route tri x z a", "unknown"),
            ("route tri x y z : a", "unknown"), ("route tri x z : ", "unknown"), ("route calm c c : 0 in a", "refused NotUsable"), ("route tri : : : a", "refused NotUsable"),
        ):
            self.asked(line, wanted, shelf)

    def test_forms(self):
        for line in (
            "", " ", "  ", "wakers", "wakers ", "wakers  p", " wakers p", "wakers p ", "wakers p q", "Wakers p", "wakers\tp", "waker p", "wakersp", "splits p", "splits p ",
            "splits", "splits  a:0", "wakes p", "wakes  p a:0", "suffice p", "bears", "bears p", "bears : a", "bears  : a", "route p", "widen", "unknown", "# more", "p wakers",
            "fewest p a:0", "enough p", "carriers p old old", "splitters p q", "stoppers p q", "outwakers p q", "mislookers p q", "misholders p q",
            "bears p x a", "widen p x a", "route p old old x a", "suffice p vote old x a", "bears p :: a", "splits  a", "wakes  a",
        ):
            self.asked(line, "unknown")
        self.asked("wakers of", "refused NoSuch")
        self.asked("wakers :", "refused NoSuch")
        self.asked("wakers None", "refused NoSuch")
        self.asked("wakers averylongwordindeed", "refused NoSuch")

    def test_lines(self):
        shelf = a_shelf()
        self.equal(reply_lines(shelf, ""), ["unknown"])
        self.equal(reply_lines(shelf, "\n"), ["unknown", "unknown"])
        self.equal(reply_lines(shelf, "wakers p\n\nwakers p\n"), ["2 a", "unknown", "2 a", "unknown"])
        self.assertIs(type(reply_lines(shelf, "")), list)
        self.equal(reply_lines(shelf, "\n".join(["splitters duo"] * 200)), ["1 a"] * 200)

    def test_the_shelf_decides(self):
        shelf = a_shelf()
        self.asked("wakers p", "2 a", shelf)
        shelf.change("p", pact_text(DUO, ("old", "new")))
        self.asked("wakers p", "2 a 1 b", shelf)
        self.asked("suffice p vote new : a", "2 a", shelf)
        shelf.drop("p")
        self.asked("wakers p", "refused NoSuch", shelf)
        shelf.undo()
        shelf.undo()
        self.asked("wakers p", "2 a", shelf)
        before = shelf.words(), [shelf.text_of(word) for word in shelf.words()]
        reply_lines(shelf, "widen p : a\nbears duo : b\nsplits p a:0")
        self.equal((shelf.words(), [shelf.text_of(word) for word in shelf.words()]), before)

    def test_small_pacts(self):
        dice = random.Random(102)
        for pact, wish in some_cases(102, 6):
            shelf = Shelf()
            words = tuple(f"c{at}" for at in range(len(pact[3])))
            shelf.put("p", pact_text(pact, words))
            told = trust_text(pact[0], wish)
            self.asked(f"bears p : {told}", "yes" if bears(pact, wish) else "no", shelf)
            wide = widened(pact, wish)
            self.asked(f"widen p : {told}", "none" if wide is None else "yes" if is_full(pact, wish) else "no", shelf)
            for step in ("ask", "vote", "look"):
                self.asked(f"suffice p {step} c0 : {told}", stair_told(pact[0], suffice(pact, wish, step, 0)), shelf)
            if pact[2] == "own":
                for other in range(len(pact[3])):
                    route = route_of(pact, wish, 0, other)
                    wanted = "none" if route is None else "by " + " ".join(words[c] for c in route)
                    self.asked(f"route p c0 c{other} : {told}", wanted, shelf)
            crowds = list(all_crowds(pact[0]))
            for crowd in dice.sample(crowds, min(6, len(crowds))):
                text = crowd_text(pact[0], crowd)
                counts = counts_of(pact[0], crowd)
                splits = stair_holds(pact[0], splitters(pact), counts)
                more = f" {fewest_reigns(pact, crowd)}" if splits and pact[1] == "plain" else ""
                self.asked(f"splits p {text}", ("yes" if splits else "no") + more, shelf)
                self.asked(f"wakes p {text}", "yes" if stair_holds(pact[0], wakers(pact), counts) else "no", shelf)

    def test_wrong_ones(self):
        for shelf in (None, {}, "shelf", Shelf, [Shelf()], 5):
            self.refused(NotUsable("shelf"), reply_lines, shelf, None)
        for text in (None, 5, True, ["wakers p"]):
            self.refused(NotUsable("text"), reply_lines, Shelf(), text)
