"""[2], [13]: names and parameters of the interface, and which of several wrong ones is named."""

import importlib
import inspect
import itertools

from assentwhole.errors import (
    BadCounts, BadCrowd, BadLots, BadPact, BadRoll, BadScheme, BadStair, BadText, BadTrust, NotFor, NotUsable,
)
from assentwhole.plainplays import play_plain
from assentwhole.plainruns import Plain
from assentwhole.shelves import Shelf
from assentwhole.swornplays import play_sworn
from assentwhole.swornruns import Sworn
from tests.samples import BOTH, DUO, LOTS, MORE, PACT, ROW, TWO, Checks
from tests.test_document import told_names

STAIR = ((0, 1), (2, 0))
CROWD = (((1, 3),), ((0, 1),))
PACT_TEXT = "manner plain\nrule own\nlot a 3\ncharter x\nrow ask a;vote a;look a;hold a"
PARTS = (((("c", 3),), ("lot", 0, 2)), ((("d", 1),), ("lot", 0, 1)))

# For each kind of parameter wrong values, each with the error that it raises.
WRONG_LOTS = (
    (None, BadLots(-1, "shape")), ([("a", 3)], BadLots(-1, "shape")), ((["a", 3],), BadLots(0, "shape")),
    ((("a", 3), ("of", 1)), BadLots(1, "word")), ((("a", 3), ("a", 1)), BadLots(1, "twice")),
    ((("a", True),), BadLots(0, "size")),
)
WRONG_COUNTS = (
    (None, BadCounts(-1)), ([0, 0], BadCounts(-1)), ((True, 0), BadCounts(0)), ((4, 0), BadCounts(0)),
    ((3, 2), BadCounts(1)),
)
WRONG_CROWD = (
    (None, BadCrowd(-1)), ([(), ()], BadCrowd(-1)), (([], ()), BadCrowd(0)), (((), ((0, True),)), BadCrowd(1)),
    ((((0, 4),), ()), BadCrowd(0)),
)
WRONG_TRUST = (
    (None, BadTrust(0, "shape")), (["lot", 0, 1], BadTrust(0, "shape")), (("lot", True, 1), BadTrust(0, "lot")),
    (("any", 1, (TWO, ("lot", 0, 5))), BadTrust(2, "many")), (("least", ((1, 1), (1, 0))), BadTrust(0, "stair")),
)
WRONG_STAIR = (
    (None, BadStair(-1)), ([(0, 1)], BadStair(-1)), (((0, True),), BadStair(0)), (((0, 1), (1, 1)), BadStair(1)),
)
WRONG_STAIRS = tuple((thing, NotUsable("stairs")) for thing in (None, [STAIR], STAIR, (STAIR, ((4, 0),))))
WRONG_TEXT = tuple((thing, NotUsable("text")) for thing in (None, 5, True, ["a"]))
WRONG_PACT = (
    (None, BadPact(-1, "shape")), (list(DUO), BadPact(-1, "shape")), ((None,) + DUO[1:], BadLots(-1, "shape")),
    (DUO[:1] + ("Plain",) + DUO[2:], BadPact(-1, "manner")), (DUO[:2] + (None,) + DUO[3:], BadPact(-1, "rule")),
    (DUO[:3] + ([(ROW,)], ((),)), BadPact(-1, "charters")), (DUO[:3] + (((ROW,), (list(MORE),)), ()), BadPact(1, "row")),
    (DUO[:3] + (((ROW,), (MORE[:3] + (("lot", 0, 0), TWO),)), ()), BadPact(1, "look")), (DUO[:4] + ([(), ()],), BadPact(-1, "changes")),
    (DUO[:4] + (((True,), ()),), BadPact(0, "changes")),
)
WRONG_ROLL = (
    (None, BadRoll(-1)), ([("change", 1)], BadRoll(-1)), ((["change", 1],), BadRoll(0)),
    ((("change", 1), ("change", True)), BadRoll(1)), ((("do", 0, True, 0, 0),), BadRoll(0)),
)


def not_usable(name, *things):
    return tuple((thing, NotUsable(name)) for thing in things)


LOTS_PART = ("lots", LOTS, WRONG_LOTS)
ONE_COUNTS, TWO_COUNTS = ("one", (2, 0), WRONG_COUNTS), ("two", (2, 1), WRONG_COUNTS)
ONE_CROWD, TWO_CROWD = ("one", CROWD, WRONG_CROWD), ("two", ((), ()), WRONG_CROWD)
ONE_STAIR, TWO_STAIR = ("one", STAIR, WRONG_STAIR), ("two", ((1, 0),), WRONG_STAIR)
TRUST, STAIR_PART = ("trust", BOTH, WRONG_TRUST), ("stair", STAIR, WRONG_STAIR)
COUNTS, WISH = ("counts", (2, 1), WRONG_COUNTS), ("wish", ((0, 1),), WRONG_STAIR)
STAIRS = ("stairs", (STAIR, STAIR), WRONG_STAIRS)
FIRST, SECOND, ANY_WISH = ("first", TWO, WRONG_TRUST), ("second", BOTH, WRONG_TRUST), ("wish", ("lot", 0, 0), WRONG_TRUST)
PACT_PART, ROLL = ("pact", DUO, WRONG_PACT), ("roll", (("change", 1),), WRONG_ROLL)
CHARTER = ("charter", 1, not_usable("charter", None, 2, True, -1, "1", [1]))
KIND = ("kind", 0, not_usable("kind", None, 1, False, -1, "0", (0,)))
OTHER = ("other", 1, not_usable("other", None, 2, True, -1, "1", [1]))
RUN = ("run", Plain(DUO), not_usable("run", None, DUO, 5, [Plain(DUO)], Plain))
TEAM = ("crowd", (((1, 3),), ((0, 1),)), WRONG_CROWD + not_usable("crowd", ((), ())))
NO_CHANGE = ("deed", ("do", 0, 1, 0, 5), not_usable("deed", None, ("change", 0), ["do", 0, 1, 0, 5], ("do", 0, True, 0, 5)))
SWORN_DUO = (LOTS, "sworn", "own", (((TWO, TWO, TWO, TWO, None),),), ((),))
STEP = ("step", "look", not_usable("step", None, "echo", "Look", True, ["look"]))
FALL = ("fall", (((0, 1),), ()), WRONG_CROWD)
SOME_CROWD = ("crowd", (((1, 3),), ((0, 1),)), WRONG_CROWD + not_usable("crowd", ((), ())))
PACT_WISH = ("wish", ("lot", 0, 1), WRONG_TRUST + not_usable("wish", ("lot", 0, 0), ("spare", ())))
KEEP = ("keep", TWO, WRONG_TRUST + not_usable("keep", ("lot", 0, 0), ("lot", 0, 4), ("any", 1, ())))
MANNER = ("manner", "plain", not_usable("manner", None, "Plain", "own", True, ["plain"]))
SWORN_PACT = ("pact", SWORN_DUO, WRONG_PACT)
ZERO = ("charter", 0, not_usable("charter", None, 2, False, -1, "0", [0]))
UNITS = (("u", 1), ("v", 1))
ONE_UNIT = ("lot", 0, 1)
UNIT_PACT = (UNITS, "plain", "bold", (((ONE_UNIT, None, ONE_UNIT, ONE_UNIT, ONE_UNIT),),), ((),))
TRIPLES = (((("c", 3),), TWO, TWO), ((("d", 1),), ONE_UNIT, ONE_UNIT))
# Each machine stays in its one state; a client ends as it begins.
CELL = tuple(((0, (), False),) for _ in range(3))
SCHEME = (1, 1, 1, ((CELL,), (CELL[:1] + (((0, (), True),),) + CELL[2:],), (CELL[:2] + (((0, (), True),),),)))
WRONG_SCHEME = (
    (None, BadScheme(-1, "shape")), (list(SCHEME), BadScheme(-1, "shape")), ((True,) + SCHEME[1:], BadScheme(-1, "shape")),
    (SCHEME[:3] + (SCHEME[3][:2],), BadScheme(-1, "shape")), (SCHEME[:3] + (((CELL[:2] + (([0, (), False],),),),) + SCHEME[3][1:],), BadScheme(2, "shape")),
    (SCHEME[:3] + (SCHEME[3][1:2] + SCHEME[3][1:],), BadScheme(1, "end")),
)
SCHEME_PART = ("scheme", SCHEME, WRONG_SCHEME)
SHELF = Shelf()
SHELF.put("p", PACT_TEXT)

INTERFACE = {
    "lots.check_lots": (("thing", LOTS, WRONG_LOTS),),
    "lots.everyone": (LOTS_PART,),
    "lots.nobody": (LOTS_PART,),
    "counting.check_counts": (LOTS_PART, ("thing", (3, 1), WRONG_COUNTS)),
    "counting.below": (LOTS_PART, ONE_COUNTS, TWO_COUNTS),
    "counting.least_common": (LOTS_PART, ONE_COUNTS, TWO_COUNTS),
    "counting.outside": (LOTS_PART, COUNTS),
    "crowds.check_crowd": (LOTS_PART, ("thing", CROWD, WRONG_CROWD)),
    "crowds.crowd_of": (LOTS_PART, ("spans", ((0, 1, 3),), not_usable("spans", None, [], ((0, 1, 4),), ([0, 1, 2],)))),
    "crowds.counts_of": (LOTS_PART, ("crowd", CROWD, WRONG_CROWD)),
    "crowds.has_house": (
        LOTS_PART, ("crowd", CROWD, WRONG_CROWD), ("lot", 1, not_usable("lot", None, 2, True, -1)),
        ("number", 0, not_usable("number", None, 3, False, -1)),
    ),
    "crowdjoins.all_houses": (LOTS_PART,),
    "crowdjoins.no_houses": (LOTS_PART,),
    "crowdjoins.crowd_either": (LOTS_PART, ONE_CROWD, TWO_CROWD),
    "crowdjoins.crowd_both": (LOTS_PART, ONE_CROWD, TWO_CROWD),
    "crowdjoins.crowd_less": (LOTS_PART, ONE_CROWD, TWO_CROWD),
    "crowdjoins.crowd_within": (LOTS_PART, ONE_CROWD, TWO_CROWD),
    "placing.first_houses": (LOTS_PART, COUNTS),
    "placing.place_two": (LOTS_PART, ONE_COUNTS, TWO_COUNTS, ("fall", CROWD, WRONG_CROWD)),
    "crowdtexts.crowd_text": (LOTS_PART, ("crowd", CROWD, WRONG_CROWD)),
    "crowdtexts.read_crowd": (LOTS_PART, ("text", "a:0-1 b:0", WRONG_TEXT)),
    "trustchecks.check_trust": (LOTS_PART, ("thing", BOTH, WRONG_TRUST)),
    "holding.holds": (LOTS_PART, TRUST, COUNTS),
    "holding.never_holds": (LOTS_PART, TRUST),
    "holding.always_holds": (LOTS_PART, TRUST),
    "mirrors.mirror_of": (LOTS_PART, TRUST),
    "mirrors.beyond": (LOTS_PART, COUNTS),
    "grids.atoms_of": (LOTS_PART, TRUST),
    "grids.grid_of": (LOTS_PART, TRUST),
    "trustreading.read_trust": (
        LOTS_PART, ("names", (("t", TWO),), not_usable("names", None, [], (("a", TWO),), (("t", ("lot", 0, True)),))),
        ("text", "1 of (t, b)", WRONG_TEXT),
    ),
    "trusttexts.trust_text": (LOTS_PART, TRUST),
    "stairs.check_stair": (LOTS_PART, ("thing", STAIR, WRONG_STAIR)),
    "stairs.stair_of": (LOTS_PART, TRUST),
    "stairs.stair_holds": (LOTS_PART, STAIR_PART, COUNTS),
    "stairs.trust_of": (LOTS_PART, STAIR_PART),
    "stairjoins.either_of": (LOTS_PART, ONE_STAIR, TWO_STAIR),
    "stairjoins.both_of": (LOTS_PART, ONE_STAIR, TWO_STAIR),
    "anyofs.any_of": (LOTS_PART, STAIRS, ("many", 1, not_usable("many", None, 4, True, -1, [1]))),
    "commons.common_of": (LOTS_PART, ONE_STAIR, TWO_STAIR),
    "commons.common_all": (LOTS_PART, STAIRS),
    "partners.partner_of": (LOTS_PART, ONE_STAIR, WISH),
    "mirrorstairs.mirror_stair": (LOTS_PART, STAIR_PART),
    "orders.within": (LOTS_PART, ONE_STAIR, TWO_STAIR),
    "orders.meets": (LOTS_PART, ONE_STAIR, TWO_STAIR, WISH),
    "orders.first_unmet": (LOTS_PART, ONE_STAIR, TWO_STAIR, WISH),
    "pricing.cheapest": (LOTS_PART, STAIR_PART, ("prices", (1, 1), not_usable("prices", None, [1, 1], (1,), (True, 1)))),
    "roles.needed": (LOTS_PART, STAIR_PART),
    "roles.idle_lots": (LOTS_PART, STAIR_PART),
    "nesting.nest": (
        ("words", (("u", 1), ("v", 1)), WRONG_LOTS[:5] + not_usable("words", (("u", 1), ("v", 2)))),
        ("trust", ("lot", 0, 1), WRONG_TRUST), ("parts", PARTS, not_usable("parts", None, list(PARTS), PARTS[:1])),
    ),
    "papers.paper": (LOTS_PART, FIRST, SECOND, ANY_WISH),
    "paperchecks.is_paper": (LOTS_PART, FIRST, SECOND, ANY_WISH, ("thing", ("closed", (("wish",),)), ())),
    "pactchecks.check_pact": (("thing", DUO, WRONG_PACT),),
    "rolls.check_roll": (PACT_PART, ("thing", (("change", 1),), WRONG_ROLL)),
    "rolls.charter_of": (PACT_PART, ROLL),
    "rolls.follows": (PACT_PART, ROLL),
    "pactparts.kind_of": (PACT_PART, ("reign", 7, not_usable("reign", None, 0, True, -1, "1", (1,)))),
    "pactparts.row_of": (PACT_PART, CHARTER, KIND),
    "pactparts.step_stair": (PACT_PART, CHARTER, KIND, STEP),
    "pactreading.read_pact": (("text", PACT_TEXT, WRONG_TEXT + (("", BadText(1, "place")),)),),
    "pacttexts.pact_text": (PACT_PART, ("words", ("x", "y"), not_usable("words", None, ["x", "y"], ("x",), ("x", "x")))),
    "comings.come_to": (PACT_PART,),
    "comings.behind": (PACT_PART, CHARTER),
    "pairings.pairs_of": (PACT_PART,),
    "entrylists.entries_of": (PACT_PART,),
    "entrylists.entry_stair": (
        PACT_PART, ("entry", ("vote", 0, 0, 1, 0), not_usable("entry", None, ["vote", 0, 0, 1, 0], ("vote", 0, 0, True, 0))),
    ),
    "splitting.splitters": (PACT_PART,),
    "waking.enough": (PACT_PART, CHARTER, KIND),
    "waking.wakers": (PACT_PART,),
    "waking.stoppers": (PACT_PART,),
    "outwaking.outwakers": (PACT_PART,),
    "mislooking.mislookers": (PACT_PART,),
    "mislooking.misholders": (
        ("pact", DUO, WRONG_PACT + ((SWORN_DUO, NotFor("manner")), (DUO[:2] + ("calm",) + DUO[3:], NotFor("rule")))),
    ),
    "carriage.carriers": (PACT_PART, CHARTER, OTHER),
    "plainruns.Plain": (("pact", DUO, WRONG_PACT + ((SWORN_DUO, NotFor("manner")),)),),
    "plainplays.play_plain": (PACT_PART, ("moves", (("open", 0),), not_usable("moves", None, [], "open"))),
    "swornruns.Sworn": (("pact", SWORN_DUO, WRONG_PACT), ("liars", ((), ()), WRONG_CROWD)),
    "swornplays.play_sworn": (
        ("pact", SWORN_DUO, WRONG_PACT), ("liars", (((0, 1),), ()), WRONG_CROWD),
        ("moves", (("open", 0),), not_usable("moves", None, [], "open")),
    ),
    "stretches.stretch": (RUN, TEAM),
    "plans.plan_of": (RUN, TEAM, NO_CHANGE),
    "serving.serve": (RUN, TEAM, NO_CHANGE),
    "carrying.carry_to": (RUN, TEAM, CHARTER),
    "carrying.carry": (RUN, TEAM, ("route", (0, 1), not_usable("route", None, [0, 1], (), (1,), (False,), (0, 2)))),
    "leading.lead_out": (RUN, TEAM, NO_CHANGE),
    "splitcourses.fewest_reigns": (PACT_PART, FALL),
    "splitcourses.split_course": (PACT_PART, FALL),
    "stuckcourses.stuck_course": (PACT_PART, SOME_CROWD),
    "lookcourses.look_course": (PACT_PART, FALL),
    "lookcourses.head_course": (PACT_PART, FALL),
    "verdicts.verdict": (PACT_PART, FALL),
    "verdicts.is_verdict": (PACT_PART, FALL, ("thing", ("one", ()), ())),
    "wakeverdicts.wake_verdict": (PACT_PART, SOME_CROWD),
    "wakeverdicts.is_wake_verdict": (PACT_PART, SOME_CROWD, ("thing", ("wakes", (0, 0)), ())),
    "sufficing.suffice": (PACT_PART, PACT_WISH, STEP, CHARTER),
    "echoing.may_echo": (SWORN_PACT, PACT_WISH, ZERO, KIND),
    "bearing.bears": (PACT_PART, PACT_WISH),
    "bearing.first_breach": (PACT_PART, PACT_WISH),
    "havings.can_be": (LOTS_PART, PACT_WISH, KEEP),
    "havings.least_pact": (LOTS_PART, MANNER, PACT_WISH, KEEP),
    "widening.widened": (PACT_PART, PACT_WISH),
    "widening.is_full": (PACT_PART, PACT_WISH),
    "lones.lone_charters": (PACT_PART, PACT_WISH),
    "joints.joined": (PACT_PART, ZERO, OTHER),
    "safechanges.safe_changes": (PACT_PART, PACT_WISH),
    "routes.route_of": (PACT_PART, PACT_WISH, ZERO, OTHER),
    "routes.two_steps": (PACT_PART, PACT_WISH, ZERO, OTHER),
    "nestpacts.nest_pact": (
        ("pact", UNIT_PACT, WRONG_PACT + not_usable("pact", DUO)), ("parts", TRIPLES, not_usable("parts", None, list(TRIPLES), TRIPLES[:1])),
    ),
    "schemes.check_scheme": (("thing", SCHEME, WRONG_SCHEME),),
    "schemes.run_scheme": (
        SCHEME_PART, ("liars", (0,), not_usable("liars", None, [0], (1,), (False,))), ("moves", (("begin", 0),), not_usable("moves", None, [], "begin")),
    ),
    "schemes.runs_alone": (
        SCHEME_PART, ("crowd", (0,), not_usable("crowd", None, [0], (1,), (False,))), ("client", 1, not_usable("client", None, 2, True)),
        ("thing", (("begin", 1),), ()),
    ),
    "pasting.paste": (
        SCHEME_PART, MANNER, ("one", ((0,), (("begin", 0),)), not_usable("one", None, [], ((0,), ()), ((0,), (("begin", 1),)))),
        ("two", ((0,), (("begin", 1),)), not_usable("two", None, [], ((0,), (("begin", 0),)), ((0,), (("begin", True),)))),
    ),
    "votings.vote_once": (
        ("lots", UNITS, WRONG_LOTS[:5] + not_usable("lots", LOTS)), ("keep", ONE_UNIT, WRONG_TRUST + not_usable("keep", ("lot", 0, 0), ("lot", 0, 2))),
    ),
    "meanings.meaning": (PACT_PART, ROLL),
    "meanings.replies": (PACT_PART, ROLL),
    "folds.fold": (PACT_PART, ROLL, ("many", 1, not_usable("many", None, 2, True, -1, [1]))),
    "folds.go_on": (
        PACT_PART, ("folded", (1, (1, (), ())), not_usable("folded", None, [1, (1, (), ())], (True, (1, (), ())), (1, (True, (), ())))),
        ("deeds", (("do", 0, 1, 0, 0),), WRONG_ROLL),
    ),
    "shelves.Shelf": (),
    "replylines.reply_lines": (("shelf", SHELF, not_usable("shelf", None, {}, Shelf, "p")), ("text", "wakers p", WRONG_TEXT)),
}

# The methods that the interface lists for a class, each with its parameters.
METHODS = {
    Plain: {
        "do": ("move",), "moves": (), "pact": (), "desks": (), "rolls": (), "settled": (), "parted": (), "awake": (),
        "fallen": (), "looks": (),
    },
    Sworn: {
        "do": ("move",), "moves": (), "pact": (), "liars": (), "desks": (), "laid": (), "locked": (), "settled": (),
        "parted": (), "awake": (), "fallen": (), "looks": (),
    },
    Shelf: {
        "put": ("word", "text"), "change": ("word", "text"), "drop": ("word",), "undo": (), "words": (), "text_of": ("word",),
        "pact_of": ("word",),
    },
}


def called(name):
    file, word = name.split(".")
    return getattr(importlib.import_module("assentwhole." + file), word)


class InterfaceTests(Checks):
    def test_names_parameters_and_files(self):
        for name, parts in INTERFACE.items():
            call = called(name)
            self.assertEqual(tuple(inspect.signature(call).parameters), tuple(part[0] for part in parts), name)
            self.assertEqual(call.__module__, "assentwhole." + name.split(".")[0])
            for parameter in inspect.signature(call).parameters.values():
                self.assertIs(parameter.default, parameter.empty)
                self.assertEqual(parameter.kind, parameter.POSITIONAL_OR_KEYWORD)

    def test_each_of_the_document_is_here(self):
        told = {f"{file}.{words[0]}" for file, words, _ in told_names()}
        self.assertEqual(set(INTERFACE), told)
        methods = {(words[0], words[1], parts) for _, words, parts in told_names() if len(words) > 1}
        here = {(kind.__name__, name, parts) for kind, names in METHODS.items() for name, parts in names.items()}
        self.assertEqual(here, methods)

    def test_objects_by_turns(self):
        # Two objects used by turns are as they are when they are used one behind the other.
        one, two, whole = Plain(DUO), Plain(DUO), (((0, 3),), ((0, 1),))
        plain = [
            (("answer", r, whole), ("take", r, whole, None), ("write", r, ("do", 0, r, 0, r)), ("store", r, 1, whole), ("open", 0), ("tell", 0, whole))
            for r in (1, 2)
        ]
        for here, there in zip(*plain):
            one.do(here)
            two.do(there)
        for run, moves in zip((one, two), plain):
            self.equal(run, play_plain(DUO, moves))
            self.equal(run.looks(), play_plain(DUO, moves).looks())
        one, two = Sworn(SWORN_DUO, ((), ())), Sworn(SWORN_DUO, ((), ((0, 1),)))
        near = (((0, 3),), ())
        sworn = [(("answer", r, near), ("lay", r, near, None, ()), ("echo", r, (), (("do", 0, r, 0, r),), near), ("open", 0)) for r in (1, 2)]
        for here, there in zip(*sworn):
            one.do(here)
            two.do(there)
        for run, moves in zip((one, two), sworn):
            alone = play_sworn(SWORN_DUO, run.liars(), moves)
            self.equal(run, alone)
            self.equal((run.locked(), run.laid(), run.looks()), (alone.locked(), alone.laid(), alone.looks()))

    def test_methods_stand_in_their_class(self):
        for kind, methods in METHODS.items():
            for name, parts in methods.items():
                self.assertIn(name, vars(kind))
                self.assertEqual(tuple(inspect.signature(getattr(kind, name)).parameters), ("self",) + parts)
        run = Plain(PACT)
        self.assertIsNone(run.do(move=("open", 0)))
        vow = Sworn(liars=((), ()), pact=SWORN_DUO)
        self.assertIsNone(vow.do(move=("open", 0)))

    def test_by_position_and_by_name_and_again(self):
        for name, parts in INTERFACE.items():
            call = called(name)
            found = call(*[part[1] for part in parts])
            self.equal(call(**{part[0]: part[1] for part in parts[::-1]}), found)
            self.equal(call(*[part[1] for part in parts]), found)

    def test_each_wrong_one_is_named(self):
        for name, parts in INTERFACE.items():
            for at, (_, _, wrong) in enumerate(parts):
                good = [part[1] for part in parts]
                for thing, error in wrong:
                    self.refused(error, called(name), *good[:at], thing, *good[at + 1:])

    def test_of_several_the_first_is_named(self):
        for name, parts in INTERFACE.items():
            for one, two in itertools.combinations(range(len(parts)), 2):
                for (thing, error), (other, _) in itertools.product(parts[one][2], parts[two][2]):
                    values = {part[0]: part[1] for part in parts}
                    values[parts[one][0]] = thing
                    values[parts[two][0]] = other
                    self.refused(error, called(name), **values)
            everything = [part[2][0][0] if part[2] else part[1] for part in parts]
            if everything:
                self.refused(parts[0][2][0][1], called(name), *everything)

    def test_lists_are_not_changed(self):
        # Lists within what is refused stay as they are.
        for name, parts in INTERFACE.items():
            for at, (_, _, wrong) in enumerate(parts):
                good = [part[1] for part in parts]
                for thing, _ in wrong:
                    told = repr(thing)
                    with self.assertRaises(ValueError):
                        called(name)(*good[:at], thing, *good[at + 1:])
                    self.assertEqual(repr(thing), told)

    def test_things_of_any_kind(self):
        deep = ()
        for _ in range(29):
            deep = (deep,)
        wide = tuple(range(4999))
        things = (deep, wide, "x" * 5000, [deep], (deep, [wide[:3]]), ("any", 0, (deep,)), ("least", (deep,)), 10 ** 59)
        for name, error in (
            ("lots.check_lots", BadLots), ("counting.check_counts", BadCounts), ("crowds.check_crowd", BadCrowd),
            ("trustchecks.check_trust", BadTrust), ("stairs.check_stair", BadStair), ("pactchecks.check_pact", BadPact),
            ("rolls.check_roll", BadRoll),
        ):
            ahead = {"lots.check_lots": [], "pactchecks.check_pact": [], "rolls.check_roll": [PACT]}
            first = ahead.get(name, [LOTS])
            for thing in things:
                with self.assertRaises(error):
                    called(name)(*first, thing)
