"""[99] to [101]: the shelf."""

import random

from assentwhole.errors import BadPact, BadText, NoSuch, NothingToUndo, NotUsable, Taken
from assentwhole.pactreading import read_pact
from assentwhole.pacttexts import pact_text
from assentwhole.shelves import Shelf
from tests.samples import DUO, PACT, SWORN, Checks

OLD, TWO, VOW = pact_text(PACT, ("old",)), pact_text(DUO, ("x", "y")), pact_text(SWORN, ("c",))
TEXTS = (OLD, TWO, VOW, "# more\n" + OLD, OLD + "\n")
WRONG_WORDS = (None, 5, True, "", "of", "nobody", "Big", "toolongword", "a b", "1a", ["p"], ("p",), "p\n")


class ShelfTests(Checks):
    def seen(self, shelf):
        words = shelf.words()
        return words, [shelf.text_of(word) for word in words], [shelf.pact_of(word) for word in words]

    def test_examples(self):
        shelf = Shelf()
        shelf.put("p", OLD)
        self.equal((shelf.words(), shelf.pact_of("p") == PACT), (("p",), True))

    def test_put_change_drop(self):
        shelf = Shelf()
        self.equal(shelf.words(), ())
        for word, text in (("q", OLD), ("a1", TWO), ("b", VOW)):
            self.assertIsNone(shelf.put(word, text))
        self.equal(self.seen(shelf), (("a1", "b", "q"), [TWO, VOW, OLD], [DUO, SWORN, PACT]))
        self.refused(Taken("q"), shelf.put, "q", OLD)
        self.assertIsNone(shelf.change("q", TEXTS[3]))
        self.equal(self.seen(shelf)[1:], ([TWO, VOW, TEXTS[3]], [DUO, SWORN, PACT]))
        self.assertIsNone(shelf.drop("b"))
        self.equal(shelf.words(), ("a1", "q"))
        for call in (shelf.text_of, shelf.pact_of, shelf.drop):
            self.refused(NoSuch("b"), call, "b")
        self.refused(NoSuch("b"), shelf.change, "b", OLD)
        self.assertIsNone(shelf.put("b", OLD))
        self.equal(shelf.pact_of("b"), PACT)

    def test_undo(self):
        shelf = Shelf()
        self.refused(NothingToUndo(), shelf.undo)
        shelf.put("p", OLD)
        shelf.change("p", TWO)
        shelf.drop("p")
        shelf.put("p", VOW)
        for wanted in ((), ("p", TWO), ("p", OLD), ()):
            self.assertIsNone(shelf.undo())
            self.equal(shelf.words(), wanted[:1])
            if wanted:
                self.equal(shelf.text_of("p"), wanted[1])
        self.refused(NothingToUndo(), shelf.undo)
        # What was taken back is no more there to be taken back; what comes then is.
        shelf.put("p", OLD)
        shelf.put("q", OLD)
        shelf.undo()
        shelf.drop("p")
        shelf.undo()
        self.equal(shelf.words(), ("p",))
        shelf.undo()
        self.equal(shelf.words(), ())
        self.refused(NothingToUndo(), shelf.undo)

    def test_a_change_to_the_same_text(self):
        shelf = Shelf()
        shelf.put("p", OLD)
        shelf.change("p", OLD)
        shelf.undo()
        self.equal(shelf.words(), ("p",))
        shelf.undo()
        self.equal(shelf.words(), ())

    def test_behind_errors(self):
        # A call that raises changes nothing, and is not taken back.
        shelf = Shelf()
        shelf.put("p", OLD)
        shelf.change("p", TWO)
        before = self.seen(shelf)
        for error, call, args in (
            (Taken("p"), shelf.put, ("p", VOW)), (Taken("p"), shelf.put, ("p", "")), (BadText(1, "place"), shelf.put, ("q", "")),
            (BadText(1, "place"), shelf.change, ("p", "")), (NoSuch("q"), shelf.change, ("q", "")), (NoSuch("q"), shelf.drop, ("q",)),
            (BadText(0, "place"), shelf.put, ("q", "lot a 3")), (BadText(7, "place"), shelf.change, ("p", OLD + "\n\nlot c 3")),
            (NotUsable("word"), shelf.put, ("of", OLD)), (NotUsable("text"), shelf.put, ("q", None)), (NotUsable("text"), shelf.change, ("p", 5)),
            (NotUsable("word"), shelf.drop, (None,)), (NoSuch("q"), shelf.text_of, ("q",)), (NoSuch("q"), shelf.pact_of, ("q",)),
        ):
            self.refused(error, call, *args)
            self.equal(self.seen(shelf), before)
        shelf.undo()
        self.equal(shelf.text_of("p"), OLD)
        shelf.undo()
        self.refused(NothingToUndo(), shelf.undo)

    def test_what_read_pact_raises(self):
        shelf = Shelf()
        odd = "manner plain\nrule own\nlot a 3\ncharter x\nrow ask 0 in a;vote a;look a;hold a"
        self.refused(BadPact(0, "ask"), shelf.put, "p", odd)
        uneven = OLD + "\ncharter more\nrow ask a;vote a;look a;hold a\nrow ask a;vote a;look a;hold a"
        self.refused(BadPact(-1, "charters"), shelf.put, "p", uneven)
        self.equal(shelf.words(), ())
        self.refused(NothingToUndo(), shelf.undo)

    def test_moves_at_random_against_a_dict(self):
        dice = random.Random(100)
        shelf, other = Shelf(), Shelf()
        here, ahead = {}, []
        for _ in range(400):
            word, text = dice.choice("pqrs"), dice.choice(TEXTS)
            what = dice.choice(("put", "put", "change", "drop", "undo", "undo"))
            if what == "undo":
                if not ahead:
                    self.refused(NothingToUndo(), shelf.undo)
                else:
                    here = ahead.pop()
                    shelf.undo()
            elif (what == "put") == (word in here):
                args = (word,) if what == "drop" else (word, text)
                self.refused(Taken(word) if what == "put" else NoSuch(word), getattr(shelf, what), *args)
            else:
                ahead.append(here)
                here = {key: here[key] for key in here if key != word}
                if what == "drop":
                    shelf.drop(word)
                else:
                    here[word] = text
                    getattr(shelf, what)(word=word, text=text)
            self.equal(shelf.words(), tuple(sorted(here)))
            for key in here:
                self.equal((shelf.text_of(key), shelf.pact_of(key)), (here[key], read_pact(here[key])[0]))
            self.equal(other.words(), ())

    def test_two_shelves_by_turns(self):
        one, two = Shelf(), Shelf()
        one.put("p", OLD)
        two.put("q", TWO)
        one.drop("p")
        two.undo()
        self.equal((one.words(), two.words()), ((), ()))
        one.undo()
        self.refused(NothingToUndo(), two.undo)
        self.equal((one.words(), two.words()), (("p",), ()))

    def test_wrong_ones(self):
        shelf = Shelf()
        for word in WRONG_WORDS:
            for call, more in ((shelf.put, (OLD,)), (shelf.put, (None,)), (shelf.change, (OLD,)), (shelf.drop, ()), (shelf.text_of, ()), (shelf.pact_of, ())):
                self.refused(NotUsable("word"), call, word, *more)
        shelf.put("p", OLD)
        for text in (None, 5, True, [OLD], (OLD,)):
            self.refused(NotUsable("text"), shelf.put, "p", text)
            self.refused(NotUsable("text"), shelf.put, "q", text)
            self.refused(NotUsable("text"), shelf.change, "p", text)
            self.refused(NotUsable("text"), shelf.change, "q", text)
        self.equal(shelf.words(), ("p",))
