"""Point [38], beside a Kept and the functions, whose answers are put into words here once more."""

import random
import unittest

import helper
from helper import Checks, any_values, small_standings, wide_standings
from staffhome import errors
from staffhome.desk import Desk
from staffhome.held import held
from staffhome.kept import Kept
from staffhome.linetexts import line_text, read_line
from staffhome.moves import moved, moves_of
from staffhome.onetrain import row_for
from staffhome.plans import good_moves, plan
from staffhome.standingtexts import read_standing, standing_text
from staffhome.verdicts import reason
from staffhome.whatif import carries, mends, needed_helpers, next_stops, stays

SECTIONS = "a b staff\nb c ticket\nb d free"
CARDS = "staff a b a\nstaff b c c\ntrain x b c b\ntrain y d"

# What stands behind the first words; ".." is any number of stations, each a NEIGHBOUR of the one ahead.
SHAPES = {
    "go": "NAME HOW", "put": "NAME STATION ..", "take": "NAME", "longer": "NAME ..", "lay": "ONE OTHER END", "undo": "",
    "redo": "", "line": "", "standing": "", "safe": "", "try": "NAME HOW", "moves": "", "good": "", "plan": "",
    "home": "NAME", "held": "", "stays": "NAME", "helpers": "NAME", "next": "NAME", "carries": "", "mends": "HOW",
}

CHANGES = ("go", "put", "take", "longer", "lay", "undo", "redo")


def is_command(line, words):
    """Whether words are those of a command, by the words of the point."""
    if not words or words[0] not in SHAPES:
        return False
    kinds, rest = SHAPES[words[0]].split(), list(words[1:])
    if kinds[-1:] == [".."]:
        kinds = kinds[:-1]
        path = rest[kinds.index("STATION") if "STATION" in kinds else 1:]
        steps = [helper.key_of(*step) for step in zip(path, path[1:])]
        if not set(path) <= set(line[0]) or not set(steps) <= set(helper.keys_of(line)):
            return False
        rest = rest[:len(kinds)]
    if len(rest) != len(kinds):
        return False
    rights = {"NAME": helper.is_name, "HOW": helper.SORTS.__contains__, "STATION": line[0].__contains__}
    if kinds[:1] == ["ONE"]:
        return tuple(sorted(rest[:2])) in helper.keys_of_sort(line, "staff", "ticket") and rest[2] in rest[:2]
    return all(rights[kind](word) for kind, word in zip(kinds, rest))


def told(why):
    if why is None:
        return ["safe"]
    if why[0] == "shut":
        return [" ".join(["shut", *why[1]])]
    return [f"passes {why[1][0]} {why[1][1]} {why[2]} {why[3]}"]


def pairs(things):
    return [f"{one} {other}" for one, other in things]


def change(kept, words):
    """What a change answers; it is made."""
    first, rest = words[0], words[1:]
    calls = {
        "go": lambda: kept.do((tuple(rest),)), "put": lambda: kept.put(rest[0], rest[1], tuple(rest[2:])),
        "take": lambda: kept.take(rest[0]), "longer": lambda: kept.longer(rest[0], tuple(rest[1:])),
        "lay": lambda: kept.lay(tuple(sorted(rest[:2])), rest[2]), "undo": kept.undo, "redo": kept.redo,
    }
    try:
        calls[first]()
    except errors.StaffError as error:
        return ["refused " + type(error).__name__]
    return ["done"]


def answer(line, standing, words):
    """What a question answers."""
    first, rest = words[0], words[1:]
    if first in ("home", "stays", "helpers", "next") and rest[0] not in [train[0] for train in standing[1]]:
        return ["refused NoTrain"]
    if first == "try":
        if helper.behind(line, standing, tuple(rest)) is None:
            return ["refused NoMove"]
        return told(reason(line, moved(line, standing, tuple(rest))))
    if first == "home":
        try:
            return pairs(row_for(line, standing, rest[0]))
        except errors.NoWay as error:
            return ["held", *pairs(error.reason[1])]
    if first == "plan" and reason(line, standing) is not None:
        return told(reason(line, standing))
    if first in ("line", "standing"):
        text = line_text(line) if first == "line" else standing_text(line, standing)
        return text.split("\n") if text else []
    if first in ("helpers", "next"):
        return [" ".join({"helpers": needed_helpers, "next": next_stops}[first](line, standing, rest[0]))]
    if first in ("safe", "stays"):
        return told({"safe": reason, "stays": stays}[first](line, standing, *rest))
    tables = {"moves": moves_of, "good": good_moves, "plan": plan, "held": held, "carries": carries, "mends": mends}
    return pairs(tables[first](line, standing, *rest))


def spread(dice, words):
    """Words with blanks between, and at both ends."""
    text = " " * dice.choice((0, 0, 1, 3))
    return text + (" " * dice.choice((1, 1, 2, 4))).join(words) + " " * dice.choice((0, 0, 1, 2))


class Some(Checks):
    def some_words(self, dice, line, standing):
        """The words of some command."""
        first = dice.choice(list(SHAPES))
        names = [train[0] for train in standing[1]]
        name = dice.choice([*names, *names, "new", "q"])
        words = {"NAME": name, "HOW": dice.choice(helper.SORTS), "STATION": dice.choice(line[0])}
        if first == "lay":
            if not standing[0]:
                return ["undo"]
            key = dice.choice(standing[0])[0]
            return ["lay", *dice.sample(key, 2), dice.choice(key)]
        rest = [words[kind] for kind in SHAPES[first].split() if kind != ".."]
        if first == "put":
            rest += helper.random_rest(dice, line, rest[1], dice.randint(0, 3))
        if first == "longer":
            ends = [(train[1], *train[2])[-1] for train in standing[1] if train[0] == name]
            place = ends[0] if ends and dice.random() < 0.7 else words["STATION"]
            rest += helper.random_rest(dice, line, place, dice.randint(0, 3))
        if first in ("go", "try") and dice.random() < 0.6:
            rest = list(dice.choice(moves_of(line, standing) or (rest,)))
        return [first, *rest]

    def otherwise(self, dice, line, words):
        """Words a little otherwise: one out, more, another, exchanged."""
        more = [*SHAPES, *line[0], *helper.SORTS, "x", "new", "A", "1", "#", "a" * 13, "by", "Go", "x-y"]
        words = list(words)
        at, what = dice.randint(0, len(words)), dice.randint(0, 3)
        if what == 0:
            words[at:at + 1] = []
        elif what == 1:
            words[at:at] = [dice.choice(more)]
        elif what == 2:
            words[at:at + 1] = [dice.choice(more)]
        else:
            words[at:at + 2] = words[at:at + 2][::-1]
        return words


class Execute(Some, unittest.TestCase):
    def test_any_commands(self):
        dice = random.Random(1901)
        counts = {}
        for line, standing in list(small_standings(231, 90)):
            desk = Desk(line_text(line), standing_text(line, standing))
            kept, done = Kept(line, standing), []
            for _ in range(60):
                words = self.some_words(dice, line, kept.standing())
                if dice.random() < 0.3:
                    words = self.otherwise(dice, line, words)
                text = spread(dice, words)
                if not is_command(line, words):
                    with self.raises(errors.NoCommand, line=text):
                        desk.execute(text)
                    outcome = "none"
                elif words[0] in CHANGES:
                    expected = change(kept, words)
                    self.assertEqual(desk.execute(text), expected, text)
                    outcome = f"{words[0]} {expected[0]}"
                    done += [" ".join(words)] * (expected == ["done"])
                else:
                    expected = answer(line, kept.standing(), words)
                    self.assertEqual(desk.execute(text), expected, text)
                    self.assertEqual(desk.execute(text), expected)
                    outcome = f"{words[0]} {(expected or [''])[0].split(' ')[0]}"
                counts[outcome] = counts.get(outcome, 0) + 1
                self.assertTrue(desk.kept() == kept)
                self.assertEqual(desk.kept().gone(), kept.gone())
                self.assertEqual(desk.done(), tuple(done))
            fresh = Desk(line_text(line), standing_text(line, standing))
            self.assertEqual([fresh.execute(row) for row in desk.done()], [["done"]] * len(done))
            self.assertTrue(fresh.kept() == kept)
            self.assertEqual(fresh.done(), desk.done())
        for outcome in (
            "none", "go done", "go refused NoMove", "put done", "put refused Used", "take done", "take refused NoTrain",
            "longer done", "longer refused NoTrain", "longer refused Wrong", "lay done", "undo done", "redo done",
            "undo refused Nothing", "redo refused Nothing", "safe safe", "safe passes", "safe shut", "try safe",
            "try shut", "try refused", "plan passes", "plan shut", "home held", "home refused", "stays safe",
            "stays passes", "stays refused", "helpers refused", "next refused", "carries ", "mends ", "plan ",
        ):
            self.assertGreater(counts.get(outcome, 0), 2, outcome)

    def test_a_desk_of_its_lines(self):
        """A fresh desk may take back and do once more what the first one may."""
        dice = random.Random(1903)
        for line, standing in small_standings(233, 40):
            desk = Desk(line_text(line), standing_text(line, standing))
            for _ in range(40):
                words = self.some_words(dice, line, desk.kept().standing())
                if words[0] in CHANGES:
                    desk.execute(" ".join(words))
            fresh = Desk(line_text(line), standing_text(line, standing))
            for row in desk.done():
                fresh.execute(row)
            for call in ("undo", "undo", "redo", "undo", "undo", "undo"):
                self.assertEqual(fresh.execute(call), desk.execute(call))
                self.assertTrue(fresh.kept() == desk.kept())

    def test_by_hand(self):
        desk = Desk(SECTIONS, CARDS)
        for text, told_then in (
            ("line", ["a b staff", "b c ticket", "b d free"]),
            ("standing", ["staff a b a", "staff b c c", "train x b c b", "train y d"]),
            ("safe", ["shut c"]), ("plan", ["shut c"]), ("held", ["b c"]), ("home x", ["held", "b c"]), ("home y", []),
            ("moves", []), ("good", []), ("try x staff", ["refused NoMove"]), ("try z free", ["refused NoMove"]),
            ("stays x", ["safe"]), ("stays y", ["shut c"]), ("helpers x", [""]), ("next y", [""]), ("next x", [""]),
            ("carries", ["b c"]), ("mends free", ["b c"]), ("mends staff", []), ("mends ticket", []),
            ("lay c b b", ["done"]), ("safe", ["safe"]), ("moves", ["x staff", "x ticket"]),
            ("next x", ["c d"]), ("next y", ["b"]), ("longer y b c", ["done"]), ("longer y", ["done"]),
            ("good", ["x staff", "x ticket", "y free"]), ("longer y c", ["refused Wrong"]), ("go x free", ["refused NoMove"]),
            ("go z free", ["refused NoMove"]), ("go x staff", ["done"]), ("put x a", ["refused Used"]),
            ("put z a b", ["done"]), ("try z staff", ["safe"]), ("safe", ["safe"]), ("put zz b a b a", ["done"]),
            ("safe", ["safe"]), ("put zzz a b a", ["done"]), ("take z", ["done"]), ("safe", ["passes a b 2 3"]),
            ("take z", ["refused NoTrain"]), ("undo", ["done"]), ("redo", ["done"]), ("redo", ["refused Nothing"]),
            ("stays z", ["refused NoTrain"]), ("helpers z", ["refused NoTrain"]), ("home z", ["refused NoTrain"]),
            ("next z", ["refused NoTrain"]), ("longer z a", ["refused NoTrain"]),
        ):
            self.assertEqual(desk.execute(text), told_then, text)
        self.assertEqual(desk.done(), (
            "lay c b b", "longer y b c", "longer y", "go x staff", "put z a b", "put zz b a b a", "put zzz a b a",
            "take z", "undo", "redo",
        ))

    def test_a_line_without_sections(self):
        desk = Desk("a", "")
        self.assertEqual([desk.execute(text) for text in ("line", "standing", "safe", "plan")], [["a"], [], ["safe"], []])
        self.assertEqual(desk.execute("put p a"), ["done"])
        self.assertEqual([desk.execute("standing"), desk.execute("next p")], [["train p a"], [""]])

    def test_no_commands(self):
        desk = Desk(SECTIONS, CARDS)
        desk.execute("put z a b")
        kept, done = desk.kept(), desk.done()
        for text in (
            "", " ", "     ", "Go x staff", "go", "go x", "go x by", "go x staff now", "go X staff", "go x staff ticket",
            "go " + "x" * 13 + " staff", "put", "put p", "put p q", "put p a c", "put p a b x", "put p a b b", "put P a",
            "take", "take x y", "take X", "take 1", "longer", "longer X", "longer x q", "longer x b b", "longer x a c",
            "longer x a b q", "lay", "lay a b", "lay a b c", "lay a b a b", "lay a c a", "lay b d b", "lay d b d",
            "lay a a a", "lay q b b", "lay a b q", "undo x", "redo 1", "undo undo", "line 1", "standing x", "safe x",
            "try", "try x", "try x how", "try X free", "try x free now", "moves x", "good x", "plan x", "home", "home x y",
            "home X", "held x", "stays", "stays x y", "stays X", "helpers", "helpers x y", "next", "next x a", "carries x",
            "mends", "mends x", "mends free ticket", "done", "kept", "go x staff # go", "# go x staff", "go\tx\tstaff",
            "quit", "safe safe", "SAFE", "passes", "carry a b", "mend staff",
        ):
            for line in (text, "  " + text, text + " "):
                with self.raises(errors.NoCommand, line=line):
                    desk.execute(line)
        self.assertTrue(desk.kept() == kept)
        self.assertEqual([desk.done(), desk.kept().gone()], [done, kept.gone()])

    def test_the_very_line(self):
        line = "go  t   by hand "
        try:
            Desk(SECTIONS, CARDS).execute(line)
        except errors.NoCommand as error:
            self.assertIs(error.line, line)

    def test_any_value(self):
        desk = Desk(SECTIONS, CARDS)
        for thing in any_values():
            shown = repr(thing)
            if not isinstance(thing, str) or "\n" in thing:
                with self.raises(errors.Wrong, place=0):
                    desk.execute(thing)
            else:
                with self.raises(errors.NoCommand, line=thing):
                    desk.execute(thing)
            self.assertEqual(repr(thing), shown)
        for text in ("safe\n", "\nsafe", "undo\nredo", "\n"):
            with self.raises(errors.Wrong, place=0):
                desk.execute(text)
        self.assertEqual([desk.done(), desk.kept() == Kept(*self.read(SECTIONS, CARDS))], [(), True])

    def read(self, sections, cards):
        line = read_line(sections)
        return line, read_standing(line, cards)

    def test_what_is_told_may_be_changed(self):
        desk = Desk(SECTIONS, CARDS)
        for text in ("line", "standing", "safe", "held", "carries", "put z a", "undo", "undo", "home x", "next y"):
            told_then = desk.execute(text)
            before = list(told_then)
            told_then.append("more")
            if text not in ("put z a", "undo"):
                self.assertEqual(desk.execute(text), before)
        kept = desk.kept()
        kept.put("zz", "a", ())
        self.assertEqual([desk.kept() == kept, desk.execute("standing")[-1]], [False, "train y d"])
        other = desk.kept()
        desk.execute("take x")
        self.assertEqual([len(other.standing()[1]), len(desk.kept().standing()[1])], [2, 1])

    def test_a_twin_can_take_back(self):
        desk = Desk(SECTIONS, CARDS)
        desk.execute("take x")
        desk.execute("take y")
        desk.execute("undo")
        kept = desk.kept()
        kept.redo()
        self.assertEqual(kept.standing()[1], ())
        kept.undo()
        kept.undo()
        self.assertEqual(len(kept.standing()[1]), 2)
        self.assertEqual(desk.execute("redo"), ["done"])


class Texts(Checks, unittest.TestCase):
    def test_other_texts(self):
        dice = random.Random(1905)
        for line, standing in small_standings(235, 60):
            rows = [dice.sample(row[:2], 2) + [row[2]] for row in line[1]]
            cards = [["staff", *dice.sample(key, 2), end] for key, end in standing[0]]
            cards += [["train", name, place, *rest] for name, place, rest in standing[1]]
            desk = Desk(helper.scattered(dice, rows), helper.scattered(dice, cards))
            self.assertEqual([desk.kept().line(), desk.kept().standing()], [line, standing])
            self.assertEqual([desk.done(), desk.execute("line")], [(), line_text(line).split("\n")])

    def test_errors_of_the_texts(self):
        for sections, cards, kind, fields in (
            ("a b staff\nc d", CARDS, errors.NoText, {"line": 1, "column": 2}),
            ("a b staff\nc d", "x", errors.NoText, {"line": 1, "column": 2}),
            ("a b staff\nc d free", "x", errors.NoLine, {"fault": ("apart", ("a", "b"))}),
            ("", "", errors.NoLine, {"fault": ("none",)}),
            (SECTIONS, "x", errors.NoText, {"line": 0, "column": 0}),
            (SECTIONS, "", errors.NoText, {"line": 1, "column": 0}),
            (SECTIONS, CARDS + "\ntrain x a", errors.NoText, {"line": 4, "column": 1}),
            (SECTIONS, CARDS + "\ntrain z a c", errors.NoText, {"line": 4, "column": 3}),
            ("a b free", "staff a b a", errors.NoText, {"line": 0, "column": 2}),
        ):
            with self.raises(kind, **fields):
                Desk(sections, cards)

    def test_any_values(self):
        for thing in any_values():
            shown = repr(thing)
            if not isinstance(thing, str):
                for other in (CARDS, "x", None, thing):
                    with self.raises(errors.Wrong, place=0):
                        Desk(thing, other)
                for sections in (SECTIONS, "x y", ""):
                    with self.raises(errors.Wrong, place=1):
                        Desk(sections, thing)
            else:
                with self.assertRaises(errors.StaffError) as caught:
                    Desk(thing, thing)
                self.assertIn(type(caught.exception), (errors.NoText, errors.NoLine))
            self.assertEqual(repr(thing), shown)


class Wide(Some, unittest.TestCase):
    def test_all_questions(self):
        dice = random.Random(1907)
        for line, standing, row in wide_standings(237):
            desk = Desk(line_text(line), standing_text(line, standing))
            with self.within(60):
                for index in range(3):
                    names = [train[0] for train in desk.kept().standing()[1]]
                    for first, kinds in SHAPES.items():
                        if first not in CHANGES:
                            words = {"NAME": dice.choice(names), "HOW": dice.choice(helper.SORTS)}
                            desk.execute(" ".join([first, *[words[kind] for kind in kinds.split()]]))
                    for name, how in row[index * 40:index * 40 + 40]:
                        self.assertEqual(desk.execute(f"go {name} {how}"), ["done"])
                self.assertEqual(len(desk.done()), 120)
                told_then = desk.execute("plan")
            self.assertEqual(len(told_then), sum(len(train[2]) for train in desk.kept().standing()[1]))


if __name__ == "__main__":
    unittest.main()
