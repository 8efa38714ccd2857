"""Point [37], beside a list of STANDINGS that are looked at anew each time."""

import random
import unittest

import helper
from helper import Checks, any_values, exchanged, sample_standings, small_standings, wide_standings
from staffhome import errors
from staffhome.fits import counts, overfull
from staffhome.held import held
from staffhome.kept import Kept
from staffhome.openruns import open_run
from staffhome.verdicts import is_safe, reason

LINE = (("a", "b", "c", "d"), (("a", "b", "staff"), ("b", "c", "ticket"), ("b", "d", "free")))
STANDING = (((("a", "b"), "a"), (("b", "c"), "c")), (("x", "b", ("c", "b")), ("y", "d", ())))
EMPTY = (STANDING[0], ())


def passes_in(trains):
    return sum(len(rest) for _, _, rest in trains)


def opened_passes(line, standing):
    """How many passes are gone in the whole OPEN RUN of a STANDING."""
    return passes_in(standing[1]) - passes_in(helper.open_end(random.Random(0), line, standing)[1])


def all_told(kept):
    return (
        kept.line(), kept.standing(), kept.opened(), kept.counts(), kept.overfull(), kept.held(), kept.reason(),
        kept.is_safe(), kept.gone(),
    )


class Shared(Checks):
    def same(self, kept, line, standing, gone):
        """All that is told is what the functions tell of the LINE and the STANDING."""
        self.assertEqual([kept.line(), kept.standing(), kept.gone()], [line, standing, gone])
        self.assertIs(type(kept.gone()), int)
        self.assertEqual(kept.opened(), open_run(line, standing))
        self.assertEqual(kept.opened(), helper.open_end(random.Random(1), line, standing))
        expected = {key: counts(line, standing, key) for key in helper.keys_of_sort(line, "staff")}
        self.assertEqual(list(kept.counts().items()), list(expected.items()))
        self.assertEqual([kept.overfull(), kept.held()], [overfull(line, standing), held(line, standing)])
        self.assertEqual(kept.reason(), reason(line, standing))
        self.tells(kept.is_safe(), is_safe(line, standing))


class Changes(Shared, unittest.TestCase):
    """Changes, and calls that raise errors, in any order; undo and redo between them."""

    def begin(self, dice, line, standing):
        self.dice, self.line = dice, line
        self.kept = Kept(line, standing)
        self.standings, self.at = [standing], 0
        self.gone = opened_passes(line, standing)
        self.told = {}

    def now(self):
        return self.standings[self.at]

    def changed(self, kind, standing, goes_on):
        """A change was made; goes_on tells whether the OPEN RUN goes on from its end."""
        ahead = opened_passes(self.line, self.now()) if goes_on else 0
        self.standings[self.at + 1:] = [standing]
        self.at += 1
        self.gone = opened_passes(self.line, standing) - ahead
        self.told[kind] = self.told.get(kind, 0) + 1

    def refused(self, kind):
        self.told[kind] = self.told.get(kind, 0) + 1

    def with_trains(self, trains):
        return (self.now()[0], tuple(sorted(trains)))

    def some_name(self):
        names = [train[0] for train in self.now()[1]]
        return self.dice.choice([*names, *names, "a", "oo", "zz", "p" * 12])

    def do(self):
        row, standings = helper.random_row(self.dice, self.line, self.now(), self.dice.randint(0, 3))
        if self.dice.random() < 0.5:
            at = self.dice.randint(0, len(row))
            move = (self.some_name(), self.dice.choice(helper.SORTS))
            if helper.behind(self.line, standings[at], move) is None:
                with self.raises(errors.NoMove, index=at):
                    self.kept.do(row[:at] + (move,) + row[at:])
                return self.refused("NoMove")
        self.assertIsNone(self.kept.do(row))
        self.changed("do", standings[-1], False)

    def put(self):
        name, place = self.some_name(), self.dice.choice(self.line[0])
        rest = helper.random_rest(self.dice, self.line, place, self.dice.randint(0, 4))
        if name in [train[0] for train in self.now()[1]]:
            with self.raises(errors.Used, name=name):
                self.kept.put(name, place, rest)
            return self.refused("Used")
        self.assertIsNone(self.kept.put(name, place, rest))
        self.changed("put", self.with_trains([*self.now()[1], (name, place, rest)]), True)

    def take(self):
        name = self.some_name()
        left = [train for train in self.now()[1] if train[0] != name]
        if len(left) == len(self.now()[1]):
            with self.raises(errors.NoTrain, name=name):
                self.kept.take(name)
            return self.refused("NoTrain")
        self.assertIsNone(self.kept.take(name))
        self.changed("take", self.with_trains(left), False)

    def longer(self):
        name = self.some_name()
        found = [train for train in self.now()[1] if train[0] == name]
        place = (found[0][1:2] + found[0][2])[-1] if found else self.line[0][0]
        if self.dice.random() < 0.4:
            place = self.dice.choice(self.line[0])
        more = helper.random_rest(self.dice, self.line, place, self.dice.randint(0, 3))
        if not found:
            with self.raises(errors.NoTrain, name=name):
                self.kept.longer(name, more)
            return self.refused("longer NoTrain")
        train = (*found[0][:2], found[0][2] + more)
        if not helper.is_train(self.line, train):
            with self.raises(errors.Wrong, place=1):
                self.kept.longer(name, more)
            return self.refused("longer Wrong")
        self.assertIsNone(self.kept.longer(name, more))
        self.changed("longer", self.with_trains([*[row for row in self.now()[1] if row[0] != name], train]), True)

    def lay(self):
        if self.now()[0]:
            key, lies = self.dice.choice(self.now()[0])
            station = self.dice.choice(key)
            self.assertIsNone(self.kept.lay(key, station))
            staffs = {**dict(self.now()[0]), key: station}
            self.changed("lay" if station != lies else "lay the same", (tuple(sorted(staffs.items())), self.now()[1]), False)

    def undo(self):
        if self.at == 0:
            with self.raises(errors.Nothing):
                self.kept.undo()
            return self.refused("no undo")
        self.assertIsNone(self.kept.undo())
        self.at, self.gone = self.at - 1, 0
        self.refused("undo")

    def redo(self):
        if self.at == len(self.standings) - 1:
            with self.raises(errors.Nothing):
                self.kept.redo()
            return self.refused("no redo")
        self.assertIsNone(self.kept.redo())
        self.at, self.gone = self.at + 1, 0
        self.refused("redo")

    def test_any_changes(self):
        dice = random.Random(1801)
        told = {}
        for line, standing in list(small_standings(221, 70)) + list(sample_standings(223))[:60]:
            self.begin(dice, line, standing)
            self.same(self.kept, line, standing, self.gone)
            calls = [self.do, self.put, self.take, self.longer, self.lay, self.undo, self.undo, self.redo]
            for _ in range(25):
                dice.choice(calls)()
                self.same(self.kept, line, self.now(), self.gone)
                self.assertTrue(self.kept == Kept(line, self.now()))
            for kind, many in self.told.items():
                told[kind] = told.get(kind, 0) + many
            while self.at > 0:
                self.undo()
            self.assertEqual(self.kept.standing(), standing)
            while self.at < len(self.standings) - 1:
                self.redo()
            self.same(self.kept, line, self.standings[-1], self.gone)
        self.assertEqual(len(told), 15, told)
        self.assertGreater(min(told.values()), 20, told)

    def test_twins(self):
        dice = random.Random(1803)
        for line, standing in small_standings(225, 60):
            self.begin(dice, line, standing)
            calls = [self.do, self.put, self.take, self.longer, self.lay, self.undo, self.redo]
            for _ in range(12):
                dice.choice(calls)()
            twin, before = self.kept.twin(), all_told(self.kept)
            self.assertEqual(all_told(twin), before)
            self.assertTrue(twin == self.kept)
            # Whatever is done to one leaves the other as it was; and it can take back and do once more all the same.
            kept, standings, at, gone = self.kept, list(self.standings), self.at, self.gone
            self.kept = twin
            for _ in range(8):
                dice.choice(calls)()
            self.assertEqual(all_told(kept), before)
            self.kept, self.standings, self.at, self.gone = kept.twin(), standings, at, gone
            while self.at < len(self.standings) - 1:
                self.redo()
            while self.at > 0:
                self.undo()
                self.assertEqual(self.kept.standing(), self.now())
            self.assertEqual(all_told(kept), before)

    def test_a_change_behind_undo(self):
        """It ends what could be done once more, also if the STANDING stayed the same."""
        for change in (
            lambda kept: kept.do(()), lambda kept: kept.lay(("a", "b"), "a"), lambda kept: kept.longer("x", ()),
            lambda kept: kept.put("q", "a", ()), lambda kept: kept.take("y"), lambda kept: kept.do((("x", "staff"),)),
        ):
            kept = Kept(LINE, STANDING)
            kept.lay(("b", "c"), "b")
            kept.put("z", "a", ("b",))
            kept.undo()
            behind = kept.standing()
            change(kept)
            with self.raises(errors.Nothing):
                kept.redo()
            kept.undo()
            self.assertEqual(kept.standing(), behind)
            kept.undo()
            self.assertEqual(kept.standing(), STANDING)
            with self.raises(errors.Nothing):
                kept.undo()

    def test_a_call_that_raised_is_no_change(self):
        for call in (
            lambda kept: kept.do((("x", "free"),)), lambda kept: kept.do([]), lambda kept: kept.put("x", "a", ()),
            lambda kept: kept.put("x", "q", ()), lambda kept: kept.take("zz"), lambda kept: kept.take(1),
            lambda kept: kept.longer("x", ("c", "d")), lambda kept: kept.longer("x", ("b",)),
            lambda kept: kept.longer("q", ()), lambda kept: kept.lay(("b", "d"), "b"), lambda kept: kept.lay(("a", "b"), "c"),
        ):
            kept = Kept(LINE, STANDING)
            kept.take("y")
            kept.undo()
            kept.put("z", "b", ("d",))
            kept.undo()
            before = all_told(kept)
            with self.assertRaises(errors.StaffError):
                call(kept)
            self.assertEqual(all_told(kept), before)
            self.assertIsNone(kept.redo())
            self.assertEqual(kept.standing()[1][2], ("z", "b", ("d",)))
            before = all_told(kept)
            with self.assertRaises(errors.StaffError):
                call(kept)
            self.assertEqual(all_told(kept), before)

    def test_gone(self):
        kept = Kept(LINE, (((("a", "b"), "a"), (("b", "c"), "b")), (("x", "b", ("c", "b")),)))
        self.assertEqual(kept.gone(), 2)
        kept.put("y", "a", ("b", "c", "b"))
        self.assertEqual(kept.gone(), 3)
        kept.longer("y", ("a",))
        self.assertEqual(kept.gone(), 1)
        kept.longer("y", ())
        self.assertEqual(kept.gone(), 0)
        kept.lay(("a", "b"), "b")
        self.assertEqual([kept.gone(), kept.held()], [2, (("a", "b"),)])
        kept.put("z", "b", ("a", "b", "d"))
        # z opens the way for y as well.
        self.assertEqual([kept.gone(), kept.held()], [7, ()])
        with self.raises(errors.Used, name="z"):
            kept.put("z", "a", ())
        self.assertEqual(kept.gone(), 7)
        kept.undo()
        self.assertEqual(kept.gone(), 0)
        kept.redo()
        self.assertEqual(kept.gone(), 0)
        kept.do(())
        self.assertEqual(kept.gone(), 9)
        kept.take("x")
        self.assertEqual(kept.gone(), 7)
        kept.do((("z", "staff"), ("z", "staff")))
        self.assertEqual([kept.gone(), kept.standing()[0][0]], [1, (("a", "b"), "b")])
        self.assertEqual(kept.twin().gone(), 1)
        self.assertEqual(Kept(LINE, EMPTY).gone(), 0)

    def test_what_is_told_may_be_changed(self):
        kept = Kept(LINE, STANDING)
        told = kept.counts()
        told.clear()
        self.assertEqual(kept.counts(), {("a", "b"): (0, 0)})
        self.assertIsNot(kept.counts(), kept.counts())

    def test_wide_standings(self):
        dice = random.Random(1805)
        for line, standing, row in wide_standings(227):
            with self.within(40):
                kept = Kept(line, standing)
                self.same(kept, line, standing, opened_passes(line, standing))
                for index in range(0, 300, 30):
                    kept.do(row[index:index + 30])
                for name, place, _ in standing[1]:
                    kept.take(name)
                    kept.put(name, place, helper.random_rest(dice, line, place, 20))
                    kept.lay(*dice.choice(kept.standing()[0]))
                while kept.standing() != standing:
                    kept.undo()
                for _ in range(82):
                    kept.redo()
                with self.raises(errors.Nothing):
                    kept.redo()
                self.same(kept, line, kept.standing(), 0)


class Equal(Checks, unittest.TestCase):
    def test_lines_and_standings_alone(self):
        one, other = Kept(LINE, STANDING), Kept(LINE, STANDING)
        self.tells(one == other, True)
        self.tells(one != other, False)
        one.put("z", "a", ())
        self.tells(one == other, False)
        self.tells(one != other, True)
        one.undo()
        self.tells(one == other, True)
        other.do(())
        other.lay(("a", "b"), "a")
        self.tells(one == other, True)
        self.tells(one.twin() == other, True)
        self.tells(one == one, True)

    def test_other_lines(self):
        """The same STANDING on LINES that differ by a section's sort."""
        standing = (((("a", "b"), "a"),), ())
        kepts = [Kept((("a", "b"), (("a", "b", sort),)), standing) for sort in ("staff", "ticket")]
        self.tells(kepts[0] == kepts[1], False)
        self.tells(kepts[0] != kepts[1], True)

    def test_nothing_else(self):
        kept = Kept(LINE, STANDING)
        for thing in [*any_values(), (LINE, STANDING), kept.standing(), [kept]]:
            self.tells(kept == thing, False, thing)
            self.tells(thing == kept, False, thing)
            self.tells(kept != thing, True, thing)


class Errors(Checks, unittest.TestCase):
    def test_nothing_kept_of_any_values(self):
        for thing in any_values():
            shown = repr(thing)
            if not helper.is_line(thing):
                for standing in (STANDING, None):
                    with self.raises(errors.Wrong, place=0):
                        Kept(thing, standing)
            if not helper.is_standing(LINE, thing):
                with self.raises(errors.Wrong, place=1):
                    Kept(LINE, thing)
            self.assertEqual(repr(thing), shown)
        others = [None, True, 1, "a", "x", (), [], ("a", "b"), errors.Wrong(0)]
        for thing in exchanged(STANDING, others):
            if not helper.is_standing(LINE, thing):
                with self.raises(errors.Wrong, place=1):
                    Kept(LINE, thing)
        for thing in exchanged(LINE, others):
            if not helper.is_line(thing):
                with self.raises(errors.Wrong, place=0):
                    Kept(thing, STANDING)

    def outcome(self, call, *things):
        """The error that a call raises and what it keeps, None if there is none."""
        kept = Kept(LINE, STANDING)
        before = all_told(kept)
        try:
            getattr(kept, call)(*things)
        except errors.StaffError as error:
            self.assertEqual(all_told(kept), before)
            with self.raises(errors.Nothing):
                kept.undo()
            return (type(error), *vars(error).values())
        kept.undo()
        return None

    def test_do(self):
        others = [None, "x", "y", "free", "staff", 1, (), [], ("x", "staff"), ("y", "free"), ("x", "by hand")]
        row = (("x", "free"), ("y", "free"))
        for thing in [*any_values(), *exchanged(row, others)]:
            outcome = self.outcome("do", thing)
            if not helper.are_moves(thing):
                self.assertEqual(outcome, (errors.Wrong, 0), thing)
            else:
                self.assertEqual(outcome, None if thing == () else (errors.NoMove, 0), thing)
        self.assertEqual(self.outcome("do", (("x", "staff"),)), (errors.NoMove, 0))

    def test_do_with_an_index(self):
        kept = Kept(LINE, (((("a", "b"), "a"), (("b", "c"), "b")), (("x", "b", ("c", "b", "d")),)))
        row = (("x", "ticket"), ("x", "staff"))
        with self.raises(errors.NoMove, index=1):
            kept.do(row)
        with self.raises(errors.NoMove, index=2):
            kept.do((("x", "staff"), ("x", "staff"), ("x", "staff")))
        self.assertIsNone(kept.do((("x", "staff"), ("x", "staff"), ("x", "free"))))

    def test_put(self):
        for thing in any_values():
            name = (errors.Wrong, 0) if not helper.is_name(thing) else None
            self.assertEqual(self.outcome("put", thing, "a", ()), name, thing)
            self.assertEqual(self.outcome("put", thing, thing, thing), name or (errors.Wrong, 2 if thing in ("a", "b") else 1))
            station = thing in ("a", "b", "c", "d")
            for name in ("x", "z"):
                last = {"x": (errors.Used, "x"), "z": None}[name]
                self.assertEqual(self.outcome("put", name, thing, ()), last if station else (errors.Wrong, 1), thing)
                self.assertEqual(self.outcome("put", name, thing, thing), (errors.Wrong, 2 if station else 1))
                for place in "ad":
                    rest = helper.is_train(LINE, ("p", place, thing))
                    self.assertEqual(self.outcome("put", name, place, thing), last if rest else (errors.Wrong, 2), thing)
        for rest in (("a",), ("c",), ("b", "b"), ("b", "c", "d"), ["b"], "b", ("b", 1)):
            self.assertEqual(self.outcome("put", "x", "a", rest), (errors.Wrong, 2))
        self.assertEqual(self.outcome("put", "z", "a", ("b", "d", "b", "a")), None)

    def test_take(self):
        for thing in any_values():
            expected = (errors.NoTrain, thing) if helper.is_name(thing) else (errors.Wrong, 0)
            self.assertEqual(self.outcome("take", thing), expected, thing)
        self.assertEqual(self.outcome("take", "x"), None)

    def test_longer(self):
        def is_walk(thing):
            return type(thing) is tuple and (thing == () or helper.is_train(LINE, ("p", thing[0], thing[1:])))

        for thing in any_values():
            for more in ((), ("b",), ("b", "b"), None):
                expected = (errors.Wrong, 1)
                if not helper.is_name(thing):
                    expected = (errors.Wrong, 0)
                elif is_walk(more):
                    expected = (errors.NoTrain, thing)
                self.assertEqual(self.outcome("longer", thing, more), expected, thing)
            for name, end in (("x", "b"), ("y", "d"), ("nobody", None)):
                expected = (errors.Wrong, 1)
                if is_walk(thing):
                    if end is None:
                        expected = (errors.NoTrain, "nobody")
                    elif helper.is_train(LINE, ("p", end, thing)):
                        expected = None
                self.assertEqual(self.outcome("longer", name, thing), expected, thing)
        for more, expected in (
            (("b",), (errors.Wrong, 1)), (("b", "b"), (errors.Wrong, 1)), (("a", "c"), (errors.Wrong, 1)),
            (["a"], (errors.Wrong, 1)), (("a", "b", "c"), None), ((), None), (("x",), (errors.Wrong, 1)),
        ):
            self.assertEqual(self.outcome("longer", "x", more), expected, more)
        # The first station that follows no one is asked for behind the name, all others ahead of it.
        self.assertEqual(self.outcome("longer", "nobody", ("b", "d")), (errors.NoTrain, "nobody"))
        self.assertEqual(self.outcome("longer", "nobody", ("b", "x")), (errors.Wrong, 1))

    def test_lay(self):
        for thing in any_values():
            key = type(thing) is tuple and thing in (("a", "b"), ("b", "c"))
            for station in ("a", "b", "c", None, thing):
                expected = (errors.Wrong, 1)
                if not key:
                    expected = (errors.Wrong, 0)
                elif type(station) is str and station in thing:
                    expected = None
                self.assertEqual(self.outcome("lay", thing, station), expected, (thing, station))
            expected = None if type(thing) is str and thing in ("b", "c") else (errors.Wrong, 1)
            self.assertEqual(self.outcome("lay", ("b", "c"), thing), expected, thing)
        for key in (("b", "d"), ("b", "a"), ("a", "c"), ["a", "b"], ("a", "b", "staff")):
            self.assertEqual(self.outcome("lay", key, "b"), (errors.Wrong, 0))


if __name__ == "__main__":
    unittest.main()
