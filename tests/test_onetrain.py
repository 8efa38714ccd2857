"""Points [26] and [27], and [8], by all ROWS gone through on small LINES."""

import random
import unittest

import helper
from helper import Checks, any_values, exchanged, sample_standings, small_standings, wide_standings
from staffhome import errors
from staffhome.held import held
from staffhome.onetrain import bar, far, gets_home, helpers, is_bar, is_row_for, row_for
from staffhome.openruns import comes_out

LINE = (("a", "b", "c"), (("a", "b", "staff"), ("b", "c", "staff")))
TWO = (("t", "a", ("b",)), ("u", "c", ("b", "a", "b")))
OPEN = (((("a", "b"), "b"), (("b", "c"), "c")), TWO)
SHUT = (((("a", "b"), "b"), (("b", "c"), "b")), TWO)
ROW = (("u", "staff"), ("u", "staff"), ("t", "staff"))
QUESTIONS = (gets_home, far, bar, row_for, helpers)
JUDGES = (is_bar, is_row_for)


def rest_behind(line, standing, row, name):
    """The rest of a train behind a tuple of MOVES, None if one of these cannot be done."""
    for move in row:
        standing = standing and helper.behind(line, standing, move)
    return standing and {train[0]: train[2] for train in standing[1]}[name]


def is_row_home(line, standing, row, name):
    """Whether a tuple of MOVES is a ROW that brings a train home, with a MOVE of it at its end, if there is any."""
    return rest_behind(line, standing, row, name) == () and (row == () or row[-1][0] == name)


def far_keys(line, standing, train):
    """The sections on the way of a train whose staff lies at the end that is farther from its place."""
    keys = []
    staffs = dict(standing[0])
    passed = {helper.key_of(*step) for step in helper.steps_of(train)}
    for key in helper.keys_of_sort(line, "staff", "ticket"):
        if key in passed and set(key) <= set(helper.the_path(line, train[1], staffs[key])):
            keys.append(key)
    return tuple(keys)


def waiting_in_a_row(many):
    """Each train waits for the staff that the next one is to bring, and goes there and back itself."""
    line = helper.row_line(many, ("staff", "ticket", "staff"))
    at = [helper.station_name(index) for index in range(many)]
    staffs = {helper.key_of(at[index], at[index + 1]): at[index + 1] for index in range(many - 1)}
    trains = [(at[0] + "x", at[0], (at[1],)), (at[-1] + "x", at[-1], (at[-2],))]
    for index in range(1, many - 1):
        trains.append((at[index] + "x", at[index], (at[index + 1], at[index], at[index - 1])))
    return line, (tuple(sorted(staffs.items())), tuple(sorted(trains))), at[0] + "x"


class GetsHome(Checks, unittest.TestCase):
    def test_by_some_row(self):
        answers = {}
        for line, standing in small_standings(131, 800):
            found = helper.all_reached(line, standing, 400)
            home = {name for at in found for name, _, rest in at[1] if rest == ()}
            fits = helper.all_fit(line, standing)
            for name, _, _ in standing[1]:
                self.tells(gets_home(line, standing, name), name in home, line, standing, name)
                answers[fits, name in home] = answers.get((fits, name in home), 0) + 1
        self.assertEqual(len(answers), 4)
        self.assertGreater(min(answers.values()), 100)

    def test_far(self):
        most = 0
        for line, standing in list(sample_standings(133)) + list(small_standings(135, 300)):
            for train in standing[1]:
                told = far(line, standing, train[0])
                self.assertEqual(told, far_keys(line, standing, train))
                most = max(most, len(told))
        self.assertGreater(most, 3)

    def test_far_by_hand(self):
        self.assertEqual([far(LINE, OPEN, "t"), far(LINE, OPEN, "u")], [(("a", "b"),), ()])
        self.assertEqual([far(LINE, SHUT, "t"), far(LINE, SHUT, "u")], [(("a", "b"),), (("b", "c"),)])
        line = (("a", "b", "c"), (("a", "b", "free"), ("b", "c", "ticket")))
        for staff, lot in (("b", ()), ("c", (("b", "c"),))):
            standing = (((("b", "c"), staff),), (("t", "a", ("b", "c", "b")), ("u", "c", ("b",)), ("v", "a", ("b",))))
            self.assertEqual(far(line, standing, "t"), lot)
            self.assertEqual(far(line, standing, "u"), () if lot else (("b", "c"),))
            self.assertEqual(far(line, standing, "v"), ())

    def test_who_comes_out_of_the_far_sections_decides(self):
        for line, standing in list(sample_standings(137)) + list(small_standings(139, 300)):
            for train in standing[1]:
                out = []
                for key in far(line, standing, train[0]):
                    end = dict(standing[0])[key]
                    out.append(comes_out(line, standing, key[key[0] == end], end))
                self.tells(gets_home(line, standing, train[0]), all(out), line, standing, train)


class Bar(Checks, unittest.TestCase):
    def test_bar(self):
        told = {True: 0, False: 0}
        for line, standing in list(sample_standings(141)) + list(small_standings(143, 300)):
            for name, _, _ in standing[1]:
                lot = bar(line, standing, name)
                if gets_home(line, standing, name):
                    self.assertIsNone(lot)
                else:
                    self.assertEqual(lot, held(line, standing))
                    self.tells(is_bar(line, standing, name, lot), True)
                told[lot is None] += 1
        self.assertGreater(min(told.values()), 100)

    def test_is_bar_of_each_lot(self):
        answers = {True: 0, False: 0}
        for line, standing in small_standings(145, 300):
            for lot in helper.all_lots(line):
                is_held = helper.is_held(line, standing, lot)
                for train in standing[1]:
                    over = {helper.key_of(*step) for step in helper.steps_of(train)} & set(lot)
                    expected = is_held and over != set()
                    self.tells(is_bar(line, standing, train[0], lot), expected, line, standing, train, lot)
                    answers[expected] += 1
        self.assertGreater(min(answers.values()), 100)

    def test_is_bar_of_any_value(self):
        both = (("a", "b"), ("b", "c"))
        for thing in any_values():
            self.tells(is_bar(LINE, SHUT, "t", thing), False, thing)
        told = 0
        others = [None, True, 0, "a", ("a", "b"), ("b", "a"), ["a", "b"], ("b", "c"), ("a", "c"), ()]
        for thing in exchanged(both, others):
            # Of (b, c) alone the LOT is HELD as well, but t has no pass over it.
            self.tells(is_bar(LINE, SHUT, "t", thing), thing == both, thing)
            self.tells(is_bar(LINE, SHUT, "u", thing), thing in (both, both[1:]), thing)
            told += thing in (both, both[1:])
        self.assertGreater(told, 1)


class RowFor(Checks, unittest.TestCase):
    def check(self, line, standing, name):
        """The MOVES of the row for a train, None if there is none."""
        if not gets_home(line, standing, name):
            for ask in (row_for, helpers):
                with self.raises(errors.NoWay, reason=("held", held(line, standing))):
                    ask(line, standing, name)
            return None
        row = row_for(line, standing, name)
        self.assertTrue(helper.are_moves(row))
        self.tells(is_row_home(line, standing, row, name), True, line, standing, name, row)
        self.tells(is_row_for(line, standing, name, row), True)
        self.assertEqual(helpers(line, standing, name), tuple(sorted({who for who, _ in row} - {name})))
        return row

    def test_small_lines(self):
        helped = {}
        for line, standing in small_standings(147, 1000):
            for name, _, _ in standing[1]:
                row = self.check(line, standing, name)
                if row is not None:
                    key = (helper.all_fit(line, standing), min(2, len(helpers(line, standing, name))))
                    helped[key] = helped.get(key, 0) + 1
        self.assertEqual(len(helped), 6)
        self.assertGreater(min(helped.values()), 2)

    def test_all_lines(self):
        most = 0
        for line, standing in sample_standings(149):
            for name, _, _ in standing[1]:
                row = self.check(line, standing, name)
                most = max(most, len(helpers(line, standing, name)) if row else 0)
        self.assertGreater(most, 1)

    def test_wide_lines(self):
        for line, standing, _ in wide_standings(151):
            for name, _, rest in standing[1]:
                with self.within(10):
                    row = self.check(line, standing, name)
                self.assertGreaterEqual(len(row), len(rest))

    def test_staffs_laid_as_it_happens(self):
        """On wide LINES with few trains most of which need each other."""
        dice = random.Random(1301)
        most = 0
        for _ in range(150):
            line = helper.random_line(dice, dice.randint(6, 24), dice.choice([("staff",), ("staff", "ticket")]))
            trains = helper.random_standing(dice, line, 24, 20)[1]
            found = {}
            for step in helper.steps_left(trains):
                found.setdefault(helper.key_of(*step), step[0])
            staffs = tuple((key, found.get(key, key[0])) for key in helper.keys_of_sort(line, "staff", "ticket"))
            for name, _, _ in trains:
                if self.check(line, (staffs, trains), name):
                    most = max(most, len(helpers(line, (staffs, trains), name)))
        self.assertGreater(most, 4)

    def test_each_waits_for_the_next_one(self):
        for many in (2, 3, 5, 12, 24):
            line, standing, name = waiting_in_a_row(many)
            with self.within(10):
                row = self.check(line, standing, name)
            self.assertEqual(len(helpers(line, standing, name)), many - 1)
            self.assertEqual(len(row), 2 + 3 * (many - 2))

    def test_by_hand(self):
        self.assertEqual(row_for(LINE, OPEN, "t"), ROW)
        self.assertEqual([helpers(LINE, OPEN, "t"), helpers(LINE, OPEN, "u")], [("u",), ()])
        self.assertEqual(row_for(LINE, OPEN, "u"), (("u", "staff"),) * 3)

    def test_sections_that_do_not_fit(self):
        """Not all of three that go the same way get home, but each of them does alone."""
        standing = (((("a", "b"), "a"), (("b", "c"), "b")), tuple((name, "a", ("b", "c")) for name in "pqr"))
        for name in "pqr":
            self.assertEqual(self.check(LINE, standing, name), ((name, "staff"),) * 2)

    def test_help_that_comes_from_within_a_part(self):
        """Train q brings p the staff, but first r must bring q one from farther inside; s is on the other side."""
        line = (("a", "b", "c", "d"), (("a", "b", "staff"), ("b", "c", "ticket"), ("b", "d", "staff")))
        staffs = ((("a", "b"), "b"), (("b", "c"), "c"), (("b", "d"), "d"))
        trains = (("p", "a", ("b",)), ("q", "b", ("c", "b", "a")), ("r", "c", ("b",)), ("s", "d", ("b",)))
        row = self.check(line, (staffs, trains), "p")
        self.assertEqual([helpers(line, (staffs, trains), "p"), len(row)], [("q", "r"), 5])


class IsRowFor(Checks, unittest.TestCase):
    def test_any_value(self):
        for thing in any_values():
            self.tells(is_row_for(LINE, OPEN, "t", thing), False, thing)

    def test_nearly_a_row(self):
        others = [None, True, "staff", "free", "t", "u", "x", ("t", "staff"), ("u", "staff"), ("u", "ticket"), (), []]
        told = {True: 0, False: 0}
        for name in "tu":
            for thing in exchanged(ROW, others):
                expected = helper.are_moves(thing) and is_row_home(LINE, OPEN, thing, name)
                self.tells(is_row_for(LINE, OPEN, name, thing), expected, name, thing)
                told[expected] += 1
        self.assertGreater(min(told.values()), 1)

    def test_by_hand(self):
        for thing, expected in (
            (ROW, True), (ROW[:2], False), (ROW[2:], False), ((), False), ([*ROW], False), (ROW + ROW[-1:], False),
            (ROW + (("u", "staff"),), False),
        ):
            self.tells(is_row_for(LINE, OPEN, "t", thing), expected, thing)
        # Train t is home behind either row, but one of them ends with a MOVE of u.
        back = (((("a", "b"), "a"), (("b", "c"), "c")), (("t", "a", ("b",)), ("u", "c", ("b",))))
        for thing, expected in (((("t", "staff"), ("u", "staff")), False), ((("u", "staff"), ("t", "staff")), True)):
            self.tells(is_row_for(LINE, back, "t", thing), expected, thing)

    def test_random_rows(self):
        dice = random.Random(1303)
        told = {True: 0, False: 0}
        for line, standing in small_standings(153, 400):
            row, _ = helper.random_row(dice, line, standing, 100)
            for many in range(len(row) + 1):
                for name, _, _ in standing[1]:
                    expected = is_row_home(line, standing, row[:many], name)
                    self.tells(is_row_for(line, standing, name, row[:many]), expected)
                    told[expected] += 1
        self.assertGreater(min(told.values()), 100)


class NothingLeft(Checks, unittest.TestCase):
    def test_all_is_told_at_once(self):
        for staffs in (OPEN[0], SHUT[0]):
            standing = (staffs, (("s", "b", ()), *TWO))
            told = [ask(LINE, standing, "s") for ask in QUESTIONS]
            self.assertEqual(told, [True, (), None, (), ()])
            self.tells(is_row_for(LINE, standing, "s", ()), True)
            for thing in ((("u", "staff"),), ROW, [], None, (("s", "staff"),), ((),)):
                self.tells(is_row_for(LINE, standing, "s", thing), False, thing)
            for lot in helper.all_lots(LINE):
                self.tells(is_bar(LINE, standing, "s", lot), False, lot)


class NobodyOfThisName(Checks, unittest.TestCase):
    def test_the_very_name(self):
        names = ["x", "tt", "", "T", None, True, 0, 7, ("t",), ["t"], {"t": "t"}, b"t", errors.NoTrain("t"), "a" * 5000]
        for standing in (OPEN, SHUT, (OPEN[0], ())):
            for name in names:
                for ask in QUESTIONS:
                    with self.assertRaises(errors.NoTrain) as caught:
                        ask(LINE, standing, name)
                    self.assertIs(caught.exception.name, name)
                for judge in JUDGES:
                    for thing in (None, (), ROW, (("a", "b"), ("b", "c")), [("t", "staff")], 7, name):
                        with self.assertRaises(errors.NoTrain) as caught:
                            judge(LINE, standing, name, thing)
                        self.assertIs(caught.exception.name, name)

    def test_whatever_the_value_is(self):
        for thing in any_values():
            for judge in JUDGES:
                with self.raises(errors.NoTrain, name="x"):
                    judge(LINE, OPEN, "x", thing)


class All(Checks, unittest.TestCase):
    def test_what_is_handed_in_stays(self):
        for line, standing in list(sample_standings(155)) + list(small_standings(157, 60)):
            shown = repr((line, standing))
            for name, _, _ in standing[1]:
                for ask in (gets_home, far, bar):
                    self.assertEqual(ask(line, standing, name), ask(line, standing, name))
                if gets_home(line, standing, name):
                    row = row_for(line, standing, name)
                    self.assertEqual(row_for(line, standing, name), row)
                    self.assertEqual(helpers(line, standing, name), helpers(line, standing, name))
            self.assertEqual(repr((line, standing)), shown)
        thing = [["t", "staff"], {"t": ("staff",)}]
        is_bar(LINE, OPEN, "t", thing)
        is_row_for(LINE, OPEN, "t", thing)
        self.assertEqual(thing, [["t", "staff"], {"t": ("staff",)}])

    def test_at_the_bounds(self):
        for line, standing, _ in wide_standings(159):
            turned = (tuple((key, key[key[0] == near]) for key, near in standing[0]), standing[1])
            for at in (standing, turned):
                for name, _, rest in at[1]:
                    with self.within(5):
                        for ask in (gets_home, far, bar):
                            ask(line, at, name)
                        lot = held(line, at)
                        self.tells(is_bar(line, at, name, lot), not gets_home(line, at, name))
                        self.tells(is_row_for(line, at, name, ()), rest == ())


if __name__ == "__main__":
    unittest.main()
