"""Point [17], by the definitions of [2]."""

import random
import unittest

import helper
from helper import Checks, any_values, behind, exchanged, sample_standings
from staffhome import errors
from staffhome.moves import can_be_done, is_row, moved, moves_of, next_pass, run, traced

LINE = (("a", "b", "c", "d"), (("a", "b", "staff"), ("b", "c", "ticket"), ("b", "d", "free")))
STAFFS = ((("a", "b"), "a"), (("b", "c"), "c"))


def standing_of(staff, ticket, *trains):
    return (((("a", "b"), staff), (("b", "c"), ticket)), trains)


def all_moves(standing):
    return [(name, how) for name in [train[0] for train in standing[1]] + ["nobody"] for how in helper.SORTS]


class Passes(Checks, unittest.TestCase):
    def test_next_pass(self):
        standing = (STAFFS, (("p", "a", ("b", "d")), ("q", "c", ()), ("r", "d", ("b",))))
        self.assertEqual(next_pass(standing, "p"), ("a", "b"))
        self.assertIsNone(next_pass(standing, "q"))
        self.assertEqual(next_pass(standing, "r"), ("d", "b"))

    def test_each_train(self):
        for _, standing in sample_standings():
            for name, place, rest in standing[1]:
                self.assertEqual(next_pass(standing, name), (place, rest[0]) if rest else None)

    def test_no_train(self):
        for standing in ((STAFFS, (("p", "a", ("b", "d")),)), (STAFFS, ()), ((), ())):
            for name in ("q", "pp", "a"):
                with self.raises(errors.NoTrain, name=name):
                    next_pass(standing, name)


class CanBeDone(Checks, unittest.TestCase):
    def hows(self, standing, name):
        found = []
        for how in helper.SORTS:
            answer = can_be_done(LINE, standing, (name, how))
            self.assertIs(type(answer), bool)
            if answer:
                found.append(how)
        self.assertEqual([how for who, how in moves_of(LINE, standing) if who == name], found)
        return found

    def test_free(self):
        for staff in "ab":
            for ticket in "bc":
                for place, stop in (("b", "d"), ("d", "b")):
                    standing = standing_of(staff, ticket, ("p", place, (stop,)))
                    self.assertEqual(self.hows(standing, "p"), ["free"])

    def test_staff(self):
        for ticket in "bc":
            self.assertEqual(self.hows(standing_of("a", ticket, ("p", "a", ("b",))), "p"), ["staff"])
            self.assertEqual(self.hows(standing_of("b", ticket, ("p", "b", ("a",))), "p"), ["staff"])
            self.assertEqual(self.hows(standing_of("b", ticket, ("p", "a", ("b",))), "p"), [])
            self.assertEqual(self.hows(standing_of("a", ticket, ("p", "b", ("a",))), "p"), [])

    def test_ticket(self):
        for staff in "ab":
            self.assertEqual(self.hows(standing_of(staff, "b", ("p", "b", ("c",))), "p"), ["staff", "ticket"])
            self.assertEqual(self.hows(standing_of(staff, "c", ("p", "c", ("b",))), "p"), ["staff", "ticket"])
            self.assertEqual(self.hows(standing_of(staff, "c", ("p", "b", ("c",))), "p"), [])
            self.assertEqual(self.hows(standing_of(staff, "b", ("p", "c", ("b",))), "p"), [])

    def test_the_first_pass_counts(self):
        standing = standing_of("a", "b", ("p", "c", ("b", "a", "b", "d")))
        self.assertEqual(self.hows(standing, "p"), [])
        standing = standing_of("b", "b", ("p", "d", ("b", "a")))
        self.assertEqual(self.hows(standing, "p"), ["free"])

    def test_nothing_left_and_nobody(self):
        for place in "abcd":
            standing = standing_of("a", "b", ("p", place, ()), ("q", "a", ("b",)))
            self.assertEqual(self.hows(standing, "p"), [])
            self.assertEqual(self.hows(standing, "x"), [])
            self.assertEqual(self.hows((STAFFS, ()), "p"), [])

    def test_samples(self):
        for line, standing in sample_standings():
            expected = [move for move in all_moves(standing) if behind(line, standing, move) is not None]
            self.assertEqual(moves_of(line, standing), tuple(expected))
            for move in all_moves(standing):
                self.tells(can_be_done(line, standing, move), move in expected, move)

    def test_moves_ascend(self):
        standing = standing_of("a", "b", ("p", "b", ("c",)), ("pp", "a", ("b",)), ("q", "b", ("c",)), ("r", "d", ("b",)))
        expected = (
            ("p", "staff"), ("p", "ticket"), ("pp", "staff"), ("q", "staff"), ("q", "ticket"), ("r", "free"),
        )
        self.assertEqual(moves_of(LINE, standing), expected)
        self.assertEqual(moves_of(LINE, (STAFFS, ())), ())


class Rows(Checks, unittest.TestCase):
    def test_moved_told(self):
        standing = standing_of("a", "b", ("p", "a", ("b", "c")), ("q", "b", ("c",)), ("r", "d", ("b", "d")))
        p, q, r = standing[1]
        gone = ("p", "b", ("c",))
        self.assertEqual(moved(LINE, standing, ("p", "staff")), standing_of("b", "b", gone, q, r))
        self.assertEqual(moved(LINE, standing, ("q", "staff")), standing_of("a", "c", p, ("q", "c", ()), r))
        self.assertEqual(moved(LINE, standing, ("q", "ticket")), standing_of("a", "b", p, ("q", "c", ()), r))
        self.assertEqual(moved(LINE, standing, ("r", "free")), standing_of("a", "b", p, q, ("r", "b", ("d",))))

    def test_moved(self):
        for line, standing in sample_standings():
            for move in all_moves(standing):
                expected = behind(line, standing, move)
                if expected is None:
                    with self.raises(errors.NoMove, index=0):
                        moved(line, standing, move)
                else:
                    self.assertEqual(moved(line, standing, move), expected)

    def test_rows(self):
        dice = random.Random(41)
        for line, standing in sample_standings():
            shown = repr((line, standing))
            row, standings = helper.random_row(dice, line, standing, 60)
            self.assertEqual(traced(line, standing, row), tuple(standings))
            self.assertEqual(run(line, standing, row), standings[-1])
            self.tells(is_row(line, standing, row), True)
            self.tells(is_row(line, standing, list(row)), False)
            self.assertEqual(repr((line, standing)), shown)

    def test_no_moves(self):
        for line, standing in sample_standings():
            self.assertEqual(traced(line, standing, ()), (standing,))
            self.assertEqual(run(line, standing, ()), standing)
            self.tells(is_row(line, standing, ()), True)

    def test_the_first_move_that_cannot_be_done(self):
        dice = random.Random(43)
        faults = set()
        for line, standing in sample_standings():
            row, standings = helper.random_row(dice, line, standing, 12)
            for index, at in enumerate(standings):
                bad = [move for move in all_moves(at) if behind(line, at, move) is None]
                thing = row[:index] + (dice.choice(bad),) + row[index:] + (("nobody", "free"),)
                for ask in (run, traced):
                    with self.raises(errors.NoMove, index=index):
                        ask(line, standing, thing)
                self.tells(is_row(line, standing, thing), False)
                faults.add(index)
        self.assertEqual(faults, set(range(13)))

    def test_a_row_of_all_the_passes_that_the_bounds_allow(self):
        for sorts in (("free",), ("ticket",), ("staff",)):
            line = helper.star_line(24, sorts)
            hub = helper.station_name(12)
            ends = [station for station in line[0] if station != hub]
            staffs = tuple((row[:2], hub) for row in line[1] if row[2] != "free")
            trains = [("p" + end, hub, (end, hub) * 10) for end in ends] + [("q", hub, (ends[0], hub) * 10)]
            standing = (staffs, tuple(sorted(trains)))
            how = "free" if sorts == ("free",) else "staff"
            row = tuple((train[0], how) for train in standing[1] for _ in range(20))
            self.assertEqual(len(row), 480)
            self.assertEqual(len(traced(line, standing, row)), 481)
            self.assertEqual(run(line, standing, row), (staffs, tuple((name, hub, ()) for name, _, _ in standing[1])))
            self.tells(is_row(line, standing, row), True)
            self.tells(is_row(line, standing, row + row[:1]), False)
            for ask in (run, traced):
                with self.raises(errors.NoMove, index=480):
                    ask(line, standing, row + row[:1])

    def test_is_row_of_any_value(self):
        standing = standing_of("a", "b", ("p", "a", ("b", "c", "b")), ("q", "d", ("b",)))
        right = (("p", "staff"), ("q", "free"), ("p", "staff"), ("p", "ticket"))
        others = [None, True, 0, "p", "staff", (), [], ("p", "free"), ("q", "free"), ("x", "free"), errors.Wrong(0)]
        for thing in [right, *any_values(), *exchanged(right, others)]:
            shown = repr(thing)
            self.tells(is_row(LINE, standing, thing), self.plain_row(standing, thing), thing)
            self.assertEqual(repr(thing), shown)

    def plain_row(self, standing, thing):
        if not helper.are_moves(thing):
            return False
        for move in thing:
            standing = behind(LINE, standing, move)
            if standing is None:
                return False
        return True

    def test_asked_again(self):
        standing = standing_of("a", "b", ("p", "a", ("b", "c")))
        row = (("p", "staff"), ("p", "ticket"))
        for _ in range(2):
            self.assertEqual(run(LINE, standing, row), standing_of("b", "b", ("p", "c", ())))
            self.assertEqual(moves_of(LINE, standing), (("p", "staff"),))


if __name__ == "__main__":
    unittest.main()
