"""Points [24] and [25], by all ROWS gone through on small LINES."""

import random
import unittest

import helper
from helper import Checks, any_values, exchanged, sample_standings, small_standings, wide_standings
from staffhome import errors
from staffhome.fits import staffs_at_home
from staffhome.plans import good_moves, is_plan, plan, refused_moves, staffs_behind
from staffhome.shut import shut_part
from staffhome.verdicts import is_safe, reason

LINE = (("a", "b", "c"), (("a", "b", "staff"), ("b", "c", "staff")))
STAFFS = ((("a", "b"), "a"), (("b", "c"), "b"))

# Train t is not to go ahead of u, which comes back over the same section.
TWO = (STAFFS, (("t", "a", ("b",)), ("u", "a", ("b", "c", "b", "a"))))
PLAN = (("u", "staff"),) * 4 + (("t", "staff"),)


def can_get_home(line, standing):
    return any(helper.is_home(at) for at in helper.all_reached(line, standing, 400))


def stops_of(standing):
    return sum(len(rest) for _, _, rest in standing[1])


def home_by(line, standing, row):
    """Whether a tuple of MOVES brings all home, each of them being one that can be done."""
    for move in row:
        standing = standing and helper.behind(line, standing, move)
    return standing is not None and helper.is_home(standing)


class Moves(Checks, unittest.TestCase):
    def test_small_lines(self):
        told = {"good": 0, "refused": 0, "unsafe": 0, "home": 0}
        for line, standing in small_standings(111, 600):
            safe = can_get_home(line, standing)
            laters = sorted(helper.moves_behind(line, standing))
            good = [move for move, later in laters if can_get_home(line, later)]
            self.assertEqual(good_moves(line, standing), tuple(good))
            told["good"] += len(good)
            if not safe or helper.is_home(standing):
                told["unsafe" if not safe else "home"] += 1
                self.assertEqual(good, [])
            if safe:
                refused = refused_moves(line, standing)
                parts = [(move, shut_part(line, later)) for move, later in laters if move not in good]
                self.assertEqual(refused, tuple(parts))
                for move, part in refused:
                    self.tells(helper.is_shut(line, dict(laters)[move], part), True)
                told["refused"] += len(refused)
        self.assertGreater(min(told.values()), 15)

    def test_by_hand(self):
        self.assertEqual(good_moves(LINE, TWO), (("u", "staff"),))
        self.assertEqual(refused_moves(LINE, TWO), ((("t", "staff"), ("b",)),))
        home = (STAFFS, (("t", "a", ()),))
        self.assertEqual([good_moves(LINE, home), refused_moves(LINE, home)], [(), ()])
        crowd = (STAFFS, (("t", "a", ("b",)), ("u", "a", ("b", "c"))))
        self.assertEqual(good_moves(LINE, crowd), ())
        self.assertEqual(good_moves((("a",), ()), ((), ())), ())

    def test_no_move_of_what_does_not_fit_is_good(self):
        """A MOVE that can be done, far from the section that does not fit."""
        standing = (STAFFS, (("t", "b", ("c",)), ("u", "b", ("a",))))
        self.assertEqual(good_moves(LINE, standing), ())
        self.assertEqual(good_moves(LINE, (STAFFS, standing[1][:1])), (("t", "staff"),))

    def test_a_ticket_where_the_staff_does_harm(self):
        line = (("a", "b"), (("a", "b", "ticket"),))
        standing = (((("a", "b"), "a"),), (("t", "a", ("b",)), ("u", "a", ("b",))))
        self.assertEqual(good_moves(line, standing), (("t", "ticket"), ("u", "ticket")))
        self.assertEqual(refused_moves(line, standing), ((("t", "staff"), ("b",)), (("u", "staff"), ("b",))))
        row = plan(line, standing)
        self.tells(home_by(line, standing, row), True, row)

    def test_behind_each_good_move_it_is_safe(self):
        for line, standing, _ in wide_standings(113):
            with self.within(10):
                good, refused = good_moves(line, standing), refused_moves(line, standing)
            laters = dict(helper.moves_behind(line, standing))
            self.assertEqual(sorted(good + tuple(move for move, _ in refused)), sorted(laters))
            self.assertNotEqual(good, ())
            for move in good:
                self.tells(is_safe(line, laters[move]), True)
            for move, part in refused:
                self.tells(helper.is_shut(line, laters[move], part), True)


class Plan(Checks, unittest.TestCase):
    def test_small_lines(self):
        told = {"plans": 0, "passes": 0, "shut": 0}
        for line, standing in small_standings(115, 800):
            why = reason(line, standing)
            self.assertIs(can_get_home(line, standing), why is None)
            if why is None:
                row = plan(line, standing)
                self.tells(home_by(line, standing, row), True, line, standing, row)
                self.assertEqual([len(row), helper.are_moves(row)], [stops_of(standing), True])
                self.tells(is_plan(line, standing, row), True)
                self.tells(is_plan(line, standing, row[:-1]), row == ())
                self.assertEqual(plan(line, standing), row)
            else:
                with self.raises(errors.NoWay, reason=why):
                    plan(line, standing)
            told[why[0] if why else "plans"] += 1
        self.assertGreater(min(told.values()), 30)

    def test_wide_lines(self):
        for line, standing, row in list(wide_standings(117)) + list(wide_standings(119)):
            with self.within(20):
                told = plan(line, standing)
            self.assertEqual(len(told), len(row))
            self.tells(home_by(line, standing, told), True)
            with self.within(5):
                self.tells(is_plan(line, standing, told), True)
                self.tells(is_plan(line, standing, row), True)
                self.tells(is_plan(line, standing, row[:-1]), False)

    def test_many_moves_refused_again_and_again(self):
        """Those who stay come first by name, and are to go last: behind those who walk about for long."""
        line = helper.star_line(13, ("staff",))
        hub = helper.station_name(6)
        ends = [station for station in line[0] if station != hub]
        line = (tuple(sorted(line[0] + ("yard",))), tuple(sorted(line[1] + ((hub, "yard", "free"),))))
        stay = [("a" + end, hub, (end,)) for end in ends]
        walk = [("w" + end, hub, ("yard", hub) * 18 + (end, hub)) for end in ends]
        standing = (tuple((key, hub) for key in helper.keys_of_sort(line, "staff")), tuple(sorted(stay + walk)))
        with self.within(20):
            row = plan(line, standing)
        self.tells(home_by(line, standing, row), True)
        self.assertEqual(len(refused_moves(line, standing)), 12)

    def test_no_way(self):
        crowd = (STAFFS, (("t", "a", ("b",)), ("u", "a", ("b", "c"))))
        with self.raises(errors.NoWay, reason=("passes", ("a", "b"), 2, 0)):
            plan(LINE, crowd)
        shut = (((("a", "b"), "b"), (("b", "c"), "b")), (("t", "b", ()), ("u", "a", ("b", "a"))))
        with self.raises(errors.NoWay, reason=("shut", ("b", "c"))):
            plan(LINE, shut)

    def test_nothing_to_do(self):
        for standing in ((STAFFS, ()), (STAFFS, (("t", "a", ()),))):
            self.assertEqual(plan(LINE, standing), ())
            self.tells(is_plan(LINE, standing, ()), True)
            self.tells(is_plan(LINE, standing, []), False)
        self.assertEqual(plan((("a",), ()), ((), ())), ())

    def test_is_plan_of_any_value(self):
        for thing in any_values():
            self.tells(is_plan(LINE, TWO, thing), False, thing)
            self.tells(is_plan(LINE, (STAFFS, ()), thing), type(thing) is tuple and thing == (), thing)

    def test_nearly_a_plan(self):
        others = [None, True, "staff", "ticket", "free", "t", "u", "x", ("t", "staff"), ("u", "staff"), ("u", "ticket"), ()]
        told = {True: 0, False: 0}
        for thing in exchanged(PLAN, others):
            expected = helper.are_moves(thing) and home_by(LINE, TWO, thing)
            self.tells(is_plan(LINE, TWO, thing), expected, thing)
            told[expected] += 1
        self.assertGreater(min(told.values()), 3)
        for thing in (PLAN[::-1], PLAN[1:], PLAN + PLAN[-1:], PLAN[:-1], [*PLAN], (PLAN,)):
            self.tells(is_plan(LINE, TWO, thing), False, thing)


class StaffsBehind(Checks, unittest.TestCase):
    def test_any_row(self):
        dice = random.Random(1101)
        moved = 0
        for line, standing in sample_standings(121):
            row, standings = helper.random_row(dice, line, standing, 60)
            for many in {0, 1, len(row) // 2, len(row)}:
                told = staffs_behind(line, standing, row[:many])
                expected = standings[min(many, len(row))][0]
                self.assertEqual(list(told.items()), list(expected))
                moved += expected != standing[0]
        self.assertGreater(moved, 50)

    def test_tickets_leave_the_staff(self):
        line = (("a", "b", "c"), (("a", "b", "ticket"), ("b", "c", "free")))
        standing = (((("a", "b"), "a"),), (("t", "a", ("b", "c")),))
        self.assertEqual(staffs_behind(line, standing, (("t", "ticket"), ("t", "free"))), {("a", "b"): "a"})
        self.assertEqual(staffs_behind(line, standing, (("t", "staff"), ("t", "free"))), {("a", "b"): "b"})
        self.assertEqual(staffs_behind(line, standing, ()), {("a", "b"): "a"})
        self.assertEqual(staffs_behind((("a",), ()), ((), ()), ()), {})

    def test_behind_a_plan(self):
        for line, standing, row in wide_standings(123):
            homes = staffs_at_home(line, standing)
            for told in (staffs_behind(line, standing, row), staffs_behind(line, standing, plan(line, standing))):
                self.assertEqual({key: told[key] for key in homes}, homes)


class All(Checks, unittest.TestCase):
    def test_what_is_told_may_be_changed(self):
        told = staffs_behind(LINE, TWO, PLAN)
        told[("a", "b")] = "x"
        told["more"] = 1
        self.assertEqual(staffs_behind(LINE, TWO, PLAN), {("a", "b"): "b", ("b", "c"): "b"})

    def test_what_is_handed_in_stays(self):
        for line, standing in small_standings(125, 60):
            shown = repr((line, standing))
            for ask in (good_moves, refused_moves):
                self.assertEqual(ask(line, standing), ask(line, standing))
            if is_safe(line, standing):
                row = plan(line, standing)
                self.assertEqual(plan(line, standing), row)
                self.assertEqual(staffs_behind(line, standing, row), staffs_behind(line, standing, row))
            self.assertEqual(repr((line, standing)), shown)
        thing = [["t", "staff"], {"t": ("staff",)}]
        is_plan(LINE, TWO, thing)
        self.assertEqual(thing, [["t", "staff"], {"t": ("staff",)}])


if __name__ == "__main__":
    unittest.main()
