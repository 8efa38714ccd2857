"""Point [23], by the definitions of [2] and all ROWS gone through."""

import random
import unittest

import helper
from helper import Checks, any_values, exchanged, sample_standings, small_standings, wide_standings
from staffhome import errors
from staffhome.shut import shut_part
from staffhome.verdicts import is_reason, is_safe, is_safe_slowly, reached, reason

LINE = (("a", "b", "c", "d"), (("a", "b", "staff"), ("b", "c", "ticket"), ("b", "d", "staff")))


def staffs_at(one, two, three):
    return ((("a", "b"), one), (("b", "c"), two), (("b", "d"), three))


def passes_reasons(line, standing):
    keys = [key for key in helper.keys_of_sort(line, "staff") if not helper.does_fit(standing, key)]
    return [("passes", key, *helper.plain_counts(standing, key)) for key in keys]


def walkers(*stops):
    """A LINE with two tracks, and trains on it with so many stops each; each goes as it likes."""
    line = (("a", "b"), (("a", "b", "free"),))
    trains = [(helper.station_name(index), "a", (("b", "a") * many)[:many]) for index, many in enumerate(stops)]
    return line, ((), tuple(sorted(trains)))


# Two sections are passed too often from one end, and one part is shut.
CROWD = (staffs_at("a", "b", "b"), (("p", "a", ("b",)), ("q", "a", ("b", "d")), ("r", "b", ("d",)), ("s", "c", ("b",))))


class Reason(Checks, unittest.TestCase):
    def test_by_hand(self):
        first = ("passes", ("a", "b"), 2, 0)
        self.assertEqual(reason(LINE, CROWD), first)
        for thing in (first, ("passes", ("b", "d"), 2, 0), ("shut", ("a", "b", "d"))):
            self.tells(is_reason(LINE, CROWD, thing), True, thing)
        for part in (("b",), ("b", "d"), ("a", "b"), ("c",), ("d", "b", "a"), ["a", "b", "d"]):
            self.tells(is_reason(LINE, CROWD, ("shut", part)), False, part)
        for word in ("passes", "held", "", "shut ", None, True, ("shut",), ("a", "b", "d")):
            self.tells(is_reason(LINE, CROWD, (word, ("a", "b", "d"))), False, word)
        self.assertIsNone(reason(LINE, (CROWD[0], (("p", "a", ("b",)), ("r", "b", ("d",))))))

    def test_the_least_section_comes_first(self):
        trains = (("q", "a", ("b", "d")), ("r", "b", ("d",)), ("s", "c", ("b",)))
        self.assertEqual(reason(LINE, (CROWD[0], trains)), ("passes", ("b", "d"), 2, 0))
        self.assertEqual(reason(LINE, (CROWD[0], trains[::2])), ("shut", shut_part(LINE, (CROWD[0], trains[::2]))))

    def test_passes_come_ahead_of_parts(self):
        standing = (staffs_at("b", "b", "b"), (("p", "a", ("b",)),))
        self.tells(helper.is_shut(LINE, standing, ("b",)), True)
        self.assertEqual(reason(LINE, standing), ("passes", ("a", "b"), 0, 1))
        self.tells(is_reason(LINE, standing, ("shut", ("b",))), True)

    def test_tickets_need_not_fit(self):
        standing = (staffs_at("a", "b", "b"), (("p", "b", ("c",)), ("q", "b", ("c",)), ("r", "b", ("c",))))
        self.assertIsNone(reason(LINE, standing))
        self.tells(is_reason(LINE, standing, ("passes", ("b", "c"), 3, 0)), False)

    def test_all_lines(self):
        kinds = {None: 0, "passes": 0, "shut": 0}
        for line, standing in list(sample_standings(81)) + list(small_standings(83, 600)):
            told = reason(line, standing)
            reasons = passes_reasons(line, standing)
            part = shut_part(line, standing)
            expected = reasons[0] if reasons else None if part is None else ("shut", part)
            self.assertEqual(told, expected)
            self.tells(is_safe(line, standing), expected is None)
            self.tells(is_reason(line, standing, told), told is not None)
            for one in reasons:
                self.tells(is_reason(line, standing, one), True)
            kinds[told and told[0]] += 1
        self.assertGreater(min(kinds.values()), 50)

    def test_at_the_bounds(self):
        for line, standing, _ in wide_standings(85):
            with self.within(5):
                self.assertIsNone(reason(line, standing))
                self.tells(is_safe(line, standing), True)
            turned = tuple((key, key[key[0] == near]) for key, near in standing[0])
            with self.within(5):
                told = reason(line, (turned, standing[1]))
                self.tells(is_reason(line, (turned, standing[1]), told), told is not None)
            reasons = passes_reasons(line, (turned, standing[1]))
            self.assertEqual(told if reasons else None, reasons[0] if reasons else None)


class IsReason(Checks, unittest.TestCase):
    def expected(self, line, standing, thing):
        if type(thing) is tuple and len(thing) == 2 and thing[0] == "shut":
            return helper.is_shut(line, standing, thing[1])
        if type(thing) is not tuple or len(thing) != 4 or not all(type(count) is int for count in thing[2:]):
            return False
        return thing in passes_reasons(line, standing)

    def test_any_value(self):
        told = {True: 0, False: 0}
        for standing in (CROWD, (CROWD[0], ())):
            for part in any_values():
                for thing in (
                    part, ("shut", part), (part, ("a", "b", "d")), ("passes", part, 2, 0), ("passes", ("a", "b"), part, 0),
                    (part, ("a", "b"), 2, 0), ("passes", ("a", "b"), 2, part), ("shut", ("a", "b", "d"), part),
                ):
                    expected = self.expected(LINE, standing, thing)
                    self.tells(is_reason(LINE, standing, thing), expected, thing)
                    told[expected] += 1
        self.assertGreater(min(told.values()), 2)

    def test_nearly_a_reason(self):
        others = [None, True, False, 0, 1, 2, "shut", "passes", "d", ("b",), ("a", "b"), ("b", "d"), ("b", "c"), ()]
        told = {True: 0, False: 0}
        for right in (("passes", ("a", "b"), 2, 0), ("passes", ("b", "d"), 2, 0), ("shut", ("a", "b", "d"))):
            for thing in exchanged(right, others):
                expected = self.expected(LINE, CROWD, thing)
                self.tells(is_reason(LINE, CROWD, thing), expected, thing)
                told[expected] += 1
        self.assertGreater(min(told.values()), 3)

    def test_truths_are_no_counts(self):
        one = (staffs_at("b", "b", "b"), (("p", "a", ("b",)),))
        self.tells(is_reason(LINE, one, ("passes", ("a", "b"), 0, 1)), True)
        for counts in ((False, 1), (0, True), (False, True)):
            self.tells(is_reason(LINE, one, ("passes", ("a", "b"), *counts)), False, counts)

    def test_sections_that_fit(self):
        standing = (staffs_at("a", "b", "b"), (("p", "a", ("b", "a", "b")), ("q", "d", ("b",))))
        self.tells(is_reason(LINE, standing, ("passes", ("a", "b"), 2, 1)), False)
        self.tells(is_reason(LINE, standing, ("passes", ("b", "c"), 0, 0)), False)
        self.tells(is_reason(LINE, standing, ("passes", ("b", "d"), 0, 1)), True)
        self.tells(is_reason(LINE, standing, ("passes", ("b", "d"), 1, 0)), False)
        self.tells(is_reason(LINE, standing, None), False)


class Reached(Checks, unittest.TestCase):
    def test_small_lines(self):
        most = 0
        for line, standing in small_standings(87, 600):
            found = helper.all_reached(line, standing, 2000)
            self.assertEqual(reached(line, standing), tuple(sorted(found)))
            home = any(helper.is_home(at) for at in found)
            self.tells(is_safe_slowly(line, standing), home)
            self.tells(is_safe(line, standing), home)
            most = max(most, len(found))
        self.assertGreater(most, 300)

    def test_just_at_the_most(self):
        sizes = [((7, 9, 24), 2000), ((39, 1, 24), 2000), ((36, 26, 1), 1998), ((), 1), ((4, 4, 4, 4, 1, 0), 1250)]
        for stops, many in sizes:
            line, standing = walkers(*stops)
            with self.within(10):
                self.assertEqual(len(reached(line, standing)), many)
                self.tells(is_safe_slowly(line, standing), True)

    def test_just_above_and_far_above(self):
        for stops in ((2, 22, 28), (1, 6, 10, 12), (1,) * 11, (40, 40, 1), (1,) * 24, (20,) * 24, (40,) * 12):
            line, standing = walkers(*stops)
            with self.within(10):
                with self.raises(errors.TooMany, most=2000):
                    reached(line, standing)
                with self.raises(errors.TooMany, most=2000):
                    is_safe_slowly(line, standing)

    def test_however_great_the_product_is(self):
        line = (("a", "b", "c"), (("a", "b", "staff"), ("b", "c", "free")))
        trains = [(helper.station_name(index) + "x", "a", ("b", "a") * 10) for index in range(24)]
        standing = (((("a", "b"), "b"),), tuple(sorted(trains)))
        with self.within(10):
            self.assertEqual(reached(line, standing), (standing,))
            self.tells(is_safe_slowly(line, standing), False)
        walking = [("p", "c", ("b", "c") * 12), ("q", "c", ("b", "c") * 6)]
        standing = (standing[0], tuple(sorted(trains[:22] + walking)))
        with self.within(10):
            self.assertEqual(len(reached(line, standing)), 25 * 13)
            self.tells(is_safe_slowly(line, standing), False)

    def test_at_the_bounds(self):
        dice = random.Random(801)
        for line in helper.sample_lines():
            for trains, longest in ((24, 20), (12, 40)):
                standing = helper.random_standing(dice, line, trains, longest)
                expected = helper.all_reached(line, standing, 2000)
                with self.within(10):
                    if expected is None:
                        with self.raises(errors.TooMany, most=2000):
                            reached(line, standing)
                    else:
                        self.assertEqual(reached(line, standing), tuple(sorted(expected)))

    def test_what_is_handed_in_stays(self):
        for line, standing in small_standings(89, 50):
            shown = repr((line, standing))
            for ask in (reason, is_safe, reached, is_safe_slowly):
                self.assertEqual(ask(line, standing), ask(line, standing))
            self.assertEqual(repr((line, standing)), shown)


if __name__ == "__main__":
    unittest.main()
