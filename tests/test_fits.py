"""Point [19], and what [5] and [6] say of FITS."""

import random
import unittest

import helper
from helper import Checks, behind, keys_of_sort, plain_counts, sample_standings
from staffhome.fits import counts, does_fit, overfull, staffs_at_home, turns

LINE = (("a", "b", "c", "d"), (("a", "b", "staff"), ("b", "c", "ticket"), ("b", "d", "free")))


def by_turns(a, b):
    """How many of a and b can be taken away by turns, the first one of a."""
    gone = 0
    while (a, b)[gone % 2] > 0:
        a, b = (a - 1, b) if gone % 2 == 0 else (a, b - 1)
        gone += 1
    return gone


def crowd(staff, a, b):
    """A STANDING with so many trains that go from a to b, and from b to a."""
    trains = [(f"p{'x' * k}", "a", ("b",)) for k in range(a)] + [(f"q{'x' * k}", "b", ("a",)) for k in range(b)]
    return (((("a", "b"), staff), (("b", "c"), "c")), tuple(sorted(trains)))


class Counts(Checks, unittest.TestCase):
    def test_each_two_counts(self):
        key = ("a", "b")
        for a in range(6):
            for b in range(6):
                for staff, near, away in (("a", a, b), ("b", b, a)):
                    standing = crowd(staff, a, b)
                    fits = near - away in (0, 1)
                    self.assertEqual(counts(LINE, standing, key), (near, away))
                    self.tells(does_fit(LINE, standing, key), fits, near, away)
                    self.assertEqual(overfull(LINE, standing), () if fits else (key,))
                    self.assertEqual(turns(LINE, standing, key), by_turns(near, away))
                    if fits:
                        end = staff if near == away else {"a": "b", "b": "a"}[staff]
                        self.assertEqual(staffs_at_home(LINE, standing), {key: end})

    def test_samples(self):
        for line, standing in sample_standings():
            bad = []
            for key in keys_of_sort(line, "staff", "ticket"):
                a, b = plain_counts(standing, key)
                self.assertEqual(counts(line, standing, key), (a, b))
                if key in keys_of_sort(line, "staff"):
                    self.tells(does_fit(line, standing, key), a - b in (0, 1))
                    self.assertEqual(turns(line, standing, key), by_turns(a, b))
                    if a - b not in (0, 1):
                        bad.append(key)
            self.assertEqual(overfull(line, standing), tuple(bad))

    def test_tickets_never_are_overfull(self):
        standing = (((("a", "b"), "a"), (("b", "c"), "c")), (("p", "b", ("c",)), ("q", "b", ("c",))))
        self.assertEqual(counts(LINE, standing, ("b", "c")), (0, 2))
        self.assertEqual(overfull(LINE, standing), ())
        self.assertEqual(staffs_at_home(LINE, standing), {("a", "b"): "a"})

    def test_a_train_that_goes_there_and_back(self):
        for passes in range(12):
            rest = (("b", "a") * 6)[:passes]
            standing = (((("a", "b"), "a"), (("b", "c"), "c")), (("p", "a", rest),))
            self.assertEqual(counts(LINE, standing, ("a", "b")), ((passes + 1) // 2, passes // 2))
            self.tells(does_fit(LINE, standing, ("a", "b")), True)
            self.assertEqual(turns(LINE, standing, ("a", "b")), passes)
            self.assertEqual(staffs_at_home(LINE, standing), {("a", "b"): "ab"[passes % 2]})

    def test_keys_of_staffs_at_home_ascend(self):
        line = helper.star_line(24, ("staff", "ticket", "staff", "free"))
        staffs = tuple((row[:2], row[1]) for row in line[1] if row[2] != "free")
        at_home = staffs_at_home(line, (staffs, ()))
        self.assertEqual(list(at_home), keys_of_sort(line, "staff"))
        self.assertEqual(at_home, {key: key[1] for key in keys_of_sort(line, "staff")})

    def test_without_sections(self):
        self.assertEqual(overfull((("a",), ()), ((), ())), ())
        self.assertEqual(staffs_at_home((("a",), ()), ((), (("p", "a", ()),))), {})


class Behind(Checks, unittest.TestCase):
    def test_what_fits_goes_on_to_fit(self):
        dice = random.Random(61)
        gone = 0
        for line, standing in sample_standings(5):
            for _ in range(25):
                moves = [(train[0], how) for train in standing[1] for how in helper.SORTS]
                laters = [later for later in (behind(line, standing, move) for move in moves) if later is not None]
                for later in laters:
                    self.assertLessEqual(set(overfull(line, later)), set(overfull(line, standing)))
                    for key in keys_of_sort(line, "staff"):
                        if does_fit(line, standing, key):
                            self.tells(does_fit(line, later, key), True)
                            gone += plain_counts(later, key) != plain_counts(standing, key)
                if not laters:
                    break
                standing = dice.choice(laters)
        self.assertGreater(gone, 100)

    def test_staffs_at_home_by_whatever_row(self):
        dice = random.Random(63)
        homes = 0
        for line in helper.sample_lines():
            if len(line[0]) > 8:
                continue
            for _ in range(40):
                standing = helper.random_standing(dice, line, dice.randint(1, 3), 4)
                if overfull(line, standing):
                    continue
                told = staffs_at_home(line, standing)
                row, standings = helper.random_row(dice, line, standing, 480)
                for later in standings:
                    self.assertEqual(staffs_at_home(line, later), told)
                if all(rest == () for _, _, rest in standings[-1][1]):
                    homes += len(row) > 0
                    self.assertEqual({key: dict(standings[-1][0])[key] for key in told}, told)
        self.assertGreater(homes, 20)

    def test_no_row_has_more_turns(self):
        dice = random.Random(65)
        for line, standing in sample_standings(9):
            most = {key: turns(line, standing, key) for key in keys_of_sort(line, "staff")}
            _, standings = helper.random_row(dice, line, standing, 480)
            for key in most:
                left = [sum(plain_counts(at, key)) for at in (standings[0], standings[-1])]
                self.assertLessEqual(left[0] - left[1], most[key])
                self.assertEqual(turns(line, standings[-1], key), most[key] - (left[0] - left[1]))

    def test_what_is_told_may_be_changed(self):
        standing = crowd("a", 1, 1)
        told = staffs_at_home(LINE, standing)
        told[("a", "b")] = "x"
        told[("b", "c")] = "c"
        self.assertEqual(staffs_at_home(LINE, standing), {("a", "b"): "a"})

    def test_what_is_handed_in_stays(self):
        for line, standing in sample_standings():
            shown = repr((line, standing))
            overfull(line, standing)
            for key in keys_of_sort(line, "staff"):
                self.assertEqual(counts(line, standing, key), counts(line, standing, key))
                turns(line, standing, key)
            self.assertEqual(repr((line, standing)), shown)


if __name__ == "__main__":
    unittest.main()
