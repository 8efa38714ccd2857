"""Point [22], by the definition of SHUT in [2]."""

import random
import unittest

import helper
from helper import Checks, any_values, exchanged, sample_standings, small_standings, wide_standings
from staffhome.shut import is_shut, shut_part, shut_parts

LINE = (("a", "b", "c", "d"), (("a", "b", "staff"), ("b", "c", "ticket"), ("b", "d", "free")))


def staffs_at(staff, ticket):
    return ((("a", "b"), staff), (("b", "c"), ticket))


# Each of both trains stands behind the staff that the other one needs.
STUCK = (staffs_at("b", "b"), (("p", "a", ("b", "c")), ("q", "c", ("b", "a"))))


def pieces(line, standing):
    """The PARTS that are left without the sections of held, told by the ways between stations."""
    passed, _ = helper.open_end(random.Random(1), line, standing)
    keys = helper.keys_of_sort(line, "staff", "ticket")
    lot = [key for key in keys if key in helper.needed_keys(standing) and key not in passed]
    found = set()
    for one in line[0]:
        ways = [helper.the_path(line, one, other) for other in line[0]]
        free = [path for path in ways if not {helper.key_of(*step) for step in zip(path, path[1:])} & set(lot)]
        found.add(tuple(sorted(path[-1] for path in free)))
    return found


class IsShut(Checks, unittest.TestCase):
    def test_each_part_of_small_lines(self):
        answers = {True: 0, False: 0}
        for line, standing in small_standings(61, 500):
            for part in helper.all_parts(line):
                expected = helper.is_shut(line, standing, part)
                self.tells(is_shut(line, standing, part), expected, line, standing, part)
                answers[expected] += 1
        self.assertGreater(min(answers.values()), 100)

    def test_by_hand(self):
        self.tells(is_shut(LINE, STUCK, ("b", "d")), True)
        self.tells(is_shut(LINE, STUCK, ("b",)), True)
        self.tells(is_shut(LINE, STUCK, ("a", "b", "d")), False)
        self.tells(is_shut(LINE, STUCK, ("a",)), False)

    def test_no_needed_border(self):
        self.tells(is_shut(LINE, STUCK, LINE[0]), False)
        self.tells(is_shut(LINE, STUCK, ("d",)), False)
        home = (staffs_at("b", "b"), (("p", "a", ()),))
        for part in helper.all_parts(LINE):
            self.tells(is_shut(LINE, home, part), False)

    def test_a_free_border_that_is_needed(self):
        standing = (STUCK[0], STUCK[1] + (("r", "d", ("b",)),))
        self.tells(is_shut(LINE, standing, ("b",)), False)
        self.tells(is_shut(LINE, standing, ("b", "d")), True)

    def test_a_border_that_is_not_needed_is_not_asked(self):
        standing = (staffs_at("b", "c"), (("p", "a", ("b",)),))
        self.tells(is_shut(LINE, standing, ("b",)), True)
        self.tells(is_shut(LINE, standing, ("b", "c", "d")), True)
        self.tells(is_shut(LINE, (staffs_at("a", "c"), standing[1]), ("b",)), False)

    def test_whoever_goes_out_at_last(self):
        inside = (STUCK[0], STUCK[1] + (("r", "b", ("d", "b", "d")),))
        self.tells(is_shut(LINE, inside, ("b", "d")), True)
        for rest in (("a",), ("c", "b"), ("d", "b", "d", "b", "c", "b")):
            self.tells(is_shut(LINE, (STUCK[0], STUCK[1] + (("r", "b", rest),)), ("b", "d")), False)

    def test_any_value(self):
        for thing in any_values():
            expected = helper.is_shut(LINE, STUCK, thing)
            self.tells(is_shut(LINE, STUCK, thing), expected, thing)
        for thing in (("d", "b"), ("b", "b"), ("b", "d", "d"), ["b", "d"], ("b", "x"), ("a", "d"), (), "b", "bd", None):
            self.tells(is_shut(LINE, STUCK, thing), False, thing)

    def test_nearly_the_part(self):
        shut_too = 0
        for thing in exchanged(("b", "d"), [None, True, 0, "a", "b", "c", "d", "bd", ("b",), ["b"], (), "x"]):
            expected = helper.is_shut(LINE, STUCK, thing)
            self.tells(is_shut(LINE, STUCK, thing), expected, thing)
            shut_too += expected
        self.assertGreater(shut_too, 0)

    def test_parts_that_do_not_hang_together(self):
        line = (("a", "b", "c"), (("a", "b", "staff"), ("b", "c", "staff")))
        standing = (((("a", "b"), "a"), (("b", "c"), "c")), (("p", "b", ("a",)), ("q", "b", ("c",))))
        self.tells(is_shut(line, standing, ("a",)), True)
        self.tells(is_shut(line, standing, ("c",)), True)
        self.tells(is_shut(line, standing, ("a", "c")), False)


class ShutPart(Checks, unittest.TestCase):
    def test_by_hand(self):
        self.assertEqual(shut_part(LINE, STUCK), ("b", "d"))
        self.assertEqual(shut_parts(LINE, STUCK), (("b",), ("b", "d")))
        self.assertIsNone(shut_part(LINE, (staffs_at("a", "b"), STUCK[1])))
        self.assertEqual(shut_parts(LINE, (staffs_at("a", "b"), STUCK[1])), ())
        self.assertIsNone(shut_part((("a",), ()), ((), ())))
        self.assertEqual(shut_parts((("a",), ()), ((), (("p", "a", ()),))), ())

    def test_it_is_one_of_the_pieces(self):
        dice = random.Random(601)
        told = {True: 0, False: 0}
        for line, standing in list(sample_standings(63)) + list(small_standings(65, 500)):
            part = shut_part(line, standing)
            home = all(rest == () for _, _, rest in helper.open_end(dice, line, standing)[1])
            self.tells(part is None, home, line, standing)
            told[home] += 1
            if part is not None:
                self.tells(is_shut(line, standing, part), True)
                self.tells(helper.is_shut(line, standing, part), True, line, standing, part)
                self.assertIn(part, pieces(line, standing))
        self.assertGreater(min(told.values()), 100)

    def test_staffs_that_point_along_a_row(self):
        """The staffs lead from piece to piece to the one end, or the other one, or into the middle."""
        line = helper.row_line(24, ("staff",))
        names = [helper.station_name(index) for index in range(24)]
        for middle in range(24):
            staffs = []
            trains = []
            for one, other in zip(names, names[1:]):
                near, away = (other, one) if names.index(one) < middle else (one, other)
                staffs.append((helper.key_of(one, other), near))
                trains.append((f"{one}x", away, (near,)))
            standing = (tuple(sorted(staffs)), tuple(sorted(trains)))
            self.assertEqual(shut_part(line, standing), (names[middle],))

    def test_all_of_small_lines(self):
        several = 0
        for line, standing in small_standings(67, 500):
            expected = [part for part in helper.all_parts(line) if helper.is_shut(line, standing, part)]
            self.assertEqual(shut_parts(line, standing), tuple(expected))
            several += len(expected) > 1
        self.assertGreater(several, 50)

    def test_all_of_twelve_stations(self):
        dice = random.Random(603)
        for line in (helper.row_line(12, ("staff",)), helper.star_line(12, ("staff",)), helper.star_line(12)):
            for _ in range(2):
                standing = helper.random_standing(dice, line, 12, 3)
                with self.within(10):
                    told = shut_parts(line, standing)
                expected = [part for part in helper.all_parts(line) if helper.is_shut(line, standing, part)]
                self.assertEqual(told, tuple(expected))

    def test_at_the_bounds(self):
        dice = random.Random(605)
        for line, standing, _ in wide_standings(69):
            with self.within(5):
                self.assertIsNone(shut_part(line, standing))
            turned = tuple((key, key[key[0] == near]) for key, near in standing[0])
            with self.within(5):
                part = shut_part(line, (turned, standing[1]))
                is_shut(line, (turned, standing[1]), part)
            trains = helper.open_end(dice, line, (turned, standing[1]))[1]
            self.tells(part is None, all(rest == () for _, _, rest in trains))

    def test_what_is_handed_in_stays(self):
        for line, standing in sample_standings(71):
            shown = repr((line, standing))
            self.assertEqual(shut_part(line, standing), shut_part(line, standing))
            self.assertIs(is_shut(line, standing, line[0][:1]), is_shut(line, standing, line[0][:1]))
            if len(line[0]) <= 8:
                self.assertEqual(shut_parts(line, standing), shut_parts(line, standing))
            self.assertEqual(repr((line, standing)), shown)


if __name__ == "__main__":
    unittest.main()
