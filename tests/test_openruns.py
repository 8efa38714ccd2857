"""Point [20], by the definition of the OPEN RUN in [2]."""

import random
import unittest

import helper
from helper import Checks, keys_of, open_end, sample_standings, small_standings, wide_standings
from staffhome.openruns import comes_out, open_run, opening, run_alone

LINE = (("a", "b", "c", "d"), (("a", "b", "staff"), ("b", "c", "ticket"), ("b", "d", "free")))


def staffs_at(staff, ticket):
    return ((("a", "b"), staff), (("b", "c"), ticket))


def plain_opening(line, standing):
    """The sections in the order in which they are passed first, the trains going on in the order told."""
    staffs, found = dict(standing[0]), {}
    trains = {name: [place, list(rest)] for name, place, rest in standing[1]}
    going = True
    while going:
        going = False
        for name in sorted(trains):
            train = trains[name]
            while train[1]:
                key = helper.key_of(train[0], train[1][0])
                if key in staffs and key not in found and staffs[key] != train[0]:
                    break
                found.setdefault(key, name)
                train[0] = train[1].pop(0)
                going = True
    return tuple(found.items())


def random_part(dice, line):
    """A PART of so many stations as it happens."""
    part = {dice.choice(line[0])}
    for _ in range(dice.randint(0, len(line[0]))):
        nexts = [set(key) - part for key in keys_of(line) if len(set(key) & part) == 1]
        if nexts:
            part |= dice.choice(nexts)
    return tuple(sorted(part))


class OpenRun(Checks, unittest.TestCase):
    def test_whose_staff_lies_here(self):
        for staff, passed in (("a", (("a", "b"),)), ("b", ())):
            standing = (staffs_at(staff, "b"), (("p", "a", ("b",)),))
            trains = (("p", "b", ()),) if passed else standing[1]
            self.assertEqual(open_run(LINE, standing), (passed, trains))

    def test_tickets_are_like_staffs(self):
        for staff, passed in (("c", (("b", "c"),)), ("b", ())):
            standing = (staffs_at("a", staff), (("p", "c", ("b",)),))
            trains = (("p", "b", ()),) if passed else standing[1]
            self.assertEqual(open_run(LINE, standing), (passed, trains))

    def test_free_sections_are_told_too(self):
        standing = (staffs_at("a", "c"), (("p", "d", ("b", "c")), ("q", "a", ())))
        self.assertEqual(open_run(LINE, standing), ((("b", "d"),), (("p", "b", ("c",)), ("q", "a", ()))))

    def test_what_was_passed_lies_open_to_all(self):
        trains = (("p", "a", ("b",)), ("q", "a", ("b",)), ("r", "b", ("a", "b", "a")), ("s", "b", ("a",)))
        standing = (staffs_at("a", "b"), trains)
        ends = (("p", "b", ()), ("q", "b", ()), ("r", "a", ()), ("s", "a", ()))
        self.assertEqual(open_run(LINE, standing), ((("a", "b"),), ends))

    def test_nobody(self):
        self.assertEqual(open_run(LINE, (staffs_at("a", "b"), ())), ((), ()))
        self.assertEqual(open_run((("a",), ()), ((), (("p", "a", ()),))), ((), (("p", "a", ()),)))
        self.assertEqual(opening((("a",), ()), ((), ())), ())

    def test_in_whatever_order_trains_go_on(self):
        dice = random.Random(201)
        stuck = 0
        for line, standing in list(sample_standings(11)) + list(small_standings(21, 400)):
            told = open_run(line, standing)
            for _ in range(3):
                self.assertEqual(open_end(dice, line, standing), told)
            stuck += any(rest for _, _, rest in told[1])
        self.assertGreater(stuck, 100)

    def test_opening(self):
        most = 0
        for line, standing in list(sample_standings(12)) + list(small_standings(22, 400)):
            told = opening(line, standing)
            self.assertEqual(told, plain_opening(line, standing))
            self.assertEqual(tuple(sorted(key for key, _ in told)), open_run(line, standing)[0])
            most = max(most, len(told))
        self.assertGreater(most, 10)

    def test_opening_in_more_than_one_round(self):
        trains = (("p", "a", ("b",)), ("q", "c", ("b", "a")), ("r", "d", ("b", "c")))
        standing = (staffs_at("b", "b"), trains)
        self.assertEqual(opening(LINE, standing), ((("b", "d"), "r"), (("b", "c"), "r"), (("a", "b"), "q")))


class Alone(Checks, unittest.TestCase):
    def test_all_parts_of_small_lines(self):
        dice = random.Random(203)
        out = 0
        for line, standing in small_standings(23, 150):
            for part in helper.all_parts(line):
                told = run_alone(line, standing, part)
                self.assertEqual(told, open_end(dice, line, standing, part)[1])
                out += any(place not in part and rest for _, place, rest in told)
            self.assertEqual(run_alone(line, standing, line[0]), open_run(line, standing)[1])
        self.assertGreater(out, 100)

    def test_parts_of_all_sizes(self):
        dice = random.Random(205)
        for line, standing in sample_standings(13):
            for _ in range(5):
                part = random_part(dice, line)
                self.assertEqual(run_alone(line, standing, part), open_end(dice, line, standing, part)[1])

    def test_who_goes_out_stays_outside(self):
        standing = (staffs_at("b", "b"), (("p", "b", ("a", "b", "d")),))
        self.assertEqual(run_alone(LINE, standing, ("b", "d")), (("p", "a", ("b", "d")),))
        self.assertEqual(run_alone(LINE, standing, ("a", "b", "d")), (("p", "d", ()),))

    def test_others_neither_come_in_nor_help(self):
        trains = (("p", "a", ("b",)), ("q", "b", ("a",)), ("r", "d", ("b", "a", "b")))
        standing = (staffs_at("b", "b"), trains)
        self.assertEqual(run_alone(LINE, standing, ("a",)), (trains[0],))
        self.assertEqual(run_alone(LINE, standing, ("a", "b")), (("p", "b", ()), ("q", "a", ())))
        self.assertEqual(run_alone(LINE, standing, ("d",)), (("r", "b", ("a", "b")),))
        self.assertEqual(run_alone(LINE, standing, ("c",)), ())

    def test_the_border_lies_open_to_those_behind(self):
        trains = (("p", "b", ("a",)), ("q", "b", ("a",)), ("r", "b", ("c",)))
        standing = (staffs_at("b", "c"), trains)
        self.assertEqual(run_alone(LINE, standing, ("b",)), (("p", "a", ()), ("q", "a", ()), ("r", "b", ("c",))))

    def test_comes_out_both_ways(self):
        dice = random.Random(207)
        answers = {True: 0, False: 0}
        for line, standing in list(sample_standings(14)) + list(small_standings(24, 200)):
            for key in keys_of(line):
                for one, other in (key, key[::-1]):
                    part = helper.part_beyond(line, one, other)
                    out = any(place == one for _, place, _ in open_end(dice, line, standing, part)[1])
                    self.tells(comes_out(line, standing, one, other), out, line, standing, one, other)
                    answers[out] += 1
        self.assertGreater(min(answers.values()), 300)

    def test_comes_out_asks_for_the_staff_only_from_inside(self):
        for staff, out in (("a", False), ("b", True)):
            standing = (staffs_at(staff, "b"), (("p", "a", ("b", "a")), ("q", "d", ("b", "a"))))
            self.tells(comes_out(LINE, standing, "a", "b"), out)
            self.tells(comes_out(LINE, standing, "b", "a"), not out)
        self.tells(comes_out(LINE, (staffs_at("b", "b"), (("p", "a", ("b", "a")),)), "a", "b"), False)


class All(Checks, unittest.TestCase):
    def test_at_the_bounds(self):
        for line, standing, row in wide_standings(31):
            self.assertEqual(len(row), 480)
            with self.within(5):
                passed, trains = open_run(line, standing)
                self.assertEqual(tuple(sorted(key for key, _ in opening(line, standing))), passed)
                for key in keys_of(line):
                    comes_out(line, standing, *key)
                    run_alone(line, standing, key)
            self.assertTrue(all(rest == () for _, _, rest in trains))
            self.assertEqual(set(passed), helper.needed_keys(standing))

    def test_what_is_handed_in_stays(self):
        for line, standing in sample_standings(15):
            shown = repr((line, standing))
            for ask in (open_run, opening):
                self.assertEqual(ask(line, standing), ask(line, standing))
            for key in keys_of(line):
                self.assertEqual(run_alone(line, standing, key), run_alone(line, standing, key))
                self.assertIs(comes_out(line, standing, *key), comes_out(line, standing, *key))
            self.assertEqual(repr((line, standing)), shown)


if __name__ == "__main__":
    unittest.main()
