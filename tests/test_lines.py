"""Points [13] and [14]."""

import copy
import itertools
import random
import unittest

import helper
from helper import Checks, the_path
from staffhome import errors
from staffhome.lines import (
    beyond, border, cut, inner, key_of, keys_of, least_part, line_fault, made_line, neighbours, section, sort_of, way,
)

# Where b, e are branchings: a - b - c, b - d - e, e - f, e - g.
LINE = (
    ("a", "b", "c", "d", "e", "f", "g"),
    (
        ("a", "b", "staff"), ("b", "c", "ticket"), ("b", "d", "free"), ("d", "e", "staff"), ("e", "f", "staff"),
        ("e", "g", "ticket"),
    ),
)


def all_paths_of(line):
    """The dict from pairs of stations to the path between them, with both ends."""
    return {(one, other): the_path(line, one, other) for one in line[0] for other in line[0]}


class Sections(Checks, unittest.TestCase):
    def test_key_of(self):
        self.assertEqual(key_of("a", "b"), ("a", "b"))
        self.assertEqual(key_of("b", "a"), ("a", "b"))
        self.assertEqual(key_of("ab", "b"), ("ab", "b"))
        self.assertEqual(key_of("b", "ab"), ("ab", "b"))
        self.assertEqual(key_of("ab", "a"), ("a", "ab"))
        self.assertEqual(key_of("z" * 12, "z" * 11), ("z" * 11, "z" * 12))

    def test_section_of_any_two_stations(self):
        for line in helper.sample_lines():
            rows = {frozenset(row[:2]): row for row in line[1]}
            for one in line[0]:
                for other in line[0]:
                    self.assertEqual(section(line, one, other), rows.get(frozenset((one, other))))

    def test_sections_are_tuples(self):
        self.assertEqual(section(LINE, "d", "b"), ("b", "d", "free"))
        self.assertEqual(section(LINE, "b", "d"), ("b", "d", "free"))
        self.assertIsNone(section(LINE, "a", "c"))
        self.assertIsNone(section(LINE, "a", "a"))

    def test_sorts_and_keys(self):
        for line in helper.sample_lines():
            self.assertEqual(keys_of(line), tuple(row[:2] for row in line[1]))
            self.assertEqual([sort_of(line, key) for key in keys_of(line)], [row[2] for row in line[1]])
        self.assertEqual(keys_of((("a",), ())), ())

    def test_neighbours(self):
        self.assertEqual(neighbours(LINE, "b"), ("a", "c", "d"))
        self.assertEqual(neighbours(LINE, "e"), ("d", "f", "g"))
        self.assertEqual(neighbours(LINE, "c"), ("b",))
        self.assertEqual(neighbours((("a",), ()), "a"), ())
        for line in helper.sample_lines():
            for station in line[0]:
                expected = [other for other in line[0] if tuple(sorted((station, other))) in helper.keys_of(line)]
                self.assertEqual(neighbours(line, station), tuple(expected))


class Ways(Checks, unittest.TestCase):
    def test_way(self):
        self.assertEqual(way(LINE, "a", "g"), ("b", "d", "e", "g"))
        self.assertEqual(way(LINE, "g", "a"), ("e", "d", "b", "a"))
        self.assertEqual(way(LINE, "a", "b"), ("b",))
        self.assertEqual(way(LINE, "d", "d"), ())
        self.assertEqual(way((("a",), ()), "a", "a"), ())

    def test_all_ways(self):
        for line in helper.sample_lines():
            for (one, other), path in all_paths_of(line).items():
                self.assertEqual(way(line, one, other), path[1:])

    def test_beyond(self):
        self.assertEqual(beyond(LINE, "b", "d"), ("d", "e", "f", "g"))
        self.assertEqual(beyond(LINE, "d", "b"), ("a", "b", "c"))
        self.assertEqual(beyond(LINE, "e", "f"), ("f",))
        for line in helper.sample_lines():
            paths = all_paths_of(line)
            for key in helper.keys_of(line):
                for one, other in (key, key[::-1]):
                    expected = tuple(station for station in line[0] if paths[one, station][1:2] == (other,))
                    self.assertEqual(beyond(line, one, other), expected)
                    self.assertEqual(tuple(sorted(expected + beyond(line, other, one))), line[0])

    def test_least_part(self):
        self.assertEqual(least_part(LINE, ["c", "f"]), ("b", "c", "d", "e", "f"))
        self.assertEqual(least_part(LINE, ("f", "g", "f")), ("e", "f", "g"))
        self.assertEqual(least_part(LINE, ["e", "e"]), ("e",))
        self.assertEqual(least_part(LINE, ("g", "c", "f", "a")), ("a", "b", "c", "d", "e", "f", "g"))
        self.assertEqual(least_part((("a",), ()), ["a"]), ("a",))

    def test_least_part_is_the_least_part(self):
        dice = random.Random(1)
        for line in helper.sample_lines():
            if len(line[0]) > 8:
                continue
            subsets = [chosen for size in range(1, len(line[0]) + 1) for chosen in itertools.combinations(line[0], size)]
            parts = [part for part in subsets if helper.is_part(line, part)]
            for _ in range(20):
                stations = [dice.choice(line[0]) for _ in range(dice.randint(1, 6))]
                expected = min((part for part in parts if set(stations) <= set(part)), key=len)
                self.assertEqual(least_part(line, stations), expected)
                self.assertEqual(least_part(line, tuple(stations)), expected)

    def test_least_part_of_large_lines(self):
        dice = random.Random(2)
        for line in helper.sample_lines()[-4:]:
            paths = all_paths_of(line)
            for count in (1, 2, 3, 5, 40):
                stations = [dice.choice(line[0]) for _ in range(count)]
                given = list(stations)
                expected = {stop for one in stations for other in stations for stop in paths[one, other]}
                self.assertEqual(least_part(line, stations), tuple(sorted(expected)))
                self.assertEqual(stations, given)


class PartsAndLots(Checks, unittest.TestCase):
    def parts(self, dice, line):
        """Some PARTS of a LINE: single stations, all of it, and some between."""
        paths = all_paths_of(line)
        found = [(station,) for station in line[0][:3]] + [line[0]]
        for _ in range(12):
            ends = [dice.choice(line[0]) for _ in range(dice.randint(2, 4))]
            found.append(tuple(sorted({stop for one in ends for other in ends for stop in paths[one, other]})))
        return found

    def test_border_and_inner(self):
        dice = random.Random(4)
        for line in helper.sample_lines():
            for part in self.parts(dice, line):
                ends = [(key, len([end for end in key if end in part])) for key in helper.keys_of(line)]
                self.assertEqual(border(line, part), tuple(key for key, inside in ends if inside == 1))
                self.assertEqual(inner(line, part), tuple(key for key, inside in ends if inside == 2))

    def test_borders_told(self):
        self.assertEqual(border(LINE, ("b", "d")), (("a", "b"), ("b", "c"), ("d", "e")))
        self.assertEqual(inner(LINE, ("b", "d")), (("b", "d"),))
        self.assertEqual(border(LINE, ("f",)), (("e", "f"),))
        self.assertEqual(inner(LINE, ("f",)), ())
        self.assertEqual(border(LINE, LINE[0]), ())
        self.assertEqual(inner(LINE, LINE[0]), keys_of(LINE))
        self.assertEqual(border((("a",), ()), ("a",)), ())

    def test_cut_told(self):
        self.assertEqual(cut(LINE, ()), (LINE[0],))
        self.assertEqual(cut(LINE, keys_of(LINE)), tuple((station,) for station in LINE[0]))
        self.assertEqual(cut(LINE, (("b", "d"), ("e", "f"))), (("a", "b", "c"), ("d", "e", "g"), ("f",)))
        self.assertEqual(cut((("a",), ()), ()), (("a",),))

    def test_cut(self):
        dice = random.Random(6)
        for line in helper.sample_lines():
            paths = all_paths_of(line)
            keys = helper.keys_of(line)
            for _ in range(12):
                lot = tuple(sorted(dice.sample(keys, dice.randint(0, len(keys)))))
                parts = set()
                for one in line[0]:
                    parts.add(tuple(other for other in line[0] if self.joined(paths[one, other], lot)))
                self.assertEqual(cut(line, lot), tuple(sorted(parts)))

    def joined(self, path, lot):
        return not any(tuple(sorted(step)) in lot for step in zip(path, path[1:]))

    def test_asked_again(self):
        shown = repr(LINE)
        for _ in range(2):
            self.assertEqual(way(LINE, "c", "f"), ("b", "d", "e", "f"))
            self.assertEqual(beyond(LINE, "d", "e"), ("e", "f", "g"))
            self.assertEqual(cut(LINE, (("d", "e"),)), (("a", "b", "c", "d"), ("e", "f", "g")))
            self.assertEqual(least_part(LINE, ["a", "c"]), ("a", "b", "c"))
            self.assertEqual(section(LINE, "g", "e"), ("e", "g", "ticket"))
        self.assertEqual(repr(LINE), shown)


def plain_fault(stations, sections):
    """line_fault as the document tells it, step by step."""
    if not stations:
        return ("none",)
    for name in sorted(stations):
        if list(stations).count(name) > 1:
            return ("twice", name)
    for name in sorted(end for row in sections for end in row[:2]):
        if name not in stations:
            return ("unknown", name)
    for name in sorted(stations):
        if any(row[0] == row[1] == name for row in sections):
            return ("same", name)
    keys = sorted(tuple(sorted(row[:2])) for row in sections)
    for key in keys:
        if keys.count(key) > 1:
            return ("double", key)
    for at, (one, other) in enumerate(keys):
        for path in helper.all_paths(keys[:at], one, other):
            return ("ring", path)
    part = tuple(name for name in sorted(stations) if helper.all_paths(keys, min(stations), name))
    return None if len(part) == len(stations) else ("apart", part)


class Faults(Checks, unittest.TestCase):
    def fault(self, stations, sections, expected):
        """The fault is told, whatever the order, of lists and tuples, and the input stays."""
        dice = random.Random(9)
        stations, sections = list(stations), list(sections)
        for _ in range(8):
            dice.shuffle(stations)
            dice.shuffle(sections)
            turned = [row if dice.random() < 0.5 else (row[1], row[0], row[2]) for row in sections]
            given = copy.deepcopy((stations, turned))
            self.assertEqual(line_fault(stations, turned), expected)
            self.assertEqual(line_fault(tuple(stations), tuple(turned)), expected)
            self.assertEqual((stations, turned), given)
            if expected is not None:
                with self.raises(errors.NoLine, fault=expected):
                    made_line(stations, turned)

    def test_none(self):
        self.fault([], [], ("none",))
        self.fault([], [("a", "b", "free")], ("none",))
        self.fault([], [("a", "a", "free"), ("a", "a", "staff")], ("none",))

    def test_twice(self):
        self.fault(["a", "a"], [], ("twice", "a"))
        self.fault(["c", "b", "c", "b", "a"], [], ("twice", "b"))
        self.fault(["b", "b", "b", "a"], [], ("twice", "b"))
        self.fault(["ab", "a", "ab", "b", "b"], [("x", "y", "free")], ("twice", "ab"))

    def test_unknown(self):
        self.fault(["a"], [("a", "x", "free")], ("unknown", "x"))
        self.fault(["b"], [("b", "y", "free"), ("z", "b", "free"), ("b", "c", "free")], ("unknown", "c"))
        self.fault(["b"], [("a", "b", "free")], ("unknown", "a"))
        self.fault(["b"], [("c", "d", "free"), ("b", "b", "free")], ("unknown", "c"))
        self.fault(["b"], [("x", "x", "free")], ("unknown", "x"))
        self.fault(["a", "b"], [("a", "b", "free"), ("a", "b", "free"), ("b", "c", "free")], ("unknown", "c"))

    def test_same(self):
        self.fault(["a"], [("a", "a", "free")], ("same", "a"))
        self.fault(["a", "b", "c"], [("c", "c", "free"), ("b", "b", "staff")], ("same", "b"))
        self.fault(["a", "b"], [("b", "b", "free"), ("b", "b", "free")], ("same", "b"))
        self.fault(["a", "b"], [("a", "b", "free"), ("a", "b", "free"), ("b", "b", "free")], ("same", "b"))

    def test_double(self):
        self.fault(["a", "b"], [("a", "b", "free"), ("a", "b", "free")], ("double", ("a", "b")))
        self.fault(["a", "b"], [("a", "b", "free"), ("a", "b", "staff")], ("double", ("a", "b")))
        rows = [("a", "c", "free"), ("a", "c", "staff"), ("a", "b", "free"), ("a", "b", "ticket"), ("b", "c", "free")]
        self.fault(["a", "b", "c"], rows, ("double", ("a", "b")))
        self.fault(["a", "b", "c"], [rows[0], rows[1], rows[2], rows[4]], ("double", ("a", "c")))

    def test_ring(self):
        ring = [("a", "b", "free"), ("b", "c", "free"), ("a", "c", "free")]
        self.fault(["a", "b", "c"], ring, ("ring", ("b", "a", "c")))
        self.fault(["a", "b", "c", "d", "e"], ring, ("ring", ("b", "a", "c")))
        square = [("a", "b", "free"), ("b", "d", "free"), ("c", "d", "staff"), ("a", "c", "ticket")]
        self.fault(["a", "b", "c", "d"], square, ("ring", ("c", "a", "b", "d")))
        self.fault(["a", "b", "c", "d"], square + ring[1:2], ("ring", ("b", "a", "c")))

    def test_the_first_ring_of_two(self):
        one = [("d", "e", "free"), ("e", "f", "free"), ("d", "f", "free")]
        other = [("a", "b", "free"), ("b", "c", "free"), ("a", "c", "free")]
        self.fault(list("abcdef"), one + other, ("ring", ("b", "a", "c")))
        self.fault(list("abcdef"), one + other[:2] + [("a", "x", "free")], ("unknown", "x"))
        self.fault(list("abcdef"), one + other[:2], ("ring", ("e", "d", "f")))

    def test_a_long_ring(self):
        stations = list("abcdefgh")
        rows = [(one, other, "free") for one, other in zip(stations, stations[1:])] + [("a", "h", "free")]
        self.fault(stations, rows, ("ring", ("g", "f", "e", "d", "c", "b", "a", "h")))

    def test_apart(self):
        self.fault(["a", "b"], [], ("apart", ("a",)))
        self.fault(["a", "b", "c"], [("a", "c", "free")], ("apart", ("a", "c")))
        self.fault(["a", "b", "c", "d"], [("a", "d", "free"), ("b", "c", "free")], ("apart", ("a", "d")))
        self.fault(["b", "c", "d"], [("c", "d", "free")], ("apart", ("b",)))

    def test_lines_have_none(self):
        for line in helper.sample_lines():
            self.fault(line[0], line[1], None)

    def test_random_input(self):
        dice = random.Random(8)
        seen = {}
        for _ in range(3000):
            stations = [dice.choice("abcdef") for _ in range(dice.randint(0, 3))]
            if dice.random() < 0.8:
                stations = dice.sample("abcdef", dice.randint(1, 6))
            ends = stations + ["x"] * (dice.random() < 0.05) if stations else ["a", "b"]
            sections = []
            for _ in range(dice.randint(0, len(stations))):
                sections.append((dice.choice(ends), dice.choice(ends), dice.choice(helper.SORTS)))
            if dice.random() < 0.8:
                sections = [row for row in sections if row[0] != row[1]]
            expected = plain_fault(stations, sections)
            seen[expected and expected[0]] = seen.get(expected and expected[0], 0) + 1
            self.assertEqual(line_fault(stations, sections), expected, (stations, sections))
        self.assertEqual(len(seen), 8)
        self.assertGreater(min(seen.values()), 20, seen)

    def test_made_line(self):
        dice = random.Random(10)
        for line in helper.sample_lines():
            for _ in range(4):
                stations = dice.sample(line[0], len(line[0]))
                rows = [(*dice.sample(row[:2], 2), row[2]) for row in dice.sample(line[1], len(line[1]))]
                given = copy.deepcopy((stations, rows))
                self.assertEqual(made_line(stations, rows), line)
                self.assertEqual(made_line(tuple(stations), tuple(rows)), line)
                self.assertEqual((stations, rows), given)

    def test_made_line_is_of_tuples(self):
        line = made_line(["b", "a"], [("b", "a", "staff")])
        self.assertEqual(line, (("a", "b"), (("a", "b", "staff"),)))
        self.assertTrue(helper.is_line(line))


if __name__ == "__main__":
    unittest.main()
