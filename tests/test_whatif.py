"""Points [30] and [31], by all ROWS gone through on small LINES."""

import random
import unittest

import helper
from helper import Checks, sample_standings, small_standings, wide_standings
from staffhome import errors
from staffhome.onetrain import gets_home
from staffhome.verdicts import reason
from staffhome.whatif import (
    carried, carries, joined, longer, mends, needed_helpers, next_stops, promised, spare_trains, staying, stays, wider,
    with_sort,
)

LINE = (("a", "b", "c"), (("a", "b", "staff"), ("b", "c", "staff")))
STANDING = (((("a", "b"), "a"), (("b", "c"), "c")), (("x", "b", ("c",)), ("y", "c", ("b",))))

# Many more STANDINGS than are reached from any one in which a little was changed by hand.
MOST = 6000


def can_get_home(line, standing):
    return any(helper.is_home(at) for at in helper.all_reached(line, standing, MOST))


def trains_of(standing):
    return {name: (place, rest) for name, place, rest in standing[1]}


def with_trains(standing, trains):
    return (standing[0], tuple((name, *trains[name]) for name in sorted(trains)))


def with_rest(standing, name, rest):
    trains = trains_of(standing)
    trains[name] = (trains[name][0], rest)
    return with_trains(standing, trains)


def gets_home_without(line, standing, name, others):
    """Whether some ROW brings a train home in which those others make no MOVE."""
    found, waiting = {standing: True}, [standing]
    while waiting:
        at = waiting.pop()
        if trains_of(at)[name][1] == ():
            return True
        for move, later in helper.moves_behind(line, at):
            if move[0] not in others and later not in found:
                found[later] = True
                waiting.append(later)
    return False


class Stays(Checks, unittest.TestCase):
    def test_staying(self):
        dice = random.Random(1201)
        for line, standing in sample_standings(131):
            names = [train[0] for train in standing[1]]
            chosen = sorted(dice.sample(names, dice.randint(0, len(names))))
            expected = standing
            for name in chosen:
                expected = with_rest(expected, name, ())
            self.assertEqual(staying(line, standing, tuple(chosen)), expected)
        self.assertEqual(staying(LINE, STANDING, ()), STANDING)
        self.assertEqual(staying(LINE, STANDING, ("x", "y"))[1], (("x", "b", ()), ("y", "c", ())))

    def test_no_such_trains(self):
        for names, first in (
            (("a",), "a"), (("a", "x"), "a"), (("x", "z"), "z"), (("a", "b", "z"), "a"), (("w", "x", "xx", "y"), "w"),
            (("x", "xx", "y", "z"), "xx"), (("x", "y", "z", "zz"), "z"),
        ):
            with self.raises(errors.NoTrain, name=first):
                staying(LINE, STANDING, names)
        for ask in (stays, needed_helpers, next_stops):
            with self.raises(errors.NoTrain, name="z"):
                ask(LINE, STANDING, "z")
        with self.raises(errors.NoTrain, name="z"):
            longer(LINE, STANDING, "z", ("a",))
        with self.raises(errors.NoTrain, name="z"):
            longer(LINE, STANDING, "z", ())

    def test_small_lines(self):
        told = {"None": 0, "passes": 0, "shut": 0}
        for line, standing in small_standings(133, 500):
            spare = []
            for name in trains_of(standing):
                behind = with_rest(standing, name, ())
                why = stays(line, standing, name)
                self.assertIs(why is None, can_get_home(line, behind), (line, standing, name))
                if why is None:
                    spare.append(name)
                else:
                    self.assertTrue(helper.is_reason(line, behind, why), (line, behind, why))
                    self.assertEqual(why, reason(line, behind))
                told["None" if why is None else why[0]] += 1
            self.assertEqual(spare_trains(line, standing), tuple(spare))
        self.assertGreater(min(told.values()), 100)

    def test_no_trains(self):
        self.assertEqual(spare_trains(LINE, (STANDING[0], ())), ())
        self.assertEqual(spare_trains((("a",), ()), ((), ())), ())
        self.assertEqual(spare_trains((("a",), ()), ((), (("p", "a", ()), ("q", "a", ())))), ("p", "q"))


class Helpers(Checks, unittest.TestCase):
    def test_small_lines(self):
        told = {"none": 0, "some": 0, "no way": 0}
        for line, standing in small_standings(135, 400):
            names = list(trains_of(standing))
            for name in names:
                if gets_home_without(line, standing, name, ()):
                    lacked = [other for other in names if other != name]
                    lacked = [other for other in lacked if not gets_home_without(line, standing, name, (other,))]
                    told["some" if lacked else "none"] += 1
                else:
                    lacked = []
                    told["no way"] += 1
                self.assertEqual(needed_helpers(line, standing, name), tuple(lacked), (line, standing, name))
        self.assertGreater(min(told.values()), 60)

    def test_either_of_two_helps(self):
        """Each of u and v can bring the staff, so none of them is needed; alone, u is."""
        t, u, v = ("t", "a", ("b",)), ("u", "b", ("a",)), ("v", "b", ("a",))
        line, staffs = (("a", "b"), (("a", "b", "staff"),)), ((("a", "b"), "b"),)
        self.assertEqual(needed_helpers(line, (staffs, (t, u, v)), "t"), ())
        self.assertEqual(needed_helpers(line, (staffs, (t, u)), "t"), ("u",))
        self.assertEqual(needed_helpers(line, (staffs, (t,)), "t"), ())
        self.assertEqual(needed_helpers(line, (staffs, (t, u)), "u"), ())

    def test_a_chain_of_helpers(self):
        """t waits for the staff that u brings, u for that of v, v for that of w."""
        line = (("a", "b", "c", "d"), (("a", "b", "staff"), ("b", "c", "staff"), ("b", "d", "staff")))
        t, u, v, w = ("t", "a", ("b",)), ("u", "c", ("b", "a")), ("v", "d", ("b", "c")), ("w", "b", ("d",))
        staffs = tuple((key, "b") for key in helper.keys_of(line))
        self.assertEqual(needed_helpers(line, (staffs, (t, u, v, w)), "t"), ("u", "v", "w"))
        self.assertEqual(needed_helpers(line, (staffs, (t, u, v, w)), "v"), ("w",))
        self.assertEqual(needed_helpers(line, (staffs, (t, u, v)), "t"), ())
        self.assertFalse(gets_home(line, (staffs, (t, u, v)), "t"))


class Longer(Checks, unittest.TestCase):
    def test_longer(self):
        dice = random.Random(1203)
        for line, standing in sample_standings(137):
            for name, (place, rest) in trains_of(standing).items():
                more = helper.random_rest(dice, line, (place, *rest)[-1], dice.randint(0, 3))
                self.assertEqual(longer(line, standing, name, more), with_rest(standing, name, rest + more))
        self.assertEqual(longer(LINE, STANDING, "x", ("b", "a"))[1][0], ("x", "b", ("c", "b", "a")))
        self.assertEqual(longer(LINE, STANDING, "x", ()), STANDING)

    def test_next_stops(self):
        told = {True: 0, False: 0}
        for line, standing in small_standings(139, 400):
            for name, (place, rest) in trains_of(standing).items():
                end = (place, *rest)[-1]
                found = []
                for station in line[0]:
                    if helper.key_of(end, station) in helper.keys_of(line):
                        right = can_get_home(line, with_rest(standing, name, (*rest, station)))
                        told[right] += 1
                        found += [station] * right
                self.assertEqual(next_stops(line, standing, name), tuple(found), (line, standing, name))
        self.assertGreater(min(told.values()), 200)
        self.assertEqual(next_stops((("a",), ()), ((), (("p", "a", ()),)), "p"), ())


class Joined(Checks, unittest.TestCase):
    def test_joined(self):
        dice = random.Random(1205)
        for line, standing in sample_standings(141):
            place = dice.choice(line[0])
            rest = helper.random_rest(dice, line, place, dice.randint(0, 4))
            for name in ("a", "o", "oq", "zz", "q" * 12):
                trains = trains_of(standing)
                if name not in trains:
                    trains[name] = (place, rest)
                    behind = with_trains(standing, trains)
                    self.assertEqual(joined(line, standing, name, place, rest), behind)
                    self.assertEqual(promised(line, standing, name, place, rest), reason(line, behind))

    def test_small_lines(self):
        dice = random.Random(1207)
        told = {True: 0, False: 0}
        for line, standing in small_standings(143, 500):
            place = dice.choice(line[0])
            rest = helper.random_rest(dice, line, place, dice.randint(0, 3))
            behind = with_trains(standing, {**trains_of(standing), "z": (place, rest)})
            if helper.all_reached(line, behind, MOST) is not None:
                why = promised(line, standing, "z", place, rest)
                self.assertIs(why is None, can_get_home(line, behind))
                self.assertTrue(why is None or helper.is_reason(line, behind, why))
                told[why is None] += 1
        self.assertGreater(min(told.values()), 60)

    def test_used(self):
        for ask in (joined, promised):
            for place, rest in (("a", ()), ("b", ("c",)), ("c", ("b", "a"))):
                with self.raises(errors.Used, name="x"):
                    ask(LINE, STANDING, "x", place, rest)
        self.assertEqual(joined(LINE, STANDING, "xx", "a", ())[1][1], ("xx", "a", ()))

    def test_who_gets_home_does_so_behind_more(self):
        """What lay open lies open: behind longer of another train, and behind joined."""
        dice = random.Random(1209)
        for line, standing in small_standings(145, 200):
            names = list(trains_of(standing))
            for name in names:
                if gets_home(line, standing, name):
                    place = dice.choice(line[0])
                    behind = joined(line, standing, "z", place, helper.random_rest(dice, line, place, 2))
                    self.tells(gets_home(line, behind, name), True)
                    other = dice.choice(names)
                    if other != name:
                        end = (*trains_of(standing)[other],)
                        more = helper.random_rest(dice, line, (end[0], *end[1])[-1], 2)
                        self.tells(gets_home(line, longer(line, standing, other, more), name), True)


class Carried(Checks, unittest.TestCase):
    def test_carried(self):
        for line, standing in sample_standings(147):
            for key, station in standing[0]:
                staffs = tuple((at, lies if at != key else key[key[0] == lies]) for at, lies in standing[0])
                self.assertEqual(carried(line, standing, key), (staffs, standing[1]))
                self.assertEqual(carried(line, carried(line, standing, key), key), standing)

    def test_small_lines(self):
        told = 0
        for line, standing in small_standings(149, 600):
            found = []
            for key, station in standing[0]:
                staffs = {**dict(standing[0]), key: key[key[0] == station]}
                if can_get_home(line, (tuple(sorted(staffs.items())), standing[1])):
                    found.append(key)
            self.assertEqual(carries(line, standing), tuple(found), (line, standing))
            told += len(found)
            for key in found:
                if key in helper.keys_of_sort(line, "staff"):
                    a, b = helper.plain_counts(standing, key)
                    self.assertIn(a - b, (0, -1))
            wrong = [key for key in helper.keys_of_sort(line, "staff") if not helper.does_fit(standing, key)]
            self.assertTrue(len(wrong) == 0 or set(found) <= set(wrong[:1]))
        self.assertGreater(told, 150)

    def test_nothing_to_carry(self):
        self.assertEqual(carries((("a",), ()), ((), ())), ())
        self.assertEqual(carries((("a", "b"), (("a", "b", "free"),)), ((), (("p", "a", ("b",)),))), ())


class Sorts(Checks, unittest.TestCase):
    def exchanged(self, line, standing, key, sort):
        rows = tuple((*row[:2], sort if row[:2] == key else row[2]) for row in line[1])
        staffs = {**{key: key[0]}, **dict(standing[0])}
        if sort == "free":
            del staffs[key]
        return ((line[0], rows), (tuple(sorted(staffs.items())), standing[1]))

    def test_with_sort(self):
        for line, standing in sample_standings(151):
            for key in helper.keys_of(line):
                for sort in helper.SORTS:
                    told = with_sort(line, standing, key, sort)
                    self.assertEqual(told, self.exchanged(line, standing, key, sort))
                    self.tells(helper.is_standing(*told), True)
                    if (*key, sort) in line[1]:
                        self.assertEqual(told, (line, standing))

    def test_by_hand(self):
        line = (("a", "b", "c"), (("a", "b", "free"), ("b", "c", "staff")))
        standing = (((("b", "c"), "c"),), ())
        for sort in ("staff", "ticket"):
            told = with_sort(line, standing, ("a", "b"), sort)
            self.assertEqual(told[0][1], (("a", "b", sort), ("b", "c", "staff")))
            self.assertEqual(told[1][0], ((("a", "b"), "a"), (("b", "c"), "c")))
        self.assertEqual(with_sort(line, standing, ("b", "c"), "ticket")[1], standing)
        self.assertEqual(with_sort(line, standing, ("b", "c"), "free")[1], ((), ()))

    def test_mends(self):
        told = dict.fromkeys(helper.SORTS, 0)
        for line, standing in small_standings(153, 300):
            for sort in helper.SORTS:
                found = []
                for key in helper.keys_of(line):
                    if key not in helper.keys_of_sort(line, sort):
                        changed, behind = self.exchanged(line, standing, key, sort)
                        if helper.all_reached(changed, behind, MOST) is None:
                            break
                        if can_get_home(changed, behind):
                            found.append(key)
                else:
                    self.assertEqual(mends(line, standing, sort), tuple(found), (line, standing, sort))
                    told[sort] += len(found)
        self.assertGreater(min(told.values()), 100)

    def test_mends_none_of_the_same_sort(self):
        line = (("a", "b", "c"), (("a", "b", "free"), ("b", "c", "free")))
        self.assertEqual(mends(line, ((), ()), "free"), ())
        self.assertEqual(mends(line, ((), ()), "staff"), (("a", "b"), ("b", "c")))
        self.assertEqual(mends((("a",), ()), ((), ()), "ticket"), ())


class Wider(Checks, unittest.TestCase):
    def test_each_pair_of_sorts(self):
        wide = {"free": ["free"], "ticket": ["ticket", "free"], "staff": ["staff", "ticket", "free"]}
        for sort in helper.SORTS:
            for other in helper.SORTS:
                one, two = [(("a", "b"), (("a", "b", word),)) for word in (sort, other)]
                self.tells(wider(one, two), other in wide[sort], sort, other)
                three, four = [(("a", "b", "c"), (("a", "b", "staff"), ("b", "c", word))) for word in (sort, other)]
                self.tells(wider(three, four), other in wide[sort], sort, other)

    def test_other_lines(self):
        lines = [
            (("a", "b", "c"), (("a", "b", "staff"), ("b", "c", "staff"))),
            (("a", "b", "c"), (("a", "b", "staff"), ("a", "c", "staff"))),
            (("a", "b", "d"), (("a", "b", "staff"), ("b", "d", "staff"))),
            (("a", "b"), (("a", "b", "staff"),)), (("a",), ()), (("b",), ()),
        ]
        for one in lines:
            for other in lines:
                self.tells(wider(one, other), one == other, one, other)

    def test_lines_near_one_another(self):
        dice = random.Random(1211)
        order = {"staff": 0, "ticket": 1, "free": 2}
        told = {True: 0, False: 0}
        for _ in range(600):
            line = helper.random_line(dice, dice.randint(2, 6))
            rows = [row if dice.random() < 0.6 else (*row[:2], dice.choice(helper.SORTS)) for row in line[1]]
            expected = all(order[row[2]] <= order[other[2]] for row, other in zip(line[1], rows))
            self.tells(wider(line, (line[0], tuple(rows))), expected, line, rows)
            told[expected] += 1
        self.assertGreater(min(told.values()), 100)

    def test_safe_in_wider_ones_too(self):
        dice = random.Random(1213)
        told = 0
        for line, standing in small_standings(155, 500):
            changed, behind = line, standing
            for key in helper.keys_of(line):
                if dice.random() < 0.4:
                    changed, behind = with_sort(changed, behind, key, dice.choice(("ticket", "free")))
            if wider(line, changed) and reason(line, standing) is None:
                self.assertIsNone(reason(changed, behind))
                told += changed != line
        self.assertGreater(told, 60)


class All(Checks, unittest.TestCase):
    def test_wide_standings(self):
        for line, standing, _ in wide_standings(157):
            names = list(trains_of(standing))
            with self.within(20):
                self.assertLessEqual(set(spare_trains(line, standing)), set(names))
                carries(line, standing)
                for sort in helper.SORTS:
                    mends(line, standing, sort)
            with self.within(20):
                for name in names:
                    needed_helpers(line, standing, name)
                    next_stops(line, standing, name)
                    stays(line, standing, name)

    def test_what_is_handed_in_stays(self):
        for line, standing in small_standings(159, 60):
            shown = repr((line, standing))
            name = standing[1][0][0]
            key = helper.keys_of(line)[0]
            for _ in range(2):
                told = [
                    staying(line, standing, (name,)), stays(line, standing, name), spare_trains(line, standing),
                    needed_helpers(line, standing, name), next_stops(line, standing, name),
                    joined(line, standing, "z", line[0][0], ()), promised(line, standing, "z", line[0][0], ()),
                    carries(line, standing), with_sort(line, standing, key, "staff"), mends(line, standing, "free"),
                ]
            self.assertEqual(repr((line, standing)), shown)
            self.assertEqual(told[1], stays(line, standing, name))
            self.assertEqual(told[3], needed_helpers(line, standing, name))


if __name__ == "__main__":
    unittest.main()
