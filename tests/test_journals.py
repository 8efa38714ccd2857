"""Point [35], beside its words followed tick by tick."""

import random
import unittest

import helper
from helper import Checks, any_values, exchanged, sample_standings, small_standings, wide_standings
from staffhome.journals import idle, is_home_journal, is_journal, last_end, most_abroad, waits

LINE = (("a", "b", "c"), (("a", "b", "staff"), ("b", "c", "staff")))
STANDING = (((("a", "b"), "a"), (("b", "c"), "b")), (("x", "a", ("b",)), ("y", "a", ("b", "c", "b", "a"))))
JOURNAL = ((0, "y", "staff", 2), (2, "y", "staff", 4), (4, "y", "staff", 6), (6, "y", "staff", 8), (8, "x", "staff", 10))


def is_plainly(line, standing, thing):
    """Whether thing is a JOURNAL, each pair of rows being looked at."""
    if type(thing) is not tuple or not all(type(row) is tuple and len(row) == 4 for row in thing):
        return False
    for begin, name, how, end in thing:
        if type(begin) is not int or type(end) is not int or not 0 <= begin < end or not helper.is_move((name, how)):
            return False
    at, keys = standing, []
    for _, name, how, _ in thing:
        later = helper.behind(line, at, (name, how))
        if later is None:
            return False
        (train,) = [train for train in at[1] if train[0] == name]
        keys.append(helper.key_of(train[1], train[2][0]))
        at = later
    free = helper.keys_of_sort(line, "free")
    for late in range(len(thing)):
        for early in range(late):
            same = thing[early][1] == thing[late][1] or (keys[early] == keys[late] and keys[late] not in free)
            if thing[late][0] < thing[early][0] or (same and thing[late][0] < thing[early][3]):
                return False
    return True


def made_journal(dice, line, standing, most):
    """A JOURNAL of a random ROW of up to so many MOVES, at random ticks, with rests between."""
    row, standings = helper.random_row(dice, line, standing, most)
    rows, free_at, now = [], {}, 0
    for move, at in zip(row, standings):
        (train,) = [train for train in at[1] if train[0] == move[0]]
        users = [move[0]]
        if move[1] != "free":
            users.append(helper.key_of(train[1], train[2][0]))
        now = max([now, *(free_at.get(user, 0) for user in users)]) + dice.choice((0, 0, 0, 1, 4))
        end = now + dice.randint(1, 6)
        for user in users:
            free_at[user] = end
        rows.append((now, *move, end))
    return tuple(rows)


def journals(seed, most):
    """Triples of a LINE, a STANDING, and a JOURNAL, by which all get home now and then."""
    dice = random.Random(seed)
    for line, standing in list(sample_standings(seed)) + list(small_standings(seed, 150)):
        yield line, standing, made_journal(dice, line, standing, dice.choice((0, 1, 3, most)))


class IsJournal(Checks, unittest.TestCase):
    def test_journals(self):
        told = {True: 0, False: 0}
        for line, standing, journal in journals(201, 80):
            self.tells(is_journal(line, standing, journal), True, line, standing, journal)
            at = standing
            for _, name, how, _ in journal:
                at = helper.behind(line, at, (name, how))
            self.tells(is_home_journal(line, standing, journal), helper.is_home(at))
            told[helper.is_home(at)] += 1
            self.tells(is_journal(line, standing, list(journal)), False)
        self.assertGreater(min(told.values()), 20)

    def test_a_time_a_little_otherwise(self):
        dice = random.Random(1601)
        told = {True: 0, False: 0}
        for line, standing, journal in journals(203, 25):
            for _ in range(12 if journal else 0):
                at = dice.randrange(len(journal))
                row = list(journal[at])
                row[dice.choice((0, 3))] += dice.choice((-3, -2, -1, 1, 2, 3))
                thing = journal[:at] + (tuple(row),) + journal[at + 1:]
                expected = is_plainly(line, standing, thing)
                self.tells(is_journal(line, standing, thing), expected, line, standing, thing)
                told[expected] += 1
        self.assertGreater(min(told.values()), 300)

    def test_rows_otherwise(self):
        """Rows exchanged, out, more; other names and hows."""
        dice = random.Random(1603)
        told = {True: 0, False: 0}
        for line, standing, journal in journals(205, 25):
            names = [train[0] for train in standing[1]] + ["nobody"]
            for _ in range(12 if journal else 0):
                at, to = dice.randrange(len(journal)), dice.randrange(len(journal))
                rows = list(journal)
                what = dice.randint(0, 4)
                if what == 0:
                    rows[at], rows[to] = rows[to], rows[at]
                elif what == 1:
                    del rows[at]
                elif what == 2:
                    rows.insert(to, rows[at])
                else:
                    row = list(rows[at])
                    row[what - 2] = dice.choice(names) if what == 3 else dice.choice(helper.SORTS)
                    rows[at] = tuple(row)
                expected = is_plainly(line, standing, tuple(rows))
                self.tells(is_journal(line, standing, tuple(rows)), expected, line, standing, rows)
                told[expected] += 1
        self.assertGreater(min(told.values()), 100)

    def test_exchanged_parts(self):
        others = [None, True, False, 0, 1, 3, 5, 10 ** 39, -1, "x", "y", "staff", "free", (), [], (2, "x", "staff", 3)]
        told = {True: 0, False: 0}
        for journal in (JOURNAL, JOURNAL[:2], ((0, "x", "staff", 1), (0, "y", "staff", 9)), ()):
            for thing in exchanged(journal, others):
                expected = is_plainly(LINE, STANDING, thing)
                self.tells(is_journal(LINE, STANDING, thing), expected, thing)
                told[expected] += 1
        self.assertGreater(min(told.values()), 30)

    def test_any_values(self):
        for thing in any_values():
            shown = repr(thing)
            self.tells(is_journal(LINE, STANDING, thing), type(thing) is tuple and thing == (), thing)
            self.tells(is_home_journal(LINE, STANDING, thing), False, thing)
            self.tells(is_journal(LINE, STANDING, (thing,)), False, thing)
            self.tells(is_journal(LINE, STANDING, JOURNAL[:1] + (thing,)), False, thing)
            for at in range(4):
                row = JOURNAL[0][:at] + (thing,) + JOURNAL[0][at + 1:]
                expected = is_plainly(LINE, STANDING, (row,))
                self.tells(is_journal(LINE, STANDING, (row,)), expected, thing)
            self.assertEqual(repr(thing), shown)

    def test_truths_are_no_ticks(self):
        self.tells(is_journal(LINE, STANDING, ((0, "x", "staff", 1),)), True)
        self.tells(is_journal(LINE, STANDING, ((False, "x", "staff", 1),)), False)
        self.tells(is_journal(LINE, STANDING, ((0, "x", "staff", True),)), False)

    def test_sections(self):
        """Two trains may be at once in a section with two tracks, but in no other one, with a ticket neither."""
        for sort, how, right in (("free", "free", True), ("ticket", "ticket", False)):
            line = (("a", "b"), (("a", "b", sort),))
            staffs = () if sort == "free" else ((("a", "b"), "a"),)
            standing = (staffs, (("x", "a", ("b",)), ("y", "a", ("b",))))
            for begin in range(5):
                thing = ((0, "x", how, 3), (begin, "y", how, 9))
                self.tells(is_journal(line, standing, thing), right or begin >= 3, thing)

    def test_a_train_that_is_not_there_yet(self):
        line = (("a", "b", "c"), (("a", "b", "free"), ("b", "c", "free")))
        standing = ((), (("x", "a", ("b", "c")),))
        for begin in range(6):
            thing = ((1, "x", "free", 4), (begin, "x", "free", 8))
            self.tells(is_journal(line, standing, thing), begin >= 4, thing)
        self.tells(is_journal(line, standing, ((4, "x", "free", 4),)), False)
        self.tells(is_journal(line, standing, ((4, "x", "free", 5),)), True)
        self.tells(is_journal(line, standing, ((-1, "x", "free", 5),)), False)

    def test_home(self):
        home = (STANDING[0], (("x", "a", ()),))
        self.tells(is_home_journal(LINE, home, ()), True)
        self.tells(is_home_journal(LINE, STANDING, ()), False)
        self.tells(is_home_journal(LINE, STANDING, JOURNAL), True)
        self.tells(is_home_journal(LINE, STANDING, JOURNAL[:4]), False)
        self.tells(is_home_journal(LINE, STANDING, list(JOURNAL)), False)
        self.tells(is_home_journal(LINE, STANDING, JOURNAL[:4] + ((7, "x", "staff", 10),)), False)


class Told(Checks, unittest.TestCase):
    def test_of_none(self):
        self.assertEqual([last_end(()), idle(()), most_abroad(())], [0, (), 0])
        self.assertEqual(waits(STANDING, ()), {"x": 0, "y": 0})
        self.assertEqual(waits(((), ()), ()), {})

    def test_tick_by_tick(self):
        idles = 0
        for line, standing, journal in journals(207, 40):
            last = max([0, *(row[3] for row in journal)])
            abroad = [[row[1] for row in journal if row[0] <= tick < row[3]] for tick in range(last)]
            self.assertEqual(last_end(journal), last)
            self.assertEqual(idle(journal), tuple(tick for tick in range(last) if not abroad[tick]))
            self.assertEqual(most_abroad(journal), max([0, *map(len, abroad)]))
            idles += len(idle(journal))
            stood = {}
            for name, _, _ in standing[1]:
                begins = [row[0] for row in journal if row[1] == name]
                stood[name] = sum(name not in abroad[tick] for tick in range(max([0, *begins])))
            self.assertEqual(list(waits(standing, journal).items()), list(stood.items()))
        self.assertGreater(idles, 100)

    def test_by_hand(self):
        journal = ((3, "b", "free", 5), (3, "c", "free", 4), (4, "a", "free", 9), (7, "c", "free", 8), (11, "b", "free", 12))
        standing = ((), (("a", "p", ()), ("b", "p", ()), ("c", "p", ()), ("d", "p", ())))
        self.assertEqual([last_end(journal), most_abroad(journal)], [12, 2])
        self.assertEqual(idle(journal), (0, 1, 2, 9, 10))
        self.assertEqual(waits(standing, journal), {"a": 4, "b": 9, "c": 6, "d": 0})
        self.assertEqual(last_end(journal[:3]), 9)
        self.assertEqual(last_end(((0, "a", "free", 9), (1, "b", "free", 2))), 9)
        self.assertEqual(idle(((0, "a", "free", 9), (1, "b", "free", 2), (9, "b", "free", 10))), ())

    def test_many_at_once(self):
        journal = tuple((0, "x" * (k + 1), "free", 3 + k) for k in range(9)) + ((4, "a", "free", 5), (4, "b", "free", 6))
        self.assertEqual([most_abroad(journal), most_abroad(journal[9:]), most_abroad(journal[:1])], [9, 2, 1])

    def test_late_ticks(self):
        journal = ((999990, "x", "staff", 999999),)
        with self.within(10):
            told = idle(journal)
        self.assertEqual([len(told), told[0], told[-1]], [999990, 0, 999989])
        self.tells(is_journal(LINE, STANDING, ((10 ** 39, "x", "staff", 10 ** 39 + 1),)), True)

    def test_wide_journals(self):
        dice = random.Random(1605)
        for line, standing, row in wide_standings(209):
            journal = []
            for index, (name, how) in enumerate(row):
                journal.append((9 * index, name, how, 9 * index + dice.randint(1, 9)))
            journal = tuple(journal)
            with self.within(10):
                self.tells(is_home_journal(line, standing, journal), True)
                self.assertEqual([most_abroad(journal), last_end(journal)], [1, journal[-1][3]])
                waits(standing, journal)
                self.assertEqual(len(idle(journal)) + sum(row[3] - row[0] for row in journal), last_end(journal))

    def test_what_is_told_may_be_changed(self):
        told = waits(STANDING, JOURNAL)
        told.clear()
        self.assertEqual(waits(STANDING, JOURNAL), {"x": 8, "y": 0})


if __name__ == "__main__":
    unittest.main()
