"""Point [36], beside a day that is played out tick by tick."""

import random
import unittest

import helper
from helper import Checks, small_standings, wide_standings
from staffhome import errors
from staffhome.days import latest_end, play
from staffhome.drivers import ask_of, came, driver_at_first, heard
from staffhome.house import House
from staffhome.journals import idle, is_home_journal, last_end
from staffhome.verdicts import is_safe, reason

LINE = (("a", "b", "c"), (("a", "b", "staff"), ("b", "c", "staff")))
STANDING = (((("a", "b"), "a"), (("b", "c"), "b")), (("x", "a", ("b",)), ("y", "a", ("b", "c", "b", "a"))))


def passes_of(standing):
    return sum(len(rest) for _, _, rest in standing[1])


def played(line, standing, times, order, lost):
    """The JOURNAL, no tick being left out, and the list of the ticks in which something was lost."""
    house = House(line, standing)
    drivers = {name: driver_at_first(name) for name in order}
    ends, rows, lossy = {}, [], []
    asks = tick = 0
    while True:
        come = [name for name in order if name in ends and ends[name] == tick]
        for name in come:
            drivers[name] = came(drivers[name])
            del ends[name]
        if not ends and len(rows) == passes_of(standing):
            return tuple(rows), lossy
        for name in [*come, *order]:
            if drivers[name][2] is not None:
                continue
            index, asks = asks, asks + 1
            if (index, "ask") in lost:
                lossy.append(tick)
                continue
            answer = house.ask(*ask_of(drivers[name]))
            if (index, "answer") in lost:
                lossy.append(tick)
                continue
            drivers[name] = heard(drivers[name], answer)
            if drivers[name][2] is not None:
                number, how = drivers[name][2]
                ends[name] = tick + times[number % len(times)]
                rows.append((tick, name, how, ends[name]))
        tick += 1


def some_lost(dice, many, most):
    """Up to so many asks and answers that are lost."""
    pairs = {(dice.randint(0, many), dice.choice(("ask", "answer"))) for _ in range(dice.randint(0, most))}
    return tuple(sorted(pairs))


def in_some_order(dice, standing):
    names = [train[0] for train in standing[1]]
    dice.shuffle(names)
    return tuple(names)


class Days(Checks, unittest.TestCase):
    def holds(self, line, standing, times, order, lost):
        """All that the point says of the day that is played."""
        journal = play(line, standing, times, order, lost)
        self.tells(is_home_journal(line, standing, journal), True)
        last = last_end(journal)
        self.assertLessEqual(last, latest_end(line, standing, times, lost))
        self.assertLessEqual(last, sum(row[3] - row[0] for row in journal) + 2 * len(lost))
        self.assertLessEqual(len(idle(journal)), 2 * len(lost))
        self.assertLessEqual({row[3] - row[0] for row in journal}, set(times))
        return journal

    def test_small_lines(self):
        dice = random.Random(1701)
        idles = lossy = 0
        for line, standing in small_standings(211, 500):
            if not is_safe(line, standing):
                continue
            order = in_some_order(dice, standing)
            times = dice.choice([(1,), (2,), (9, 1), (1, 1, 7), (200,), (3, 5, 2, 4), (1, 30), (2,) * 24])
            lost = some_lost(dice, dice.choice((2, 10, 40, 400)), dice.choice((0, 1, 3, 12, 60)))
            journal = self.holds(line, standing, times, order, lost)
            expected, ticks = played(line, standing, times, order, lost)
            self.assertEqual(journal, expected, (line, standing, times, order, lost))
            # Nobody is under way just where something is lost, and in the tick behind.
            self.assertLessEqual(set(idle(journal)), set(ticks) | {tick + 1 for tick in ticks})
            idles += len(idle(journal))
            lossy += len(ticks) > 0
        self.assertGreater(idles, 100)
        self.assertGreater(lossy, 80)

    def test_wide_lines_tick_by_tick(self):
        dice = random.Random(1703)
        for line, standing, _ in wide_standings(213):
            order = in_some_order(dice, standing)
            for times in ((1,), (7, 1, 20)):
                lost = some_lost(dice, 3000, 100)
                with self.within(60):
                    journal = self.holds(line, standing, times, order, lost)
                self.assertEqual(journal, played(line, standing, times, order, lost)[0])

    def test_wide_lines_with_long_times(self):
        dice = random.Random(1705)
        for line, standing, row in wide_standings(215):
            for times in ((200,), tuple(dice.randint(1, 200) for _ in range(24)), (1, 200)):
                lost = some_lost(dice, 200000, 100)
                with self.within(60):
                    journal = self.holds(line, standing, times, in_some_order(dice, standing), lost)
                self.assertEqual(len(journal), len(row))

    def test_one_who_walks_for_long_and_many_who_wait(self):
        line = helper.star_line(13, ("staff",))
        hub = helper.station_name(6)
        ends = [station for station in line[0] if station != hub]
        line = (tuple(sorted(line[0] + ("yard",))), tuple(sorted(line[1] + ((hub, "yard", "free"),))))
        stay = [("a" + end, hub, (end,)) for end in ends]
        walk = [("w" + end, hub, ("yard", hub) * 18 + (end, hub)) for end in ends]
        standing = (tuple((key, hub) for key in helper.keys_of_sort(line, "staff")), tuple(sorted(stay + walk)))
        order = tuple(name for name, _, _ in standing[1])
        for lost in ((), tuple((13 * index, "answer") for index in range(100))):
            with self.within(60):
                self.holds(line, standing, (200, 7, 90, 31), order, lost)

    def test_nothing_to_do(self):
        home = (STANDING[0], (("x", "a", ()), ("y", "b", ())))
        for lost in ((), ((0, "ask"), (1, "answer"))):
            self.assertEqual(play(LINE, home, (3,), ("y", "x"), lost), ())
            self.assertEqual(latest_end(LINE, home, (3,), lost), 2 * len(lost))
        self.assertEqual(play((("a",), ()), ((), ()), (1,), (), ()), ())

    def test_by_hand(self):
        self.assertEqual(
            play(LINE, STANDING, (2,), ("y", "x"), ()),
            ((0, "y", "staff", 2), (2, "y", "staff", 4), (4, "y", "staff", 6), (6, "y", "staff", 8), (8, "x", "staff", 10)),
        )
        self.assertEqual(latest_end(LINE, STANDING, (2, 7, 3), ()), 35)
        self.assertEqual(latest_end(LINE, STANDING, (2,), ((0, "ask"), (0, "answer"), (9, "ask"))), 16)

    def test_those_that_come_ask_first(self):
        """Behind b, which has come, a waits no more: it is let in the same tick, as one of all that stand."""
        line, staffs = (("p", "q"), (("p", "q", "staff"),)), ((("p", "q"), "p"),)
        standing = (staffs, (("a", "q", ("p",)), ("b", "p", ("q",))))
        for order in (("a", "b"), ("b", "a")):
            self.assertEqual(play(line, standing, (3,), order, ()), ((0, "b", "staff", 3), (3, "a", "staff", 6)))
        # The asks are a, b in the first tick, a in the next two; then b that has come, and a. So it is number 4.
        self.assertEqual(
            play(line, standing, (3,), ("a", "b"), ((4, "ask"),)),
            ((0, "b", "staff", 3), (4, "a", "staff", 7)),
        )
        self.assertEqual(
            play(line, standing, (3,), ("a", "b"), ((4, "answer"),)),
            ((0, "b", "staff", 3), (3, "a", "staff", 6)),
        )
        self.assertEqual(
            play(line, standing, (3,), ("a", "b"), ((5, "answer"),)),
            ((0, "b", "staff", 3), (4, "a", "staff", 7)),
        )

    def test_an_answer_that_is_lost_is_told_again(self):
        line, staffs = (("p", "q"), (("p", "q", "staff"),)), ((("p", "q"), "p"),)
        standing = (staffs, (("b", "p", ("q",)),))
        for what in ("ask", "answer"):
            for many in range(6):
                lost = tuple((index, what) for index in range(many))
                self.assertEqual(play(line, standing, (5,), ("b",), lost), ((many, "b", "staff", many + 5),))
        both = ((0, "answer"), (0, "ask"))
        self.assertEqual(play(line, standing, (5,), ("b",), both), ((1, "b", "staff", 6),))

    def test_two_ticks_for_one_that_is_lost(self):
        """b came, but its ask is lost, and that of a came ahead of the next one of b: so two ticks go by."""
        line, staffs = (("p", "q"), (("p", "q", "staff"),)), ((("p", "q"), "p"),)
        standing = (staffs, (("a", "q", ("p",)), ("b", "p", ("q",))))
        # Number 2 is that of b, which has come; in the same tick a asks, is told to wait, and b asks again.
        journal = play(line, standing, (1,), ("a", "b"), ((2, "ask"), (4, "ask")))
        self.assertEqual(journal, played(line, standing, (1,), ("a", "b"), ((2, "ask"), (4, "ask")))[0])
        self.assertEqual([idle(journal), last_end(journal)], [(1, 2), 4])

    def test_times_go_by_the_numbers_of_grants(self):
        line = (("p", "q"), (("p", "q", "free"),))
        standing = ((), tuple((name, "p", ("q",)) for name in "abcde"))
        journal = play(line, standing, (4, 9), ("e", "b", "a", "d", "c"), ())
        self.assertEqual(journal, tuple((0, name, "free", 9 if k % 2 else 4) for k, name in enumerate("ebadc")))
        # The first GRANT is lost on its way and told later: its number stays.
        lost = play(line, standing, (4, 9), ("e", "b", "a", "d", "c"), ((0, "answer"),))
        self.assertEqual(lost[0], (0, "b", "free", 9))
        self.assertEqual(lost[-1], (1, "e", "free", 5))

    def test_no_way(self):
        stuck = (STANDING[0], (("x", "a", ("b",)), ("y", "a", ("b",))))
        with self.raises(errors.NoWay, reason=("passes", ("a", "b"), 2, 0)):
            play(LINE, stuck, (1,), ("x", "y"), ())
        told = {"passes": 0, "shut": 0}
        for line, standing in small_standings(217, 150):
            why = reason(line, standing)
            if why is not None:
                told[why[0]] += 1
                with self.raises(errors.NoWay, reason=why):
                    play(line, standing, (2,), tuple(train[0] for train in standing[1]), ())
        self.assertGreater(min(told.values()), 10)

    def test_asked_again(self):
        dice = random.Random(1707)
        for line, standing in small_standings(219, 60):
            if is_safe(line, standing):
                order, lost = in_some_order(dice, standing), some_lost(dice, 20, 9)
                shown = repr((line, standing, order, lost))
                one = play(line, standing, (2, 3), order, lost)
                self.assertEqual([play(line, standing, (2, 3), order, lost), repr((line, standing, order, lost))], [one, shown])


if __name__ == "__main__":
    unittest.main()
