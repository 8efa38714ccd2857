"""Points [28] and [9], by all ROWS gone through on small LINES."""

import random
import unittest

import helper
from helper import Checks, any_values, exchanged, sample_standings, small_standings
from staffhome import errors
from staffhome.rounds import are_rounds, go_on, is_round_row, round_row, shares, waits
from staffhome.shut import shut_part

LINE = (("a", "b", "c"), (("a", "b", "staff"), ("b", "c", "ticket")))
TWO = (((("a", "b"), "a"), (("b", "c"), "c")), (("t", "a", ("b", "a")), ("u", "c", ("b", "c"))))
ROW = (("t", "staff"), ("u", "staff"), ("u", "staff"), ("t", "staff"))


def random_staffs(dice, line):
    return tuple((key, dice.choice(key)) for key in helper.keys_of_sort(line, "staff", "ticket"))


def small_rounds(seed, many):
    """Pairs of a small LINE and a ROUND STANDING of it."""
    dice = random.Random(seed)
    pairs = []
    while len(pairs) < many:
        line = helper.random_line(dice, dice.randint(2, 6), dice.choice([("staff",), ("staff", "ticket"), helper.SORTS]))
        standing = (random_staffs(dice, line), helper.round_trains(dice, line, dice.randint(1, 4), 3))
        if helper.all_reached(line, standing, 400) is not None:
            pairs.append((line, standing))
    return pairs


def wide_rounds(seed):
    """Pairs of a LINE of 24 stations and a ROUND STANDING of 24 trains that can all go on."""
    dice = random.Random(seed)
    pairs = []
    for sorts in (("staff",), ("ticket",), ("staff", "ticket"), helper.SORTS):
        for line in (helper.row_line(24, sorts), helper.star_line(24, sorts), helper.random_line(dice, 24, sorts)):
            trains = helper.round_trains(dice, line, 24, 10)
            # Laid where the first one who comes there needs it, so that nobody is shut in.
            found = {}
            for step in helper.steps_left(trains):
                found.setdefault(helper.key_of(*step), step[0])
            keys = helper.keys_of_sort(line, "staff", "ticket")
            pairs.append((line, (tuple((key, found.get(key, key[0])) for key in keys), trains)))
    return pairs


def is_round_by(line, standing, row):
    """Whether a tuple of MOVES is a ROUND ROW."""
    at = standing
    for move in row:
        at = at and helper.behind(line, at, move)
    return at is not None and helper.is_home(at) and at[0] == standing[0]


def plain_waits(row):
    """The waits, found by going the row three times over."""
    longest = {}
    last = {}
    for index, (name, _) in enumerate(row * 3):
        if name in last:
            longest[name] = max(longest.get(name, 0), index - last[name] - 1)
        last[name] = index
    return longest


class Rounds(Checks, unittest.TestCase):
    def test_are_rounds(self):
        staffs = TWO[0]
        for rest, expected in (((), True), (("b", "a"), True), (("b",), False), (("b", "c"), False),
                               (("b", "c", "b", "a"), True), (("b", "a", "b"), False)):
            self.tells(are_rounds((staffs, (("t", "a", rest),))), expected, rest)
            self.tells(are_rounds((staffs, (("s", "c", ("b", "c")), ("t", "a", rest), ("u", "b", ())))), expected, rest)
        self.tells(are_rounds((staffs, ())), True)
        for line, standing in list(sample_standings(161)) + list(small_standings(163, 100)) + small_rounds(165, 50):
            expected = all((place, *rest)[-1] == place for _, place, rest in standing[1])
            self.tells(are_rounds(standing), expected, line, standing)

    def test_go_on(self):
        told = {True: 0, False: 0}
        for line, standing in small_rounds(167, 600):
            found = helper.all_reached(line, standing, 400)
            expected = any(helper.is_home(at) and at[0] == standing[0] for at in found)
            self.tells(go_on(line, standing), expected, line, standing)
            self.assertIs(shut_part(line, standing) is None, expected)
            told[expected] += 1
        self.assertGreater(min(told.values()), 50)

    def test_round_row(self):
        tickets = 0
        for line, standing in small_rounds(169, 800):
            if go_on(line, standing):
                row = round_row(line, standing)
                self.tells(is_round_by(line, standing, row), True, line, standing, row)
                self.assertEqual(len(row), sum(len(rest) for _, _, rest in standing[1]))
                self.assertTrue(helper.are_moves(row))
                self.tells(is_round_row(line, standing, row), True)
                tickets += any(key in helper.needed_keys(standing) for key in helper.keys_of_sort(line, "ticket"))
            else:
                with self.raises(errors.NoWay, reason=("shut", shut_part(line, standing))):
                    round_row(line, standing)
        self.assertGreater(tickets, 100)

    def test_wide_lines(self):
        gone = 0
        for line, standing in wide_rounds(171):
            with self.within(20):
                if not go_on(line, standing):
                    with self.raises(errors.NoWay, reason=("shut", shut_part(line, standing))):
                        round_row(line, standing)
                    continue
                row = round_row(line, standing)
            self.tells(is_round_by(line, standing, row), True)
            with self.within(5):
                self.tells(is_round_row(line, standing, row), True)
                self.assertEqual(waits(row), plain_waits(row))
            gone += 1
        self.assertGreater(gone, 6)

    def test_it_can_be_done_for_ever(self):
        for line, standing in small_rounds(173, 100):
            if go_on(line, standing):
                row = round_row(line, standing)
                longer = (standing[0], tuple((name, place, rest * 3) for name, place, rest in standing[1]))
                self.tells(is_round_row(line, longer, row * 3), True, line, standing, row)

    def test_no_way(self):
        stuck = (((("a", "b"), "b"), (("b", "c"), "b")), TWO[1])
        self.tells(go_on(LINE, stuck), False)
        with self.raises(errors.NoWay, reason=("shut", ("b",))):
            round_row(LINE, stuck)

    def test_tickets_one_after_the_other(self):
        """Two trains that go out with the staff and a ticket would leave it there: so each goes there and back."""
        line = (("a", "b"), (("a", "b", "ticket"),))
        standing = (((("a", "b"), "a"),), (("t", "a", ("b", "a")), ("u", "a", ("b", "a"))))
        self.tells(is_round_by(line, standing, round_row(line, standing)), True)

    def test_nothing_to_do(self):
        for standing in ((TWO[0], ()), (TWO[0], (("t", "a", ()),))):
            self.tells(go_on(LINE, standing), True)
            self.assertEqual(round_row(LINE, standing), ())
            self.tells(is_round_row(LINE, standing, ()), True)


class IsRoundRow(Checks, unittest.TestCase):
    def test_any_value(self):
        for thing in any_values():
            self.tells(is_round_row(LINE, TWO, thing), False, thing)
            self.tells(is_round_row(LINE, (TWO[0], ()), thing), type(thing) is tuple and thing == (), thing)

    def test_nearly_a_row(self):
        others = [None, True, "staff", "ticket", "free", "t", "u", "x", ("t", "staff"), ("u", "ticket"), (), []]
        told = {True: 0, False: 0}
        for right in (ROW, (("u", "ticket"), ("t", "staff"), ("t", "staff"), ("u", "staff"))):
            for thing in exchanged(right, others):
                expected = helper.are_moves(thing) and is_round_by(LINE, TWO, thing)
                self.tells(is_round_row(LINE, TWO, thing), expected, thing)
                told[expected] += 1
        self.assertGreater(min(told.values()), 3)

    def test_each_row(self):
        """All ROWS that bring all home, and whether the staffs are back: of a ticket section they need not be."""
        told = {True: 0, False: 0}
        waiting = [((), TWO)]
        while waiting:
            row, at = waiting.pop()
            expected = helper.is_home(at) and at[0] == TWO[0]
            self.tells(is_round_row(LINE, TWO, row), expected, row)
            told[expected] += 1
            waiting.extend((row + (move,), later) for move, later in helper.moves_behind(LINE, at))
        self.assertGreater(min(told.values()), 5)

    def test_by_hand(self):
        line = (("a", "b"), (("a", "b", "ticket"),))
        for staff, row, expected in (
            ("a", (("t", "staff"), ("t", "staff")), True), ("a", (("t", "ticket"), ("t", "ticket")), False),
            ("a", (("t", "staff"), ("t", "ticket")), False), ("a", (("t", "ticket"), ("t", "staff")), False),
            ("a", (("t", "staff"),), False), ("a", (), False), ("b", (("t", "staff"), ("t", "staff")), False),
        ):
            standing = (((("a", "b"), staff),), (("t", "a", ("b", "a")),))
            self.tells(is_round_row(line, standing, row), expected, staff, row)
        for thing in (ROW[:2], ROW + ROW, [*ROW], ROW[::-1][1:]):
            self.tells(is_round_row(LINE, TWO, thing), False, thing)


class Waits(Checks, unittest.TestCase):
    def test_by_hand(self):
        self.assertEqual(waits(ROW), {"t": 2, "u": 2})
        self.assertEqual(waits((("u", "staff"), ("t", "staff"), ("t", "staff"), ("u", "staff"))), {"t": 2, "u": 2})
        self.assertEqual(waits((("z", "free"), ("z", "free"))), {"z": 0})
        self.assertEqual(waits(()), {})
        row = tuple((name, "free") for name in "qpppqrrp")
        self.assertEqual(waits(row), {"p": 3, "q": 3, "r": 6})
        self.assertEqual(list(waits(row)), ["p", "q", "r"])

    def test_rows(self):
        for line, standing in small_rounds(175, 200):
            if go_on(line, standing):
                row = round_row(line, standing)
                self.assertEqual(list(waits(row).items()), sorted(plain_waits(row).items()))
        dice = random.Random(1501)
        for _ in range(300):
            names = [dice.choice("zyxw") for _ in range(dice.randint(0, 12))]
            row = tuple((name, "staff") for name in names)
            self.assertEqual(list(waits(row).items()), sorted(plain_waits(row).items()))

    def test_shares(self):
        self.assertEqual(shares(LINE, TWO), {"t": 2, "u": 2})
        self.assertEqual(shares(LINE, (TWO[0], ())), {})
        for line, standing in sample_standings(177):
            expected = [(name, len(rest)) for name, _, rest in standing[1]]
            self.assertEqual(list(shares(line, standing).items()), sorted(expected))


class All(Checks, unittest.TestCase):
    def test_what_is_told_may_be_changed(self):
        for ask in (lambda: waits(ROW), lambda: shares(LINE, TWO)):
            told = ask()
            told["t"] = 7
            told["x"] = None
            self.assertEqual(ask(), {"t": 2, "u": 2})

    def test_what_is_handed_in_stays(self):
        for line, standing in small_rounds(179, 60):
            shown = repr((line, standing))
            for ask in (go_on, shares):
                self.assertEqual(ask(line, standing), ask(line, standing))
            self.assertIs(are_rounds(standing), are_rounds(standing))
            if go_on(line, standing):
                self.assertEqual(round_row(line, standing), round_row(line, standing))
            self.assertEqual(repr((line, standing)), shown)
        thing = [["t", "staff"], {"t": ("staff",)}]
        is_round_row(LINE, TWO, thing)
        self.assertEqual(thing, [["t", "staff"], {"t": ("staff",)}])


if __name__ == "__main__":
    unittest.main()
