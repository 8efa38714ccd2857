"""The guarantees [5] to [9] over the whole program: texts, plans, houses, days, JOURNALS, Kepts and desks together."""

import random
import unittest

import helper
from helper import Checks, small_standings, wide_standings
from staffhome import errors
from staffhome.days import latest_end, play
from staffhome.desk import Desk
from staffhome.firstplaces import first_staffs
from staffhome.held import held, held_back
from staffhome.house import House
from staffhome.journals import idle, is_home_journal, is_journal, last_end, most_abroad, waits
from staffhome.kept import Kept
from staffhome.linetexts import line_text, read_line
from staffhome.logs import reopened
from staffhome.moves import run
from staffhome.onetrain import bar, gets_home, row_for
from staffhome.plans import good_moves, is_plan, plan, refused_moves
from staffhome.rounds import go_on, is_round_row, round_row
from staffhome.shut import is_shut, shut_part
from staffhome.standingtexts import read_standing, standing_text
from staffhome.verdicts import is_safe, reason


def passes_of(standing):
    return sum(len(rest) for _, _, rest in standing[1])


def in_some_order(dice, standing):
    names = [train[0] for train in standing[1]]
    dice.shuffle(names)
    return tuple(names)


def asked_till_home(dice, house, names):
    """Each asks with the last number that it has, in any order; what is told is the log."""
    numbers = dict.fromkeys(names)
    while not helper.is_home(house.standing()):
        name = dice.choice(names)
        told = house.ask(name, numbers[name])
        if told[0] == "go":
            numbers[name] = told[1]
    return house.log()


class Shared(Checks):
    def is_let_home(self, dice, line, standing):
        """A SAFE STANDING: plans, houses, days, logs bring all home."""
        row = plan(line, standing)
        self.tells(is_plan(line, standing, row), True)
        self.assertEqual([len(row), helper.is_home(run(line, standing, row))], [passes_of(standing), True])
        names = in_some_order(dice, standing)
        if names:
            log = asked_till_home(dice, House(line, standing), names)
            moves = tuple(tuple(words.split(" ")[1:]) for words in log.split("\n") if words[:2] == "go")
            self.tells(is_plan(line, standing, moves), True)
            self.assertEqual(reopened(line, standing, log).log(), log)
        times = tuple(dice.randint(1, 9) for _ in range(dice.randint(1, 5)))
        lost = tuple(sorted({(dice.randint(0, 60), dice.choice(("ask", "answer"))) for _ in range(dice.choice((0, 5)))}))
        journal = play(line, standing, times, names, lost)
        self.tells(is_home_journal(line, standing, journal), True)
        self.tells(is_plan(line, standing, tuple(timed[1:3] for timed in journal)), True)
        self.assertLessEqual(last_end(journal), latest_end(line, standing, times, lost))
        self.assertLessEqual(len(idle(journal)), 2 * len(lost))
        self.assertLessEqual(most_abroad(journal), len(names))
        self.assertEqual(list(waits(standing, journal)), sorted(names))
        for at in range(0, len(journal), 1 + len(journal) // 6):
            self.tells(is_journal(line, standing, journal[:at]), True)
            self.tells(is_home_journal(line, standing, journal[:at]), False)

    def is_not_let(self, line, standing, why):
        """A STANDING that is not SAFE: all say so, and tell the same reason."""
        order = tuple(train[0] for train in standing[1])
        for call in (
            lambda: plan(line, standing), lambda: House(line, standing), lambda: play(line, standing, (1,), order, ()),
            lambda: reopened(line, standing, "x\n"),
        ):
            with self.raises(errors.NoWay, reason=why):
                call()
        self.assertEqual(good_moves(line, standing), ())

    def is_told_the_same(self, line, standing):
        """Texts, a Kept and a desk tell of the same STANDING."""
        sections, cards = line_text(line), standing_text(line, standing)
        self.assertEqual(read_line(sections), line)
        self.assertEqual(read_standing(line, cards), standing)
        kept, desk = Kept(line, standing), Desk(sections, cards)
        self.assertTrue(desk.kept() == kept)
        why = reason(line, standing)
        self.assertEqual([kept.reason(), kept.is_safe(), kept.held()], [why, why is None, held(line, standing)])
        self.assertEqual(desk.execute("safe") == ["safe"], why is None)
        self.assertEqual(desk.execute("plan")[:1] == desk.execute("safe"), why is not None)
        self.assertEqual(len(desk.execute("good")), len(good_moves(line, standing)))


class Small(Shared, unittest.TestCase):
    def test_all_home_or_none(self):
        dice = random.Random(2001)
        told = {True: 0, False: 0}
        for line, standing in small_standings(241, 500):
            home = any(helper.is_home(at) for at in helper.all_reached(line, standing, 400))
            self.tells(is_safe(line, standing), home)
            self.is_told_the_same(line, standing)
            if home:
                self.is_let_home(dice, line, standing)
            else:
                self.is_not_let(line, standing, reason(line, standing))
            told[home] += 1
        self.assertGreater(min(told.values()), 100)

    def test_one_train(self):
        told = {True: 0, False: 0}
        for line, standing in small_standings(243, 200):
            found = helper.all_reached(line, standing, 400)
            for name, _, _ in standing[1]:
                home = any(train == (name, train[1], ()) for at in found for train in at[1])
                self.tells(gets_home(line, standing, name), home)
                self.assertEqual([name not in held_back(line, standing), bar(line, standing, name) is None], [home, home])
                if home:
                    run(line, standing, row_for(line, standing, name))
                else:
                    with self.raises(errors.NoWay, reason=("held", held(line, standing))):
                        row_for(line, standing, name)
                told[home] += 1
        self.assertGreater(min(told.values()), 50)

    def test_rounds(self):
        dice = random.Random(2003)
        told = {True: 0, False: 0}
        for _ in range(300):
            line = helper.random_line(dice, dice.randint(2, 7), dice.choice([("staff",), ("staff", "ticket"), helper.SORTS]))
            trains = helper.round_trains(dice, line, dice.randint(1, 4), 3)
            staffs = tuple((key, dice.choice(key)) for key in helper.keys_of_sort(line, "staff", "ticket"))
            standing = (staffs, trains)
            shut = any(helper.is_shut(line, standing, part) for part in helper.parts_of(line))
            self.tells(go_on(line, standing), not shut)
            if shut:
                self.tells(is_shut(line, standing, shut_part(line, standing)), True)
            else:
                row = round_row(line, standing)
                self.tells(is_round_row(line, standing, row), True)
                behind = run(line, standing, row)
                self.assertEqual(behind[0], staffs)
                again = (behind[0], trains)
                self.assertEqual(run(line, again, row), behind)
                self.is_let_home(dice, line, standing)
            told[shut] += 1
        self.assertGreater(min(told.values()), 50)

    def test_first_staffs(self):
        dice = random.Random(2005)
        laid = 0
        for line, standing in small_standings(245, 150):
            try:
                staffs = first_staffs(line, standing[1])
            except errors.NoWay:
                continue
            self.is_let_home(dice, line, (staffs, standing[1]))
            laid += 1
        self.assertGreater(laid, 50)


class Wide(Shared, unittest.TestCase):
    def test_safe_ones(self):
        dice = random.Random(2007)
        for line, standing, row in wide_standings(247):
            with self.within(60):
                self.tells(is_plan(line, standing, row), True)
                self.is_told_the_same(line, standing)
                self.is_let_home(dice, line, standing)
                self.assertEqual(held(line, standing), ())

    def test_ones_that_are_not(self):
        """Behind a MOVE that is refused, and with a staff carried from where it is needed."""
        dice = random.Random(2009)
        told = {"passes": 0, "shut": 0}
        for seed in range(249, 253):
            for line, standing, row in wide_standings(seed):
                at = run(line, standing, row[:dice.randint(0, len(row))])
                moves = [move for move, _ in refused_moves(line, at)]
                if moves:
                    at = helper.behind(line, at, dice.choice(moves))
                else:
                    key, station = dice.choice(at[0])
                    at = (tuple((one, lies if one != key else key[key[0] == lies]) for one, lies in at[0]), at[1])
                why = reason(line, at)
                if why is not None:
                    self.assertTrue(helper.is_reason(line, at, why))
                    self.is_not_let(line, at, why)
                    self.is_told_the_same(line, at)
                    told[why[0]] += 1
        self.assertGreater(min(told.values()), 1)

    def test_rounds(self):
        dice = random.Random(2011)
        for sorts in (helper.SORTS, ("staff",), ("staff", "ticket")):
            line = helper.random_line(dice, 24, sorts)
            trains = helper.round_trains(dice, line, 24, 10)
            standing = (first_staffs(line, trains), trains)
            with self.within(60):
                self.tells(go_on(line, standing), True)
                self.tells(is_round_row(line, standing, round_row(line, standing)), True)
                self.is_let_home(dice, line, standing)


if __name__ == "__main__":
    unittest.main()
