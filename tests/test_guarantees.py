"""What [5], [6], [7], [8] and [10] say FOR EVERY standing, on small ones, by all ROWS gone through."""

import random
import unittest

import helper
from helper import Checks, small_standings
from staffhome.fits import overfull
from staffhome.held import held, held_back, is_held
from staffhome.openruns import open_run
from staffhome.shut import is_shut, shut_part, shut_parts
from staffhome.verdicts import is_safe


class AllHome(Checks, unittest.TestCase):
    def test_safe_exactly_if_all_fits_and_no_part_is_shut(self):
        answers = {}
        for line, standing in small_standings(91, 1500):
            home = any(helper.is_home(at) for at in helper.all_reached(line, standing, 400))
            fits = helper.all_fit(line, standing)
            shut = any(helper.is_shut(line, standing, part) for part in helper.all_parts(line))
            self.assertIs(home, fits and not shut, (line, standing))
            self.tells(is_safe(line, standing), home, line, standing)
            self.assertEqual([overfull(line, standing) == (), shut_part(line, standing) is not None], [fits, shut])
            answers[fits, shut] = answers.get((fits, shut), 0) + 1
        self.assertEqual(len(answers), 4)
        self.assertGreater(min(answers.values()), 30)

    def test_always_a_move(self):
        """Behind some MOVE of what is SAFE it is SAFE again; what is refused is neither free nor with a ticket."""
        refused = 0
        for line, standing in small_standings(93, 800):
            found = helper.all_reached(line, standing, 400)
            if not any(helper.is_home(at) for at in found):
                continue
            for at in found:
                if helper.is_home(at) or not is_safe(line, at):
                    continue
                laters = helper.moves_behind(line, at)
                good = [move for move, later in laters if is_safe(line, later)]
                self.assertNotEqual(good, [])
                for move, later in laters:
                    self.assertEqual(overfull(line, later), ())
                    if move not in good:
                        refused += 1
                        self.assertIsNotNone(shut_part(line, later))
                        self.assertTrue(move[1] == "staff" or (move[0], "staff") in good, (line, at, move))
                        self.assertNotEqual(move[1], "free")
        self.assertGreater(refused, 100)


class ShutAndHeld(Checks, unittest.TestCase):
    def test_three_ways_to_say_it(self):
        answers = {True: 0, False: 0}
        for line, standing in small_standings(95, 1000):
            shut = any(helper.is_shut(line, standing, part) for part in helper.all_parts(line))
            lots = [lot for lot in helper.all_lots(line) if helper.is_held(line, standing, lot)]
            left = any(rest for _, _, rest in open_run(line, standing)[1])
            self.assertEqual([shut, left, held_back(line, standing) != ()], [lots != []] * 3)
            self.assertEqual(set(held(line, standing)), {key for lot in lots for key in lot})
            answers[shut] += 1
        self.assertGreater(min(answers.values()), 100)

    def test_both_stay_so_behind_any_row(self):
        """A PART that is SHUT stays SHUT, a LOT that is HELD stays HELD: no section of it is ever passed."""
        stayed = 0
        for line, standing in small_standings(97, 500):
            parts = shut_parts(line, standing)
            lots = [lot for lot in helper.all_lots(line) if helper.is_held(line, standing, lot)]
            if not parts:
                continue
            for at in helper.all_reached(line, standing, 400):
                for part in parts:
                    self.tells(is_shut(line, at, part), True, line, standing, at, part)
                for lot in lots:
                    self.tells(is_held(line, at, lot), True, line, standing, at, lot)
                for key in held(line, standing):
                    self.assertEqual(helper.plain_counts(at, key), helper.plain_counts(standing, key))
                self.assertLessEqual(set(held(line, standing)), set(held(line, at)))
                stayed += 1
        self.assertGreater(stayed, 500)


class OneTrain(Checks, unittest.TestCase):
    def test_home_by_some_row_exactly_if_by_the_open_run(self):
        answers = {}
        for line, standing in small_standings(99, 1000):
            found = helper.all_reached(line, standing, 400)
            home = {name for at in found for name, _, rest in at[1] if rest == ()}
            self.assertEqual(home, {name for name, _, rest in open_run(line, standing)[1] if rest == ()})
            self.assertEqual({train[0] for train in standing[1]} - home, set(held_back(line, standing)))
            fits = helper.all_fit(line, standing)
            for train in standing[1]:
                answers[fits, train[0] in home] = answers.get((fits, train[0] in home), 0) + 1
        self.assertEqual(len(answers), 4)
        self.assertGreater(min(answers.values()), 100)

    def test_rows_that_go_on_as_they_like(self):
        """On LINES of all sizes: whom any ROW brings home, and the OPEN RUN behind it, the first OPEN RUN brings home."""
        dice = random.Random(901)
        for line, standing in helper.sample_standings(101):
            told = open_run(line, standing)
            _, standings = helper.random_row(dice, line, standing, 100)
            homes = {name for name, _, rest in told[1] if rest == ()}
            for at in standings:
                self.assertLessEqual({name for name, _, rest in open_run(line, at)[1] if rest == ()}, homes)
            self.assertLessEqual({name for name, _, rest in standings[-1][1] if rest == ()}, homes)


if __name__ == "__main__":
    unittest.main()
