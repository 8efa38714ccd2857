"""Point [21], by the definition of HELD in [2]."""

import random
import unittest

import helper
from helper import Checks, any_values, exchanged, keys_of, sample_standings, small_standings, wide_standings
from staffhome.held import held, held_back, is_held

LINE = (("a", "b", "c", "d"), (("a", "b", "staff"), ("b", "c", "ticket"), ("b", "d", "free")))
BOTH = (("a", "b"), ("b", "c"))


def staffs_at(staff, ticket):
    return ((("a", "b"), staff), (("b", "c"), ticket))


# Each of both trains stands behind the staff that the other one needs.
STUCK = (staffs_at("b", "b"), (("p", "a", ("b", "c")), ("q", "c", ("b", "a")), ("r", "d", ("b",))))


class IsHeld(Checks, unittest.TestCase):
    def test_each_lot_of_small_lines(self):
        answers = {True: 0, False: 0}
        for line, standing in small_standings(41, 500):
            for lot in helper.all_lots(line):
                expected = helper.is_held(line, standing, lot)
                self.tells(is_held(line, standing, lot), expected, line, standing, lot)
                answers[expected] += 1
        self.assertGreater(min(answers.values()), 100)

    def test_lots_of_all_lines(self):
        dice = random.Random(401)
        for line, standing in sample_standings(43):
            for _ in range(10):
                lot = tuple(sorted(dice.sample(keys_of(line), dice.randint(0, len(keys_of(line))))))
                self.tells(is_held(line, standing, lot), helper.is_held(line, standing, lot), line, standing, lot)

    def test_by_hand(self):
        self.tells(is_held(LINE, STUCK, BOTH), True)
        self.tells(is_held(LINE, STUCK, BOTH[:1]), False)
        self.tells(is_held(LINE, STUCK, BOTH[1:]), False)
        self.tells(is_held(LINE, STUCK, ()), False)

    def test_a_free_section_is_never_in_it(self):
        self.tells(is_held(LINE, STUCK, (*BOTH, ("b", "d"))), False)
        self.tells(is_held(LINE, STUCK, (("b", "d"),)), False)

    def test_a_section_that_nobody_needs_is_never_in_it(self):
        standing = (staffs_at("b", "b"), (("p", "a", ("b",)),))
        self.tells(is_held(LINE, standing, (("a", "b"),)), True)
        self.tells(is_held(LINE, standing, BOTH), False)
        self.tells(is_held(LINE, standing, (("b", "c"),)), False)

    def test_only_the_first_pass_over_the_lot_counts(self):
        away = (staffs_at("b", "b"), (("p", "c", ("b", "a", "b")),))
        self.tells(is_held(LINE, away, BOTH), True)
        self.tells(is_held(LINE, away, (("b", "c"),)), True)
        self.tells(is_held(LINE, away, (("a", "b"),)), False)

    def test_any_value(self):
        for thing in any_values():
            self.tells(is_held(LINE, STUCK, thing), False, thing)

    def test_nearly_the_lot(self):
        others = [None, True, 0, "a", ("a", "b"), ("b", "a"), ["a", "b"], ("b", "c"), ("b", "d"), ("a", "c"), (), "ab"]
        held_too = 0
        for thing in exchanged(BOTH, others):
            expected = thing == BOTH
            self.tells(is_held(LINE, STUCK, thing), expected, thing)
            held_too += expected
        self.assertGreater(held_too, 0)
        for thing in ([*BOTH], BOTH[::-1], BOTH + BOTH, BOTH[:1] * 2, (("b", "a"), ("b", "c")), ("ab", "bc"), {BOTH: 1}):
            self.tells(is_held(LINE, STUCK, thing), False, thing)


class Held(Checks, unittest.TestCase):
    def test_by_hand(self):
        self.assertEqual([held(LINE, STUCK), held_back(LINE, STUCK)], [BOTH, ("p", "q")])
        late = (STUCK[0], STUCK[1][:2] + (("r", "d", ("b", "c")),))
        self.assertEqual([held(LINE, late), held_back(LINE, late)], [(), ()])
        self.assertEqual([held(LINE, (STUCK[0], ())), held_back(LINE, (STUCK[0], ()))], [(), ()])

    def test_it_is_the_greatest(self):
        lots = 0
        for line, standing in small_standings(45, 500):
            told = held(line, standing)
            expected = [lot for lot in helper.all_lots(line) if helper.is_held(line, standing, lot)]
            for lot in expected:
                self.assertLessEqual(set(lot), set(told))
            self.assertTrue(told in expected or (told == () and expected == []))
            lots += len(expected) > 1
        self.assertGreater(lots, 20)

    def test_all_lines(self):
        dice = random.Random(403)
        for line, standing in list(sample_standings(47)) + list(small_standings(49, 300)):
            passed, trains = helper.open_end(dice, line, standing)
            keys = [key for key in helper.keys_of_sort(line, "staff", "ticket") if key in helper.needed_keys(standing)]
            told = held(line, standing)
            self.assertEqual(told, tuple(key for key in keys if key not in passed))
            self.tells(is_held(line, standing, told), told != ())
            back = [train[0] for train in standing[1] if {helper.key_of(*s) for s in helper.steps_of(train)} & set(told)]
            self.assertEqual(held_back(line, standing), tuple(back))
            self.assertEqual(held_back(line, standing), tuple(name for name, _, rest in trains if rest))

    def test_at_the_bounds(self):
        for line, standing, _ in wide_standings(51):
            with self.within(5):
                self.assertEqual([held(line, standing), held_back(line, standing)], [(), ()])
                self.tells(is_held(line, standing, tuple(keys_of(line))), False)

    def test_what_is_handed_in_stays(self):
        for line, standing in sample_standings(53):
            lot = tuple(keys_of(line))
            shown = repr((line, standing))
            for ask in (held, held_back):
                self.assertEqual(ask(line, standing), ask(line, standing))
            self.assertIs(is_held(line, standing, lot), is_held(line, standing, lot))
            self.assertEqual(repr((line, standing)), shown)
        thing = [["a", "b"], {"a": ("b",)}]
        is_held(LINE, STUCK, thing)
        self.assertEqual(thing, [["a", "b"], {"a": ("b",)}])


if __name__ == "__main__":
    unittest.main()
