"""Point [29], and what it says with [5], all STAFFS gone through on small LINES."""

import itertools
import random
import unittest

import helper
from helper import Checks, any_values, exchanged, sample_standings
from staffhome import errors
from staffhome.firstplaces import are_first_staffs, first_staffs, is_no_places, passes_from
from staffhome.verdicts import is_safe

LINE = (("a", "b", "c", "d"), (("a", "b", "staff"), ("b", "c", "staff"), ("c", "d", "ticket")))
TRAINS = (("t", "a", ("b",)), ("u", "a", ("b", "c", "b", "a")), ("v", "c", ("d", "c")))
STAFFS = ((("a", "b"), "a"), (("b", "c"), "b"), (("c", "d"), "c"))
BOTH = (("t", "a", ("b",)), ("u", "a", ("b", "c")))


def plain_passes(trains, key):
    steps = helper.steps_left(trains)
    return (steps.count(key), steps.count((key[1], key[0])))


def no_places(line, trains):
    """The reasons why there are no FIRST STAFFS."""
    found = [("passes", key, *plain_passes(trains, key)) for key in helper.keys_of_sort(line, "staff")]
    return [told for told in found if abs(told[2] - told[3]) > 1]


def all_staffs(line):
    keys = helper.keys_of_sort(line, "staff", "ticket")
    return [tuple(zip(keys, ends)) for ends in itertools.product(*keys)]


def small_trains(seed, many):
    """Pairs of a small LINE and trains of it from which few STANDINGS are reached."""
    dice = random.Random(seed)
    pairs = []
    while len(pairs) < many:
        line = helper.random_line(dice, dice.randint(2, 5), dice.choice([("staff",), ("staff", "ticket"), helper.SORTS]))
        trains = helper.random_standing(dice, line, dice.randint(1, 4), 6)[1]
        if all(helper.all_reached(line, (staffs, trains), 300) is not None for staffs in all_staffs(line)):
            pairs.append((line, trains))
    return pairs


def laid(line, trains):
    """The STAFFS made as the point tells it."""
    left = {key: plain_passes(trains, key) for key in helper.keys_of_sort(line, "staff")}
    places = {key: key[a < b] for key, (a, b) in left.items() if a != b}
    passed = {key: True for key in helper.keys_of_sort(line, "free")}
    at = {name: (place, list(rest)) for name, place, rest in trains}
    going = True
    while going:
        going = False
        for name in sorted(at):
            place, rest = at[name]
            while rest:
                key = helper.key_of(place, rest[0])
                if key not in passed and places.setdefault(key, place) != place:
                    break
                passed[key] = True
                place, going = rest.pop(0), True
            at[name] = (place, rest)
    return tuple((key, places.get(key, key[0])) for key in helper.keys_of_sort(line, "staff", "ticket"))


class Passes(Checks, unittest.TestCase):
    def test_by_hand(self):
        told = [passes_from(LINE, TRAINS, key) for key in helper.keys_of(LINE)]
        self.assertEqual(told, [(2, 1), (1, 1), (1, 1)])
        self.assertEqual(passes_from(LINE, (("t", "b", ("a", "b", "a")),), ("a", "b")), (1, 2))
        self.assertEqual(passes_from(LINE, (), ("a", "b")), (0, 0))

    def test_all_lines(self):
        for line, standing in sample_standings(181):
            for key in helper.keys_of(line):
                self.assertEqual(passes_from(line, standing[1], key), plain_passes(standing[1], key))


class FirstStaffs(Checks, unittest.TestCase):
    def test_all_staffs_of_small_lines(self):
        """There are such ones exactly if the counts of no "staff" section differ by more than 1."""
        told = {True: 0, False: 0}
        several = 0
        for line, trains in small_trains(183, 300):
            right = []
            for staffs in all_staffs(line):
                home = any(helper.is_home(at) for at in helper.all_reached(line, (staffs, trains), 300))
                self.tells(are_first_staffs(line, trains, staffs), home, line, trains, staffs)
                right.extend([staffs] if home else [])
            reasons = no_places(line, trains)
            self.assertEqual(right == [], reasons != [], (line, trains))
            if right:
                self.assertIn(first_staffs(line, trains), right)
            else:
                with self.raises(errors.NoWay, reason=reasons[0]):
                    first_staffs(line, trains)
            told[right != []] += 1
            several += 1 < len(right) < len(all_staffs(line))
        self.assertGreater(min(told.values()), 30)
        self.assertGreater(several, 30)

    def test_they_are_laid_as_told(self):
        told = 0
        for line, trains in small_trains(185, 300) + [(line, at[1]) for line, at in sample_standings(187)]:
            if no_places(line, trains) == []:
                self.assertEqual(first_staffs(line, trains), laid(line, trains))
                told += 1
        self.assertGreater(told, 150)

    def test_by_hand(self):
        self.assertEqual(first_staffs(LINE, TRAINS), STAFFS)
        self.assertEqual(first_staffs(LINE, ()), STAFFS)
        self.assertEqual(first_staffs((("a",), ()), (("t", "a", ()),)), ())
        free = (("a", "b", "c"), (("a", "b", "free"), ("b", "c", "ticket")))
        self.assertEqual(first_staffs(free, tuple((name, "c", ("b", "a")) for name in "pqr")), ((("b", "c"), "c"),))

    def test_the_second_train_may_be_the_one_that_opens(self):
        """Both ways are gone equally often: the staff lies where the first one comes from that can come."""
        line = (("a", "b", "c"), (("a", "b", "staff"), ("b", "c", "staff")))
        trains = (("p", "a", ("b", "c")), ("q", "b", ("a",)), ("r", "b", ("a",)), ("s", "c", ("b",)))
        self.assertEqual(first_staffs(line, trains), ((("a", "b"), "b"), (("b", "c"), "c")))
        self.tells(is_safe(line, (first_staffs(line, trains), trains)), True)

    def test_no_places(self):
        with self.raises(errors.NoWay, reason=("passes", ("a", "b"), 2, 0)):
            first_staffs(LINE, BOTH)
        trains = (("t", "c", ("b", "a")), ("u", "c", ("b", "a")), ("v", "c", ("b",)))
        with self.raises(errors.NoWay, reason=("passes", ("a", "b"), 0, 2)):
            first_staffs(LINE, trains)
        with self.raises(errors.NoWay, reason=("passes", ("b", "c"), 0, 2)):
            first_staffs(LINE, trains[1:])

    def test_wide_lines(self):
        dice = random.Random(1601)
        for sorts in (("staff",), ("staff", "ticket"), helper.SORTS):
            for line in (helper.row_line(24, sorts), helper.star_line(24, sorts), helper.random_line(dice, 24, sorts)):
                sets = [helper.round_trains(dice, line, 24, 10), helper.safe_standing(dice, line, 24, 40, 480)[0][1]]
                for trains in sets:
                    with self.within(5):
                        staffs = first_staffs(line, trains)
                        self.tells(are_first_staffs(line, trains, staffs), True)
                    self.assertEqual(staffs, laid(line, trains))
                    turned = tuple((key, key[key[0] == near]) for key, near in staffs)
                    with self.within(5):
                        self.tells(are_first_staffs(line, trains, turned), is_safe(line, (turned, trains)))


class Judges(Checks, unittest.TestCase):
    def test_first_staffs_of_any_value(self):
        for thing in any_values():
            self.tells(are_first_staffs(LINE, TRAINS, thing), False, thing)
            self.tells(are_first_staffs((("a",), ()), (), thing), type(thing) is tuple and thing == (), thing)

    def test_nearly_first_staffs(self):
        others = [None, True, "a", "b", "c", "d", ("a", "b"), ("b", "a"), (("a", "b"), "a"), (("a", "b"), "c"), (), []]
        told = {True: 0, False: 0}
        for thing in exchanged(STAFFS, others):
            expected = helper.are_staffs(LINE, thing) and helper.all_fit(LINE, (thing, TRAINS))
            expected = expected and any(map(helper.is_home, helper.all_reached(LINE, (thing, TRAINS), 300)))
            self.tells(are_first_staffs(LINE, TRAINS, thing), expected, thing)
            told[expected] += 1
        self.assertGreater(min(told.values()), 1)
        for thing in ([*STAFFS], STAFFS[:2], STAFFS[::-1], STAFFS + STAFFS[-1:], dict(STAFFS)):
            self.tells(are_first_staffs(LINE, TRAINS, thing), False, thing)

    def test_no_places_of_any_value(self):
        told = {True: 0, False: 0}
        for trains in (BOTH, TRAINS):
            for part in any_values():
                for thing in (
                    part, (part, ("a", "b"), 2, 0), ("passes", part, 2, 0), ("passes", ("a", "b"), part, 0),
                    ("passes", ("a", "b"), 2, part), ("shut", part),
                ):
                    expected = trains == BOTH and thing == ("passes", ("a", "b"), 2, 0)
                    expected = expected and type(thing[2]) is type(thing[3]) is int
                    self.tells(is_no_places(LINE, trains, thing), expected, thing)
                    told[expected] += 1
        self.assertGreater(told[True], 2)

    def test_nearly_a_reason(self):
        trains = (("t", "c", ("b", "a")), ("u", "c", ("b", "a")), ("v", "c", ("b", "c", "d")))
        rights = [("passes", ("a", "b"), 0, 2), ("passes", ("b", "c"), 1, 3)]
        self.assertEqual(no_places(LINE, trains), rights)
        told = 0
        others = [None, True, False, 0, 1, 2, 3, "passes", "shut", ("a", "b"), ("b", "a"), ("b", "c"), ("c", "d"), "a", ()]
        for right in rights:
            for thing in exchanged(right, others):
                expected = thing in rights and type(thing[2]) is type(thing[3]) is int
                self.tells(is_no_places(LINE, trains, thing), expected, thing)
                told += expected
        self.assertGreater(told, 1)

    def test_truths_are_no_counts(self):
        for trains, right in ((BOTH, ("passes", ("a", "b"), 2, False)), (BOTH[:1], ("passes", ("a", "b"), True, 0))):
            self.tells(is_no_places(LINE, trains, right), False, right)

    def test_sections_that_differ_by_one_or_have_tickets(self):
        for key in helper.keys_of(LINE):
            self.tells(is_no_places(LINE, TRAINS, ("passes", key, *plain_passes(TRAINS, key))), False, key)
        tickets = tuple((name, "c", ("d",)) for name in "pqr")
        self.tells(is_no_places(LINE, tickets, ("passes", ("c", "d"), 3, 0)), False)
        self.assertEqual(first_staffs(LINE, tickets), STAFFS)


class All(Checks, unittest.TestCase):
    def test_what_is_handed_in_stays(self):
        for line, standing in sample_standings(189):
            trains = standing[1]
            shown = repr((line, trains))
            for key in helper.keys_of(line):
                self.assertEqual(passes_from(line, trains, key), passes_from(line, trains, key))
            if no_places(line, trains) == []:
                self.assertEqual(first_staffs(line, trains), first_staffs(line, trains))
            self.assertIs(are_first_staffs(line, trains, standing[0]), are_first_staffs(line, trains, standing[0]))
            self.assertEqual(repr((line, trains)), shown)
        thing = [["passes", ("a", "b")], {"a": 2}]
        is_no_places(LINE, BOTH, thing)
        are_first_staffs(LINE, BOTH, thing)
        self.assertEqual(thing, [["passes", ("a", "b")], {"a": 2}])


if __name__ == "__main__":
    unittest.main()
