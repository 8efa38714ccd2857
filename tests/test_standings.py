"""Point [16]."""

import random
import unittest

import helper
from helper import Checks, sample_standings
from staffhome import errors
from staffhome.standings import (
    is_home, names_of, needed, passes_left, passes_of, place_of, rest_of, staff_of, stops_left, trains_at, with_staff,
    with_train, without_train,
)

LINE = (("a", "b", "c", "d"), (("a", "b", "staff"), ("b", "c", "ticket"), ("b", "d", "free")))
STAFFS = ((("a", "b"), "a"), (("b", "c"), "c"))
TRAINS = (("p", "a", ("b", "d", "b", "a")), ("pq", "c", ("b", "a")), ("r", "d", ()), ("s", "a", ("b", "a", "b")))
STANDING = (STAFFS, TRAINS)
NOBODY = (STAFFS, ())


def steps_of(train):
    name, place, rest = train
    return tuple((place if at == 0 else rest[at - 1], stop) for at, stop in enumerate(rest))


class OneTrain(Checks, unittest.TestCase):
    def test_told(self):
        self.assertEqual(place_of(STANDING, "pq"), "c")
        self.assertEqual(rest_of(STANDING, "pq"), ("b", "a"))
        self.assertEqual(rest_of(STANDING, "r"), ())
        self.assertEqual(passes_of(STANDING, "p"), (("a", "b"), ("b", "d"), ("d", "b"), ("b", "a")))
        self.assertEqual(passes_of(STANDING, "pq"), (("c", "b"), ("b", "a")))
        self.assertEqual(passes_of(STANDING, "r"), ())

    def test_each_train(self):
        for _, standing in sample_standings():
            for train in standing[1]:
                name, place, rest = train
                self.assertEqual(place_of(standing, name), place)
                self.assertEqual(rest_of(standing, name), rest)
                self.assertEqual(passes_of(standing, name), steps_of(train))

    def test_no_train(self):
        asks = (place_of, rest_of, passes_of, without_train)
        for standing in (STANDING, NOBODY, ((), ())):
            for name in ("q", "a", "pp", "z" * 12):
                for ask in asks:
                    with self.raises(errors.NoTrain, name=name):
                        ask(standing, name)

    def test_the_name_of_no_train_is_the_very_one(self):
        name = "".join(["n", "o", "b"])
        for ask in (place_of, rest_of, passes_of, without_train):
            with self.assertRaises(errors.NoTrain) as caught:
                ask(STANDING, name)
            self.assertIs(caught.exception.name, name)


class AllTrains(Checks, unittest.TestCase):
    def test_names(self):
        self.assertEqual(names_of(STANDING), ("p", "pq", "r", "s"))
        self.assertEqual(names_of(NOBODY), ())
        for _, standing in sample_standings():
            self.assertEqual(names_of(standing), tuple(train[0] for train in standing[1]))

    def test_trains_at(self):
        self.assertEqual(trains_at(STANDING, "a"), ("p", "s"))
        self.assertEqual(trains_at(STANDING, "b"), ())
        self.assertEqual(trains_at(STANDING, "d"), ("r",))
        self.assertEqual(trains_at(NOBODY, "a"), ())
        for line, standing in sample_standings():
            for station in line[0]:
                expected = [name for name, place, _ in standing[1] if place == station]
                self.assertEqual(trains_at(standing, station), tuple(expected))

    def test_staff_of(self):
        self.assertEqual(staff_of(STANDING, ("a", "b")), "a")
        self.assertEqual(staff_of(STANDING, ("b", "c")), "c")
        self.assertIsNone(staff_of(STANDING, ("b", "d")))
        for line, standing in sample_standings():
            for one, other, _ in line[1]:
                self.assertEqual(staff_of(standing, (one, other)), dict(standing[0]).get((one, other)))

    def test_passes_left_told(self):
        expected = {("a", "b"): 3, ("b", "a"): 3, ("b", "d"): 1, ("c", "b"): 1, ("d", "b"): 1}
        self.assertEqual(passes_left(LINE, STANDING), expected)
        self.assertEqual(passes_left(LINE, NOBODY), {})
        self.assertEqual(passes_left(LINE, (STAFFS, (("r", "d", ()),))), {})

    def test_passes_left(self):
        for line, standing in sample_standings():
            steps = [step for train in standing[1] for step in steps_of(train)]
            left = passes_left(line, standing)
            self.assertEqual(list(left.items()), [(step, steps.count(step)) for step in sorted(set(steps))])
            self.assertEqual(stops_left(standing), len(steps))

    def test_passes_left_may_be_changed(self):
        left = passes_left(LINE, STANDING)
        kept = dict(left)
        left[("a", "b")] = 9
        del left[("c", "b")]
        self.assertEqual(passes_left(LINE, STANDING), kept)
        self.assertEqual(STANDING[1], TRAINS)
        other = passes_left(LINE, STANDING)
        other.clear()
        self.assertEqual(passes_left(LINE, STANDING), kept)

    def test_needed(self):
        self.assertEqual(needed(LINE, STANDING), (("a", "b"), ("b", "c"), ("b", "d")))
        self.assertEqual(needed(LINE, (STAFFS, (("p", "d", ("b",)),))), (("b", "d"),))
        self.assertEqual(needed(LINE, (STAFFS, (("p", "b", ("d",)),))), (("b", "d"),))
        self.assertEqual(needed(LINE, NOBODY), ())
        for line, standing in sample_standings():
            used = {tuple(sorted(step)) for train in standing[1] for step in steps_of(train)}
            self.assertEqual(needed(line, standing), tuple(sorted(used)))

    def test_stops_left_and_home(self):
        self.assertEqual(stops_left(STANDING), 9)
        self.assertEqual(stops_left(NOBODY), 0)
        self.tells(is_home(STANDING), False)
        self.tells(is_home(NOBODY), True)
        self.tells(is_home(((), ())), True)
        self.tells(is_home((STAFFS, (("p", "a", ()), ("q", "a", ())))), True)
        self.tells(is_home((STAFFS, (("p", "a", ("b",)), ("q", "a", ())))), False)
        self.tells(is_home((STAFFS, (("p", "a", ()), ("q", "a", ("b",))))), False)
        for _, standing in sample_standings():
            self.tells(is_home(standing), all(rest == () for _, _, rest in standing[1]))


class Changed(Checks, unittest.TestCase):
    def test_with_staff_told(self):
        self.assertEqual(with_staff(STANDING, ("a", "b"), "b"), (((("a", "b"), "b"), (("b", "c"), "c")), TRAINS))
        self.assertEqual(with_staff(STANDING, ("b", "c"), "b"), (((("a", "b"), "a"), (("b", "c"), "b")), TRAINS))
        self.assertEqual(with_staff(STANDING, ("b", "c"), "c"), STANDING)

    def test_with_staff(self):
        for line, standing in sample_standings():
            shown = repr(standing)
            for key, _ in standing[0]:
                for end in key:
                    staffs = {**dict(standing[0]), key: end}
                    self.assertEqual(with_staff(standing, key, end), (tuple(sorted(staffs.items())), standing[1]))
            self.assertEqual(repr(standing), shown)

    def test_with_train_told(self):
        for name, at in (("a", 0), ("pp", 1), ("q", 2), ("z", 4)):
            train = (name, "b", ("c",))
            self.assertEqual(with_train(STANDING, train), (STAFFS, TRAINS[:at] + (train,) + TRAINS[at:]))
        for at, (name, _, _) in enumerate(TRAINS):
            train = (name, "d", ("b", "c"))
            self.assertEqual(with_train(STANDING, train), (STAFFS, TRAINS[:at] + (train,) + TRAINS[at + 1:]))
        self.assertEqual(with_train(STANDING, TRAINS[0]), STANDING)
        self.assertEqual(with_train(NOBODY, TRAINS[0]), (STAFFS, TRAINS[:1]))

    def test_with_train(self):
        dice = random.Random(31)
        for line, standing in sample_standings():
            for name in ["n", "pqp", "q" * 12, "z"] + [train[0] for train in standing[1][:4]]:
                place = dice.choice(line[0])
                train = (name, place, helper.random_rest(dice, line, place, 3))
                trains = {**{other[0]: other for other in standing[1]}, name: train}
                expected = (standing[0], tuple(trains[other] for other in sorted(trains)))
                self.assertEqual(with_train(standing, train), expected)
                self.assertTrue(helper.is_standing(line, expected))

    def test_without_train(self):
        for at, (name, _, _) in enumerate(TRAINS):
            self.assertEqual(without_train(STANDING, name), (STAFFS, TRAINS[:at] + TRAINS[at + 1:]))
        for _, standing in sample_standings():
            for name, _, _ in standing[1]:
                others = tuple(train for train in standing[1] if train[0] != name)
                self.assertEqual(without_train(standing, name), (standing[0], others))

    def test_what_is_handed_in_stays(self):
        shown = repr((LINE, STANDING))
        for _ in range(2):
            with_staff(STANDING, ("a", "b"), "b")
            with_train(STANDING, ("p", "d", ()))
            without_train(STANDING, "p")
            needed(LINE, STANDING)
        self.assertEqual(repr((LINE, STANDING)), shown)


if __name__ == "__main__":
    unittest.main()
