"""Point [32], beside a house that follows its words one after the other."""

import copy
import random
import unittest

import helper
from helper import Checks, PlainHouse, any_values, exchanged, small_standings, wide_standings
from staffhome import errors
from staffhome.house import House
from staffhome.verdicts import is_safe, reason

LINE = (("a", "b", "c"), (("a", "b", "staff"), ("b", "c", "staff")))
STANDING = (((("a", "b"), "a"), (("b", "c"), "b")), (("x", "a", ("b",)), ("y", "a", ("b", "c", "b", "a"))))


def safe_ones(seed, many):
    return [(line, standing) for line, standing in small_standings(seed, many) if helper.is_safe(line, standing)]


def passes_of(standing):
    return sum(len(rest) for _, _, rest in standing[1])


def all_told(house):
    return (house.standing(), house.under_way(), house.goers(), house.log())


class Shared(Checks):
    def same(self, house, plain):
        """All that a house tells beside its asks is what the plain one has."""
        self.assertEqual(house.standing(), plain.standing)
        self.assertEqual(list(house.under_way().items()), list(plain.under_way().items()))
        self.assertEqual(house.log(), plain.log())
        goers = [name for name, words in plain.next_rows().items() if words[0] == "go"]
        self.assertEqual(house.goers(), tuple(goers))

    def asks(self, house, plain, name, number):
        told, expected = house.ask(name, number), plain.ask(name, number)
        if expected[0] == "refused":
            self.assertEqual(told, ("refused", reason(plain.line, expected[1])))
            self.assertTrue(helper.is_reason(plain.line, expected[1], told[1]))
            self.assertEqual(told[1][0], "shut")
        else:
            self.assertEqual(told, expected)
            self.assertEqual([type(part) for part in told], [type(part) for part in expected])
        return told

    def at_no_time_wrong(self, house, line):
        """The STANDING is SAFE, no two are in a section that is not "free", and somebody is let if none is under way."""
        self.assertTrue(is_safe(line, house.standing()))
        ways = house.under_way()
        keys = [helper.key_of(start, stop) for start, stop, _, _ in ways.values()]
        keys = [key for key in keys if key not in helper.keys_of_sort(line, "free")]
        self.assertEqual(len(keys), len(set(keys)))
        self.assertEqual(list(ways), sorted(ways))
        if not ways:
            self.assertEqual(house.goers() == (), helper.is_home(house.standing()))


class Ask(Shared, unittest.TestCase):
    def test_any_asks(self):
        """Numbers right, elder, later, None, never given, from any train, till all are home."""
        dice = random.Random(1301)
        told = dict.fromkeys(("late", "home", "wait", "away", "go", "refused", "again", "went on"), 0)
        for line, standing in safe_ones(161, 300):
            house, plain = House(line, standing), PlainHouse(line, standing)
            names = list(plain.lasts)
            for _ in range(8 * passes_of(standing) + 8):
                name = dice.choice(names)
                numbers = [plain.lasts[name], plain.ways[name], plain.ways[name], None, 0, 1, 5, 10 ** 39]
                numbers.append(dice.randint(0, len(plain.grants) + 1))
                number = dice.choice(numbers)
                answer = self.asks(house, plain, name, number)
                told[answer[0]] += 1
                told["again"] += answer[0] == "go" and len(plain.grants) - 1 != answer[1]
                told["went on"] += answer[0] == "go" and plain.rows[-2:-1] == [f"at {name}"]
                self.same(house, plain)
                self.at_no_time_wrong(house, line)
        self.assertGreater(min(told.values()), 7, told)

    def test_till_all_are_home(self):
        """Each asks with what it has, in any order; the last ones under way come last."""
        dice = random.Random(1303)
        refused = 0
        for line, standing in safe_ones(163, 300):
            house, plain = House(line, standing), PlainHouse(line, standing)
            names = list(plain.lasts)
            while not helper.is_home(house.standing()) or house.under_way():
                name = dice.choice(names)
                if plain.ways[name] is not None and dice.random() < 0.5:
                    answer = self.asks(house, plain, name, plain.ways[name])
                else:
                    answer = self.asks(house, plain, name, plain.lasts[name])
                if answer[0] == "refused":
                    refused += 1
                    (step,) = [row for row in house.standing()[1] if row[0] == name]
                    key = helper.key_of(step[1], step[2][0])
                    self.assertNotIn(key, helper.keys_of_sort(line, "free", "ticket"))
            self.same(house, plain)
            self.assertEqual(len(plain.grants), passes_of(standing))
            self.assertEqual(house.log().count("go "), passes_of(standing))
            self.assertEqual(house.log().count("at "), passes_of(standing))
            for name in names:
                self.assertEqual(house.ask(name, plain.lasts[name]), ("home",))
        self.assertGreater(refused, 50)

    def test_seven_answers(self):
        house = House(LINE, STANDING)
        self.assertEqual(house.ask("x", 0), ("late",))
        self.assertEqual(house.ask("x", None), ("refused", ("shut", ("b",))))
        self.assertEqual(house.ask("y", None), ("go", 0, "staff"))
        self.assertEqual([house.ask("x", None), house.ask("y", None)], [("wait", "y"), ("go", 0, "staff")])
        self.assertEqual(house.ask("y", 0), ("go", 1, "staff"))
        self.assertEqual([house.ask("x", None), house.ask("y", None)], [("away",), ("late",)])
        self.assertEqual(house.ask("y", 1), ("go", 2, "staff"))
        self.assertEqual(house.ask("y", 2), ("go", 3, "staff"))
        self.assertEqual([house.ask("y", 3), house.ask("y", 3), house.ask("y", 2)], [("home",), ("home",), ("late",)])
        self.assertEqual([house.ask("x", 3), house.ask("x", None)], [("late",), ("go", 4, "staff")])
        self.assertEqual([house.ask("x", 4), house.ask("x", None)], [("home",), ("late",)])

    def test_busy_comes_ahead_of_the_staff(self):
        """The staff is kept as if the train had come with it: who asks there is told to wait all the same."""
        line, staffs = (("a", "b"), (("a", "b", "staff"),)), ((("a", "b"), "a"),)
        house = House(line, (staffs, (("x", "a", ("b",)), ("y", "b", ("a",)))))
        self.assertEqual(house.ask("x", None), ("go", 0, "staff"))
        self.assertEqual([house.standing()[0], house.goers()], [((("a", "b"), "b"),), ()])
        self.assertEqual(house.ask("y", None), ("wait", "x"))
        self.assertEqual([house.ask("x", 0), house.goers()], [("home",), ("y",)])
        self.assertEqual(house.ask("y", None), ("go", 1, "staff"))

    def test_two_tracks_are_never_busy(self):
        line = (("a", "b"), (("a", "b", "free"),))
        house = House(line, ((), (("x", "a", ("b",)), ("y", "b", ("a",)), ("z", "a", ("b",)))))
        self.assertEqual(house.goers(), ("x", "y", "z"))
        self.assertEqual([house.ask(name, None) for name in "zxy"], [("go", k, "free") for k in range(3)])
        self.assertEqual(list(house.under_way().items())[0], ("x", ("a", "b", 1, "free")))

    def test_tickets(self):
        """The staff is tried first; a train with a ticket is in the section as well."""
        line, staffs = (("a", "b"), (("a", "b", "ticket"),)), ((("a", "b"), "a"),)
        trains = (("x", "a", ("b",)), ("y", "a", ("b",)))
        house = House(line, (staffs, trains))
        self.assertEqual(house.ask("y", None), ("go", 0, "ticket"))
        self.assertEqual([house.ask("x", None), house.goers(), house.standing()[0]], [("wait", "y"), (), staffs])
        self.assertEqual([house.ask("y", 0), house.ask("x", None)], [("home",), ("go", 1, "staff")])
        self.assertEqual(house.under_way(), {"x": ("a", "b", 1, "staff")})
        self.assertEqual(house.log(), "go y ticket\nat y\ngo x staff\n")

    def test_nobody(self):
        house = House((("a",), ()), ((), ()))
        self.assertEqual(all_told(house), (((), ()), {}, (), ""))
        with self.raises(errors.NoTrain, name="x"):
            house.ask("x", None)
        house = House(LINE, (STANDING[0], (("x", "a", ()),)))
        self.assertEqual([house.ask("x", None), house.ask("x", 0), house.log()], [("home",), ("late",), ""])

    def test_twins(self):
        dice = random.Random(1305)
        for line, standing in safe_ones(165, 60):
            house, plain = House(line, standing), PlainHouse(line, standing)
            names = list(plain.lasts)
            for _ in range(2 * passes_of(standing) + 1):
                name = dice.choice(names)
                twin, before = house.twin(), all_told(house)
                plain_twin = copy.deepcopy(plain)
                self.assertEqual(all_told(twin), before)
                way, last = plain.ways[name], plain.lasts[name]
                self.asks(house, plain, name, last if way is None else way)
                self.assertEqual(all_told(twin), before)
                after = all_told(house)
                for other in names:
                    self.asks(twin, plain_twin, other, plain_twin.lasts[other])
                    self.asks(twin, plain_twin, other, plain_twin.ways[other])
                self.same(twin, plain_twin)
                self.assertEqual(all_told(house), after)
                self.same(house, plain)

    def test_what_is_told_may_be_changed(self):
        house = House(LINE, STANDING)
        house.ask("y", None)
        told = house.under_way()
        told["x"] = told.pop("y")
        house.under_way().clear()
        self.assertEqual(house.under_way(), {"y": ("a", "b", 0, "staff")})
        self.assertEqual(house.ask("x", None), ("wait", "y"))
        self.assertIsNot(house.under_way(), house.under_way())

    def test_asks_that_change_nothing(self):
        house = House(LINE, STANDING)
        house.ask("y", None)
        before = all_told(house)
        for name, number in (("x", None), ("x", 3), ("y", None), ("y", 1), ("x", 0), ("y", 10 ** 39)):
            told = house.ask(name, number)
            self.assertEqual([all_told(house), house.ask(name, number)], [before, told])


class Errors(Shared, unittest.TestCase):
    def test_no_way(self):
        told = {"passes": 0, "shut": 0}
        for line, standing in small_standings(167, 200):
            why = reason(line, standing)
            if why is not None:
                told[why[0]] += 1
                with self.raises(errors.NoWay, reason=why):
                    House(line, standing)
        self.assertGreater(min(told.values()), 20)

    def test_no_house_of_any_values(self):
        for thing in any_values():
            shown = repr(thing)
            if not helper.is_line(thing):
                for standing in (STANDING, None, thing):
                    with self.raises(errors.Wrong, place=0):
                        House(thing, standing)
            if not helper.is_standing(LINE, thing):
                with self.raises(errors.Wrong, place=1):
                    House(LINE, thing)
            self.assertEqual(repr(thing), shown)

    def test_no_house_of_what_is_nearly_right(self):
        others = [None, True, 1, "a", "b", "d", "x", (), [], ("a", "b"), ("x", "a", ("b",)), errors.Wrong(0)]
        unsafe = (STANDING[0], (("x", "a", ("b",)), ("y", "a", ("b",))))
        for standing in (STANDING, unsafe):
            for thing in exchanged(standing, others):
                if not helper.is_standing(LINE, thing):
                    with self.raises(errors.Wrong, place=1):
                        House(LINE, thing)
        for thing in exchanged(LINE, others):
            if not helper.is_line(thing):
                with self.raises(errors.Wrong, place=0):
                    House(thing, unsafe)
        with self.raises(errors.Wrong, place=1):
            House((("a", "b"), (("a", "b", "free"),)), STANDING)

    def test_asks_of_any_values(self):
        house = House(LINE, STANDING)
        house.ask("y", None)
        before = all_told(house)
        for thing in any_values():
            shown = repr(thing)
            if not helper.is_name(thing):
                for number in (None, 0, -1, thing):
                    with self.raises(errors.Wrong, place=0):
                        house.ask(thing, number)
            if thing is not None and (type(thing) is not int or thing < 0):
                for name in ("x", "y", "nobody"):
                    with self.raises(errors.Wrong, place=1):
                        house.ask(name, thing)
            else:
                with self.raises(errors.NoTrain, name="nobody"):
                    house.ask("nobody", thing)
            self.assertEqual([repr(thing), all_told(house)], [shown, before])
        for number in (True, False, -1, "0", (0,), [], -(10 ** 39)):
            with self.raises(errors.Wrong, place=1):
                house.ask("y", number)


class Wide(Shared, unittest.TestCase):
    def test_a_whole_day(self):
        """Trains of wide STANDINGS ask in any order till all are home."""
        dice = random.Random(1307)
        for line, standing, row in wide_standings(169):
            with self.within(40):
                house = House(line, standing)
                numbers = {train[0]: None for train in standing[1]}
                grants = 0
                while not helper.is_home(house.standing()):
                    name = dice.choice(list(numbers))
                    answer = house.ask(name, numbers[name])
                    if answer[0] == "go":
                        grants += answer[1] != numbers[name]
                        # It has come; now and then it asks once more first.
                        if dice.random() < 0.9:
                            numbers[name] = answer[1]
            self.assertEqual(house.log().count("go "), len(row))
            self.at_no_time_wrong(house, line)

    def test_many_that_are_refused(self):
        """Those who come first by name are to go last, and ask again and again."""
        line = helper.star_line(13, ("staff",))
        hub = helper.station_name(6)
        ends = [station for station in line[0] if station != hub]
        line = (tuple(sorted(line[0] + ("yard",))), tuple(sorted(line[1] + ((hub, "yard", "free"),))))
        stay = [("a" + end, hub, (end,)) for end in ends]
        walk = [("w" + end, hub, ("yard", hub) * 18 + (end, hub)) for end in ends]
        standing = (tuple((key, hub) for key in helper.keys_of_sort(line, "staff")), tuple(sorted(stay + walk)))
        house = House(line, standing)
        self.assertEqual(house.ask("a" + ends[0], None)[0], "refused")
        with self.within(20):
            numbers = {train[0]: None for train in standing[1]}
            while not helper.is_home(house.standing()):
                for name in numbers:
                    answer = house.ask(name, numbers[name])
                    if answer[0] == "go":
                        numbers[name] = answer[1]


if __name__ == "__main__":
    unittest.main()
