"""Point [12], by the definitions of [2]."""

import random
import unittest

import helper
from helper import Checks, any_values, exchanged, package_objects
from staffhome import forms

LINE = (("a", "b", "c", "d"), (("a", "b", "staff"), ("b", "c", "ticket"), ("b", "d", "free")))
STAFFS = ((("a", "b"), "a"), (("b", "c"), "c"))
TRAINS = (("p", "a", ("b", "d", "b")), ("q", "c", ()), ("staff", "d", ("b",)))

# A few others for each place of a tuple; all of any_values at each place would take too long.
OTHERS = [
    None, True, 1, "", "a", "b", "d", "x", "free", "staff", "a\n", "p", "zz", (), [], {}, ("a", "b"), ["a", "b"],
    ("b", "d"), ("b", "a"), ("a", "c"), ("a", "d", "free"), ("c", "d", "staff"), (("b", "d"), "b"), ("q", "a", ("b",)),
    helper.errors.Wrong(0),
]


class AnyValue(Checks, unittest.TestCase):
    """Each function over any value tells what the definition tells, by True or False itself."""

    def agrees(self, told, expected, things):
        for thing in things:
            shown = repr(thing)
            self.tells(told(thing), expected(thing), thing)
            self.assertEqual(repr(thing), shown)

    def around(self, *rights):
        things = any_values()
        for right in rights:
            things.append(right)
            things.extend(exchanged(right, OTHERS))
        return things

    def test_is_integer(self):
        self.agrees(forms.is_integer, lambda thing: type(thing) is int, any_values())

    def test_is_name(self):
        self.agrees(forms.is_name, helper.is_name, any_values())

    def test_is_line(self):
        rights = [LINE, helper.row_line(1), helper.row_line(2), helper.star_line(5)]
        self.agrees(forms.is_line, helper.is_line, self.around(*rights))

    def test_is_key(self):
        things = self.around(("a", "b"), ("b", "d"))
        self.agrees(lambda thing: forms.is_key(LINE, thing), lambda thing: helper.is_key(LINE, thing), things)

    def test_is_lot(self):
        things = self.around((), (("a", "b"),), (("a", "b"), ("b", "c"), ("b", "d")))
        self.agrees(lambda thing: forms.is_lot(LINE, thing), lambda thing: helper.is_lot(LINE, thing), things)

    def test_is_part(self):
        things = self.around(("b",), ("a", "b", "d"), ("a", "b", "c", "d"))
        self.agrees(lambda thing: forms.is_part(LINE, thing), lambda thing: helper.is_part(LINE, thing), things)

    def test_are_trains(self):
        things = self.around((), TRAINS[:1], TRAINS)
        self.agrees(lambda thing: forms.are_trains(LINE, thing), lambda thing: helper.are_trains(LINE, thing), things)

    def test_are_staffs(self):
        things = self.around((), STAFFS)
        self.agrees(lambda thing: forms.are_staffs(LINE, thing), lambda thing: helper.are_staffs(LINE, thing), things)

    def test_is_standing(self):
        things = self.around((STAFFS, ()), (STAFFS, TRAINS))
        self.agrees(lambda thing: forms.is_standing(LINE, thing), lambda thing: helper.is_standing(LINE, thing), things)

    def test_is_move(self):
        self.agrees(forms.is_move, helper.is_move, self.around(("p", "staff"), ("p", "free"), ("p", "ticket")))

    def test_are_moves(self):
        self.agrees(forms.are_moves, helper.are_moves, self.around((), (("p", "staff"), ("p", "staff"), ("q", "free"))))

    def test_lines_of_one_station(self):
        line = (("a",), ())
        for thing in any_values():
            self.tells(forms.is_key(line, thing), False, thing)
            self.tells(forms.is_lot(line, thing), type(thing) is tuple and thing == (), thing)
            self.tells(forms.is_part(line, thing), type(thing) is tuple and thing == ("a",), thing)
            self.tells(forms.are_staffs(line, thing), type(thing) is tuple and thing == (), thing)
            self.tells(forms.are_trains(line, thing), helper.are_trains(line, thing), thing)
            self.tells(forms.is_standing(line, thing), helper.is_standing(line, thing), thing)


class Integers(Checks, unittest.TestCase):
    def test_integers(self):
        for thing in (0, 1, -1, 7, 10 ** 39, -(10 ** 39)):
            self.tells(forms.is_integer(thing), True, thing)

    def test_others(self):
        for thing in (True, False, None, "1", "", (), [1], (1,), {1: 1}):
            self.tells(forms.is_integer(thing), False, thing)


class Names(Checks, unittest.TestCase):
    def test_lengths(self):
        for length in range(1, 13):
            self.tells(forms.is_name("z" * length), True, length)
        for length in (0, 13, 14, 9000):
            self.tells(forms.is_name("z" * length), False, length)

    def test_letters(self):
        self.tells(forms.is_name("abcdefghijkl"), True)
        self.tells(forms.is_name("mnopqrstuvw"), True)
        self.tells(forms.is_name("xyz"), True)

    def test_each_other_sign(self):
        for code in [10, *range(32, 127)]:
            sign = chr(code)
            for text in (sign, "a" + sign, sign + "a", "a" + sign + "b", "a" * 11 + sign):
                self.tells(forms.is_name(text), "a" <= sign <= "z", text)

    def test_others(self):
        for thing in (None, True, 1, ("a",), ["a"], {"a": "b"}, ("a", "b"), *package_objects()):
            self.tells(forms.is_name(thing), False, thing)


class Lines(Checks, unittest.TestCase):
    def test_right_ones(self):
        for line in helper.sample_lines():
            self.tells(forms.is_line(line), True, line)

    def test_more_than_the_bounds(self):
        line = helper.row_line(400)
        self.tells(forms.is_line(line), True)
        self.tells(forms.is_line((line[0], line[1][:-1])), False)
        self.tells(forms.is_line((line[0], line[1] + line[1][-1:])), False)

    def test_rings(self):
        ring = (("a", "b", "free"), ("a", "c", "free"), ("b", "c", "free"))
        self.tells(forms.is_line((("a", "b", "c"), ring)), False)
        self.tells(forms.is_line((("a", "b", "c", "d"), ring)), False)
        self.tells(forms.is_line((("a", "b", "c", "d"), ring + (("c", "d", "free"),))), False)
        self.tells(forms.is_line((("a", "b", "c", "d"), ring[:2] + (("c", "d", "free"),))), True)

    def test_a_ring_of_many_and_one_apart(self):
        stations = tuple("abcdefgh")
        rows = [(stations[k], stations[k + 1], "staff") for k in range(6)] + [("a", "g", "staff")]
        self.tells(forms.is_line((stations, tuple(sorted(rows)))), False)
        rows[-1] = ("a", "h", "staff")
        self.tells(forms.is_line((stations, tuple(sorted(rows)))), True)

    def test_two_lines(self):
        self.tells(forms.is_line((("a", "b", "c", "d"), (("a", "b", "staff"), ("c", "d", "staff")))), False)
        self.tells(forms.is_line((("a", "b"), ())), False)

    def test_two_sections_of_the_same_stations(self):
        rows = (("a", "b", "free"), ("a", "b", "staff"))
        self.tells(forms.is_line((("a", "b"), rows)), False)
        self.tells(forms.is_line((("a", "b", "c"), rows)), False)
        self.tells(forms.is_line((("a", "b", "c"), rows[:1] * 2)), False)

    def test_order(self):
        self.tells(forms.is_line((("b", "a"), (("a", "b", "staff"),))), False)
        self.tells(forms.is_line((("a", "a"), (("a", "a", "staff"),))), False)
        self.tells(forms.is_line((LINE[0], LINE[1][::-1])), False)
        self.tells(forms.is_line((("a", "ab", "b"), (("a", "ab", "staff"), ("a", "b", "staff")))), True)
        self.tells(forms.is_line((("a", "b", "ab"), (("a", "ab", "staff"), ("a", "b", "staff")))), False)

    def test_ends(self):
        self.tells(forms.is_line((("a", "b"), (("a", "x", "staff"),))), False)
        self.tells(forms.is_line((("b", "c"), (("a", "c", "staff"),))), False)
        self.tells(forms.is_line((("a", "b"), (("b", "a", "staff"),))), False)
        self.tells(forms.is_line((("a", "b"), (("a", "a", "staff"),))), False)

    def test_sorts(self):
        for sort in ("free", "staff", "ticket"):
            self.tells(forms.is_line((("a", "b"), (("a", "b", sort),))), True, sort)
        for sort in ("", "Free", "staffs", "tickets", " free", "a", None, True, 1, ("free",), ["free"]):
            self.tells(forms.is_line((("a", "b"), (("a", "b", sort),))), False, sort)

    def test_bad_names(self):
        for name in ("", "A", "a" * 13, "a b", "a\n", 1, True, None, ("a",), ["a"]):
            self.tells(forms.is_line(((name,), ())), False, name)

    def test_random_sections(self):
        dice = random.Random(12)
        stations = ("a", "b", "c", "d", "e")
        keys = [(one, other) for one in stations for other in stations if one < other]
        seen = {True: 0, False: 0}
        for _ in range(600):
            chosen = sorted(dice.sample(keys, 4))
            thing = (stations, tuple((*key, dice.choice(helper.SORTS)) for key in chosen))
            seen[helper.is_line(thing)] += 1
            self.tells(forms.is_line(thing), helper.is_line(thing), thing)
        self.assertGreater(min(seen.values()), 100)


class OfALine(Checks, unittest.TestCase):
    def test_keys(self):
        for line in helper.sample_lines():
            for one in line[0]:
                for other in line[0]:
                    expected = (one, other) in helper.keys_of(line)
                    self.tells(forms.is_key(line, (one, other)), expected, one, other)

    def test_keys_are_no_sections(self):
        self.tells(forms.is_key(LINE, ("a", "b", "staff")), False)
        self.tells(forms.is_key(LINE, ("a",)), False)
        self.tells(forms.is_key(LINE, ["a", "b"]), False)
        self.tells(forms.is_key(LINE, "ab"), False)

    def test_lots(self):
        keys = tuple(helper.keys_of(LINE))
        for bits in range(8):
            lot = tuple(key for at, key in enumerate(keys) if bits >> at & 1)
            self.tells(forms.is_lot(LINE, lot), True, lot)
            self.tells(forms.is_lot(LINE, list(lot)), False, lot)
            self.tells(forms.is_lot(LINE, lot[::-1]), len(lot) < 2, lot)
            self.tells(forms.is_lot(LINE, lot + lot), lot == (), lot)
            self.tells(forms.is_lot(LINE, lot + (("a", "c"),)), False, lot)

    def test_parts_of_small_lines(self):
        for line in helper.sample_lines():
            if len(line[0]) > 8:
                continue
            for bits in range(2 ** len(line[0])):
                part = tuple(station for at, station in enumerate(line[0]) if bits >> at & 1)
                self.tells(forms.is_part(line, part), helper.is_part(line, part), line, part)
                self.tells(forms.is_part(line, list(part)), False, part)
                self.tells(forms.is_part(line, part[::-1]), len(part) == 1, part)

    def test_parts_of_large_lines(self):
        dice = random.Random(5)
        for line in (helper.row_line(24), helper.star_line(24), helper.random_line(dice, 24)):
            self.tells(forms.is_part(line, line[0]), True)
            for station in line[0]:
                others = tuple(other for other in line[0] if other != station)
                self.tells(forms.is_part(line, (station,)), True)
                self.tells(forms.is_part(line, others), helper.is_part(line, others), station)

    def test_trains(self):
        for things, expected in [
            ((), True),
            ((("p", "a", ()),), True),
            ((("p", "a", ()), ("p", "b", ())), False),
            ((("p", "b", ()), ("p", "a", ())), False),
            ((("q", "a", ()), ("p", "b", ())), False),
            ((("p", "a", ()), ("q", "a", ())), True),
            ((("p", "a", ("a",)),), False),
            ((("p", "a", ("c",)),), False),
            ((("p", "a", ("b", "a", "b", "c", "b", "d")),), True),
            ((("p", "a", ("b", "a", "c")),), False),
            ((("p", "a", ("b", "d", "c")),), False),
            ((("p", "x", ()),), False),
            ((("p", "x", ("a",)),), False),
            ((("p", "a", ("x",)),), False),
            ((("p", "a", ["b"]),), False),
            ((("p", "a", "b"),), False),
            ((("p", "a"),), False),
            ((("p", "a", (), ()),), False),
            ((("P", "a", ()),), False),
            ((("p" * 12, "a", ()),), True),
            ((("p" * 13, "a", ()),), False),
            ((("p", "a", ("b", "a") * 40),), True),
            ((("p", "a", ("b", "a") * 700),), True),
            ((("p", "a", ("b", "a") * 700 + ("c",)),), False),
        ]:
            self.tells(forms.are_trains(LINE, things), expected, things)
            self.tells(forms.is_standing(LINE, (STAFFS, things)), expected, things)
            self.tells(forms.are_trains(LINE, list(things)), False, things)

    def test_staffs(self):
        first, second, third = (("a", "b"), "a"), (("b", "c"), "c"), (("b", "d"), "b")
        for things, expected in [
            ((first, second), True),
            (((("a", "b"), "b"), (("b", "c"), "b")), True),
            ((second, first), False),
            ((first,), False),
            ((), False),
            ((first, second, third), False),
            ((first, third), False),
            ((first, first), False),
            ((first, second, second), False),
            ((first, (("b", "c"), "a")), False),
            ((first, (("c", "b"), "c")), False),
            ((first, ("b", "c", "c")), False),
            ((first, [("b", "c"), "c"]), False),
            ((first, (["b", "c"], "c")), False),
            ((first, (("b", "c"), ("c",))), False),
            ((first, (("b", "c"),)), False),
            ((first, (("b", "c"), "c", "c")), False),
        ]:
            self.tells(forms.are_staffs(LINE, things), expected, things)
            self.tells(forms.is_standing(LINE, (things, TRAINS)), expected, things)
            self.tells(forms.are_staffs(LINE, list(things)), False, things)

    def test_staffs_of_free_sections_only(self):
        line = helper.row_line(5, ("free",))
        self.tells(forms.are_staffs(line, ()), True)
        self.tells(forms.are_staffs(line, ((line[1][0][:2], line[1][0][0]),)), False)

    def test_standings(self):
        for line, standing in helper.sample_standings():
            self.tells(forms.are_staffs(line, standing[0]), True)
            self.tells(forms.are_trains(line, standing[1]), True)
            self.tells(forms.is_standing(line, standing), True)
            self.tells(forms.is_standing(line, standing[::-1]), standing == ((), ()))
            self.tells(forms.is_standing(line, list(standing)), False)
            self.tells(forms.is_standing(line, standing + ((),)), False)
            self.tells(forms.is_standing(line, standing[:1]), False)

    def test_the_line_stays(self):
        shown = repr(LINE)
        for thing in any_values():
            forms.is_standing(LINE, thing)
            forms.is_part(LINE, thing)
            forms.is_lot(LINE, thing)
        self.assertEqual(repr(LINE), shown)


class Moves(Checks, unittest.TestCase):
    def test_moves(self):
        for thing, expected in [
            (("p", "free"), True),
            (("p", "staff"), True),
            (("p", "ticket"), True),
            (("p" * 12, "ticket"), True),
            (("p" * 13, "ticket"), False),
            (("", "free"), False),
            (("p", ""), False),
            (("p", "hand"), False),
            (("p", "Free"), False),
            (("p", None), False),
            (("p", ("free",)), False),
            (("p", True), False),
            ((1, "free"), False),
            (("P", "free"), False),
            (("p", "free", "free"), False),
            (("p",), False),
            ((), False),
            (["p", "free"], False),
            ({"p": "free"}, False),
        ]:
            self.tells(forms.is_move(thing), expected, thing)
            self.tells(forms.are_moves((thing,)), expected, thing)
            self.tells(forms.are_moves((("q", "free"), thing)), expected, thing)
            self.tells(forms.are_moves([thing]), False, thing)

    def test_many(self):
        self.tells(forms.are_moves(()), True)
        self.tells(forms.are_moves((("p", "free"),) * 900), True)
        self.tells(forms.are_moves((("p", "free"),) * 900 + (("p",),)), False)
        self.tells(forms.are_moves((("q", "free"), ("p", "free"), ("q", "free"))), True)


if __name__ == "__main__":
    unittest.main()
