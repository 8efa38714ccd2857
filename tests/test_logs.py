"""Point [34], beside a plain house that tells each line which some ask would write."""

import random
import unittest

import helper
from helper import Checks, PlainHouse, any_values, exchanged, small_standings, wide_standings
from staffhome import errors
from staffhome.house import House
from staffhome.logs import reopened, whole_lines
from staffhome.verdicts import is_safe, reason

LINE = (("a", "b", "c"), (("a", "b", "staff"), ("b", "c", "staff")))
STANDING = (((("a", "b"), "a"), (("b", "c"), "b")), (("x", "a", ("b",)), ("y", "a", ("b", "c", "b", "a"))))
LOG = "go y staff\nat y\ngo y staff\nat y\ngo y staff\nat y\ngo y staff\nat y\ngo x staff\nat x\n"
STUCK = (STANDING[0], (("x", "a", ("b",)), ("y", "a", ("b",))))


def safe_ones(seed, many):
    return [(line, standing) for line, standing in small_standings(seed, many) if helper.is_safe(line, standing)]


def obey(plain, row):
    """Does with the plain house what a line of a log tells."""
    words = row.split(" ")
    if words[0] == "at":
        plain.come(words[1])
    else:
        plain.go(words[1], words[2])


def grown(dice, plain, most):
    """Writes up to so many lines, each one such that some ask would write it then."""
    for _ in range(most):
        choices = list(plain.next_rows().values())
        if not choices:
            break
        obey(plain, " ".join(dice.choice(choices)))


def fault_of(line, standing, text):
    """The tuple of the line and the word at fault, None if all whole lines could have been written."""
    plain = PlainHouse(line, standing)
    for index, row in enumerate(text.split("\n")[:-1]):
        words, choices = row.split(" "), list(plain.next_rows().values())
        for at in range(len(words)):
            if words[:at + 1] not in [choice[:at + 1] for choice in choices]:
                return (index, at)
        if words not in choices:
            return (index, len(words))
        obey(plain, row)
    return None


class Shared(Checks):
    def same(self, house, plain):
        """Both have the same state, as far as asks can tell."""
        self.assertEqual(house.standing(), plain.standing)
        self.assertEqual(house.under_way(), plain.under_way())
        self.assertEqual(house.log(), plain.log())
        goers = [name for name, words in plain.next_rows().items() if words[0] == "go"]
        self.assertEqual(house.goers(), tuple(goers))
        for name in plain.lasts:
            for number in (None, *range(len(plain.grants) + 1)):
                late = number != plain.lasts[name] and (number is None or number != plain.ways[name])
                self.assertEqual(house.twin().ask(name, number) == ("late",), late, (name, number))

    def opens(self, line, standing, text):
        """The House, and the plain one that has written the whole lines."""
        plain = PlainHouse(line, standing)
        for row in text.split("\n")[:-1]:
            obey(plain, row)
        return reopened(line, standing, text), plain

    def fault(self, text, index, column, standing=STANDING):
        with self.raises(errors.NoText, line=index, column=column):
            reopened(LINE, standing, text)


class WholeLines(unittest.TestCase):
    def test_whole_lines(self):
        for text, rows in (
            ("", ()), ("\n", ("",)), ("a", ()), ("a\n", ("a",)), ("a\nb", ("a",)), ("a\n\nb\n", ("a", "", "b")),
            ("\n\n", ("", "")), (" a \n b", (" a ",)), ("at y\ngo y staff\nat", ("at y", "go y staff")),
        ):
            self.assertEqual(whole_lines(text), rows)

    def test_cut_at_every_sign(self):
        rows = LOG.split("\n")[:-1]
        for cut in range(len(LOG) + 1):
            self.assertEqual(whole_lines(LOG[:cut]), tuple(rows[:LOG[:cut].count("\n")]))


class Reopened(Shared, unittest.TestCase):
    def test_cut_at_every_sign(self):
        for cut in range(len(LOG) + 1):
            self.same(*self.opens(LINE, STANDING, LOG[:cut]))
        self.assertEqual(reopened(LINE, STANDING, LOG + "what ever # this is").log(), LOG)
        self.assertEqual(reopened(LINE, STANDING, "").log(), "")

    def test_goes_on_as_it_did(self):
        """What is reopened tells and writes what the house did behind its last whole line, and so does its twin."""
        dice = random.Random(1501)
        for line, standing in safe_ones(181, 150):
            house = House(line, standing)
            numbers = {name: None for name, _, _ in standing[1]}
            asked = []
            for _ in range(300):
                name = dice.choice(list(numbers))
                ahead = house.log()
                answer = house.ask(name, numbers[name])
                asked.append((ahead, name, numbers[name], answer, house.log()))
                if answer[0] == "go" and dice.random() < 0.7:
                    numbers[name] = answer[1]
            for ahead, name, number, answer, behind in dice.sample(asked, 12):
                # The line that the ask wrote, if any, was cut.
                other = reopened(line, standing, ahead + behind[len(ahead):][:3])
                self.assertEqual(other.log(), ahead)
                self.assertEqual(other.twin().ask(name, number), answer)
                self.assertEqual(other.ask(name, number), answer)
                self.assertEqual(other.log(), behind)

    def test_cut_and_reopened_again_and_again(self):
        dice = random.Random(1503)
        for line, standing in safe_ones(183, 120):
            text = ""
            numbers = {}
            for _ in range(8):
                house, plain = self.opens(line, standing, text)
                self.same(house, plain)
                numbers = dict(plain.lasts)
                for _ in range(dice.randint(1, 20)):
                    name = dice.choice(list(numbers))
                    number = dice.choice((numbers[name], numbers[name], None, dice.randint(0, 9)))
                    answer, expected = house.ask(name, number), plain.ask(name, number)
                    self.assertEqual(answer[:2], expected[:2] if expected[0] != "refused" else ("refused", answer[1]))
                    if answer[0] == "go":
                        numbers[name] = answer[1]
                self.same(house, plain)
                text = house.log()[:dice.randint(0, len(house.log()))]

    def test_any_line_that_some_ask_would_write(self):
        """By cuts between "at" and "go" of one ask logs come about that no house writes that is never reopened."""
        dice = random.Random(1505)
        told = 0
        for line, standing in safe_ones(185, 150):
            plain = PlainHouse(line, standing)
            grown(dice, plain, dice.randint(0, 12))
            house = reopened(line, standing, plain.log())
            self.same(house, plain)
            self.assertIsNone(fault_of(line, standing, plain.log()))
            told += len(plain.rows)
        self.assertGreater(told, 150)

    def test_by_hand(self):
        """y has come and could go on, but the house was closed; then z asks first."""
        trains = (("y", "a", ("b", "a")), ("z", "b", ("c",)))
        standing = (STANDING[0], trains)
        house = reopened(LINE, standing, "go y staff\nat y\ngo z staff\nat z\ngo y staff\n")
        self.assertEqual([house.ask("z", 1), house.ask("y", 2)], [("home",), ("home",)])
        self.assertEqual(house.log(), "go y staff\nat y\ngo z staff\nat z\ngo y staff\nat y\n")

    def test_a_wide_log(self):
        for line, standing, row in wide_standings(187)[:4]:
            house = House(line, standing)
            numbers = {name: None for name, _, _ in standing[1]}
            with self.within(40):
                while not helper.is_home(house.standing()):
                    for name in numbers:
                        answer = house.ask(name, numbers[name])
                        if answer[0] == "go":
                            numbers[name] = answer[1]
            with self.within(20):
                other = reopened(line, standing, house.log())
            self.assertEqual([other.log(), other.standing()], [house.log(), house.standing()])
            self.assertEqual(other.under_way(), house.under_way())
            rows = house.log().split("\n")
            rows[-2] = rows[-2] + " "
            with self.within(20), self.assertRaises(errors.NoText) as caught:
                reopened(line, standing, "\n".join(rows))
            error = caught.exception
            self.assertEqual([error.line, error.column], [len(rows) - 2, rows[-2].count(" ")])


class Faults(Shared, unittest.TestCase):
    def test_first_words(self):
        for row in ("", " ", "go", "At y", "GO y staff", "x", "home y", " go y staff", "\tgo", "late", "gone y", "go\ty"):
            text = row + "\n"
            self.fault(text, 0, 1 if row == "go" else 0)
            self.fault("go y staff\n" + text, 1, 0)
            self.fault("go y staff\n" + text + LOG, 1, 0)

    def test_nobody_goes_or_comes(self):
        """A first word that no ask would write: nobody is under way, or nobody would be let."""
        for row in ("at", "at y", "at x", "at x now", "at z"):
            self.fault(row + "\n", 0, 0)
        for row in ("go", "go x", "go x staff", "go y free", "go y staff"):
            self.fault("go y staff\n" + row + "\n", 1, 0)
            self.fault(LOG + row + "\n", 10, 0)
        self.fault(LOG + "at x\n", 10, 0)

    def test_names(self):
        for name in ("x", "z", "", "Y", "yy", "a", "y\t"):
            self.fault(f"go {name}\n", 0, 1)
            self.fault(f"go {name} staff\n", 0, 1)
            self.fault(f"go y staff\nat {name}\n", 1, 1)
            self.fault(f"go y staff\nat {name} y\n", 1, 1)
        self.fault("go  y staff\n", 0, 1)
        self.fault("go y staff\nat  y\n", 1, 1)

    def test_hows(self):
        for how in ("free", "ticket", "", "Staff", "y", "staffs", " staff"):
            self.fault(f"go y {how}\n", 0, 2)
            self.fault(f"go y {how} staff\n", 0, 2)

    def test_too_few(self):
        self.fault("go\n", 0, 1)
        self.fault("go y\n", 0, 2)
        self.fault("go y staff\nat\n", 1, 1)
        self.fault("go y staff\nat y\ngo\nat y\n", 2, 1)

    def test_more(self):
        for more in ("x", "", "staff", "now then", "y"):
            self.fault(f"go y staff {more}\n", 0, 3)
            self.fault(f"go y staff\nat y {more}\n", 1, 2)

    def test_lines_that_are_not_whole_mean_nothing(self):
        for tail in ("x", "go y", "go x staff", "at z", " ", "go y staff now"):
            self.assertEqual(reopened(LINE, STANDING, tail).log(), "")
            self.assertEqual(reopened(LINE, STANDING, LOG + tail).log(), LOG)

    def test_a_ticket_only_where_the_staff_is_refused(self):
        line, staffs = (("a", "b"), (("a", "b", "ticket"),)), ((("a", "b"), "a"),)
        standing = (staffs, (("x", "a", ("b",)), ("y", "a", ("b",))))
        self.assertEqual(reopened(line, standing, "go y ticket\nat y\ngo x staff\n").standing()[0], ((("a", "b"), "b"),))
        for text, index, column in (
            ("go y staff\n", 0, 2), ("go y free\n", 0, 2), ("go y ticket\ngo x ticket\n", 1, 0),
            ("go y ticket\nat x\n", 1, 1), ("go y ticket\nat y\ngo x ticket\n", 2, 2), ("go y ticket\nat y\nat x\n", 2, 0),
        ):
            with self.raises(errors.NoText, line=index, column=column):
                reopened(line, standing, text)

    def test_texts_a_little_otherwise(self):
        """Lines out, twice, exchanged, of others; words out, more, exchanged; blanks more."""
        dice = random.Random(1507)
        told = {}
        for line, standing in safe_ones(189, 150):
            plain = PlainHouse(line, standing)
            grown(dice, plain, 14)
            names = [*plain.lasts, "nobody", ""]
            for _ in range(25):
                rows = plain.log().split("\n")[:-1]
                self.otherwise(dice, rows, names)
                text = "".join(row + "\n" for row in rows) + dice.choice(["", "go", "at x", " "])
                expected = fault_of(line, standing, text)
                if expected is None:
                    self.assertEqual(reopened(line, standing, text).log(), "".join(row + "\n" for row in rows))
                else:
                    with self.raises(errors.NoText, line=expected[0], column=expected[1]):
                        reopened(line, standing, text)
                column = expected and expected[1]
                told[column] = told.get(column, 0) + 1
        self.assertGreater(min(told.get(column, 0) for column in (None, 0, 1, 2, 3)), 20, told)

    def otherwise(self, dice, rows, names):
        """Makes a list of lines a little otherwise."""
        at = dice.randint(0, len(rows))
        what = dice.randint(0, 6)
        words = rows[at].split(" ") if at < len(rows) else ["go", dice.choice(names), dice.choice(helper.SORTS)]
        if what == 0:
            rows[at:at + 1] = []
        elif what == 1:
            rows[at:at] = rows[at:at + 1]
        elif what == 2:
            rows[at:at + 2] = rows[at:at + 2][::-1]
        else:
            column = dice.randint(0, len(words))
            if what == 3:
                del words[column:column + 1]
            elif what == 4:
                words.insert(column, dice.choice(["", *names, *helper.SORTS, "at", "go"]))
            elif what == 5:
                words[column:column + 1] = [dice.choice([*names, *helper.SORTS, "at", "go"])]
            else:
                words = [dice.choice(["at", "go"]), dice.choice(names), dice.choice(helper.SORTS)]
                words = words[:dice.randint(1, 3)]
            rows[at:at + 1] = [" ".join(words)]

    def test_no_way(self):
        for text in ("", LOG, "x\n", "go y staff\n"):
            with self.raises(errors.NoWay, reason=("passes", ("a", "b"), 2, 0)):
                reopened(LINE, STUCK, text)
        for line, standing in small_standings(191, 60):
            if not is_safe(line, standing):
                with self.raises(errors.NoWay, reason=reason(line, standing)):
                    reopened(line, standing, "at\n")

    def test_any_values(self):
        for thing in any_values():
            shown = repr(thing)
            if not isinstance(thing, str):
                for standing in (STANDING, STUCK):
                    with self.raises(errors.Wrong, place=2):
                        reopened(LINE, standing, thing)
            if not helper.is_standing(LINE, thing):
                for text in ("", "x\n", None, thing):
                    with self.raises(errors.Wrong, place=1):
                        reopened(LINE, thing, text)
            if not helper.is_line(thing):
                for standing in (STANDING, None):
                    with self.raises(errors.Wrong, place=0):
                        reopened(thing, standing, "x\n")
            self.assertEqual(repr(thing), shown)

    def test_nearly_right(self):
        others = [None, True, 1, "a", "d", "x", (), [], ("a", "b"), errors.Wrong(0)]
        for thing in exchanged(STUCK, others):
            if not helper.is_standing(LINE, thing):
                with self.raises(errors.Wrong, place=1):
                    reopened(LINE, thing, None)
        for thing in exchanged(LINE, others):
            if not helper.is_line(thing):
                with self.raises(errors.Wrong, place=0):
                    reopened(thing, STUCK, "x\n")

    def test_strings(self):
        for thing in any_values():
            if isinstance(thing, str):
                expected = fault_of(LINE, STANDING, thing)
                if expected is None:
                    self.assertEqual(reopened(LINE, STANDING, thing).log(), "")
                else:
                    self.fault(thing, *expected)
        self.fault("\n" * 9000, 0, 0)
        self.fault("go y" + " " * 8000 + "\n", 0, 2)


if __name__ == "__main__":
    unittest.main()
