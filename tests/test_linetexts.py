"""Point [15]."""

import random
import unittest

import helper
from helper import Checks, any_values
from staffhome import errors
from staffhome.linetexts import line_text, read_line

LINE = (("a", "b", "c"), (("a", "b", "staff"), ("b", "c", "ticket")))


def shown_otherwise(dice, line):
    """Another text of a LINE: rows in any order, ends turned, blanks, remarks, empty rows, stations told alone."""
    rows = [[*dice.sample(row[:2], 2), row[2]] for row in line[1]]
    rows += [[station] for station in line[0] if not line[1] or dice.random() < 0.3]
    return helper.scattered(dice, rows)


class LineTexts(Checks, unittest.TestCase):
    def test_told(self):
        self.assertEqual(line_text(LINE), "a b staff\nb c ticket")
        self.assertEqual(line_text((("upton",), ())), "upton")
        self.assertEqual(line_text((("a", "b"), (("a", "b", "free"),))), "a b free")

    def test_one_line_for_each_section(self):
        for line in helper.sample_lines():
            rows = line_text(line).split("\n")
            if line[1]:
                self.assertEqual([tuple(row.split(" ")) for row in rows], list(line[1]))
            else:
                self.assertEqual(rows, [line[0][0]])


class ReadLine(Checks, unittest.TestCase):
    def reads(self, text, line):
        self.assertEqual(read_line(text), line, repr(text))

    def fault(self, text, row, column):
        with self.raises(errors.NoText, line=row, column=column):
            read_line(text)

    def no_line(self, text, fault):
        with self.raises(errors.NoLine, fault=fault):
            read_line(text)

    def test_its_own_texts(self):
        for line in helper.sample_lines():
            self.reads(line_text(line), line)

    def test_other_texts_of_the_same_line(self):
        dice = random.Random(21)
        for line in helper.sample_lines():
            for _ in range(15):
                self.reads(shown_otherwise(dice, line), line)

    def test_told(self):
        self.reads("a b staff\nb c ticket", LINE)
        self.reads("c b ticket\nb a staff", LINE)
        self.reads("c\nc b ticket\na\nb\nb a staff\nb", LINE)
        self.reads("\n\n  c   b  ticket  \n \n# a\nb a staff#\n", LINE)
        self.reads("a b staff#x\nb c ticket # d", LINE)
        self.reads("upton", (("upton",), ()))
        self.reads(" a \na#\na", (("a",), ()))
        self.reads("staff free free", (("free", "staff"), (("free", "staff", "free"),)))

    def test_line_feeds_alone_part_lines(self):
        self.fault("a b staff b c ticket", 0, 3)
        self.reads("b\na b free", (("a", "b"), (("a", "b", "free"),)))

    def test_first_words(self):
        for word in ("A", "a1", "-", "a" * 13, "a,b", "~", "'"):
            for behind in ("", " b", " b staff", " B", " b hand", " b staff x"):
                self.fault(word + behind, 0, 0)
                self.fault("\n# x\na b staff\n  " + word + behind, 3, 0)

    def test_second_words(self):
        for word in ("B", "b2", "-", "b" * 13, "b,"):
            for behind in ("", " staff", " hand", " staff x"):
                self.fault("a " + word + behind, 0, 1)
                self.fault("c\n\na   " + word + behind, 2, 1)

    def test_third_words(self):
        for word in ("c", "Staff", "staffs", "FREE", "hand", "-", "ticket,"):
            for behind in ("", " x", " staff", "#"):
                self.fault("a b " + word + behind, 0, 2)

    def test_fourth_words(self):
        for word in ("c", "staff", "-", "Y"):
            for behind in ("", " x y"):
                self.fault("a b free\nb c staff " + word + behind, 1, 3)

    def test_two_words_only(self):
        self.fault("a b", 0, 2)
        self.fault(" a  b  ", 0, 2)
        self.fault("a b # staff", 0, 2)
        self.fault("a b#staff", 0, 2)
        self.fault("a a", 0, 2)
        self.fault("b c free\n\na b\nA", 2, 2)

    def test_names_of_twelve_letters(self):
        self.reads("a" * 12, (("a" * 12,), ()))
        self.reads("b " + "a" * 12 + " free", (("a" * 12, "b"), (("a" * 12, "b", "free"),)))

    def test_the_first_row_at_fault(self):
        self.fault("a b free\nb\nb c\nC", 2, 2)
        self.fault("#A\n\n \nA\nb c", 3, 0)
        self.fault("a a free\na b\nC", 1, 2)
        self.fault("a b free\na b free\n-", 2, 0)

    def test_random_rows(self):
        dice = random.Random(23)
        words = ["a", "b", "c", "staff", "free", "ticket", "B", "-", "a" * 13]
        for _ in range(1500):
            row = [dice.choice(words) for _ in range(dice.randint(0, 5))]
            column = self.column(row)
            text = "x\n" + " ".join(row)
            if column is None:
                self.assertIn(self.outcome(text), (None, errors.NoLine))
            else:
                self.fault(text, 1, column)

    def column(self, row):
        rights = [helper.is_name, helper.is_name, helper.SORTS.__contains__]
        for at, word in enumerate(row):
            if at > 2 or not rights[at](word):
                return at
        return 2 if len(row) == 2 else None

    def outcome(self, text):
        try:
            read_line(text)
        except errors.StaffError as error:
            return type(error)
        return None

    def test_no_line(self):
        for text in ("", "\n", " ", " \n \n", "#", "# a b staff", "#\n#"):
            self.no_line(text, ("none",))
        self.no_line("b b staff", ("same", "b"))
        self.no_line("a b staff\nb a free", ("double", ("a", "b")))
        self.no_line("a b staff\na b staff", ("double", ("a", "b")))
        self.no_line("a b staff\nc b staff\na c staff", ("ring", ("b", "a", "c")))
        self.no_line("a b staff\nc d free", ("apart", ("a", "b")))
        self.no_line("c\nb", ("apart", ("b",)))
        self.no_line("b c free\na", ("apart", ("a",)))

    def test_any_value(self):
        for thing in any_values():
            shown = repr(thing)
            if isinstance(thing, str):
                self.assertIn(self.outcome(thing), (None, errors.NoText, errors.NoLine))
            else:
                with self.raises(errors.Wrong, place=0):
                    read_line(thing)
            self.assertEqual(repr(thing), shown)

    def test_long_texts(self):
        line = helper.row_line(400)
        self.reads(line_text(line), line)
        self.reads("a" + " " * 8999, (("a",), ()))
        self.reads("a\n" * 4500, (("a",), ()))
        self.no_line("\n" * 9000, ("none",))
        self.fault("\n" * 8999 + "A", 8999, 0)
        self.no_line("a b free\n" * 1000, ("double", ("a", "b")))

    def test_asked_again(self):
        self.assertEqual(read_line("a b free"), read_line(" b a free"))
        self.fault("a b", 0, 2)
        self.fault("a b", 0, 2)


if __name__ == "__main__":
    unittest.main()
