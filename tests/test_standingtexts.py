"""Point [18]."""

import random
import unittest

import helper
from helper import Checks, any_values, sample_standings
from staffhome import errors
from staffhome.standingtexts import read_standing, standing_text

LINE = (("a", "b", "c", "d"), (("a", "b", "staff"), ("b", "c", "ticket"), ("b", "d", "free")))
STAFFS = ((("a", "b"), "a"), (("b", "c"), "c"))
TOLD = "staff a b a\nstaff b c c"


def shown_otherwise(dice, standing):
    """Another text of a STANDING: lines in any order, keys turned, blanks, remarks, empty rows."""
    rows = [["staff", *dice.sample(key, 2), end] for key, end in standing[0]]
    rows += [["train", name, place, *rest] for name, place, rest in standing[1]]
    return helper.scattered(dice, rows)


class StandingTexts(Checks, unittest.TestCase):
    def test_told(self):
        standing = (STAFFS, (("p", "a", ("b", "d", "b")), ("q", "c", ())))
        self.assertEqual(standing_text(LINE, standing), TOLD + "\ntrain p a b d b\ntrain q c")
        self.assertEqual(standing_text(LINE, (STAFFS, ())), TOLD)
        self.assertEqual(standing_text((("a",), ()), ((), ())), "")
        self.assertEqual(standing_text((("a",), ()), ((), (("p", "a", ()),))), "train p a")

    def test_samples(self):
        for line, standing in sample_standings():
            rows = [f"staff {one} {other} {end}" for (one, other), end in standing[0]]
            rows += [" ".join(["train", name, place, *rest]) for name, place, rest in standing[1]]
            self.assertEqual(standing_text(line, standing), "\n".join(rows))


class ReadStanding(Checks, unittest.TestCase):
    def reads(self, text, standing):
        self.assertEqual(read_standing(LINE, text), standing, repr(text))

    def fault(self, text, row, column):
        with self.raises(errors.NoText, line=row, column=column):
            read_standing(LINE, text)

    def test_its_own_texts(self):
        for line, standing in sample_standings():
            self.assertEqual(read_standing(line, standing_text(line, standing)), standing)

    def test_other_texts_of_the_same_standing(self):
        dice = random.Random(51)
        for line, standing in sample_standings():
            for _ in range(4):
                text = shown_otherwise(dice, standing)
                self.assertEqual(read_standing(line, text), standing, text)

    def test_told(self):
        self.reads(TOLD, (STAFFS, ()))
        self.reads("staff c b c\nstaff b a a", (STAFFS, ()))
        self.reads("staff a b b\nstaff b c b", (((("a", "b"), "b"), (("b", "c"), "b")), ()))
        self.reads("\n" + TOLD + "\n\n", (STAFFS, ()))
        self.reads("train q c # b\n  " + TOLD + " # c\n#", (STAFFS, (("q", "c", ()),)))
        self.reads("train q c\ntrain p a b a#b\n" + TOLD, (STAFFS, (("p", "a", ("b", "a")), ("q", "c", ()))))
        self.reads(TOLD + "\ntrain train a\ntrain staff b", (STAFFS, (("staff", "b", ()), ("train", "a", ()))))
        self.reads(TOLD + "\ntrain " + "p" * 12 + " a", (STAFFS, (("p" * 12, "a", ()),)))
        self.reads(TOLD + "\ntrain a a\ntrain b a", (STAFFS, (("a", "a", ()), ("b", "a", ()))))

    def test_without_sections(self):
        line = (("a",), ())
        for text in ("", "\n", " # a", "\n\n"):
            self.assertEqual(read_standing(line, text), ((), ()))
        self.assertEqual(read_standing(line, "train p a"), ((), (("p", "a", ()),)))
        with self.raises(errors.NoText, line=0, column=3):
            read_standing(line, "train p a a")
        with self.raises(errors.NoText, line=0, column=2):
            read_standing(line, "staff a a a")

    def test_first_words(self):
        for word in ("Staff", "trains", "a", "p", "-", "free", "ticket", "stafftrain"):
            for behind in ("", " a b a", " p a b"):
                self.fault(word + behind, 0, 0)
                self.fault("staff a b a\n\n#\n " + word + behind, 3, 0)

    def test_first_word_behind_staff(self):
        for word in ("x", "A", "staff", "p", "-"):
            for behind in ("", " b", " b a", " x y z"):
                self.fault("staff " + word + behind, 0, 1)

    def test_second_word_behind_staff(self):
        for word in ("x", "a", "c", "d", "staff", "B"):
            for behind in ("", " a", " x", " a b"):
                self.fault("staff a " + word + behind, 0, 2)
        for text in ("staff b d", "staff b d b", "staff d b d", "staff d b", "staff b b b", "staff c a c"):
            self.fault(text, 0, 2)

    def test_a_staff_told_ahead(self):
        for again in ("staff a b a", "staff b a a", "staff b a b", "staff a b", "staff a b x", "staff b a a a"):
            self.fault("staff a b a\n" + again, 1, 2)
            self.fault("staff b a b\n" + again, 1, 2)
            self.fault(TOLD + "\n" + again, 2, 2)
        self.reads("staff b c c\nstaff a b a", (STAFFS, ()))

    def test_third_word_behind_staff(self):
        for word in ("c", "x", "d", "A", "staff"):
            for behind in ("", " a", " x"):
                self.fault("staff a b " + word + behind, 0, 3)
                self.fault("staff b a " + word + behind, 0, 3)
        self.fault("staff a b a\nstaff c b a", 1, 3)

    def test_more_behind_staff(self):
        for word in ("a", "b", "x", "staff"):
            self.fault("staff a b a " + word, 0, 4)
            self.fault("staff b a b " + word + " a", 0, 4)

    def test_staff_ends_too_early(self):
        self.fault("staff", 0, 1)
        self.fault("staff # a b a", 0, 1)
        self.fault("staff a", 0, 2)
        self.fault("staff b ", 0, 2)
        self.fault("staff a b", 0, 3)
        self.fault("staff c b#c", 0, 3)

    def test_first_word_behind_train(self):
        for word in ("P", "p1", "p" * 13, "-"):
            for behind in ("", " a", " x", " a c"):
                self.fault("train " + word + behind, 0, 1)

    def test_a_train_told_ahead(self):
        for again in ("train p", "train p a", "train p b", "train p x", "train p a c"):
            self.fault("train p a\n" + again, 1, 1)
            self.fault("train p b a\ntrain q b\n" + TOLD + "\n" + again, 4, 1)

    def test_second_word_behind_train(self):
        for word in ("x", "A", "p", "train"):
            for behind in ("", " a", " x"):
                self.fault("train p " + word + behind, 0, 2)

    def test_stations_of_a_rest(self):
        for word in ("a", "c", "d", "x", "A", "p"):
            for behind in ("", " b", " x", " a c"):
                self.fault("train p a " + word + behind, 0, 3)
        self.fault("train p b b", 0, 3)
        self.fault("train p c b c d", 0, 5)
        self.fault("train p c b d b a c b", 0, 7)
        self.fault("train p" + " a b" * 20 + " d b b", 0, 44)

    def test_train_ends_too_early(self):
        self.fault("train", 0, 1)
        self.fault("train #p a", 0, 1)
        self.fault("train p", 0, 2)
        self.fault("train p # a", 0, 2)

    def test_the_first_line_at_fault(self):
        self.fault("train p a c\nstaff", 0, 3)
        self.fault("train p a\nstaff\ntrain p a c", 1, 1)
        self.fault("staff a b a\ntrain p a\ntrain q a\ntrain q x", 3, 1)
        self.fault("\n\n# staff\ntrain", 3, 1)

    def test_staffs_that_lack(self):
        for text, row in (
            ("", 1), ("\n", 2), ("# staff a b a", 1), ("staff a b a", 1), ("staff b c b", 1), ("staff b c b\n", 2),
            ("\n\nstaff a b a\ntrain p a\n", 5), ("train p a\ntrain q b", 2),
        ):
            self.fault(text, row, 0)

    def test_a_line_at_fault_ahead_of_staffs_that_lack(self):
        self.fault("train p x", 0, 2)
        self.fault("staff a b a\n\n\ntrain p a a", 3, 3)

    def test_random_lines(self):
        dice = random.Random(53)
        words = ["staff", "train", "a", "b", "c", "d", "p", "q", "x", "A"]
        kinds = set()
        for _ in range(6000):
            row = [dice.choice(words[:2])] + [dice.choice(words) for _ in range(dice.randint(0, 6))]
            column = self.column(row)
            text = "train q b\nstaff a b a\n" + " ".join(row) + "\nstaff b c c"
            kinds.add((row[0], column))
            if column is not None:
                self.fault(text, 2, column)
            elif row[0] == "staff":
                self.fault(text, 3, 2)
            else:
                train = (row[1], row[2], tuple(row[3:]))
                self.reads(text, (STAFFS, tuple(sorted([train, ("q", "b", ())]))))
        self.assertGreater(len(kinds), 9)

    def column(self, row):
        """The word at fault behind the lines "train q b" and "staff a b a", None if there is none."""
        for at in range(1, max(len(row), 4 if row[0] == "staff" else 3)):
            if at >= len(row) or not self.can_stand(row[:at], row[at]):
                return at
        return None

    def can_stand(self, ahead, word):
        if ahead[0] == "staff":
            if len(ahead) == 1:
                return word in ("a", "b", "c", "d")
            if len(ahead) == 2:
                return sorted([ahead[1], word]) == ["b", "c"]
            return len(ahead) == 3 and word in ahead[1:]
        if len(ahead) == 1:
            return helper.is_name(word) and word != "q"
        if len(ahead) == 2:
            return word in ("a", "b", "c", "d")
        return tuple(sorted([ahead[-1], word])) in helper.keys_of(LINE)

    def test_any_value(self):
        for thing in any_values():
            shown = repr(thing)
            if not isinstance(thing, str):
                with self.raises(errors.Wrong, place=1):
                    read_standing(LINE, thing)
            for text in (TOLD, "", "x", None, thing):
                if not helper.is_line(thing):
                    with self.raises(errors.Wrong, place=0):
                        read_standing(thing, text)
            self.assertEqual(repr(thing), shown)

    def test_strings(self):
        for thing in any_values():
            if isinstance(thing, str):
                with self.assertRaises(errors.NoText):
                    read_standing(LINE, thing)

    def test_wrong_lines(self):
        others = [None, True, 1, "a", "x", (), [], ("a", "b"), ("a", "b", "free"), errors.Wrong(0)]
        for thing in helper.exchanged(LINE, others):
            if not helper.is_line(thing):
                for text in (TOLD, "x", None):
                    with self.raises(errors.Wrong, place=0):
                        read_standing(thing, text)

    def test_long_texts(self):
        self.reads("\n" * 8000 + TOLD, (STAFFS, ()))
        self.fault("\n" * 8999, 9000, 0)
        self.fault("train p a" + " b a" * 2000 + " a", 0, 4003)
        rest = ("b", "a") * 2000
        self.reads(TOLD + "\ntrain p a " + " ".join(rest), (STAFFS, (("p", "a", rest),)))


if __name__ == "__main__":
    unittest.main()
