"""The examples of the document, to the letter, each file with those of one stage; and that of the README."""

import doctest
import pathlib
import unittest

FOLDER = pathlib.Path(__file__).parent


class Examples(unittest.TestCase):
    def holds(self, name, least):
        text = (FOLDER / name).read_text()
        test = doctest.DocTestParser().get_doctest(text, {}, name, name, 0)
        self.assertGreaterEqual(len(test.examples), least)
        told = []
        result = doctest.DocTestRunner(verbose=False).run(test, out=told.append)
        self.assertEqual(result.failed, 0, "".join(told))

    def test_forms(self):
        self.holds("examples/forms.txt", 15)

    def test_lines(self):
        self.holds("examples/lines.txt", 12)

    def test_standings(self):
        self.holds("examples/standings.txt", 18)

    def test_fits(self):
        self.holds("examples/fits.txt", 9)

    def test_openruns(self):
        self.holds("examples/openruns.txt", 9)

    def test_held(self):
        self.holds("examples/held.txt", 9)

    def test_verdicts(self):
        self.holds("examples/verdicts.txt", 9)

    def test_plans(self):
        self.holds("examples/plans.txt", 14)

    def test_onetrain(self):
        self.holds("examples/onetrain.txt", 11)

    def test_rounds(self):
        self.holds("examples/rounds.txt", 12)

    def test_firstplaces(self):
        self.holds("examples/firstplaces.txt", 10)

    def test_whatif(self):
        self.holds("examples/whatif.txt", 11)

    def test_house(self):
        self.holds("examples/house.txt", 19)

    def test_days(self):
        self.holds("examples/days.txt", 13)

    def test_kept(self):
        self.holds("examples/kept.txt", 13)

    def test_desk(self):
        self.holds("examples/desk.txt", 8)

    def test_readme(self):
        self.holds("../README.md", 9)


if __name__ == "__main__":
    unittest.main()
