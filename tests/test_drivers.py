"""Point [33]: drivers alone, and drivers and a house with letters lost, doubled and late."""

import random
import unittest

import helper
from helper import Checks, small_standings, wide_standings
from staffhome.drivers import ask_of, came, driver_at_first, heard
from staffhome.house import House
from staffhome.verdicts import is_safe

ANSWERS = [
    ("late",), ("home",), ("wait", "q"), ("away",), ("refused", ("shut", ("a", "b"))), ("go", 0, "staff"),
    ("go", 3, "ticket"), ("go", 4, "free"), ("go", 5, "staff"), ("go", 400, "ticket"),
]


class Alone(Checks, unittest.TestCase):
    def test_at_first(self):
        self.assertEqual(driver_at_first("p"), ("p", None, None))
        self.assertEqual(ask_of(driver_at_first("p")), ("p", None))

    def test_who_stands(self):
        for done in (None, 0, 3, 4, 399):
            driver = ("p", done, None)
            self.assertEqual(ask_of(driver), ("p", done))
            for answer in ANSWERS:
                goes = answer[0] == "go" and (done is None or answer[1] > done)
                expected = ("p", done, answer[1:]) if goes else driver
                self.assertEqual(heard(driver, answer), expected)

    def test_who_goes(self):
        for done in (None, 0, 3):
            for going in ((4, "staff"), (5, "ticket"), (9, "free")):
                driver = ("p", done, going)
                self.assertIsNone(ask_of(driver))
                self.assertEqual(came(driver), ("p", going[0], None))
                for answer in ANSWERS:
                    self.assertEqual(heard(driver, answer), driver)

    def test_the_number_nought(self):
        self.assertEqual(heard(("p", None, None), ("go", 0, "staff")), ("p", None, (0, "staff")))
        self.assertEqual(heard(("p", 0, None), ("go", 0, "staff")), ("p", 0, None))
        self.assertEqual(came(("p", None, (0, "staff"))), ("p", 0, None))

    def test_answers_in_any_order(self):
        """Each GRANT is begun once at most, with ever greater numbers."""
        dice = random.Random(1401)
        for _ in range(300):
            driver, begun = driver_at_first("p"), []
            for _ in range(40):
                if driver[2] is not None and dice.random() < 0.5:
                    driver = came(driver)
                    self.assertEqual(driver[1], begun[-1])
                    continue
                answer = dice.choice([*ANSWERS, ("go", dice.randint(0, 30), "staff")])
                before = driver
                driver = heard(before, answer)
                self.assertEqual(heard(driver, answer), driver)
                if driver != before:
                    begun.append(answer[1])
                    self.assertEqual(driver, ("p", before[1], answer[1:]))
            self.assertEqual(begun, sorted(set(begun)))


class Post(Checks):
    """A house and its drivers, whose letters lie about until they are delivered, lost, or delivered again."""

    def begin(self, line, standing, seed):
        self.dice, self.line, self.house = random.Random(seed), line, House(line, standing)
        self.drivers = {name: driver_at_first(name) for name, _, _ in standing[1]}
        self.trains = {name: (place, rest) for name, place, rest in standing[1]}
        self.asks, self.answers, self.begun = [], [], []

    def taken(self, letters):
        """Some letter, the last one or an elder one; it may stay where it is, and come once more, or much later."""
        at = self.dice.choice((len(letters) - 1, self.dice.randrange(len(letters))))
        return letters[at] if self.dice.random() < 0.4 else letters.pop(at)

    def hear(self, name, answer):
        before = self.drivers[name]
        self.drivers[name] = heard(before, answer)
        if self.drivers[name] == before:
            return
        number, how = self.drivers[name][2]
        place, rest = self.trains[name]
        self.begun.append(number)
        key = helper.key_of(place, rest[0])
        self.assertEqual(how == "free", key in helper.keys_of_sort(self.line, "free"))
        for other, driver in self.drivers.items():
            if how != "free" and other != name and driver[2] is not None:
                self.assertNotEqual(helper.key_of(self.trains[other][0], self.trains[other][1][0]), key)

    def come(self, name):
        place, rest = self.trains[name]
        self.trains[name] = (rest[0], rest[1:])
        self.drivers[name] = came(self.drivers[name])

    def step(self):
        """One thing that may happen."""
        what = self.dice.random()
        name = self.dice.choice(list(self.drivers))
        if self.drivers[name][2] is not None and what < 0.5:
            self.come(name)
        elif self.drivers[name][2] is None and what < 0.5:
            self.asks.append(ask_of(self.drivers[name]))
        elif what < 0.8 and self.asks:
            name, number = self.taken(self.asks)
            answer = self.house.ask(name, number)
            if self.dice.random() < 0.9:
                self.answers.append((name, answer))
        elif self.answers:
            self.hear(*self.taken(self.answers))
        for letters in (self.asks, self.answers):
            if len(letters) > 30:
                letters.pop(self.dice.randrange(30))

    def till_all_are_home(self, standing, most):
        passes = sum(len(rest) for _, _, rest in standing[1])
        while any(rest for _, rest in self.trains.values()):
            self.step()
            most -= 1
            self.assertGreater(most, 0)
        self.assertEqual(sorted(self.begun), list(range(passes)))
        self.assertTrue(helper.is_home(self.house.standing()))


class Letters(Post, unittest.TestCase):
    def test_small_lines(self):
        told = 0
        for index, (line, standing) in enumerate(small_standings(171, 250)):
            if is_safe(line, standing):
                self.begin(line, standing, index)
                self.till_all_are_home(standing, 100000)
                told += 1
        self.assertGreater(told, 60)

    def test_wide_lines(self):
        for index, (line, standing, _) in enumerate(wide_standings(173)):
            self.begin(line, standing, index)
            with self.within(60):
                self.till_all_are_home(standing, 300000)

    def test_each_letter_again_at_the_end(self):
        """What was said once leads to no pass later."""
        line = (("a", "b", "c"), (("a", "b", "staff"), ("b", "c", "ticket")))
        standing = (((("a", "b"), "a"), (("b", "c"), "b")), (("x", "a", ("b",)), ("y", "a", ("b", "c", "b", "a"))))
        house = House(line, standing)
        drivers = {name: driver_at_first(name) for name in "xy"}
        asks, answers = [], []
        while not helper.is_home(house.standing()) or any(driver[2] for driver in drivers.values()):
            for name in "xy":
                if drivers[name][2] is not None:
                    drivers[name] = came(drivers[name])
                asks.append(ask_of(drivers[name]))
                answers.append((name, house.ask(*asks[-1])))
                drivers[name] = heard(*[drivers[name], answers[-1][1]])
        for name in "xy":
            house.ask(*ask_of(drivers[name]))
        log = house.log()
        for ask in asks:
            told = house.ask(*ask)
            self.assertIn(told[0], ("late", "home"))
            self.assertEqual(heard(drivers[ask[0]], told), drivers[ask[0]])
        for name, answer in answers:
            self.assertEqual(heard(drivers[name], answer), drivers[name])
        self.assertEqual(house.log(), log)


if __name__ == "__main__":
    unittest.main()
