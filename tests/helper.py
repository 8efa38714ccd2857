"""What the tests share: the definitions written out once more in another way, sample railways, odd values."""

import contextlib
import copy
import functools
import itertools
import random
import re
import time

from staffhome import errors
from staffhome.desk import Desk
from staffhome.house import House
from staffhome.kept import Kept

SORTS = ("free", "staff", "ticket")


# The definitions of point [2], written as plainly as can be, without a thought of speed.


def is_name(thing):
    return type(thing) is str and re.fullmatch("[a-z]{1,12}", thing) is not None


def is_ascending(things):
    return list(things) == sorted(things) and all(things.count(thing) == 1 for thing in things)


def all_paths(keys, one, other, ahead=()):
    """Every path from one to other that visits no station twice, as tuples with both ends."""
    if one == other:
        return [ahead + (one,)]
    found = []
    for key in keys:
        if one in key and key[0] != key[1]:
            after = key[1] if key[0] == one else key[0]
            if after not in ahead:
                found.extend(all_paths(keys, after, other, ahead + (one,)))
    return found


def keys_of(line):
    return [(one, other) for one, other, _ in line[1]]


def the_path(line, one, other):
    """The only path of a LINE, with both ends."""
    (path,) = all_paths(keys_of(line), one, other)
    return path


def is_line(thing):
    if type(thing) is not tuple or len(thing) != 2:
        return False
    stations, sections = thing
    if type(stations) is not tuple or stations == () or not all(map(is_name, stations)):
        return False
    if not is_ascending(stations) or type(sections) is not tuple:
        return False
    for row in sections:
        if type(row) is not tuple or len(row) != 3 or not all(type(word) is str for word in row):
            return False
        if row[0] not in stations or row[1] not in stations or not row[0] < row[1] or row[2] not in SORTS:
            return False
    keys = [row[:2] for row in sections]
    if not is_ascending(sections) or len(set(keys)) != len(keys) or len(keys) >= len(stations):
        return False
    return all(len(all_paths(keys, one, other)) == 1 for one in stations for other in stations)


def is_key(line, thing):
    return type(thing) is tuple and thing in keys_of(line)


def is_lot(line, thing):
    return type(thing) is tuple and all(is_key(line, key) for key in thing) and is_ascending(thing)


def is_part(line, thing):
    if type(thing) is not tuple or thing == ():
        return False
    if not all(type(station) is str and station in line[0] for station in thing) or not is_ascending(thing):
        return False
    return all(set(the_path(line, thing[0], station)) <= set(thing) for station in thing)


def is_train(line, thing):
    if type(thing) is not tuple or len(thing) != 3:
        return False
    name, place, rest = thing
    if not is_name(name) or type(place) is not str or place not in line[0] or type(rest) is not tuple:
        return False
    at = place
    for stop in rest:
        if type(stop) is not str or tuple(sorted((at, stop))) not in keys_of(line):
            return False
        at = stop
    return True


def are_trains(line, thing):
    if type(thing) is not tuple or not all(is_train(line, train) for train in thing):
        return False
    return is_ascending([name for name, _, _ in thing])


def are_staffs(line, thing):
    if type(thing) is not tuple or not all(type(pair) is tuple and len(pair) == 2 for pair in thing):
        return False
    if [pair[0] for pair in thing] != [row[:2] for row in line[1] if row[2] in ("staff", "ticket")]:
        return False
    return all(type(end) is str and end in key for key, end in thing)


def is_standing(line, thing):
    return type(thing) is tuple and len(thing) == 2 and are_staffs(line, thing[0]) and are_trains(line, thing[1])


def is_move(thing):
    if type(thing) is not tuple or len(thing) != 2:
        return False
    return is_name(thing[0]) and type(thing[1]) is str and thing[1] in SORTS


def are_moves(thing):
    return type(thing) is tuple and all(is_move(move) for move in thing)


def behind(line, standing, move):
    """The STANDING that a MOVE leads to, None if it cannot be done."""
    staffs = dict(standing[0])
    trains = {name: (place, rest) for name, place, rest in standing[1]}
    name, how = move
    if name not in trains or trains[name][1] == ():
        return None
    place, rest = trains[name]
    key = tuple(sorted((place, rest[0])))
    (sort,) = [row[2] for row in line[1] if row[:2] == key]
    allowed = {"free": ["free"], "staff": ["staff"], "ticket": ["staff", "ticket"]}[sort]
    if how not in allowed or (sort != "free" and staffs[key] != place):
        return None
    trains[name] = (rest[0], rest[1:])
    if how == "staff":
        staffs[key] = rest[0]
    return (tuple(sorted(staffs.items())), tuple((name, *trains[name]) for name in sorted(trains)))


def key_of(one, other):
    return tuple(sorted((one, other)))


def steps_of(train):
    """The passes (from, to) that are left to a train."""
    _, place, rest = train
    return list(zip((place, *rest), rest))


def steps_left(trains):
    return [step for train in trains for step in steps_of(train)]


def needed_keys(standing):
    return {key_of(*step) for step in steps_left(standing[1])}


def keys_of_sort(line, *sorts):
    return [row[:2] for row in line[1] if row[2] in sorts]


def is_home(standing):
    return all(rest == () for _, _, rest in standing[1])


def plain_counts(standing, key):
    """The a and b of a section with a staff."""
    near = dict(standing[0])[key]
    away = key[key[0] == near]
    steps = steps_left(standing[1])
    return (steps.count((near, away)), steps.count((away, near)))


def does_fit(standing, key):
    a, b = plain_counts(standing, key)
    return a - b in (0, 1)


def all_fit(line, standing):
    return all(does_fit(standing, key) for key in keys_of_sort(line, "staff"))


def is_shut(line, standing, thing):
    if not is_part(line, thing):
        return False
    staffs = dict(standing[0])
    at_border = [key for key in keys_of(line) if len(set(key) & set(thing)) == 1 and key in needed_keys(standing)]
    if at_border == [] or not all(key in staffs and staffs[key] in thing for key in at_border):
        return False
    return all(set(rest) <= set(thing) for _, place, rest in standing[1] if place in thing)


def is_held(line, standing, thing):
    if not is_lot(line, thing) or thing == ():
        return False
    staffs = dict(standing[0])
    if not all(key in staffs and key in needed_keys(standing) for key in thing):
        return False
    over = [[step for step in steps_of(train) if key_of(*step) in thing] for train in standing[1]]
    return all(staffs[key_of(*steps[0])] != steps[0][0] for steps in over if steps)


def all_lots(line):
    keys = keys_of(line)
    return [lot for many in range(len(keys) + 1) for lot in itertools.combinations(keys, many)]


def all_parts(line):
    """All PARTS of a small LINE."""
    tuples = [part for many in range(len(line[0])) for part in itertools.combinations(line[0], many + 1)]
    return sorted(part for part in tuples if is_part(line, part))


def part_beyond(line, one, other):
    return tuple(station for station in line[0] if the_path(line, one, station)[1:2] == (other,))


def open_end(dice, line, standing, part=None):
    """What is passed in the OPEN RUN of a PART alone, and its trains at the end; they go on in any order."""
    part = line[0] if part is None else part
    staffs = dict(standing[0])
    passed = set()
    trains = {name: (place, rest) for name, place, rest in standing[1] if place in part}
    ready = [True]
    while ready:
        ready = []
        for name, (place, rest) in trains.items():
            if place in part and rest:
                key = key_of(place, rest[0])
                if key not in staffs or key in passed or staffs[key] == place:
                    ready.append((name, key, rest))
        if ready:
            name, key, rest = dice.choice(ready)
            passed.add(key)
            trains[name] = (rest[0], rest[1:])
    return (tuple(sorted(passed)), tuple((name, *trains[name]) for name in sorted(trains)))


def moves_behind(line, standing):
    """Pairs of a MOVE that can be done and the STANDING behind it."""
    moves = [(train[0], how) for train in standing[1] for how in SORTS]
    pairs = [(move, behind(line, standing, move)) for move in moves]
    return [(move, later) for move, later in pairs if later is not None]


def all_reached(line, standing, most):
    """The list of all STANDINGS to which ROWS lead, None if there are more than so many."""
    found = {standing: True}
    waiting = [standing]
    while waiting:
        for _, later in moves_behind(line, waiting.pop()):
            if later not in found:
                found[later] = True
                waiting.append(later)
        if len(found) > most:
            return None
    return list(found)


@functools.lru_cache(maxsize=None)
def parts_of(line):
    return tuple(all_parts(line))


@functools.lru_cache(maxsize=None)
def is_safe(line, standing):
    """Whether a STANDING of a small LINE is SAFE, by the words of [5]."""
    return all_fit(line, standing) and not any(is_shut(line, standing, part) for part in parts_of(line))


class PlainHouse:
    """Point [32] on a small LINE, word by word; instead of a reason ask returns the STANDING that it is refused for."""

    def __init__(self, line, standing):
        self.line, self.standing = line, standing
        self.lasts = {name: None for name, _, _ in standing[1]}
        self.ways = dict(self.lasts)
        self.grants = []
        self.rows = []

    def ask(self, name, number):
        way = self.ways[name]
        if number is not None and number == way:
            self.come(name)
        elif number != self.lasts[name]:
            return ("late",)
        elif way is not None:
            return ("go", way, self.grants[way][3])
        (train,) = [train for train in self.standing[1] if train[0] == name]
        if train[2] == ():
            return ("home",)
        start, stop = train[1], train[2][0]
        (sort,) = [row[2] for row in self.line[1] if row[:2] == key_of(start, stop)]
        for other, number in self.ways.items():
            if sort != "free" and number is not None and set(self.grants[number][1:3]) == {start, stop}:
                return ("wait", other)
        if sort != "free" and dict(self.standing[0])[key_of(start, stop)] != start:
            return ("away",)
        for how in SORTS:
            later = behind(self.line, self.standing, (name, how))
            if later is not None and is_safe(self.line, later):
                return ("go", self.go(name, how), how)
        return ("refused", behind(self.line, self.standing, (name, "staff")))

    def come(self, name):
        self.lasts[name], self.ways[name] = self.ways[name], None
        self.rows.append(f"at {name}")

    def go(self, name, how):
        (train,) = [train for train in self.standing[1] if train[0] == name]
        self.ways[name] = len(self.grants)
        self.grants.append((name, train[1], train[2][0], how))
        self.standing = behind(self.line, self.standing, (name, how))
        self.rows.append(f"go {name} {how}")
        return self.ways[name]

    def under_way(self):
        return {name: (*self.grants[way][1:3], way, self.grants[way][3]) for name, way in sorted(self.ways.items())
                if way is not None}

    def next_rows(self):
        """The dict from names to the words of the line that asks of them may write first."""
        found = {}
        for name in sorted(self.ways):
            twin = copy.deepcopy(self)
            twin.ask(name, self.lasts[name] if self.ways[name] is None else self.ways[name])
            if len(twin.rows) > len(self.rows):
                found[name] = twin.rows[len(self.rows)].split(" ")
        return found

    def log(self):
        return "".join(row + "\n" for row in self.rows)


def is_reason(line, standing, thing):
    """Whether thing is a right reason, by the words of [23]."""
    if thing[0] == "passes":
        _, key, a, b = thing
        return key in keys_of_sort(line, "staff") and (a, b) == plain_counts(standing, key) and a - b not in (0, 1)
    return thing[0] == "shut" and len(thing) == 2 and is_shut(line, standing, thing[1])


# Sample railways and standings.


def row_line(count, sorts=SORTS):
    """A LINE of stations one behind the other, its sorts by turns."""
    stations = [station_name(index) for index in range(count)]
    rows = [tuple(sorted(stations[k:k + 2])) + (sorts[k % len(sorts)],) for k in range(count - 1)]
    return (tuple(sorted(stations)), tuple(sorted(rows)))


def star_line(count, sorts=SORTS):
    """A LINE of stations about one in their middle."""
    stations = [station_name(index) for index in range(count)]
    hub = stations[count // 2]
    rows = [tuple(sorted((hub, end))) + (sorts[k % len(sorts)],) for k, end in enumerate(stations) if end != hub]
    return (tuple(sorted(stations)), tuple(sorted(rows)))


def station_name(index):
    """A NAME for a number; the orders of both have nothing to do with each other."""
    letters = "qwertyuiopasdfghjklzxcvbnm"
    return letters[index % 26] if index < 26 else letters[index % 26] + station_name(index // 26 - 1)


def random_line(dice, count, sorts=SORTS):
    """A branching LINE of so many stations."""
    stations = set()
    while len(stations) < count:
        stations.add("".join(dice.choice("abcdm") for _ in range(dice.randint(1, 4))))
    stations = sorted(stations)
    dice.shuffle(stations)
    rows = []
    for index in range(1, count):
        ends = sorted((stations[index], dice.choice(stations[max(0, index - 6):index])))
        rows.append((*ends, dice.choice(sorts)))
    return (tuple(sorted(stations)), tuple(sorted(rows)))


def random_rest(dice, line, place, length):
    rest = []
    while len(rest) < length and len(line[0]) > 1:
        place = dice.choice([key[key[0] == place] for key in keys_of(line) if place in key])
        rest.append(place)
    return tuple(rest)


def random_standing(dice, line, trains, longest):
    """A STANDING with so many trains, whose rests have at most so many stations."""
    staffs = tuple(((one, other), dice.choice((one, other))) for one, other, sort in line[1] if sort != "free")
    names = set()
    while len(names) < trains:
        names.add("".join(dice.choice("nopq") for _ in range(dice.randint(1, 12))))
    rows = []
    for name in sorted(names):
        place = dice.choice(line[0])
        rows.append((name, place, random_rest(dice, line, place, dice.randint(0, longest))))
    return (staffs, tuple(rows))


def sample_lines():
    dice = random.Random(7)
    lines = [row_line(1), row_line(2), row_line(3), row_line(7), row_line(24), star_line(4), star_line(24)]
    lines.append((("a", "b", "c", "d"), (("a", "b", "staff"), ("b", "c", "ticket"), ("b", "d", "free"))))
    lines.extend(random_line(dice, count) for count in (2, 3, 4, 5, 6, 8, 11, 16, 24))
    return lines


def sample_standings(seed=3):
    """Pairs of a LINE and a STANDING of it: no trains, one, several, as many and as long as the bounds let be."""
    dice = random.Random(seed)
    pairs = []
    for line in sample_lines():
        for trains, longest in ((0, 0), (1, 0), (1, 5), (3, 2), (6, 7), (24, 20)):
            pairs.append((line, random_standing(dice, line, trains, longest)))
    return pairs


def fitted(dice, line, standing):
    """The STANDING with its staffs laid so that sections fit, wherever they can."""
    staffs = []
    for key, station in standing[0]:
        here, there = [steps_left(standing[1]).count(step) for step in (key, key[::-1])]
        if here != there and key in keys_of_sort(line, "staff"):
            station = key[here < there]
        staffs.append((key, station))
    return (tuple(staffs), standing[1])


@functools.lru_cache
def small_standings(seed, many):
    """So many pairs of a small LINE and a STANDING of it from which few STANDINGS are reached."""
    dice = random.Random(seed)
    kinds = [("staff",), ("staff", "ticket"), ("staff", "staff", "ticket", "free"), SORTS]
    pairs = []
    while len(pairs) < many:
        line = random_line(dice, dice.randint(2, 6), dice.choice(kinds))
        standing = random_standing(dice, line, dice.randint(1, 5), dice.randint(1, 7))
        if dice.random() < 0.7:
            standing = fitted(dice, line, standing)
        if all_reached(line, standing, 400) is not None:
            pairs.append((line, standing))
    return tuple(pairs)


def safe_standing(dice, line, trains, longest, total):
    """A SAFE STANDING and a ROW that brings all home: a ROW gone backwards from where all are home."""
    staffs = {key: dice.choice(key) for key in keys_of_sort(line, "staff", "ticket")}
    at = {station_name(index) + "x": (dice.choice(line[0]), ()) for index in range(trains)}
    row = []
    for _ in range(20 * total):
        name = dice.choice(sorted(at))
        place, rest = at[name]
        key = dice.choice([key for key in keys_of(line) if place in key])
        start = key[key[0] == place]
        how = dice.choice(["free"] if key not in staffs else ["staff", "ticket"])
        can = {"free": True, "staff": staffs.get(key) == place, "ticket": staffs.get(key) == start}[how]
        if can and len(rest) < longest and len(row) < total and (how != "ticket" or key in keys_of_sort(line, how)):
            row.insert(0, (name, how))
            at[name] = (start, (place, *rest))
            if how == "staff":
                staffs[key] = start
    return (tuple(sorted(staffs.items())), tuple((name, *at[name]) for name in sorted(at))), tuple(row)


def wide_standings(seed):
    """Triples of a LINE of 24 stations, a SAFE STANDING of 24 trains and hundreds of stops, and its ROW."""
    dice = random.Random(seed)
    lines = [row_line(24), row_line(24, ("staff",)), star_line(24), star_line(24, ("staff",))]
    lines.extend(random_line(dice, 24, sorts) for sorts in (SORTS, ("staff",), ("staff", "ticket")))
    return [(line, *safe_standing(dice, line, 24, 40, 480)) for line in lines]


def round_trains(dice, line, many, half):
    """So many trains that go out over up to so many sections, and back."""
    trains = []
    for index in range(many):
        place = dice.choice(line[0])
        path = (place, *random_rest(dice, line, place, dice.randint(0, half)))
        trains.append((station_name(index) + "o", place, path[1:] + path[::-1][1:]))
    return tuple(sorted(trains))


def random_row(dice, line, standing, most):
    """A ROW of at most so many MOVES, and the list of the STANDINGS behind each."""
    row, standings = [], [standing]
    while len(row) < most:
        moves = [(train[0], how) for train in standings[-1][1] for how in SORTS]
        moves = [move for move in moves if behind(line, standings[-1], move) is not None]
        if not moves:
            break
        row.append(dice.choice(moves))
        standings.append(behind(line, standings[-1], row[-1]))
    return tuple(row), standings


def scattered(dice, rows):
    """A text of lists of words: in any order, with blanks, remarks and empty rows between."""
    rows = rows + [[] for _ in range(dice.randint(0, 4))]
    dice.shuffle(rows)
    texts = []
    for words in rows:
        text = " " * dice.randint(0, 3) + (" " * dice.randint(1, 3)).join(words) + " " * dice.randint(0, 3)
        texts.append(text + dice.choice(["", "", "#", "# by hand", "#a b staff", "#staff a b a", " ## x # y"]))
    return "\n".join(texts)


# Odd values.


def package_objects():
    line, standing = (("a", "b"), (("a", "b", "staff"),)), (((("a", "b"), "a"),), (("p", "a", ("b",)),))
    return [
        House(line, standing), Kept(line, standing), Desk("a b staff", "staff a b a\ntrain p a b"),
        errors.StaffError("a"), errors.NoCommand("a"), errors.NoLine(("none",)), errors.NoMove(0),
        errors.NoText(0, 1), errors.NoTrain("a"), errors.NoWay(None), errors.Nothing(), errors.TooMany(2000),
        errors.Used("p"), errors.Wrong(0),
    ]


def deep(kind, depth):
    thing = kind()
    for _ in range(depth):
        thing = {"a": thing} if kind is dict else kind([thing])
    return thing


def any_values():
    """Values of all kinds that point [4] names, new ones with each call."""
    return [
        None, True, False, 0, 1, 2, -1, 10 ** 39, -(10 ** 39), "", " ", "\n", "a", "b", "a\n", "p", "staff", "free",
        "a" * 12, "a" * 13, "z" * 9000, "~ A0_-#{}", (), [], {}, ("a",), ["a"], {"a": "b"}, ("a", "b"), ["a", "b"],
        (("a", "b"),), [("a", "b")], ("a", 1), (1, "a"), (None, None), (True, False), ("a", ["b"]), (["a"], {}),
        ("p", "staff"), (("p", "staff"), ["p", "staff"]), ((), ()), ([], []), (("a",), []), (["a"], ()),
        tuple(range(3000)), list(range(3000)), ("a",) * 3000, (("a", "b"),) * 900, {("a", "b"): "a"},
        {index: (index, [index]) for index in range(900)}, deep(tuple, 20), deep(list, 20), deep(dict, 20),
        ("a", "b", "c"), ("a", "b", "staff"), (("a", "b"), "a"), ((("a", "b"), "a"),), ("p", "a", ()), (("p", "a", ()),),
        *package_objects(), tuple(package_objects()), package_objects(), (errors.Wrong(0), "a"), ("p", errors.Wrong(0)),
    ]


def exchanged(thing, others):
    """Tuples like this one with a part left out, doubled, turned, exchanged for others, or made a list."""
    if not isinstance(thing, tuple):
        return
    yield list(thing)
    yield thing[::-1]
    for at in range(len(thing) + 1):
        head, tail = thing[:at], thing[at:]
        yield head
        for other in others:
            yield head + (other,) + tail
        if tail:
            yield head + tail[1:]
            yield head + tail[:1] + tail
            yield head + tail[1:2] + tail[:1] + tail[2:]
            for other in others:
                yield head + (other,) + tail[1:]
            for part in exchanged(tail[0], others):
                yield head + (part,) + tail[1:]


class Checks:
    """Assertions that several test cases share."""

    @contextlib.contextmanager
    def within(self, seconds):
        """What is done here does not take long; seconds are many times what it takes."""
        begin = time.perf_counter()
        yield
        self.assertLess(time.perf_counter() - begin, seconds)

    @contextlib.contextmanager
    def raises(self, kind, **fields):
        """What is done here raises an error of just this class, with these very fields."""
        with self.assertRaises(errors.StaffError) as caught:
            yield
        self.assertIs(type(caught.exception), kind)
        self.assertEqual(vars(caught.exception), fields)
        for name, worth in fields.items():
            self.assertIs(type(getattr(caught.exception, name)), type(worth))

    def tells(self, answer, expected, *things):
        """The answer is the truth expected, and nothing that is merely equal to it."""
        self.assertIs(answer, expected, things)
