"""The house: it grants just those MOVES behind which everybody gets home."""

from staffhome.errors import NoTrain, NoWay, Wrong
from staffhome.forms import is_integer, is_line, is_name, is_standing
from staffhome.lines import key_of
from staffhome.moves import hows_of, led_to, next_pass
from staffhome.standings import names_of
from staffhome.verdicts import reason


def is_number(thing):
    """Whether thing may be the number of the last GRANT with which a train came."""
    return thing is None or (is_integer(thing) and thing >= 0)


class House:
    """The STANDING as if all trains had come, the LAST of each, its WAY if it is under way, and the log.

    now is the STANDING, lasts the dict from names to LASTS that are not None, ways that from the names of the trains
    under way to tuples (from, to, number, how), said that from names to what is said of their next MOVES in this
    STANDING, grants how many GRANTS were given, lines the list of the lines of the log.
    """

    def __init__(self, line, standing):
        if not is_line(line):
            raise Wrong(0)
        if not is_standing(line, standing):
            raise Wrong(1)
        why = reason(line, standing)
        if why is not None:
            raise NoWay(why)
        self.railway = line
        self.now = standing
        self.lasts = {}
        self.ways = {}
        self.said = {}
        self.grants = 0
        self.lines = []

    def ask(self, name, number):
        """What is told to the driver of a train that came last with the GRANT of this number."""
        if not is_name(name):
            raise Wrong(0)
        if not is_number(number):
            raise Wrong(1)
        if name not in names_of(self.now):
            raise NoTrain(name)
        going = self.ways.get(name)
        if going is not None and number == going[2]:
            self.write(("at", name))
        elif number != self.lasts.get(name):
            return ("late",)
        elif going is not None:
            return ("go", going[2], going[3])
        answer = self.answer_to(name)
        if answer[0] == "go":
            self.write(("go", name, answer[2]))
        return answer

    def answer_to(self, name):
        """What a train that stands is told if it asks with its LAST."""
        step = next_pass(self.now, name)
        if step is None:
            return ("home",)
        other = self.train_in(step)
        if other is not None:
            return ("wait", other)
        # What is said of a MOVE holds until the next GRANT, and many ask often in between.
        if name not in self.said:
            self.said[name] = self.said_of(name)
        return self.said[name]

    def said_of(self, name):
        """What a train that has a pass left is told if its section is not BUSY."""
        whys = []
        for how in hows_of(self.railway, self.now, name):
            whys.append(reason(self.railway, led_to(self.now, (name, how))))
            if whys[-1] is None:
                return ("go", self.grants, how)
        return ("away",) if len(whys) == 0 else ("refused", whys[0])

    def train_in(self, step):
        """The name of the train under way in the section of a pass, if this is BUSY, None if it is not."""
        for name, way in self.ways.items():
            if way[3] != "free" and key_of(way[0], way[1]) == key_of(step[0], step[1]):
                return name
        return None

    def next_words(self, name):
        """The words of the line that an ask of a train may write next, () if none does."""
        if name in self.ways:
            return ("at", name)
        answer = self.answer_to(name)
        return ("go", name, answer[2]) if answer[0] == "go" else ()

    def write(self, words):
        """Writes a line, which is one that may come next, and does what it tells."""
        self.lines.append(" ".join(words))
        name = words[1]
        if words[0] == "at":
            self.lasts[name] = self.ways.pop(name)[2]
        else:
            self.ways[name] = next_pass(self.now, name) + (self.grants, words[2])
            self.now = led_to(self.now, (name, words[2]))
            self.said = {}
            self.grants += 1

    def standing(self):
        """The STANDING as if all trains that are under way had come."""
        return self.now

    def under_way(self):
        """The dict from the names of the trains that are under way to tuples (from, to, number, how)."""
        return {name: self.ways[name] for name in sorted(self.ways)}

    def goers(self):
        """The ascending tuple of the names of the trains that would be given a new GRANT if they asked now."""
        return tuple([name for name in names_of(self.now) if len(self.next_words(name)) == 3])

    def log(self):
        """The text of all lines that were written."""
        return "".join([row + "\n" for row in self.lines])

    def twin(self):
        """An independent House in the same state."""
        other = House(self.railway, self.now)
        other.lasts = dict(self.lasts)
        other.ways = dict(self.ways)
        other.grants = self.grants
        other.lines = list(self.lines)
        return other
