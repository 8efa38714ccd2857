"""The desk: a Kept led by lines of words."""

from staffhome.errors import NoCommand, NoMove, Nothing, NoTrain, Used, Wrong
from staffhome.forms import SORTS, is_name, is_rest, is_station, is_walk
from staffhome.held import held
from staffhome.kept import Kept
from staffhome.lines import key_of, section
from staffhome.linetexts import line_text, read_line
from staffhome.moves import can_be_done, moved, moves_of
from staffhome.onetrain import bar, row_for
from staffhome.plans import good_moves, plan
from staffhome.standingtexts import read_standing, standing_text
from staffhome.verdicts import reason
from staffhome.whatif import carries, mends, needed_helpers, next_stops, stays

# What stands behind the first word, for all commands but "put", "longer" and "lay".
KINDS = {
    "undo": (),
    "redo": (),
    "line": (),
    "standing": (),
    "safe": (),
    "moves": (),
    "good": (),
    "plan": (),
    "held": (),
    "carries": (),
    "take": ("NAME",),
    "home": ("NAME",),
    "stays": ("NAME",),
    "helpers": ("NAME",),
    "next": ("NAME",),
    "mends": ("SORT",),
    "go": ("NAME", "HOW"),
    "try": ("NAME", "HOW"),
}


def is_of_kind(kind, word):
    """Whether a word is a NAME, or a SORT or HOW, if this is asked for."""
    return is_name(word) if kind == "NAME" else word in SORTS


def is_put(line, words):
    """Whether words are those of a train that is to be put in."""
    if len(words) < 3 or not is_name(words[1]) or not is_station(line, words[2]):
        return False
    return is_rest(line, words[2], tuple(words[3:]))


def is_longer(line, words):
    """Whether words are those of stations to be put behind a rest."""
    return len(words) > 1 and is_name(words[1]) and is_walk(line, tuple(words[2:]))


def is_lay(line, words):
    """Whether words are those of a staff to be laid."""
    if len(words) != 4 or words[3] not in words[1:3]:
        return False
    row = section(line, words[1], words[2])
    return row is not None and row[2] != "free"


def is_command(line, words):
    """Whether words are those of a command at the desk of a LINE."""
    if len(words) == 0:
        return False
    if words[0] == "put":
        return is_put(line, words)
    if words[0] == "longer":
        return is_longer(line, words)
    if words[0] == "lay":
        return is_lay(line, words)
    kinds = KINDS.get(words[0])
    if kinds is None or len(kinds) != len(words) - 1:
        return False
    return all([is_of_kind(kind, word) for kind, word in zip(kinds, words[1:])])


def change_by_go(kept, words):
    """Does one MOVE."""
    kept.do(((words[1], words[2]),))


def change_by_put(kept, words):
    """Puts in a train."""
    kept.put(words[1], words[2], tuple(words[3:]))


def change_by_take(kept, words):
    """Takes a train out."""
    kept.take(words[1])


def change_by_longer(kept, words):
    """Puts stations behind the rest of a train."""
    kept.longer(words[1], tuple(words[2:]))


def change_by_lay(kept, words):
    """Lays a staff."""
    kept.lay(key_of(words[1], words[2]), words[3])


def change_by_undo(kept, words):
    """Takes back a change."""
    kept.undo()


def change_by_redo(kept, words):
    """Does a change once more."""
    kept.redo()


CHANGES = {
    "go": change_by_go,
    "put": change_by_put,
    "take": change_by_take,
    "longer": change_by_longer,
    "lay": change_by_lay,
    "undo": change_by_undo,
    "redo": change_by_redo,
}


def lines_of_text(text):
    """The list of the lines of a text."""
    return [] if text == "" else text.split("\n")


def lines_of_pairs(pairs):
    """The list of the lines of MOVES or KEYS."""
    return [" ".join(pair) for pair in pairs]


def lines_of_reason(why):
    """The list of the one line of a reason."""
    if why is None:
        return ["safe"]
    if why[0] == "shut":
        return [" ".join(("shut",) + why[1])]
    return [" ".join(("passes",) + why[1] + (str(why[2]), str(why[3])))]


def told_of_line(line, standing, words):
    """The lines of the LINE."""
    return lines_of_text(line_text(line))


def told_of_standing(line, standing, words):
    """The lines of the STANDING."""
    return lines_of_text(standing_text(line, standing))


def told_of_safe(line, standing, words):
    """Whether the STANDING is SAFE, or why not."""
    return lines_of_reason(reason(line, standing))


def told_of_try(line, standing, words):
    """Whether the STANDING behind a MOVE is SAFE, or why not."""
    move = (words[1], words[2])
    if not can_be_done(line, standing, move):
        return ["refused NoMove"]
    return lines_of_reason(reason(line, moved(line, standing, move)))


def told_of_moves(line, standing, words):
    """The MOVES that can be done."""
    return lines_of_pairs(moves_of(line, standing))


def told_of_good(line, standing, words):
    """The good MOVES."""
    return lines_of_pairs(good_moves(line, standing))


def told_of_plan(line, standing, words):
    """A plan, or why there is none."""
    why = reason(line, standing)
    return lines_of_pairs(plan(line, standing)) if why is None else lines_of_reason(why)


def told_of_home(line, standing, words):
    """A ROW that brings a train home, or what bars it."""
    lot = bar(line, standing, words[1])
    if lot is not None:
        return ["held"] + lines_of_pairs(lot)
    return lines_of_pairs(row_for(line, standing, words[1]))


def told_of_held(line, standing, words):
    """The LOT within which all HELD LOTS lie."""
    return lines_of_pairs(held(line, standing))


def told_of_stays(line, standing, words):
    """Whether the STANDING in which a train stays is SAFE, or why not."""
    return lines_of_reason(stays(line, standing, words[1]))


def told_of_helpers(line, standing, words):
    """The names of the trains that a train needs."""
    return [" ".join(needed_helpers(line, standing, words[1]))]


def told_of_next(line, standing, words):
    """The stations to which a train may go on."""
    return [" ".join(next_stops(line, standing, words[1]))]


def told_of_carries(line, standing, words):
    """The sections whose staffs make all SAFE if they are carried."""
    return lines_of_pairs(carries(line, standing))


def told_of_mends(line, standing, words):
    """The sections that make all SAFE if they get a sort."""
    return lines_of_pairs(mends(line, standing, words[1]))


QUESTIONS = {
    "line": told_of_line,
    "standing": told_of_standing,
    "safe": told_of_safe,
    "try": told_of_try,
    "moves": told_of_moves,
    "good": told_of_good,
    "plan": told_of_plan,
    "home": told_of_home,
    "held": told_of_held,
    "stays": told_of_stays,
    "helpers": told_of_helpers,
    "next": told_of_next,
    "carries": told_of_carries,
    "mends": told_of_mends,
}


class Desk:
    """A Kept, and the lines that have made a change of it."""

    def __init__(self, sections, cards):
        if not isinstance(sections, str):
            raise Wrong(0)
        if not isinstance(cards, str):
            raise Wrong(1)
        line = read_line(sections)
        self.book = Kept(line, read_standing(line, cards))
        self.lines = []

    def execute(self, line):
        """The list of the lines with which a command is answered."""
        if not isinstance(line, str) or "\n" in line:
            raise Wrong(0)
        words = [word for word in line.split(" ") if word != ""]
        if not is_command(self.book.line(), words):
            raise NoCommand(line)
        return self.changed(words) if words[0] in CHANGES else self.told(words)

    def changed(self, words):
        """Makes a change; whether it was made, or refused."""
        change = CHANGES[words[0]]
        try:
            change(self.book, words)
        except NoMove:
            return ["refused NoMove"]
        except Nothing:
            return ["refused Nothing"]
        except NoTrain:
            return ["refused NoTrain"]
        except Used:
            return ["refused Used"]
        except Wrong:
            return ["refused Wrong"]
        self.lines.append(" ".join(words))
        return ["done"]

    def told(self, words):
        """The answer to a question."""
        question = QUESTIONS[words[0]]
        line, standing = self.book.line(), self.book.standing()
        try:
            return question(line, standing, words)
        except NoTrain:
            return ["refused NoTrain"]

    def kept(self):
        """A twin of the Kept."""
        return self.book.twin()

    def done(self):
        """The tuple of the lines that made a change."""
        return tuple(self.lines)
