"""JOURNALS: who went when, with the ticks of the begins and ends."""

from staffhome.forms import is_integer, is_tuple_of
from staffhome.lines import key_of
from staffhome.moves import is_row, led_to, next_pass, run
from staffhome.standings import is_home, names_of


def is_timed(thing):
    """Whether thing is a tuple of four, the first and the last of which may be a begin and its end."""
    if not is_tuple_of(thing, 4) or not is_integer(thing[0]) or not is_integer(thing[3]):
        return False
    return 0 <= thing[0] < thing[3]


def moves_in(journal):
    """The tuple of what stands where a JOURNAL has its MOVES."""
    return tuple([row[1:3] for row in journal])


def is_in_turn(standing, journal):
    """Whether no row, the MOVES being a ROW, begins before its train, and its section if it needs that, are let go."""
    # Trains stand here under their names, sections under their KEYS.
    ends = {}
    at = standing
    for begin, name, how, end in journal:
        start, stop = next_pass(at, name)
        users = [name] if how == "free" else [name, key_of(start, stop)]
        if any([begin < ends.get(user, 0) for user in users]):
            return False
        for user in users:
            ends[user] = end
        at = led_to(at, (name, how))
    return True


def is_journal(line, standing, thing):
    """Whether thing is a JOURNAL."""
    if not isinstance(thing, tuple) or not all([is_timed(row) for row in thing]):
        return False
    if not all([one[0] <= other[0] for one, other in zip(thing, thing[1:])]):
        return False
    return is_row(line, standing, moves_in(thing)) and is_in_turn(standing, thing)


def is_home_journal(line, standing, thing):
    """Whether thing is a JOURNAL that brings all home."""
    return is_journal(line, standing, thing) and is_home(run(line, standing, moves_in(thing)))


def last_end(journal):
    """The greatest end of a JOURNAL, 0 if it has no rows."""
    return max([0] + [row[3] for row in journal])


def idle(journal):
    """The ascending tuple of the ticks below the last end at which nobody is under way."""
    ticks = []
    latest = 0
    for row in journal:
        ticks.extend(list(range(latest, row[0])))
        latest = max(latest, row[3])
    return tuple(ticks)


def most_abroad(journal):
    """How many are under way at once, at most."""
    # The most of them are at some begin.
    begins = [row[0] for row in journal]
    return max([0] + [len([row for row in journal if row[0] <= begin < row[3]]) for begin in begins])


def waits(standing, journal):
    """The dict from the names of all trains to how many ticks they stand ahead of their last begin."""
    return {name: ticks_stood([row for row in journal if row[1] == name]) for name in names_of(standing)}


def ticks_stood(rows):
    """How many ticks a train with these rows stands ahead of the begin of the last one."""
    if len(rows) == 0:
        return 0
    return rows[-1][0] - sum([row[3] - row[0] for row in rows[:-1]])
