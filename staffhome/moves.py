"""MOVES and ROWS: what can be done, and what it leads to."""

from staffhome.errors import NoMove
from staffhome.forms import are_moves
from staffhome.lines import key_of, sort_of
from staffhome.standings import names_of, place_of, rest_of, staff_of, with_staff, with_train


def next_pass(standing, name):
    """The first pass that is LEFT to a train, None if none is."""
    rest = rest_of(standing, name)
    if len(rest) == 0:
        return None
    return (place_of(standing, name), rest[0])


def hows_of(line, standing, name):
    """The ascending tuple of the hows with which a train can do its next pass."""
    step = next_pass(standing, name)
    if step is None:
        return ()
    key = key_of(step[0], step[1])
    sort = sort_of(line, key)
    if sort == "free":
        return ("free",)
    if staff_of(standing, key) != step[0]:
        return ()
    return ("staff",) if sort == "staff" else ("staff", "ticket")


def can_be_done(line, standing, move):
    """Whether a MOVE CAN BE DONE."""
    name, how = move
    return name in names_of(standing) and how in hows_of(line, standing, name)


def moves_of(line, standing):
    """The ascending tuple of all MOVES that can be done."""
    return tuple([(name, how) for name in names_of(standing) for how in hows_of(line, standing, name)])


def led_to(standing, move):
    """The STANDING that a MOVE leads to which can be done."""
    name, how = move
    start, stop = next_pass(standing, name)
    behind = with_train(standing, (name, stop, rest_of(standing, name)[1:]))
    return with_staff(behind, key_of(start, stop), stop) if how == "staff" else behind


def traced(line, standing, row):
    """The tuple of the STANDING itself and of that behind each MOVE of a row."""
    standings = [standing]
    for index, move in enumerate(row):
        if not can_be_done(line, standings[-1], move):
            raise NoMove(index)
        standings.append(led_to(standings[-1], move))
    return tuple(standings)


def run(line, standing, row):
    """The STANDING behind all MOVES of a row."""
    return traced(line, standing, row)[-1]


def moved(line, standing, move):
    """The STANDING that a MOVE leads to."""
    return run(line, standing, (move,))


def is_row(line, standing, thing):
    """Whether thing is a ROW."""
    if not are_moves(thing):
        return False
    try:
        run(line, standing, thing)
    except NoMove:
        return False
    return True
