"""One train alone: whether it can be brought home, and how."""

from staffhome.errors import NoWay
from staffhome.held import held, is_held
from staffhome.lines import beyond, key_of
from staffhome.moves import hows_of, is_row, led_to, next_pass, run
from staffhome.openruns import open_run, run_of
from staffhome.standings import passes_of, rest_of, staff_of


def gets_home(line, standing, name):
    """Whether there is a ROW by which a train GETS HOME."""
    return len(rest_of((standing[0], open_run(line, standing)[1]), name)) == 0


def far(line, standing, name):
    """The LOT of the FAR sections of a train."""
    nears = {}
    # As there is no ring, a train passes each section from its near end first.
    for one, other in passes_of(standing, name):
        nears.setdefault(key_of(one, other), one)
    return tuple([key for key in sorted(nears) if staff_of(standing, key) not in (None, nears[key])])


def bar(line, standing, name):
    """The greatest BAR of a train, None if it GETS HOME by some ROW."""
    return None if gets_home(line, standing, name) else held(line, standing)


def is_bar(line, standing, name, thing):
    """Whether thing is a BAR of a train."""
    keys = [key_of(one, other) for one, other in passes_of(standing, name)]
    return is_held(line, standing, thing) and any([key in thing for key in keys])


def first_out(standing, part, step):
    """The name of the train that is the first to pass the section of a step the other way, out of a PART."""
    return run_of(standing, part)[0][key_of(step[0], step[1])][0]


def made_row(line, standing, name):
    """The list of the MOVES that bring a train home, of which it is known that some ROW does."""
    row = []
    at = standing
    # Each train here waits for the one behind it, which is to come out of a PART of its own.
    waiting = [(name, line[0])]
    while len(waiting) > 0:
        who, part = waiting[-1]
        step = next_pass(at, who)
        if step is None or step[0] not in part:
            waiting.pop()
            continue
        hows = hows_of(line, at, who)
        if len(hows) == 0:
            side = [station for station in beyond(line, step[0], step[1]) if station in part]
            waiting.append((first_out(at, side, step), side))
        else:
            # Of a "ticket" section the staff is taken along, so that whoever waits finds it.
            row.append((who, hows[0]))
            at = led_to(at, row[-1])
    return row


def row_for(line, standing, name):
    """A ROW by which a train GETS HOME, the last MOVE of which is one of it."""
    lot = bar(line, standing, name)
    if lot is not None:
        raise NoWay(("held", lot))
    return tuple(made_row(line, standing, name))


def is_row_for(line, standing, name, thing):
    """Whether thing is a ROW by which a train GETS HOME, the last MOVE of which, if any, is one of it."""
    left = rest_of(standing, name)
    if not is_row(line, standing, thing):
        return False
    if len(thing) == 0:
        return len(left) == 0
    return thing[-1][0] == name and len(rest_of(run(line, standing, thing), name)) == 0


def helpers(line, standing, name):
    """The ascending tuple of the names of the other trains that have a MOVE in the row for a train."""
    movers = {move[0]: True for move in row_for(line, standing, name)}
    return tuple([other for other in sorted(movers) if other != name])
