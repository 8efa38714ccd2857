"""MOVES that do no harm, and plans made of them."""

from staffhome.errors import NoWay
from staffhome.held import held_back
from staffhome.moves import is_row, led_to, moves_of, run
from staffhome.shut import shut_part
from staffhome.standings import is_home
from staffhome.verdicts import is_safe, reason


def good_moves(line, standing):
    """The ascending tuple of the MOVES that can be done behind which the STANDING is SAFE."""
    return tuple([move for move in moves_of(line, standing) if is_safe(line, led_to(standing, move))])


def refused_moves(line, standing):
    """The ascending tuple of (move, part) of the MOVES of a SAFE STANDING that can be done, but are no good ones."""
    found = [(move, shut_part(line, led_to(standing, move))) for move in moves_of(line, standing)]
    return tuple([(move, part) for move, part in found if part is not None])


def good_step(line, standing):
    """The tuple of a good MOVE of a SAFE STANDING that is not HOME, and of the STANDING behind it."""
    for move in moves_of(line, standing):
        behind = led_to(standing, move)
        # What fits goes on to fit, so the OPEN RUN alone decides.
        if len(held_back(line, behind)) == 0:
            return (move, behind)
    return None


def plan(line, standing):
    """A ROW that brings all home."""
    why = reason(line, standing)
    if why is not None:
        raise NoWay(why)
    row = []
    at = standing
    while not is_home(at):
        move, at = good_step(line, at)
        row.append(move)
    return tuple(row)


def is_plan(line, standing, thing):
    """Whether thing is a ROW that brings all home."""
    return is_row(line, standing, thing) and is_home(run(line, standing, thing))


def staffs_behind(line, standing, row):
    """The dict from the KEYS of all sections with staffs to where these lie behind a ROW."""
    return {key: station for key, station in run(line, standing, row)[0]}
