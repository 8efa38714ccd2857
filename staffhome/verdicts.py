"""Whether a STANDING is SAFE, and why it is not."""

from staffhome.errors import TooMany
from staffhome.fits import counts, overfull
from staffhome.forms import is_integer, is_tuple_of
from staffhome.moves import led_to, moves_of
from staffhome.shut import is_shut, shut_part
from staffhome.standings import is_home

MOST_REACHED = 2000


def passes_reasons(line, standing):
    """The list of the reasons ("passes", KEY, a, b), by ascending KEYS."""
    return [("passes", key) + counts(line, standing, key) for key in overfull(line, standing)]


def reason(line, standing):
    """Why a STANDING is not SAFE, None if it is."""
    reasons = passes_reasons(line, standing)
    if len(reasons) > 0:
        return reasons[0]
    part = shut_part(line, standing)
    return None if part is None else ("shut", part)


def is_one_of(reasons, thing):
    """Whether thing is one of these reasons ("passes", KEY, a, b)."""
    # A truth is no count, though it may be equal to one.
    if not is_tuple_of(thing, 4) or not is_integer(thing[2]) or not is_integer(thing[3]):
        return False
    return thing in reasons


def is_reason(line, standing, thing):
    """Whether thing is a reason why the STANDING is not SAFE."""
    if is_tuple_of(thing, 2):
        return thing[0] == "shut" and is_shut(line, standing, thing[1])
    return is_one_of(passes_reasons(line, standing), thing)


def is_safe(line, standing):
    """Whether the STANDING is SAFE."""
    return reason(line, standing) is None


def reached(line, standing):
    """The ascending tuple of all STANDINGS to which ROWS lead."""
    found = {standing: True}
    waiting = [standing]
    while len(waiting) > 0:
        at = waiting.pop()
        for move in moves_of(line, at):
            behind = led_to(at, move)
            if behind not in found:
                found[behind] = True
                waiting.append(behind)
        if len(found) > MOST_REACHED:
            raise TooMany(MOST_REACHED)
    return tuple(sorted(found))


def is_safe_slowly(line, standing):
    """Whether some ROW leads to a STANDING that is HOME."""
    return any([is_home(at) for at in reached(line, standing)])
