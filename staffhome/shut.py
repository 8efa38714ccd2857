"""SHUT PARTS: no train inside will ever bring out a staff that is needed at the border."""

from staffhome.forms import is_part
from staffhome.held import held
from staffhome.lines import border, cut, neighbours
from staffhome.standings import needed, staff_of


def stays_in(part, train):
    """Whether a train is not in a PART, or never leaves it."""
    return train[1] not in part or all([station in part for station in train[2]])


def shuts(line, standing, keys, part):
    """Whether a PART is SHUT, keys being the NEEDED sections."""
    staffs = [staff_of(standing, key) for key in border(line, part) if key in keys]
    # Of a "free" section there is no staff, so it lies in no PART.
    if len(staffs) == 0 or not all([station in part for station in staffs]):
        return False
    return all([stays_in(part, train) for train in standing[1]])


def is_shut(line, standing, thing):
    """Whether thing is a PART that is SHUT."""
    return is_part(line, thing) and shuts(line, standing, needed(line, standing), thing)


def shut_part(line, standing):
    """A SHUT PART, None if there is none."""
    lot = held(line, standing)
    if len(lot) == 0:
        return None
    pieces = cut(line, lot)
    part = pieces[0]
    staff = staff_outside(line, standing, part)
    while staff is not None:
        part = [piece for piece in pieces if staff in piece][0]
        staff = staff_outside(line, standing, part)
    return part


def staff_outside(line, standing, part):
    """Where the first staff of the BORDER of a PART lies that is not inside, None if all are."""
    for key in border(line, part):
        if staff_of(standing, key) not in part:
            return staff_of(standing, key)
    return None


def all_parts(line):
    """The list of all PARTS."""
    links = {station: neighbours(line, station) for station in line[0]}
    found = {(station,): True for station in line[0]}
    waiting = list(found)
    while len(waiting) > 0:
        part = waiting.pop()
        for station in [other for one in part for other in links[one] if other not in part]:
            wider = tuple(sorted(part + (station,)))
            if wider not in found:
                found[wider] = True
                waiting.append(wider)
    return list(found)


def shut_parts(line, standing):
    """The ascending tuple of all SHUT PARTS."""
    keys = needed(line, standing)
    return tuple(sorted([part for part in all_parts(line) if shuts(line, standing, keys, part)]))
