"""HELD LOTS: sections that nobody will ever pass, as each train would have to pass them from the wrong end first."""

from staffhome.forms import is_lot
from staffhome.lines import key_of
from staffhome.openruns import open_run
from staffhome.standings import needed, staff_of, train_passes


def needed_staffs(line, standing):
    """The LOT of the NEEDED sections that are no "free" ones."""
    return tuple([key for key in needed(line, standing) if staff_of(standing, key) is not None])


def finds_staff(standing, lot, train):
    """Whether the first pass over a LOT that is left to a train begins at the staff of its section."""
    for one, other in train_passes(train):
        key = key_of(one, other)
        if key in lot:
            return staff_of(standing, key) == one
    return False


def is_held(line, standing, thing):
    """Whether thing is a LOT that is HELD."""
    if not is_lot(line, thing) or len(thing) == 0:
        return False
    keys = needed_staffs(line, standing)
    if not all([key in keys for key in thing]):
        return False
    return not any([finds_staff(standing, thing, train) for train in standing[1]])


def held(line, standing):
    """The LOT within which all HELD LOTS lie; it is HELD itself, or ()."""
    passed = open_run(line, standing)[0]
    return tuple([key for key in needed_staffs(line, standing) if key not in passed])


def held_back(line, standing):
    """The ascending tuple of the names of the trains that the OPEN RUN does not bring home."""
    return tuple([train[0] for train in open_run(line, standing)[1] if len(train[2]) > 0])
