"""First places of staffs: where to lay them so that trains get home."""

from staffhome.errors import NoWay
from staffhome.forms import are_staffs
from staffhome.openruns import run_in
from staffhome.standings import train_passes
from staffhome.verdicts import is_one_of, is_safe


def passes_from(line, trains, key):
    """The tuple of how many passes are left over a section from its first station, and from its second one."""
    steps = [step for train in trains for step in train_passes(train)]
    return (steps.count(key), steps.count(key[::-1]))


def staff_passes(line, trains):
    """The dict from the KEYS of the "staff" sections to how many passes are left from both stations."""
    return {row[:2]: passes_from(line, trains, row[:2]) for row in line[1] if row[2] == "staff"}


def no_places(line, trains):
    """The list of the reasons ("passes", KEY, a, b) why there are no FIRST STAFFS, by ascending KEYS."""
    found = staff_passes(line, trains)
    return [("passes", key, a, b) for key, (a, b) in found.items() if abs(a - b) > 1]


def decided(line, trains):
    """The dict from the KEYS of the DECIDED sections to where their staffs lie."""
    found = staff_passes(line, trains)
    return {key: key[0] if a > b else key[1] for key, (a, b) in found.items() if a != b}


def first_staffs(line, trains):
    """FIRST STAFFS for trains."""
    reasons = no_places(line, trains)
    if len(reasons) > 0:
        raise NoWay(reasons[0])
    # The run passes each section that is needed, the DECIDED ones from where their staffs lie.
    firsts = run_in(decided(line, trains), trains, line[0])[0]
    keys = [row[:2] for row in line[1] if row[2] != "free"]
    return tuple([(key, firsts[key][1] if key in firsts else key[0]) for key in keys])


def are_first_staffs(line, trains, thing):
    """Whether thing is FIRST STAFFS for trains."""
    return are_staffs(line, thing) and is_safe(line, (thing, trains))


def is_no_places(line, trains, thing):
    """Whether thing is a reason why there are no FIRST STAFFS."""
    return is_one_of(no_places(line, trains), thing)
