"""How often a section is to be passed from its two ends, and whether it can be by turns."""

from staffhome.lines import other_end
from staffhome.standings import passes_left, staff_of


def counts_in(standing, left, key):
    """The tuple of how many of the passes left lead over a section from its staff's end, and from the other one."""
    near = staff_of(standing, key)
    away = other_end(key, near)
    return (left.get((near, away), 0), left.get((away, near), 0))


def counts(line, standing, key):
    """The tuple of how many passes are LEFT over a section from its staff's end, and from the other one."""
    return counts_in(standing, passes_left(line, standing), key)


def staff_counts(line, standing):
    """The dict from the KEYS of the "staff" sections to their counts."""
    left = passes_left(line, standing)
    return {row[:2]: counts_in(standing, left, row[:2]) for row in line[1] if row[2] == "staff"}


def are_fitting(pair):
    """Whether a section of these counts FITS."""
    return pair[0] - pair[1] in (0, 1)


def does_fit(line, standing, key):
    """Whether a "staff" section FITS."""
    return are_fitting(counts(line, standing, key))


def overfull(line, standing):
    """The LOT of the "staff" sections that do not FIT."""
    found = staff_counts(line, standing)
    return tuple([key for key in found if not are_fitting(found[key])])


def turns(line, standing, key):
    """How many of the passes over a "staff" section can be gone at most."""
    from_staff, to_staff = counts(line, standing, key)
    return 2 * from_staff if from_staff <= to_staff else 2 * to_staff + 1


def staffs_at_home(line, standing):
    """The dict from the KEYS of the "staff" sections to where their staffs lie whenever all are HOME."""
    found = staff_counts(line, standing)
    return {key: end_at_home(standing, key, found[key]) for key in found}


def end_at_home(standing, key, pair):
    """The end at which the staff of a fitting section of these counts lies at last."""
    near = staff_of(standing, key)
    return near if pair[0] == pair[1] else other_end(key, near)
