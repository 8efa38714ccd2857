"""LINES looked at: ways, parts and lots; and what is at fault with sections that make none."""

from staffhome.errors import NoLine
from staffhome.forms import links_of, steps_to


def key_of(one, other):
    """The tuple of two unlike NAMES, the lesser one first."""
    return (one, other) if one < other else (other, one)


def other_end(key, station):
    """The end of a section that is not this one."""
    return key[1] if key[0] == station else key[0]


def section(line, one, other):
    """The section between two stations, None if there is none."""
    for row in line[1]:
        if row[:2] == key_of(one, other):
            return row
    return None


def sort_of(line, key):
    """The sort of the section of a KEY."""
    return section(line, key[0], key[1])[2]


def keys_of(line):
    """The LOT of all KEYS."""
    return tuple([row[:2] for row in line[1]])


def neighbours(line, station):
    """The ascending tuple of the NEIGHBOURS of a station."""
    return tuple(sorted([other_end(key, station) for key in keys_of(line) if station in key]))


def path(steps, start):
    """The list of the stations from start on, each with the next one by steps."""
    stations = [start]
    while steps[stations[-1]] is not None:
        stations.append(steps[stations[-1]])
    return stations


def way(line, one, other):
    """The tuple of the stations behind one up to other."""
    steps = steps_to(links_of(line[0], line[1]), other)
    return tuple(path(steps, one)[1:])


def beyond(line, one, other):
    """The PART of all stations whose way from one begins with its NEIGHBOUR other."""
    return [part for part in cut(line, (key_of(one, other),)) if other in part][0]


def least_part(line, stations):
    """The PART with the fewest stations that has all of these."""
    steps = steps_to(links_of(line[0], line[1]), stations[0])
    found = {}
    for station in stations:
        for stop in path(steps, station):
            found[stop] = True
    return tuple(sorted(found))


def border(line, part):
    """The LOT of the BORDER of a PART."""
    return tuple([key for key in keys_of(line) if (key[0] in part) != (key[1] in part)])


def inner(line, part):
    """The LOT of the sections between the stations of a PART."""
    return tuple([key for key in keys_of(line) if key[0] in part and key[1] in part])


def cut(line, lot):
    """The ascending tuple of the PARTS that are left without the sections of a LOT."""
    links = links_of(line[0], [key for key in keys_of(line) if key not in lot])
    parts = []
    seen = {}
    for station in line[0]:
        if station not in seen:
            part = tuple(sorted(steps_to(links, station)))
            parts.append(part)
            for stop in part:
                seen[stop] = True
    return tuple(parts)


def least_double(things):
    """The least one of things that is there twice or more, None if none is."""
    ordered = sorted(things)
    for one, other in zip(ordered, ordered[1:]):
        if one == other:
            return one
    return None


def station_fault(stations):
    """The fault of stations alone, None if there is none."""
    if len(stations) == 0:
        return ("none",)
    station = least_double(stations)
    return None if station is None else ("twice", station)


def end_fault(stations, sections):
    """The fault of the ends of sections, None if there is none."""
    strangers = [name for row in sections for name in row[:2] if name not in stations]
    if len(strangers) > 0:
        return ("unknown", min(strangers))
    turning = [row[0] for row in sections if row[0] == row[1]]
    if len(turning) > 0:
        return ("same", min(turning))
    key = least_double([key_of(row[0], row[1]) for row in sections])
    return None if key is None else ("double", key)


def ring_fault(stations, sections):
    """The fault of the first section that closes a ring, None if none does."""
    links = {station: [] for station in stations}
    for one, other in sorted([key_of(row[0], row[1]) for row in sections]):
        steps = steps_to(links, other)
        if one in steps:
            return ("ring", tuple(path(steps, one)))
        links[one].append(other)
        links[other].append(one)
    return None


def apart_fault(stations, sections):
    """The fault of stations that cannot all be reached, None if they can."""
    part = sorted(steps_to(links_of(stations, sections), min(stations)))
    return None if len(part) == len(stations) else ("apart", tuple(part))


def line_fault(stations, sections):
    """The first fault for which these make no LINE, None if they do."""
    return (
        station_fault(stations)
        or end_fault(stations, sections)
        or ring_fault(stations, sections)
        or apart_fault(stations, sections)
    )


def made_line(stations, sections):
    """The LINE that these make, put in order."""
    fault = line_fault(stations, sections)
    if fault is not None:
        raise NoLine(fault)
    rows = [key_of(row[0], row[1]) + (row[2],) for row in sections]
    return (tuple(sorted(stations)), tuple(sorted(rows)))
