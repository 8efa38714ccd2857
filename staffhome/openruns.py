"""OPEN RUNS: how far trains get if whatever was passed once lies open ever after."""

from staffhome.lines import beyond, key_of


def gone_on(staffs, firsts, part, train):
    """The train as it stands when it can go on no more; firsts gets the sections that it passes first."""
    name, place, rest = train
    while place in part and len(rest) > 0:
        key = key_of(place, rest[0])
        if key not in firsts:
            if staffs.get(key, place) != place:
                break
            firsts[key] = (name, place)
        place, rest = rest[0], rest[1:]
    return (name, place, rest)


def run_from(staffs, passed, trains, part):
    """The tuple (firsts, trains) of an OPEN RUN of a PART alone that goes on from where it was.

    staffs is the dict from KEYS to where staffs lie; a section that is not in it lies open to all. firsts is the dict
    from the KEYS of the sections that are passed, in the order in which they are passed first, to the tuple of the
    name of the train that passes it first and the station where this one comes from. trains is the list of the trains
    of the PART at the end. passed is the dict firsts as it was.
    """
    firsts = {key: passed[key] for key in passed}
    ahead = None
    behind = list(trains)
    while behind != ahead:
        ahead = behind
        behind = [gone_on(staffs, firsts, part, train) for train in ahead]
    return (firsts, behind)


def run_in(staffs, trains, part):
    """The tuple (firsts, trains), as run_from tells it, of an OPEN RUN of a PART alone from its begin on."""
    return run_from(staffs, {}, [train for train in trains if train[1] in part], part)


def run_of(standing, part):
    """The tuple (firsts, trains), as run_from tells it, of a STANDING."""
    return run_in({key: station for key, station in standing[0]}, standing[1], part)


def open_run(line, standing):
    """The tuple of the LOT of the sections that are passed in the OPEN RUN, and of the trains at its end."""
    firsts, trains = run_of(standing, line[0])
    return (tuple(sorted(firsts)), tuple(trains))


def opening(line, standing):
    """The tuple of (KEY, name) of the sections in the order in which the OPEN RUN passes them first."""
    firsts = run_of(standing, line[0])[0]
    return tuple([(key, firsts[key][0]) for key in firsts])


def run_alone(line, standing, part):
    """The ascending tuple of the trains of a PART at the end of the OPEN RUN of it alone."""
    return tuple(run_of(standing, part)[1])


def comes_out(line, standing, one, other):
    """Whether in the OPEN RUN of what lies beyond a section some train goes out over it, from other to one."""
    return key_of(one, other) in run_of(standing, beyond(line, one, other))[0]
