"""STANDINGS looked at, and changed by hand."""

from staffhome.errors import NoTrain


def train_of(standing, name):
    """The tuple (name, place, rest) of the train of a name."""
    for train in standing[1]:
        if train[0] == name:
            return train
    raise NoTrain(name)


def place_of(standing, name):
    """The place of a train."""
    return train_of(standing, name)[1]


def rest_of(standing, name):
    """The rest of a train."""
    return train_of(standing, name)[2]


def train_passes(train):
    """The list of the passes that are LEFT to a train, in order."""
    return list(zip((train[1],) + train[2], train[2]))


def passes_of(standing, name):
    """The tuple of the passes that are LEFT to a train, in order."""
    return tuple(train_passes(train_of(standing, name)))


def names_of(standing):
    """The ascending tuple of the names of all trains."""
    return tuple([train[0] for train in standing[1]])


def trains_at(standing, station):
    """The ascending tuple of the names of the trains whose place is a station."""
    return tuple([train[0] for train in standing[1] if train[1] == station])


def staff_of(standing, key):
    """The station at which the staff of a section lies, None if it has none."""
    for at, station in standing[0]:
        if at == key:
            return station
    return None


def passes_left(line, standing):
    """The dict from passes to how many of them are LEFT to all trains together."""
    found = {}
    for train in standing[1]:
        for step in train_passes(train):
            found[step] = found.get(step, 0) + 1
    return {step: found[step] for step in sorted(found)}


def needed(line, standing):
    """The LOT of the NEEDED sections."""
    left = passes_left(line, standing)
    keys = [row[:2] for row in line[1]]
    return tuple([key for key in keys if key in left or key[::-1] in left])


def stops_left(standing):
    """The number of all passes that are LEFT."""
    return sum([len(train[2]) for train in standing[1]])


def is_home(standing):
    """Whether the STANDING is HOME."""
    return stops_left(standing) == 0


def with_staff(standing, key, station):
    """The STANDING in which the staff of a section lies at this one of its ends."""
    staffs = [(at, station if at == key else lies) for at, lies in standing[0]]
    return (tuple(staffs), standing[1])


def with_train(standing, train):
    """The STANDING that has this train, in the place of one of the same name."""
    others = [other for other in standing[1] if other[0] != train[0]]
    return (standing[0], tuple(sorted(others + [train])))


def without_train(standing, name):
    """The STANDING without the train of a name."""
    gone = train_of(standing, name)
    return (standing[0], tuple([train for train in standing[1] if train != gone]))
