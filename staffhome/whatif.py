"""Questions what if: trains that stay, go further or join; staffs carried by hand; sections of another sort."""

from staffhome.errors import Used
from staffhome.lines import keys_of, neighbours, other_end
from staffhome.onetrain import gets_home
from staffhome.standings import names_of, place_of, rest_of, staff_of, with_staff, with_train
from staffhome.verdicts import is_safe, reason


def staying(line, standing, names):
    """The STANDING in which these trains never move again."""
    behind = standing
    for name in names:
        behind = with_train(behind, (name, place_of(behind, name), ()))
    return behind


def stays(line, standing, name):
    """Why not all others get home if a train never moves, None if they do."""
    return reason(line, staying(line, standing, (name,)))


def spare_trains(line, standing):
    """The ascending tuple of the names of the trains without whose moves all others get home."""
    return tuple([name for name in names_of(standing) if stays(line, standing, name) is None])


def needed_helpers(line, standing, name):
    """The ascending tuple of the names of the other trains without whose moves a train cannot get home."""
    if not gets_home(line, standing, name):
        return ()
    others = [other for other in names_of(standing) if other != name]
    return tuple([other for other in others if not gets_home(line, staying(line, standing, (other,)), name)])


def longer(line, standing, name, more):
    """The STANDING with more stations behind the rest of a train."""
    return with_train(standing, (name, place_of(standing, name), rest_of(standing, name) + more))


def last_stop(standing, name):
    """The station at which a train would be home."""
    left = rest_of(standing, name)
    return left[-1] if len(left) > 0 else place_of(standing, name)


def next_stops(line, standing, name):
    """The ascending tuple of the NEIGHBOURS to which a train may go on from its last stop, all still getting home."""
    found = neighbours(line, last_stop(standing, name))
    return tuple([station for station in found if is_safe(line, longer(line, standing, name, (station,)))])


def joined(line, standing, name, place, rest):
    """The STANDING with one train more."""
    if name in names_of(standing):
        raise Used(name)
    return with_train(standing, (name, place, rest))


def promised(line, standing, name, place, rest):
    """Why the STANDING with one train more is not SAFE, None if it is."""
    return reason(line, joined(line, standing, name, place, rest))


def carried(line, standing, key):
    """The STANDING in which the staff of a section lies at its other end."""
    return with_staff(standing, key, other_end(key, staff_of(standing, key)))


def carries(line, standing):
    """The LOT of the sections whose staffs make the STANDING SAFE if they are carried."""
    return tuple([staff[0] for staff in standing[0] if is_safe(line, carried(line, standing, staff[0]))])


def with_sort(line, standing, key, sort):
    """The tuple of the LINE and of the STANDING in which a section has this sort."""
    rows = [key + (sort,) if row[:2] == key else row for row in line[1]]
    staffs = {at: lies for at, lies in standing[0] if at != key}
    if sort != "free":
        station = staff_of(standing, key)
        staffs[key] = key[0] if station is None else station
    return ((line[0], tuple(rows)), (tuple([(at, staffs[at]) for at in sorted(staffs)]), standing[1]))


def is_mended(line, standing, key, sort):
    """Whether the STANDING is SAFE once a section has this sort."""
    changed, behind = with_sort(line, standing, key, sort)
    return is_safe(changed, behind)


def mends(line, standing, sort):
    """The LOT of the sections of another sort that make the STANDING SAFE if one of them gets this sort."""
    keys = [row[:2] for row in line[1] if row[2] != sort]
    return tuple([key for key in keys if is_mended(line, standing, key, sort)])


def is_as_wide(sort, wide):
    """Whether a section of the second sort lets by all that one of the first sort does."""
    return wide in (sort, "free") or (sort == "staff" and wide == "ticket")


def wider(one, other):
    """Whether the second LINE is the first one but for sections that let by more."""
    if one[0] != other[0] or keys_of(one) != keys_of(other):
        return False
    return all([is_as_wide(row[2], wide[2]) for row, wide in zip(one[1], other[1])])
