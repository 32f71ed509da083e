"""The surface that is made by gluing the sides of a polygon."""

from foldfloor.border import lowest, tile_area
from foldfloor.rounds import fitting, rounds_in


def sides_of(gluing):
    """The number of the sides of the surface."""
    within = len([number for _, number in gluing.leads.values() if number == 0])
    return within // 2 + len(gluing.pairs)


def with_joined(labels, one, other):
    """The labels of some numbers, where those of two numbers become the lesser one of the two."""
    low = min(labels[one], labels[other])
    high = max(labels[one], labels[other])
    return {k: low if label == high else label for k, label in labels.items()}


def ends_of(gluing, around):
    """The mirrors at the two ends of a round that is not open."""
    sides = [(tile, letter) for tile in around.tiles for letter in (around.first, around.second)]
    return [gluing.mirrors[side] for side in sides if side in gluing.mirrors]


def rim_of(gluing):
    """The circles of the rim, each the ascending list of its mirrors."""
    labels = {k: k for k in gluing.mirrors.values()}
    for around in rounds_in(gluing):
        if not around.is_open:
            one, other = ends_of(gluing, around)
            labels = with_joined(labels, one, other)
    found = {}
    for k, label in labels.items():
        found.setdefault(label, []).append(k)
    return list(found.values())


def has_two_sides(gluing):
    """Whether the tiles can have signs that differ on the two sides of each side but mirrors."""
    # The tiles are joined over inner sides, where the lengths are even and odd: these are the signs.
    lengths = [(len(one[0]), len(other[0])) for one, other in gluing.pairs if one != other]
    return all([(first + second) % 2 == 1 for first, second in lengths])


def euler_number_of(gluing):
    """The Euler number of the surface, holes counted as corners."""
    return len(rounds_in(gluing)) - sides_of(gluing) + len(gluing.tiles)


def handles_of(gluing):
    """The number of the handles of the surface."""
    missing = 2 - euler_number_of(gluing) - len(rim_of(gluing))
    return missing // 2 if has_two_sides(gluing) else missing


def side_count(polygon, pairs):
    """The number of the sides of the surface."""
    return sides_of(fitting(polygon, pairs))


def rim(polygon, pairs):
    """The list of the circles of the rim, in the order of their least mirrors."""
    return rim_of(fitting(polygon, pairs))


def has_sides(polygon, pairs):
    """Whether the surface has sides."""
    return has_two_sides(fitting(polygon, pairs))


def euler_number(polygon, pairs):
    """The Euler number of the surface."""
    return euler_number_of(fitting(polygon, pairs))


def exact_euler_number(polygon, pairs):
    """The exact Euler number of the surface, a fraction."""
    gluing = fitting(polygon, pairs)
    # Each tile takes away half of its area.
    above, below = tile_area(gluing.orders)
    return lowest(-above * len(gluing.tiles), 2 * below)


def handles(polygon, pairs):
    """The number of the handles of the surface."""
    return handles_of(fitting(polygon, pairs))


def name_of(polygon, pairs):
    """The name of the surface: sides, handles, circles of the rim, holes, cones and corners."""
    gluing = fitting(polygon, pairs)
    within = [around.turns for around in rounds_in(gluing) if around.is_open]
    on_rim = [around.turns for around in rounds_in(gluing) if not around.is_open]
    cones = sorted([turns for turns in within if turns > 1])
    corners = sorted([turns for turns in on_rim if turns > 1]) + [0] * on_rim.count(0)
    circles = len(rim_of(gluing))
    return has_two_sides(gluing), handles_of(gluing), circles, within.count(0), tuple(cones), tuple(corners)
