"""All pairings of a polygon, in their order, and those of them that fit."""

from foldfloor.errors import BadNumber
from foldfloor.gluing import Gluing
from foldfloor.orders import LETTERS
from foldfloor.polygons import border_sides, check_polygon
from foldfloor.rounds import is_fitting

MOST_TRIED = 2000


def ways_to_pair(many):
    """The number of ways in which so many things can be put into pairs or left alone."""
    before, number = 0, 1
    for k in range(many):
        before, number = number, number + k * before
    return number


def with_letter(sides, letter):
    """Those of some sides that have a letter."""
    return [side for side in sides if side[1] == letter]


def without(sides, one):
    """Some sides without one of them."""
    return [side for side in sides if side != one]


def count_for(sides):
    """The number of all pairings of some sides."""
    number = 1
    for letter in LETTERS:
        number *= ways_to_pair(len(with_letter(sides, letter)))
    return number


def numbered(sides, number):
    """The pairing of some sides with a number."""
    pairs = []
    while sides != []:
        first, left = sides[0], sides[1:]
        alone = count_for(left)
        if number < alone:
            other = first
        else:
            partners = with_letter(left, first[1])
            # It does not matter for the number of the pairings which one of them is taken.
            each = count_for(without(left, partners[0]))
            other = partners[(number - alone) // each]
            number = (number - alone) % each
        pairs.append((first, other))
        sides = without(left, other)
    return tuple(pairs)


def count_pairings(polygon):
    """The number of all pairings of a polygon."""
    return count_for(border_sides(polygon))


def all_pairings(polygon):
    """All pairings of a polygon, in their order."""
    begun = [((), border_sides(polygon))]
    while begun != []:
        pairs, sides = begun.pop()
        if sides == []:
            yield pairs
        else:
            first, left = sides[0], sides[1:]
            # The last one that is appended is the first one that is taken up.
            for other in with_letter(left, first[1])[::-1] + [first]:
                begun.append((pairs + ((first, other),), without(left, other)))


def pairing_at(polygon, number):
    """The pairing of a polygon with a number."""
    sides = border_sides(polygon)
    if not 0 <= number < count_for(sides):
        raise BadNumber("no pairing has this number")
    return numbered(sides, number)


def fitting_among(polygon, gluing, most):
    """Those that fit among the first so many pairings; a gluing of the polygon tries them."""
    found = []
    for k, pairs in enumerate(all_pairings(polygon)):
        if k == most:
            break
        gluing.glue(pairs)
        if is_fitting(gluing):
            found.append(pairs)
    return found


def checked_gluing(polygon, most):
    """A gluing of a polygon, still without pairs; raises what is wrong with a search."""
    check_polygon(polygon)
    if not 0 <= most <= MOST_TRIED:
        raise BadNumber(f"0 to {MOST_TRIED} pairings are tried")
    return Gluing(polygon, ())


def fitting_pairings(polygon, *, most=200):
    """The list of the pairings that fit among the first so many ones."""
    return fitting_among(polygon, checked_gluing(polygon, most), most)


def group_classes(polygon, *, most=200):
    """For each of the pairings that fit, the index of the first one with the same group."""
    gluing = checked_gluing(polygon, most)
    sides = border_sides(polygon)
    first = {}
    found = []
    for k, pairs in enumerate(fitting_among(polygon, gluing, most)):
        # The group tells the place of each tile, and the places beyond the sides tell all others: for
        # pairings of one polygon the groups are equal exactly if these places are.
        gluing.glue(pairs)
        key = tuple([gluing.beyond(tile, letter) for tile, letter in sides])
        if key not in first:
            first[key] = k
        found.append(first[key])
    return found
