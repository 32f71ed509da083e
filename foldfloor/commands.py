"""The commands of a desk: the forms of their lines, and what they do.

Each command is a function of what its words tell. It returns the answer, and the thing that comes under
the line's first name: None if there is none, NOTHING if the name has nothing from then on. It raises an
error of this program if it is refused.
"""

from foldfloor.border import area, circles, euler_number
from foldfloor.copies import in_group, part_of
from foldfloor.flat import place, shift_of
from foldfloor.groups import index_of
from foldfloor.hulls import hull_polygon
from foldfloor.lines import text_of, word_in
from foldfloor.motions import kind_of_motion, order_of_motion
from foldfloor.orders import check_orders
from foldfloor.pairing import mirrors
from foldfloor.polygons import border_sides, contains, grown, moved, polygon_of
from foldfloor.rounds import fits
from foldfloor.search import pairing_at
from foldfloor.surface import name_of
from foldfloor.ways import count_ways, distance
from foldfloor.words import ends, inverse, normal, times

# A thing is a tuple of its kind and what it is; this one stands for none.
NOTHING = ("nothing", None)


def joined(parts):
    """The answer that consists of some integers and texts."""
    return " ".join([str(part) for part in parts]) if list(parts) != [] else "empty"


def yes_or_no(truth):
    """The answer to a question."""
    return "yes" if truth else "no"


def new_word(word):
    """A word that is kept, with its text for the answer; too long a word has none."""
    return text_of(word), ("word", word)


def new_polygon(polygon):
    """A polygon that is kept."""
    return str(len(polygon[1])), ("polygon", polygon)


def new_gluing(polygon, pairs):
    """A gluing that is kept."""
    return str(len(pairs)), ("gluing", (polygon, pairs))


def do_floor(zero, one, two):
    """Makes a floor of its orders."""
    orders = (zero, one, two)
    check_orders(orders)
    return "ok", ("floor", orders)


def do_word(text):
    """Makes a word of its text."""
    return "ok", ("word", word_in(text))


def do_drop():
    """Leaves nothing under a name."""
    return "ok", NOTHING


def do_show(thing):
    """Tells what a thing is."""
    kind, worth = thing
    if kind == "floor":
        return joined(worth), None
    if kind == "word":
        return text_of(worth), None
    return str(len(worth[1])), None


def do_normal(orders, word):
    """Makes the normal word."""
    return new_word(normal(orders, word))


def do_inverse(orders, word):
    """Makes the inverse."""
    return new_word(inverse(orders, word))


def do_times(orders, one, other):
    """Makes the product."""
    return new_word(times(orders, one, other))


def do_ends(orders, word):
    """Tells the ends of a tile."""
    return joined(list(ends(orders, word))), None


def do_kind(orders, word):
    """Tells the kind of a motion."""
    return kind_of_motion(orders, word), None


def do_order(orders, word):
    """Tells the order of a motion."""
    found = order_of_motion(orders, word)
    return "endless" if found is None else str(found), None


def do_distance(orders, one, other):
    """Tells the distance of two tiles."""
    return str(distance(orders, one, other)), None


def do_ways(orders, one, other):
    """Tells the number of the shortest ways."""
    return str(count_ways(orders, one, other)), None


def do_place(orders, word):
    """Tells the place of a tile."""
    return joined(place(orders, word)), None


def do_shift(orders, word):
    """Tells a shift."""
    return joined(shift_of(orders, word)), None


def do_polygon(orders, *words):
    """Makes the polygon of some tiles."""
    return new_polygon(polygon_of(orders, list(words)))


def do_hull(orders, *words):
    """Makes the polygon of the hull of some tiles."""
    return new_polygon(hull_polygon(orders, list(words)))


def do_grow(polygon):
    """Makes the grown polygon."""
    return new_polygon(grown(polygon))


def do_move(polygon, word):
    """Makes the moved polygon."""
    return new_polygon(moved(polygon, word))


def do_has(polygon, word):
    """Tells whether a tile belongs to a polygon."""
    return yes_or_no(contains(polygon, word)), None


def do_border(polygon):
    """Tells the number of the border sides."""
    return str(len(border_sides(polygon))), None


def do_circles(polygon):
    """Tells the numbers of the sides of the circles."""
    return joined([len(circle) for circle in circles(polygon)]), None


def do_area(polygon):
    """Tells the area."""
    return joined(area(polygon)), None


def do_euler(polygon):
    """Tells the Euler number of a polygon."""
    return str(euler_number(polygon)), None


def do_mirrors(polygon):
    """Makes the gluing of all mirrors."""
    return new_gluing(polygon, mirrors(polygon))


def do_glue(polygon, number):
    """Makes the gluing with the pairing of a number."""
    return new_gluing(polygon, pairing_at(polygon, number))


def do_fits(gluing):
    """Tells whether a pairing fits."""
    polygon, pairs = gluing
    return yes_or_no(fits(polygon, pairs)), None


def do_index(gluing):
    """Tells the index of the group."""
    polygon, pairs = gluing
    return str(index_of(polygon, pairs)), None


def do_name(gluing):
    """Tells the name of the surface."""
    polygon, pairs = gluing
    has_sides, handles, many, holes, cones, corners = name_of(polygon, pairs)
    return joined([yes_or_no(has_sides), handles, many, holes, "/", *cones, "/", *corners]), None


def do_part(gluing, word):
    """Tells the row of the copy of a tile, and its place in it."""
    polygon, pairs = gluing
    row, tile = part_of(polygon, pairs, word)
    return joined([*row, text_of(tile)]), None


def do_ingroup(gluing, word):
    """Tells whether a word is one of the group."""
    polygon, pairs = gluing
    return yes_or_no(in_group(polygon, pairs, word)), None


# For each command the kinds of the words behind it, and what it does. N is the name that something comes
# under, S that of any thing; F, V, P and G are names of a floor, a word, a polygon and a gluing, X is a
# number and T a text. The last kind stands for one or more words if a + follows it.
COMMANDS = {
    "floor": ("NXXX", do_floor),
    "word": ("NT", do_word),
    "drop": ("N", do_drop),
    "show": ("S", do_show),
    "normal": ("NFV", do_normal),
    "inverse": ("NFV", do_inverse),
    "times": ("NFVV", do_times),
    "ends": ("FV", do_ends),
    "kind": ("FV", do_kind),
    "order": ("FV", do_order),
    "distance": ("FVV", do_distance),
    "ways": ("FVV", do_ways),
    "place": ("FV", do_place),
    "shift": ("FV", do_shift),
    "polygon": ("NFV+", do_polygon),
    "hull": ("NFV+", do_hull),
    "grow": ("NP", do_grow),
    "move": ("NPV", do_move),
    "has": ("PV", do_has),
    "border": ("P", do_border),
    "circles": ("P", do_circles),
    "area": ("P", do_area),
    "euler": ("P", do_euler),
    "mirrors": ("NP", do_mirrors),
    "glue": ("NPX", do_glue),
    "fits": ("G", do_fits),
    "index": ("G", do_index),
    "name": ("G", do_name),
    "part": ("GV", do_part),
    "ingroup": ("GV", do_ingroup),
}
