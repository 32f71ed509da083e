"""Images: permutations for the pairs of a pairing, as a cover needs them."""

from foldfloor.errors import BadNumber, NotImages, TooLarge
from foldfloor.groups import relations_in
from foldfloor.pairing import check_row
from foldfloor.rounds import fitting

MOST_DEGREE = 4

MOST_LISTED_DEGREE = 3

MOST_LISTED_PAIRS = 5


def degree_of(images):
    """The degree of images."""
    return len(images[0]) if images != () else 1


def are_images(pairs, images):
    """Whether a tuple is one of as many permutations as there are pairs, of one degree."""
    if len(images) != len(pairs) or not all([isinstance(one, tuple) for one in images]):
        return False
    degree = degree_of(images)
    if not 1 <= degree <= MOST_DEGREE:
        return False
    return all([sorted(permutation) == list(range(degree)) for permutation in images])


def with_images(polygon, pairs, images):
    """The gluing of a polygon and a pairing; raises what is wrong with them or with images."""
    gluing = fitting(polygon, pairs)
    if not are_images(pairs, images):
        raise NotImages(f"images are as many permutations as pairs, of one degree from 1 to {MOST_DEGREE}")
    return gluing


def taken(images, number, s):
    """The number to which the permutation of an integer of a row takes a number."""
    permutation = images[abs(number) - 1]
    return permutation[s] if number > 0 else permutation.index(s)


def taken_along(images, row, s):
    """The number to which the permutation of a row takes a number."""
    for number in row:
        s = taken(images, number, s)
    return s


def moves_nothing(images, rows, degree):
    """Whether the permutations of some rows move no number."""
    return all([taken_along(images, row, s) == s for row in rows for s in range(degree)])


def reach_all(images):
    """Whether each number is taken to each other one."""
    # The inverse of a permutation is a power of it, so going forwards is enough.
    reached = {0: True}
    queue = [0]
    while queue != []:
        s = queue.pop()
        for permutation in images:
            if permutation[s] not in reached:
                reached[permutation[s]] = True
                queue.append(permutation[s])
    return len(reached) == degree_of(images)


def check_images(polygon, pairs, images):
    """Raises NotImages for a tuple that is not one of images of a pairing."""
    with_images(polygon, pairs, images)


def permutation_of(polygon, pairs, images, row):
    """The permutation of a row."""
    with_images(polygon, pairs, images)
    check_row(pairs, row)
    return tuple([taken_along(images, row, s) for s in range(degree_of(images))])


def satisfies(polygon, pairs, images):
    """Whether the permutations of all relations move no number."""
    gluing = with_images(polygon, pairs, images)
    return moves_nothing(images, relations_in(gluing), degree_of(images))


def is_transitive(polygon, pairs, images):
    """Whether each number is taken to each other one by the permutation of some row."""
    with_images(polygon, pairs, images)
    return reach_all(images)


def all_permutations(degree):
    """All permutations of the numbers below a degree, in ascending order."""
    found = [()]
    for _ in range(degree):
        found = [begun + (s,) for begun in found for s in range(degree) if s not in begun]
    return found


def satisfying(gluing, degree):
    """All images of a degree that satisfy a gluing, in ascending order."""
    rows = relations_in(gluing)
    found = [()]
    for k in range(len(gluing.pairs)):
        # A relation is looked at when the images of all of its integers are there.
        due = [row for row in rows if max([abs(number) for number in row]) == k + 1]
        longer = [images + (permutation,) for images in found for permutation in all_permutations(degree)]
        found = [images for images in longer if moves_nothing(images, due, degree)]
    return found


def all_images(polygon, pairs, degree):
    """All images of a degree that satisfy a pairing, in ascending order."""
    gluing = fitting(polygon, pairs)
    if not 1 <= degree <= MOST_LISTED_DEGREE:
        raise BadNumber(f"images are listed for degrees from 1 to {MOST_LISTED_DEGREE}")
    if len(pairs) > MOST_LISTED_PAIRS:
        raise TooLarge(f"images are listed for at most {MOST_LISTED_PAIRS} pairs")
    yield from satisfying(gluing, degree)
