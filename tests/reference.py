"""Slow answers that are found by turns and cuts alone, to compare the program's answers with."""

from itertools import product

LETTERS = "012"
PAIRS = {"01": 0, "10": 0, "12": 1, "21": 1, "02": 2, "20": 2}

ROUND = [(2, 2, 2), (3, 2, 2), (2, 5, 2), (3, 3, 2), (2, 3, 3), (3, 4, 2), (4, 2, 3), (2, 3, 5)]
FLAT = [(3, 3, 3), (4, 4, 2), (2, 4, 4), (3, 6, 2), (2, 3, 6), (6, 2, 3), (2, 2, 0), (0, 2, 2)]
WIDE = [(3, 7, 2), (4, 3, 3), (2, 5, 4), (12, 2, 3), (5, 4, 7), (0, 3, 2), (3, 0, 0), (0, 0, 0),
        (2, 0, 0), (0, 2, 5), (11, 9, 8), (12, 12, 12)]
ALL = ROUND + FLAT + WIDE


def all_words(most):
    """All words of at most so many letters, in the order of words."""
    return ["".join(word) for many in range(most + 1) for word in product(LETTERS, repeat=many)]


def rank(word):
    return len(word), word


def order_of(orders, one, other):
    return orders[PAIRS[one + other]]


def turns_of(orders, word):
    """The words to which one turn leads from a word."""
    found = []
    for pair in PAIRS:
        many = orders[PAIRS[pair]]
        if many == 0:
            continue
        old = (pair * many)[:many]
        new = (pair[::-1] * many)[:many]
        for at in range(len(word) - many + 1):
            if word[at:at + many] == old:
                found.append(word[:at] + new + word[at + many:])
    return found


def turned(orders, word):
    """All words that turns lead to."""
    seen = {word}
    queue = [word]
    for at in queue:
        for new in turns_of(orders, at):
            if new not in seen:
                seen.add(new)
                queue.append(new)
    return seen


def cut_once(words):
    """A word with two equal neighbours cut, from some words, or None."""
    for word in words:
        for at in range(len(word) - 1):
            if word[at] == word[at + 1]:
                return word[:at] + word[at + 2:]
    return None


class Reference:
    """A floor whose normal words are found by turns and cuts."""

    def __init__(self, orders):
        self.orders = orders
        self.known = {}

    def normal(self, word):
        if word not in self.known:
            # What is known of the letters before makes long words shorter first.
            start = self.normal(word[:-1]) + word[-1] if word else ""
            words = turned(self.orders, start)
            shorter = cut_once(words)
            self.known[word] = min(words) if shorter is None else self.normal(shorter)
        return self.known[word]

    def is_shortest(self, word):
        return len(self.normal(word)) == len(word)

    def ends(self, word):
        here = len(self.normal(word))
        return "".join(x for x in LETTERS if len(self.normal(word + x)) < here)

    def rings(self, most):
        """The rings 0 to most, each a sorted list."""
        rings = [[""]]
        for _ in range(most):
            size = len(rings)
            longer = {self.normal(word + x) for word in rings[-1] for x in LETTERS}
            rings.append(sorted(word for word in longer if len(word) == size))
        return rings

    def distance(self, one, other):
        return len(self.normal(one[::-1] + other))
