"""The orders of a floor, and the words that are given to functions."""

from foldfloor.errors import NotOrders, NotWord

LETTERS = "012"

# The pairs of letters that a floor's three orders belong to, one by one.
PAIRS = (("0", "1"), ("1", "2"), ("0", "2"))

MOST_LETTERS = 60


def is_order(order):
    """Whether one value can be an order."""
    if isinstance(order, bool) or not isinstance(order, int):
        return False
    return order == 0 or 2 <= order <= 12


def is_orders(orders):
    """Whether a tuple of integers is the orders of a floor."""
    if not isinstance(orders, tuple) or len(orders) != 3:
        return False
    return all([is_order(order) for order in orders])


def check_orders(orders):
    """Raises NotOrders for a tuple that is not the orders of a floor."""
    if not is_orders(orders):
        raise NotOrders("orders are three integers, each 0 or from 2 to 12")


def is_letter(text):
    """Whether a string is one letter."""
    return text in ("0", "1", "2")


def are_two_letters(one, other):
    """Whether two strings are two different letters."""
    return is_letter(one) and is_letter(other) and one != other


def is_word(text, most):
    """Whether a string is a word of at most so many letters."""
    return len(text) <= most and all([is_letter(letter) for letter in text])


def check_long_word(word, most):
    """Raises NotWord for a string that is not a word of at most so many letters."""
    if not is_word(word, most):
        raise NotWord(f"a word has at most {most} letters, each 0, 1 or 2")


def check_word(word):
    """Raises NotWord for a string that is not a word as functions take it."""
    check_long_word(word, MOST_LETTERS)


def check_words(words):
    """Raises NotWord for the first string of a list that is not a word."""
    for word in words:
        check_word(word)


def check_letter(text):
    """Raises NotWord for a string that is not one letter."""
    if not is_letter(text):
        raise NotWord("a letter is 0, 1 or 2")


def check_two_letters(one, other):
    """Raises NotWord for two strings that are not two different letters."""
    if not are_two_letters(one, other):
        raise NotWord("two different letters among 0, 1 and 2 are needed")


def order_between(orders, one, other):
    """The order of two different letters, for orders and letters that are known to be right."""
    for order, pair in zip(orders, PAIRS):
        if one in pair and other in pair:
            return order
    return 0


def order_of(orders, one, other):
    """The order of two different letters."""
    check_orders(orders)
    check_two_letters(one, other)
    return order_between(orders, one, other)


def kind_of(orders):
    """Whether the floor is "round", "flat" or "wide"."""
    check_orders(orders)
    finite = [order for order in orders if order != 0]
    whole = 1
    for order in finite:
        whole *= order
    parts = sum([whole // order for order in finite])
    if parts > whole:
        return "round"
    if parts == whole:
        return "flat"
    return "wide"


def in_order(words):
    """The words in the order of words: shorter ones first, those of one length as strings."""
    return sorted(sorted(words), key=len)
