"""Lines of text: their words, and the names, numbers and tiles' words that these are."""

from foldfloor.errors import NotWord
from foldfloor.orders import check_word

MOST_IN_NAME = 12

NUMBERS = 100

# The percent sign.
BARRED = 37

EMPTY = "-"


def is_plain(text):
    """Whether all characters of a text are from the space to ~, except the percent sign."""
    return all([" " <= mark <= "~" and ord(mark) != BARRED for mark in text])


def words_of(line):
    """The list of the words of a line, or None if it is malformed."""
    words = line.split(" ")
    if not is_plain(line) or "" in words:
        return None
    return words


def is_name(word):
    """Whether a word is 1 to 12 small letters."""
    return 1 <= len(word) <= MOST_IN_NAME and all(["a" <= mark <= "z" for mark in word])


def number_in(word):
    """The integer from 0 to 99 that a word is the decimal form of, or None."""
    return int(word) if word in [str(number) for number in range(NUMBERS)] else None


def text_of(word):
    """The text of a word: the word, or - for the empty word."""
    check_word(word)
    return word if word != "" else EMPTY


def word_in(text):
    """The word with a text."""
    if text == "":
        raise NotWord("the text of the empty word is -")
    word = "" if text == EMPTY else text
    check_word(word)
    return word
