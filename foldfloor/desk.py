"""The desk: it answers lines of text, and keeps things by their names."""

from foldfloor.commands import COMMANDS, NOTHING
from foldfloor.errors import FoldError
from foldfloor.lines import is_name, number_in, words_of

# The kinds of things that words of a line must name.
KINDS = {"F": "floor", "V": "word", "P": "polygon", "G": "gluing"}


def spelled(form, many):
    """The form of a line with so many words behind the command; of another length if there is none."""
    if form.endswith("+"):
        form = form[:-1]
        return form + form[-1] * (many - len(form))
    return form


def can_stand(code, word):
    """Whether a word can stand where a form tells what it must be."""
    if code == "X":
        return number_in(word) is not None
    return code == "T" or is_name(word)


def form_of(words):
    """The form of the words behind a command, or None if they cannot stand there."""
    if words is None or words[0] not in COMMANDS:
        return None
    form, _ = COMMANDS[words[0]]
    form = spelled(form, len(words) - 1)
    if len(form) != len(words) - 1:
        return None
    return form if all([can_stand(code, word) for code, word in zip(form, words[1:])]) else None


class Desk:
    """Things by their names, and the answers to lines about them."""

    def __init__(self):
        # A thing is a tuple of its kind and what it is.
        self.things = {}

    def answer(self, line):
        """The answer to a line."""
        words = words_of(line)
        form = form_of(words)
        if form is None:
            return "bad"
        named = [(code, word) for code, word in zip(form, words[1:]) if code in "SFVPG"]
        for code, word in named:
            if word not in self.things:
                return f"unknown {word}"
            if code != "S" and self.things[word][0] != KINDS[code]:
                return f"kind {word}"
        return self.done(words, form)

    def done(self, words, form):
        """The answer to a line whose names have things of the right kinds."""
        _, action = COMMANDS[words[0]]
        values = [self.value_of(code, word) for code, word in zip(form, words[1:]) if code != "N"]
        try:
            text, thing = action(*values)
        except FoldError:
            return "refused"
        if thing == NOTHING:
            self.things.pop(words[1], None)
        elif thing is not None:
            self.things[words[1]] = thing
        return text

    def value_of(self, code, word):
        """What a word of a line tells."""
        if code == "T":
            return word
        if code == "X":
            return number_in(word)
        return self.things[word] if code == "S" else self.things[word][1]

    def answers(self, lines):
        """The answers to several lines, in order."""
        return [self.answer(line) for line in lines]

    def names(self):
        """The sorted list of the names that have something."""
        return sorted(self.things)

    def thing(self, name):
        """What a name has: orders, a word, a polygon, a polygon with a pairing, or None."""
        _, worth = self.things.get(name, NOTHING)
        return worth

    def copied(self):
        """Another desk with the same things."""
        other = Desk()
        other.things = dict(self.things)
        return other
