"""Steps that change words, and logs of steps."""

from foldfloor.depths import Floor, depths_behind, far_letters, first_depths
from foldfloor.errors import BadStep, TooLarge
from foldfloor.orders import are_two_letters, check_long_word, check_orders, check_words
from foldfloor.orders import is_letter, order_between

# Words in logs have at most so many letters.
MOST_LONG = 200

# Logs that are found have at most so many steps.
MOST_STEPS = 4000


def in_turns(one, other, many):
    """The word of so many letters that are the two letters in turns."""
    return ((one + other) * many)[:many]


def after_put(word, at, letter):
    """The word with a letter put in twice, or None if that is not allowed."""
    if not is_letter(letter) or not 0 <= at <= len(word) or len(word) + 2 > MOST_LONG:
        return None
    return word[:at] + letter + letter + word[at:]


def after_cut(word, at):
    """The word without two equal letters, or None if they are not there."""
    if not 0 <= at < len(word) - 1 or word[at] != word[at + 1]:
        return None
    return word[:at] + word[at + 2:]


def after_turn(orders, word, at, one, other):
    """The word with the letters from a place on turned, or None if that is not allowed."""
    if not are_two_letters(one, other) or at < 0:
        return None
    many = order_between(orders, one, other)
    if many == 0 or word[at:at + many] != in_turns(one, other, many):
        return None
    return word[:at] + in_turns(other, one, many) + word[at + many:]


def after_step(orders, word, step):
    """The word after a step, or None if the step is not allowed."""
    form = (step[0], len(step))
    if form == ("put", 3):
        return after_put(word, step[1], step[2])
    if form == ("cut", 2):
        return after_cut(word, step[1])
    if form == ("turn", 4):
        return after_turn(orders, word, step[1], step[2], step[3])
    return None


def words_along(orders, word, log):
    """The words that a log leads through: the first one, and that after each step."""
    words = [word]
    for at, step in enumerate(log):
        word = after_step(orders, word, step)
        if word is None:
            raise BadStep(at)
        words.append(word)
    return words


def step_back(word, step):
    """The step that takes back a step which is allowed in the word."""
    if step[0] == "put":
        return "cut", step[1]
    if step[0] == "cut":
        return "put", step[1], word[step[1]]
    return "turn", step[1], step[3], step[2]


def check_long_words(orders, words):
    """Raises what functions of this file raise for orders and words of up to 200 letters."""
    check_orders(orders)
    for word in words:
        check_long_word(word, MOST_LONG)


def stepped(orders, word, step):
    """The word after a step."""
    check_long_words(orders, [word])
    return words_along(orders, word, [step])[-1]


def walked(orders, word, log):
    """The word to which a log leads."""
    check_long_words(orders, [word])
    return words_along(orders, word, log)[-1]


def is_log(orders, start, end, log):
    """Whether a log leads from the first word to the second one."""
    check_long_words(orders, [start, end])
    try:
        return words_along(orders, start, log)[-1] == end
    except BadStep:
        return False


def log_back(orders, word, log):
    """The log that takes back a log."""
    words = words_along(orders, word, log)
    back = [step_back(before, step) for before, step in zip(words, log)]
    return back[::-1]


def undone(orders, word, log):
    """A log with as many steps that leads back."""
    check_long_words(orders, [word])
    return log_back(orders, word, log)


class Trail:
    """A word that is changed by turns and cuts, and the log of them."""

    def __init__(self, orders, word):
        self.orders = orders
        self.word = word
        self.log = []

    def go(self, step):
        """Makes one step."""
        self.word = after_step(self.orders, self.word, step)
        self.log.append(step)

    def bring(self, many, letter):
        """Turns the first so many letters, until the letter is the last one of them.

        They are a shortest word, and the letter is an end of its tile. If another letter stands
        there, both are ends, and so the tiles before it have these two as ends in turns, until as
        many letters are in place as their order tells ([5]). Each turn goes over one corner, and
        all of them to the same side, so no corner is gone over twice.
        """
        last = self.word[many - 1]
        if last == letter:
            return
        order = order_between(self.orders, letter, last)
        for k in range(1, order):
            self.bring(many - k, last if k % 2 == 0 else letter)
        first = last if order % 2 == 1 else letter
        second = letter if order % 2 == 1 else last
        self.go(("turn", many - order, first, second))

    def shorten(self):
        """Cuts until the word is shortest."""
        word = self.word
        scale = Floor(self.orders).scale(len(word))
        depths = first_depths(scale)
        many = 0
        for letter in word:
            # The depths are those of the inverse of the letters so far: they tell its ends.
            if letter in far_letters(depths):
                self.bring(many, letter)
                many = many - 1
                self.go(("cut", many))
            else:
                many = many + 1
            depths = depths_behind(scale, depths, letter)

    def sort_letters(self):
        """Turns a shortest word into the normal word of its tile."""
        normal = Floor(self.orders).normal(self.word)
        for many in range(len(normal), 0, -1):
            self.bring(many, normal[many - 1])


def log_to_normal(orders, word):
    """A log that leads from a word to its normal word."""
    trail = Trail(orders, word)
    trail.shorten()
    trail.sort_letters()
    return trail.log


def check_size(log):
    """Raises TooLarge for a log that has too many steps."""
    if len(log) > MOST_STEPS:
        raise TooLarge(f"the log has more than {MOST_STEPS} steps")


def derive(orders, word):
    """A log of cuts and turns that leads from a word to its normal word."""
    check_orders(orders)
    check_words([word])
    log = log_to_normal(orders, word)
    check_size(log)
    return log


def connect(orders, one, other):
    """A log from the first word to the second one, or None if their tiles differ."""
    check_orders(orders)
    check_words([one, other])
    floor = Floor(orders)
    if floor.normal(one) != floor.normal(other):
        return None
    log = log_to_normal(orders, one) + log_back(orders, other, log_to_normal(orders, other))
    check_size(log)
    return log
