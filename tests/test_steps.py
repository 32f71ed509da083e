"""Promises [2] to [4] and [9]: steps and logs."""

import copy
import unittest
from unittest.mock import patch

from foldfloor import steps
from foldfloor.errors import BadStep, NotOrders, NotWord, TooLarge
from tests.reference import ALL, LETTERS, Reference, all_words, order_of
from tests.test_words import some_words


def slow_step(orders, word, step):
    """The word after a step, by the words of [2], or None."""
    kind, at = step[0], step[1]
    after = None
    if kind == "put":
        if step[2] in list(LETTERS) and at in range(len(word) + 1):
            after = word[:at] + step[2] * 2 + word[at:]
    elif kind == "cut":
        if at in range(len(word) - 1) and word[at] == word[at + 1]:
            after = word[:at] + word[at + 2:]
    else:
        one, other = step[2:]
        if one in list(LETTERS) and other in list(LETTERS) and one != other and at >= 0:
            many = order_of(orders, one, other)
            old = "".join(other if k % 2 else one for k in range(many))
            new = "".join(one if k % 2 else other for k in range(many))
            if many and word[at:at + many] == old:
                after = word[:at] + new + word[at + many:]
    return after if after is not None and len(after) <= 200 else None


def all_steps(many):
    """Steps of all forms, with right and wrong numbers and strings."""
    places = [-10 ** 20, -2, -1, *range(many + 3), 10 ** 20]
    texts = ["0", "1", "2", "", "3", "01", "a"]
    found = [("cut", at) for at in places]
    found += [("put", at, text) for at in places for text in texts]
    found += [("turn", at, one, other) for at in places for one in texts for other in texts]
    return found


class Stepped(unittest.TestCase):
    def test_all_steps_in_some_words(self):
        for orders in ((3, 2, 4), (2, 2, 2), (0, 3, 2), (0, 0, 0), (5, 4, 0)):
            for word in ("", "0", "00", "01", "0102", "01010", "2112", "121212", "20100220"):
                for step in all_steps(len(word)):
                    told = slow_step(orders, word, step)
                    if told is not None:
                        self.assertEqual(steps.stepped(orders, word, step), told)
                        self.assertEqual(steps.walked(orders, word, [step]), told)
                        continue
                    with self.assertRaises(BadStep) as caught:
                        steps.stepped(orders, word, step)
                    self.assertEqual(caught.exception.at, 0)

    def test_each_kind(self):
        self.assertEqual(steps.stepped((3, 3, 3), "01", ("put", 1, "2")), "0221")
        self.assertEqual(steps.stepped((3, 3, 3), "01", ("put", 2, "2")), "0122")
        self.assertEqual(steps.stepped((3, 3, 3), "", ("put", 0, "2")), "22")
        self.assertEqual(steps.stepped((3, 3, 3), "0221", ("cut", 1)), "01")
        self.assertEqual(steps.stepped((3, 3, 3), "2010", ("turn", 1, "0", "1")), "2101")
        self.assertEqual(steps.stepped((4, 3, 3), "20101", ("turn", 1, "0", "1")), "21010")
        self.assertEqual(steps.stepped((3, 3, 2), "20", ("turn", 0, "2", "0")), "02")

    def test_long_words(self):
        word = "012" * 66
        self.assertEqual(len(steps.stepped((3, 3, 3), word, ("put", 198, "1"))), 200)
        long = word + "01"
        for start, step in ((word + "0", ("put", 0, "1")), (long, ("put", 200, "1"))):
            with self.assertRaises(BadStep):
                steps.stepped((3, 3, 3), start, step)
        self.assertEqual(steps.stepped((3, 3, 3), "01" * 100, ("turn", 197, "1", "0")),
                         "01" * 98 + "0" + "010")
        self.assertEqual(steps.stepped((3, 3, 3), "0" * 200, ("cut", 198)), "0" * 198)
        with self.assertRaises(BadStep):
            steps.stepped((3, 3, 3), "0" * 200, ("cut", 199))

    def test_refused(self):
        step = ("cut", 0)
        for wrong in ("0" * 201, "3", "0a"):
            for call in (lambda word: steps.stepped((3, 3, 3), word, step),
                         lambda word: steps.walked((3, 3, 3), word, [step]),
                         lambda word: steps.undone((3, 3, 3), word, [step]),
                         lambda word: steps.is_log((3, 3, 3), word, "", [step]),
                         lambda word: steps.is_log((3, 3, 3), "", word, [step])):
                with self.assertRaises(NotWord):
                    call(wrong)
        for call in (steps.stepped, steps.walked, steps.undone):
            with self.assertRaises(NotOrders):
                call((3, 1, 3), "3", [step] if call != steps.stepped else step)
        with self.assertRaises(NotOrders):
            steps.is_log((3, 3), "3", "4", [step])


class Logs(unittest.TestCase):
    def test_example(self):
        log = [("turn", 0, "1", "0"), ("cut", 2)]
        self.assertEqual(steps.walked((3, 3, 2), "1010", log), "01")
        self.assertIs(steps.is_log((3, 3, 2), "1010", "01", log), True)
        self.assertIs(steps.is_log((3, 3, 2), "1010", "10", log), False)
        self.assertIs(steps.is_log((3, 3, 2), "1011", "01", log), False)
        self.assertEqual(steps.undone((3, 3, 2), "1010", log),
                         [("put", 2, "0"), ("turn", 0, "0", "1")])

    def test_empty_log(self):
        for word in ("", "0", "12" * 100):
            self.assertEqual(steps.walked((3, 3, 3), word, []), word)
            self.assertIs(steps.is_log((3, 3, 3), word, word, []), True)
            self.assertEqual(steps.undone((3, 3, 3), word, []), [])
        self.assertIs(steps.is_log((3, 3, 3), "0", "1", []), False)

    def test_index_of_the_first_bad_step(self):
        good = [("put", 0, "1"), ("put", 1, "0"), ("cut", 1)]
        for at in range(4):
            log = good[:at] + [("cut", 5)] + good[at:] + [("cut", -1)]
            for call in (steps.walked, steps.undone):
                with self.assertRaises(BadStep) as caught:
                    call((3, 3, 3), "", log)
                self.assertEqual(caught.exception.at, at)
            self.assertIs(steps.is_log((3, 3, 3), "", "11", log), False)

    def test_a_word_on_the_way_that_is_too_long(self):
        word = "0" * 198
        log = [("put", 0, "1"), ("put", 0, "1"), ("cut", 0), ("cut", 0)]
        with self.assertRaises(BadStep) as caught:
            steps.walked((3, 3, 3), word, log)
        self.assertEqual(caught.exception.at, 1)
        self.assertIs(steps.is_log((3, 3, 3), word, word, log), False)
        self.assertIs(steps.is_log((3, 3, 3), word, word, [log[0], log[2]]), True)

    def test_undone(self):
        for orders in ALL:
            word, log = some_words(21, 1, 20, 20)[0], []
            now = word
            for number, at in enumerate((0, 3, 11, 20, 5, 7)):
                log.append(("put", at, LETTERS[number % 3]))
                now = steps.stepped(orders, now, log[-1])
            log += steps.derive(orders, now)
            end = steps.walked(orders, word, log)
            kept = copy.deepcopy(log)
            back = steps.undone(orders, word, log)
            self.assertEqual(log, kept)
            self.assertEqual(len(back), len(log))
            self.assertEqual(steps.walked(orders, end, back), word)
            self.assertEqual(steps.undone(orders, end, back), log)
            self.assertIs(steps.is_log(orders, end, word, back), True)


def kinds(log):
    return {step[0] for step in log}


class Derive(unittest.TestCase):
    def test_short_words(self):
        for orders in ALL:
            slow = Reference(orders)
            for word in all_words(4) + some_words(22, 25, 5, 10):
                log = steps.derive(orders, word)
                self.assertIs(type(log), list)
                self.assertEqual(steps.walked(orders, word, log), slow.normal(word))
                self.assertLessEqual(kinds(log), {"cut", "turn"})
                self.assertLessEqual(len(log), 4000)
                self.check_by_hand(orders, word, log, slow.normal(word))

    def check_by_hand(self, orders, word, log, end):
        for step in log:
            word = slow_step(orders, word, step)
            self.assertIsNotNone(word)
        self.assertEqual(word, end)

    def test_long_words(self):
        for orders in ALL:
            tiles = steps.Floor(orders)
            for word in some_words(23, 3, 60, 60) + ["012" * 20, "0201" * 15, "01" * 30]:
                log = steps.derive(orders, word)
                self.check_by_hand(orders, word, log, tiles.normal(word))
                self.assertLessEqual(kinds(log), {"cut", "turn"})
                self.assertLessEqual(len(log), 4000)

    def test_normal_words_need_no_step(self):
        for orders in ALL:
            for tile in Reference(orders).rings(4)[-1]:
                self.assertEqual(steps.derive(orders, tile), [])

    def test_logs_of_too_many_steps(self):
        word, longer, another = "10" * 10, "10" * 16, "10" * 14
        many = len(steps.derive((3, 3, 3), word))
        both = len(steps.connect((3, 3, 3), word, longer))
        self.assertEqual(steps.MOST_STEPS, 4000)
        with patch.object(steps, "MOST_STEPS", many):
            self.assertEqual(len(steps.derive((3, 3, 3), word)), many)
        with patch.object(steps, "MOST_STEPS", many - 1):
            with self.assertRaises(TooLarge):
                steps.derive((3, 3, 3), word)
        with patch.object(steps, "MOST_STEPS", both - 1):
            with self.assertRaises(TooLarge):
                steps.connect((3, 3, 3), word, longer)
            self.assertIsNone(steps.connect((3, 3, 3), word, another))
        steps.check_size([("cut", 0)] * 4000)
        with self.assertRaises(TooLarge):
            steps.check_size([("cut", 0)] * 4001)

    def test_refused(self):
        for wrong in ("0" * 61, "3", "01x"):
            with self.assertRaises(NotWord):
                steps.derive((3, 3, 3), wrong)
            with self.assertRaises(NotWord):
                steps.connect((3, 3, 3), wrong, "")
            with self.assertRaises(NotWord):
                steps.connect((3, 3, 3), "", wrong)
            with self.assertRaises(NotOrders):
                steps.derive((3, 3, 1), wrong)
            with self.assertRaises(NotOrders):
                steps.connect((3, 3, 1), wrong, wrong)


class Connect(unittest.TestCase):
    def test_all_pairs_of_short_words(self):
        for orders in ((3, 3, 2), (2, 2, 2), (4, 4, 2), (0, 3, 2), (3, 0, 0), (2, 5, 4)):
            slow = Reference(orders)
            listed = all_words(3)
            for one in listed:
                for other in listed:
                    self.check(orders, slow, one, other)

    def check(self, orders, slow, one, other):
        log = steps.connect(orders, one, other)
        if slow.normal(one) != slow.normal(other):
            self.assertIsNone(log)
            return
        self.assertIs(steps.is_log(orders, one, other, log), True)
        word = one
        for step in log:
            word = slow_step(orders, word, step)
        self.assertEqual(word, other)

    def test_words_of_one_tile(self):
        for orders in ALL:
            slow = Reference(orders)
            for word in some_words(24, 6, 5, 10):
                for other in (word, slow.normal(word), word + "11", "2" + word, word[::-1]):
                    self.check(orders, slow, word, other)

    def test_long_words(self):
        for orders in ALL:
            tiles = steps.Floor(orders)
            for one in some_words(25, 3, 60, 60):
                other = tiles.normal(one)
                other = other[:20] + "1221" + other[20:56] + ("0" if len(other) > 56 else "")
                log = steps.connect(orders, one, other)
                if tiles.normal(one) == tiles.normal(other):
                    self.assertIs(steps.is_log(orders, one, other, log), True)
                else:
                    self.assertIsNone(log)
                back = one[::-1]
                log = steps.connect(orders, one[:30] + one[30:], one)
                self.assertEqual(steps.walked(orders, one, log), one)
                same = tiles.normal(one) == tiles.normal(back)
                self.assertEqual(steps.connect(orders, one, back) is not None, same)


if __name__ == "__main__":
    unittest.main()
