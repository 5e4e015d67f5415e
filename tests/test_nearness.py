"""What the document promises over the whole: brackets and direction don't matter, and the stretches are
just the least parts of the text that answer the question."""

import random
import unittest

from tests.lines import JOINS, alike, answered, bound, join, last, least, row, text, word

# The joins whose two questions change places if the text is read from the back.
TURNED = ("order", "next")


def texts(seed, many, kinds, most):
    source = random.Random(seed)
    return [[source.randint(1, kinds) for _ in range(source.randint(0, most))] for _ in range(many)]


def stretches_of(told):
    """The stretches of a row, as pairs."""
    numbers = told[1:] if isinstance(told, list) else []
    return list(zip(numbers[::2], numbers[1::2]))


def tree(source, deep, names):
    if deep == 0 or source.randrange(5) == 0:
        return ("word", source.randint(1, 3), None)
    return (source.choice(names), tree(source, deep - 1, names), tree(source, deep - 1, names))


def laid(question, turned=False):
    """The calls that lay the question under the number 1 and keep its parts under higher ones."""
    calls = []

    def lay(one, s):
        name, left, right = one
        if name == "word":
            calls.append(word(s, left))
            return
        lay(left, s)
        lay(right, s + 1)
        swapped = turned and name in TURNED
        calls.append(join(name, s, s + 1, s) if swapped else join(name, s, s, s + 1))

    lay(question, 1)
    return calls


def is_answered_by(question, words):
    """Whether the words, as a part of a text, answer the question: read straight from what it is for."""
    name, left, right = question
    if name == "word":
        return left in words
    if name == "either":
        return is_answered_by(left, words) or is_answered_by(right, words)
    if name == "both":
        return is_answered_by(left, words) and is_answered_by(right, words)
    return any(is_answered_by(left, words[:k]) and is_answered_by(right, words[k:]) for k in range(len(words) + 1))


class WholeTest(unittest.TestCase):
    def test_brackets_do_not_matter(self):
        for name in ("either", "order", "both", "next"):
            for words in texts(21, 60, 4, 40):
                calls = [text(*words), word(1, 1), word(2, 2), word(3, 3)]
                calls += [join(name, 4, 1, 2), join(name, 5, 4, 3), join(name, 6, 2, 3), join(name, 7, 1, 6)]
                told = answered(*calls, alike(5, 7), row(5), row(7))
                self.assertEqual((told[-3], told[-2]), (1, told[-1]), calls)

    def test_brackets_do_not_matter_for_joined_ones(self):
        for name in ("either", "order", "both", "next"):
            for words in texts(22, 60, 4, 40):
                calls = [text(*words), word(1, 1), word(2, 2), word(3, 3)]
                calls += [join("order", 8, 1, 2), join("both", 9, 2, 3), join("either", 10, 8, 3)]
                calls += [join(name, 4, 8, 9), join(name, 5, 4, 10), join(name, 6, 9, 10), join(name, 7, 8, 6)]
                self.assertEqual(last(*calls, alike(5, 7)), 1, calls)

    def test_read_from_the_back(self):
        source = random.Random(23)
        seen = 0
        for words in texts(24, 400, 3, 20):
            question = tree(source, 3, list(JOINS))
            from_front = stretches_of(last(text(*words), *laid(question), row(1)))
            from_back = stretches_of(last(text(*words[::-1]), *laid(question, True), row(1)))
            turned = [(len(words) + 1 - end, len(words) + 1 - begin) for begin, end in reversed(from_back)]
            self.assertEqual(from_front, turned, (words, question))
            seen += len(from_front)
        self.assertGreater(seen, 400)

    def test_just_the_least_parts_that_answer(self):
        source = random.Random(25)
        for words in texts(26, 200, 3, 7):
            question = tree(source, 3, ["either", "order", "both"])
            parts = [(a, b) for a in range(1, len(words) + 1) for b in range(a, len(words) + 1)]
            answering = [(a, b) for a, b in parts if is_answered_by(question, words[a - 1:b])]
            self.assertEqual(stretches_of(last(text(*words), *laid(question), row(1))), least(answering), question)

    def test_stretches_are_always_least_ones_in_order(self):
        source = random.Random(27)
        for words in texts(28, 200, 3, 60):
            question = tree(source, 3, list(JOINS))
            for more in ([], [bound("within", 1, 1, 6)], [bound("first", 1, 1, 30)]):
                found = stretches_of(last(text(*words), *laid(question), *more, row(1)))
                self.assertEqual(found, least(found))


if __name__ == "__main__":
    unittest.main()
