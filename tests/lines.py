"""What the tests share: calls as they are handed in, answers call by call, and the document's
definitions word by word, over all pairs of stretches and with none of the program's short ways."""

import functools

from nearstretches.questions import answers

HIGHEST = 4294967295
JOINS = {"either": 4, "order": 5, "both": 6, "next": 7, "inside": 8, "around": 9, "apart": 10}


def text(*words):
    return [0, len(words), *words]


def add(*words):
    return [1, len(words), *words]


def cut(n):
    return [2, n]


def word(s, w):
    return [3, s, w]


def join(name, s, i, j):
    return [JOINS[name], s, i, j]


def either(s, i, j):
    return join("either", s, i, j)


def order(s, i, j):
    return join("order", s, i, j)


def both(s, i, j):
    return join("both", s, i, j)


def next_to(s, i, j):
    return join("next", s, i, j)


def inside(s, i, j):
    return join("inside", s, i, j)


def around(s, i, j):
    return join("around", s, i, j)


def apart(s, i, j):
    return join("apart", s, i, j)


def line(calls):
    return [number for call in calls for number in call]


def answered(*calls):
    """What each call is answered, without the count ahead of it where it is one number."""
    told = answers(line(calls))
    rows = []
    start = 0
    while start < len(told):
        rows.append(told[start + 1:start + 1 + told[start]])
        start += 1 + told[start]
    assert start == len(told), told
    assert len(rows) == len(calls), (rows, calls)
    return [row[0] if len(row) == 1 else row for row in rows]


def places(stretch):
    return set(range(stretch[0], stretch[1] + 1))


@functools.cache
def lies_in(one, other):
    return places(one) <= places(other)


@functools.cache
def touches(one, other):
    return bool(places(one) & places(other))


def least(stretches):
    every = set(stretches)
    return sorted(one for one in every if not any(lies_in(other, one) for other in every - {one}))


def by_the_words(name, left, right):
    """The stretches of a join, just as the document tells them."""
    pairs = [(a, b) for a in left for b in right]
    if name == "either":
        return least(left + right)
    if name == "order":
        return least((a[0], b[1]) for a, b in pairs if b[0] > a[1])
    if name == "both":
        return least((min(a[0], b[0]), max(a[1], b[1])) for a, b in pairs)
    if name == "next":
        return sorted({(a[0], b[1]) for a, b in pairs if b[0] == a[1] + 1})
    if name == "inside":
        return [a for a in left if any(lies_in(a, b) for b in right)]
    if name == "around":
        return [a for a in left if any(lies_in(b, a) for b in right)]
    if name == "apart":
        return [a for a in left if not any(touches(a, b) for b in right)]
    raise KeyError(name)


class PlainLine:
    """A line of calls answered in the plainest way: a question is a tree that is asked anew each time."""

    def __init__(self):
        self.words = []
        self.laid = {}

    def stretches(self, question):
        if question[0] == "word":
            return [(k + 1, k + 1) for k, each in enumerate(self.words) if each == question[1]]
        return by_the_words(question[0], self.stretches(question[1]), self.stretches(question[2]))

    def size(self, question):
        return 1 if question[0] == "word" else self.size(question[1]) + self.size(question[2])

    def take(self, words, refusal):
        if any(each < 1 or each > 30 for each in words[1]):
            return -1
        if len(words[0] + words[1]) > 60:
            return refusal
        self.words = words[0] + words[1]
        return len(self.words)

    def lay(self, call):
        names = {number: name for name, number in JOINS.items()}
        if not 1 <= call[1] <= 20 or (call[0] == 3 and not 1 <= call[2] <= 30):
            return -1
        if call[0] == 3:
            question = ("word", call[2])
        elif call[2] not in self.laid or call[3] not in self.laid:
            return -2
        else:
            question = (names[call[0]], self.laid[call[2]], self.laid[call[3]])
        if self.size(question) > 64:
            return -5
        self.laid[call[1]] = question
        return len(self.stretches(question))

    def answer(self, call):
        if call[0] == 0:
            return self.take(([], call[2:]), -1)
        if call[0] == 1:
            return self.take((self.words, call[2:]), -5)
        if call[0] == 2:
            self.words = self.words[:call[1]]
            return len(self.words)
        return self.lay(call)


def plainly_answered(calls):
    plain = PlainLine()
    return [plain.answer(call) for call in calls]
