"""What the tests share: calls as they are handed in, answers call by call, and the document's
definitions word by word, over all pairs of stretches and with none of the program's short ways."""

import functools

from nearstretches.questions import answers

HIGHEST = 4294967295
MOST_CALLS = 40
JOINS = {
    "either": 4, "order": 5, "both": 6, "next": 7, "inside": 8, "around": 9, "apart": 10, "without": 11, "outside": 12,
}
BOUNDS = {"within": 13, "first": 14}


def text(*words):
    return [0, len(words), *words]


def add(*words):
    return [1, len(words), *words]


def cut(n):
    return [2, n]


def word(s, w):
    return [3, s, w]


def join(name, s, i, j):
    return [JOINS[name], s, i, j]


def either(s, i, j):
    return join("either", s, i, j)


def order(s, i, j):
    return join("order", s, i, j)


def both(s, i, j):
    return join("both", s, i, j)


def next_to(s, i, j):
    return join("next", s, i, j)


def inside(s, i, j):
    return join("inside", s, i, j)


def around(s, i, j):
    return join("around", s, i, j)


def apart(s, i, j):
    return join("apart", s, i, j)


def without(s, i, j):
    return join("without", s, i, j)


def outside(s, i, j):
    return join("outside", s, i, j)


def bound(name, s, i, n):
    return [BOUNDS[name], s, i, n]


def within(s, i, n):
    return bound("within", s, i, n)


def first(s, i, n):
    return bound("first", s, i, n)


def row(s):
    return [15, s]


def at(s, p):
    return [16, s, p]


def worth(s):
    return [17, s]


def shows(s, a, b):
    return [18, s, a, b]


def best(s, n):
    return [19, s, n]


def alike(i, j):
    return [20, i, j]


def fits(s, a, b):
    return [21, s, a, b]


def line(calls):
    return [number for call in calls for number in call]


def answered(*calls):
    """What each call is answered, without the count ahead of it: a number, or a list where there are several."""
    assert 1 <= len(calls) <= MOST_CALLS and len(line(calls)) <= 3000, calls
    told = answers(line(calls))
    rows = []
    start = 0
    while start < len(told):
        rows.append(told[start + 1:start + 1 + told[start]])
        start += 1 + told[start]
    assert start == len(told), told
    assert len(rows) == len(calls), (rows, calls)
    assert [] not in rows, rows
    return [simple(numbers) for numbers in rows]


def simple(numbers):
    return numbers[0] if len(numbers) == 1 else numbers


def last(*calls):
    """What the last of the calls is answered."""
    return answered(*calls)[-1]


def asked_behind(laying, asking):
    """What each of the asking calls is answered behind the laying ones, in as many lines as it takes."""
    told = []
    room = MOST_CALLS - len(laying)
    for start in range(0, len(asking), room):
        told += answered(*laying, *asking[start:start + room])[len(laying):]
    return told


def places(stretch):
    return set(range(stretch[0], stretch[1] + 1))


@functools.cache
def lies_in(one, other):
    return places(one) <= places(other)


@functools.cache
def touches(one, other):
    return bool(places(one) & places(other))


def least(stretches):
    every = set(stretches)
    return sorted(one for one in every if not any(lies_in(other, one) for other in every - {one}))


def by_the_words(name, left, right):
    """The stretches of a join, just as the document tells them."""
    pairs = [(a, b) for a in left for b in right]
    if name == "either":
        return least(left + right)
    if name == "order":
        return least((a[0], b[1]) for a, b in pairs if b[0] > a[1])
    if name == "both":
        return least((min(a[0], b[0]), max(a[1], b[1])) for a, b in pairs)
    if name == "next":
        return sorted({(a[0], b[1]) for a, b in pairs if b[0] == a[1] + 1})
    if name == "inside":
        return [a for a in left if any(lies_in(a, b) for b in right)]
    if name == "around":
        return [a for a in left if any(lies_in(b, a) for b in right)]
    if name == "apart":
        return [a for a in left if not any(touches(a, b) for b in right)]
    if name == "without":
        return [a for a in left if all(not lies_in(b, a) for b in right)]
    if name == "outside":
        return [a for a in left if all(not lies_in(a, b) for b in right)]
    raise KeyError(name)


def bounded_by_the_words(name, stretches, n):
    if name == "within":
        return [a for a in stretches if len(places(a)) <= n]
    if name == "first":
        return [a for a in stretches if max(places(a)) <= n]
    raise KeyError(name)


def the_one(stretches):
    assert len(stretches) == 1, stretches
    return stretches[0]


class PlainLine:
    """A line of calls answered in the plainest way: a question is a tree, gone through for each text anew."""

    def __init__(self):
        self.words = []
        self.laid = {}
        self.known = {}

    def stretches(self, question):
        key = (question, tuple(self.words))
        if key not in self.known:
            self.known[key] = self.find(question)
        return list(self.known[key])

    def find(self, question):
        name, left, right = question
        if name == "word":
            return [(k + 1, k + 1) for k, each in enumerate(self.words) if each == left]
        if name in BOUNDS:
            return bounded_by_the_words(name, self.stretches(left), right)
        return by_the_words(name, self.stretches(left), self.stretches(right))

    def size(self, question):
        name, left, right = question
        if name == "word":
            return 1
        return self.size(left) + (0 if name in BOUNDS else self.size(right))

    def makes(self, question, stretch):
        """The places that make the stretch, as a set."""
        name, left, right = question
        if name == "word":
            return {stretch[0]}
        if name == "either":
            return self.makes(left if stretch in self.stretches(left) else right, stretch)
        if name in ("order", "next"):
            a = the_one([a for a in self.stretches(left) if a[0] == stretch[0]])
            b = the_one([b for b in self.stretches(right) if b[1] == stretch[1]])
            return self.makes(left, a) | self.makes(right, b)
        if name == "both":
            a = min(a for a in self.stretches(left) if lies_in(a, stretch))
            b = min(b for b in self.stretches(right) if lies_in(b, stretch))
            return self.makes(left, a) | self.makes(right, b)
        if name == "around":
            b = min(b for b in self.stretches(right) if lies_in(b, stretch))
            return self.makes(left, stretch) | self.makes(right, b)
        return self.makes(left, stretch)

    def take(self, words, refusal):
        if any(each < 1 or each > 30 for each in words[1]):
            return -1
        if len(words[0] + words[1]) > 60:
            return refusal
        self.words = words[0] + words[1]
        return len(self.words)

    def lay(self, call):
        names = {number: name for name, number in [*JOINS.items(), *BOUNDS.items()]}
        if not 1 <= call[1] <= 20:
            return -1
        if call[0] == 3:
            if not 1 <= call[2] <= 30:
                return -1
            question = ("word", call[2], None)
        elif call[0] in BOUNDS.values():
            if call[3] > 60:
                return -1
            if call[2] not in self.laid:
                return -2
            question = (names[call[0]], self.laid[call[2]], call[3])
        elif call[2] not in self.laid or call[3] not in self.laid:
            return -2
        else:
            question = (names[call[0]], self.laid[call[2]], self.laid[call[3]])
        if self.size(question) > 64:
            return -5
        self.laid[call[1]] = question
        return len(self.stretches(question))

    def ask(self, call):
        if call[1] not in self.laid or (call[0] == 20 and call[2] not in self.laid):
            return -2
        found = self.stretches(self.laid[call[1]])
        if call[0] == 15:
            return self.tell(found)
        if call[0] == 16:
            return self.tell([a for a in found if a[0] >= call[2]][:1])
        if call[0] == 17:
            return sum(5040 // len(places(a)) for a in found)
        if call[0] == 18:
            if (call[2], call[3]) not in found:
                return -7
            made = sorted(self.makes(self.laid[call[1]], (call[2], call[3])))
            return [len(made), *made]
        if call[0] == 19:
            return self.tell(sorted(found, key=lambda a: (len(places(a)), a[0]))[:call[2]])
        if call[0] == 20:
            return int(found == self.stretches(self.laid[call[2]]))
        if call[0] == 21:
            return int(any(a[0] >= call[2] and a[1] <= call[3] for a in found))
        raise KeyError(call[0])

    def tell(self, stretches):
        return simple([len(stretches), *(place for stretch in stretches for place in stretch)])

    def answer(self, call):
        if call[0] == 0:
            return self.take(([], call[2:]), -1)
        if call[0] == 1:
            return self.take((self.words, call[2:]), -5)
        if call[0] == 2:
            self.words = self.words[:call[1]]
            return len(self.words)
        return self.lay(call) if call[0] < 15 else self.ask(call)
