"""One text and the questions laid about it."""

from nearstretches.callnumbers import FIRST, WITHIN, WORD
from nearstretches.making import left_maker, right_maker
from nearstretches.stretches import bounded, joined, places_of_word

HIGHEST_WORD = 30
HIGHEST_QUESTION = 20
HIGHEST_BOUND = 60
MOST_PLACES = 60
MOST_WORDS_IN_A_QUESTION = 64

OUT_OF_BOUNDS = -1
NOT_LAID = -2
TOO_MANY = -5


def is_word(number):
    return 1 <= number <= HIGHEST_WORD


def is_question(number):
    return 1 <= number <= HIGHEST_QUESTION


def are_words(numbers):
    return all([is_word(number) for number in numbers])


class Question:
    """A question as it was laid.

    parts tells, by when they were laid, the questions it is of: none, one or two;
    number is the w of a word, or the n of within and first.
    """

    def __init__(self, kind, parts, number, size):
        self.kind = kind
        self.parts = parts
        self.number = number
        self.size = size

    def stretches_in(self, words, earlier):
        """Its stretches in the text, where earlier holds those of every question laid before it."""
        if self.kind == WORD:
            return places_of_word(words, self.number)
        left = earlier[self.parts[0]]
        if self.kind in (WITHIN, FIRST):
            return bounded(self.kind, left, self.number)
        return joined(self.kind, left, earlier[self.parts[1]])

    def makers(self, stretch, earlier):
        """The stretches of its parts that make one of its own: pairs of when a part was laid and its stretch."""
        left = earlier[self.parts[0]]
        pairs = [(self.parts[0], left_maker(self.kind, stretch, left))]
        if len(self.parts) == 2:
            right = earlier[self.parts[1]]
            pairs.append((self.parts[1], right_maker(self.kind, stretch, left, right)))
        return [pair for pair in pairs if pair[1] is not None]


class Nearness:
    """The text, and every question laid so far in the order of laying.

    A question whose number has been laid anew stays in that order, for others may be joined of it.
    As a question's parts always come ahead of it there, one walk finds the stretches of all.
    """

    def __init__(self):
        self.words = []
        self.questions = []
        self.stretches = []
        self.laid = {}

    def take_text(self, words):
        if not are_words(words) or len(words) > MOST_PLACES:
            return OUT_OF_BOUNDS
        return self.change_text(words)

    def add_words(self, words):
        if not are_words(words):
            return OUT_OF_BOUNDS
        if len(self.words) + len(words) > MOST_PLACES:
            return TOO_MANY
        return self.change_text(self.words + words)

    def cut_text(self, most):
        return self.change_text(self.words[:most])

    def change_text(self, words):
        found = []
        for question in self.questions:
            found.append(question.stretches_in(words, found))
        self.words = list(words)
        self.stretches = found
        return len(words)

    def lay_word(self, number, word):
        if not is_question(number) or not is_word(word):
            return OUT_OF_BOUNDS
        return self.lay(number, Question(WORD, (), word, 1))

    def lay_joined(self, kind, number, left, right):
        if not is_question(number):
            return OUT_OF_BOUNDS
        if left not in self.laid or right not in self.laid:
            return NOT_LAID
        parts = (self.laid[left], self.laid[right])
        size = self.questions[parts[0]].size + self.questions[parts[1]].size
        if size > MOST_WORDS_IN_A_QUESTION:
            return TOO_MANY
        return self.lay(number, Question(kind, parts, None, size))

    def lay_bounded(self, kind, number, part, bound):
        if not is_question(number) or bound > HIGHEST_BOUND:
            return OUT_OF_BOUNDS
        if part not in self.laid:
            return NOT_LAID
        when = self.laid[part]
        return self.lay(number, Question(kind, (when,), bound, self.questions[when].size))

    def lay(self, number, question):
        found = question.stretches_in(self.words, self.stretches)
        self.laid[number] = len(self.questions)
        self.questions.append(question)
        self.stretches.append(found)
        return len(found)

    def stretches_of(self, number):
        """The stretches of the question with this number, or None if it isn't laid."""
        if number not in self.laid:
            return None
        return self.stretches[self.laid[number]]

    def places_that_make(self, number, stretch):
        """The places that make a stretch of the question with this number."""
        made = {}
        # A list in the place of calls within one another, for questions may be joined many deep.
        waiting = [(self.laid[number], stretch)]
        while waiting:
            pair = waiting.pop()
            question = self.questions[pair[0]]
            if question.kind == WORD:
                made[pair[1][0]] = True
            else:
                waiting.extend(question.makers(pair[1], self.stretches))
        return sorted(made)
