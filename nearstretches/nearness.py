"""One text and the questions laid about it."""

from nearstretches.callnumbers import WORD
from nearstretches.stretches import joined, places_of_word

HIGHEST_WORD = 30
HIGHEST_QUESTION = 20
MOST_PLACES = 60
MOST_WORDS_IN_A_QUESTION = 64

OUT_OF_BOUNDS = -1
NOT_LAID = -2
TOO_MANY = -5


def is_word(number):
    return 1 <= number <= HIGHEST_WORD


def is_question(number):
    return 1 <= number <= HIGHEST_QUESTION


def are_words(numbers):
    return all([is_word(number) for number in numbers])


class Question:
    """A question as it was laid; parts tells, by when they were laid, the questions it is joined of."""

    def __init__(self, kind, parts, word, size):
        self.kind = kind
        self.parts = parts
        self.word = word
        self.size = size

    def stretches_in(self, words, earlier):
        """Its stretches in the text, where earlier holds those of every question laid before it."""
        if self.kind == WORD:
            return places_of_word(words, self.word)
        return joined(self.kind, earlier[self.parts[0]], earlier[self.parts[1]])


class Nearness:
    """The text, and every question laid so far in the order of laying.

    A question whose number has been laid anew stays in that order, for others may be joined of it.
    As a question's parts always come ahead of it there, one walk finds the stretches of all.
    """

    def __init__(self):
        self.words = []
        self.questions = []
        self.stretches = []
        self.laid = {}

    def take_text(self, words):
        if not are_words(words) or len(words) > MOST_PLACES:
            return OUT_OF_BOUNDS
        return self.change_text(words)

    def add_words(self, words):
        if not are_words(words):
            return OUT_OF_BOUNDS
        if len(self.words) + len(words) > MOST_PLACES:
            return TOO_MANY
        return self.change_text(self.words + words)

    def cut_text(self, most):
        return self.change_text(self.words[:most])

    def change_text(self, words):
        found = []
        for question in self.questions:
            found.append(question.stretches_in(words, found))
        self.words = list(words)
        self.stretches = found
        return len(words)

    def lay_word(self, number, word):
        if not is_question(number) or not is_word(word):
            return OUT_OF_BOUNDS
        return self.lay(number, Question(WORD, (), word, 1))

    def lay_joined(self, kind, number, left, right):
        if not is_question(number):
            return OUT_OF_BOUNDS
        if left not in self.laid or right not in self.laid:
            return NOT_LAID
        parts = (self.laid[left], self.laid[right])
        size = self.questions[parts[0]].size + self.questions[parts[1]].size
        if size > MOST_WORDS_IN_A_QUESTION:
            return TOO_MANY
        return self.lay(number, Question(kind, parts, None, size))

    def lay(self, number, question):
        found = question.stretches_in(self.words, self.stretches)
        self.laid[number] = len(self.questions)
        self.questions.append(question)
        self.stretches.append(found)
        return len(found)
