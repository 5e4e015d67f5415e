"""The numbers of the calls; a question's kind is the number of the call that lays it."""

TEXT = 0
ADD = 1
CUT = 2
WORD = 3
EITHER = 4
ORDER = 5
BOTH = 6
NEXT = 7
INSIDE = 8
AROUND = 9
APART = 10
