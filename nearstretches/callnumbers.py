"""The numbers of the calls; a question's kind is the number of the call that lays it."""

TEXT = 0
ADD = 1
CUT = 2
WORD = 3
EITHER = 4
ORDER = 5
BOTH = 6
NEXT = 7
INSIDE = 8
AROUND = 9
APART = 10
WITHOUT = 11
OUTSIDE = 12
WITHIN = 13
FIRST = 14
ROW = 15
AT = 16
WORTH = 17
SHOWS = 18
BEST = 19
ALIKE = 20
FITS = 21
