"""Stretches, as pairs of begin and end, and how those of one question come from those of others.

A question's stretches are a list of least ones in order: the begins rise, and the ends rise with them.
The joins below count on this of what they are handed, and hold to it in what they give back.
"""

from nearstretches.callnumbers import APART, AROUND, BOTH, EITHER, INSIDE, NEXT, ORDER, WITHIN, WITHOUT


def width(stretch):
    return stretch[1] - stretch[0] + 1


def lies_in(inner, outer):
    return outer[0] <= inner[0] and inner[1] <= outer[1]


def share_a_place(one, other):
    return one[0] <= other[1] and other[0] <= one[1]


def back_to_front(stretch):
    return (-stretch[0], stretch[1])


def least(stretches):
    """Those of the stretches, each told once, in which no other one of them lies."""
    kept = []
    for stretch in sorted(stretches, key=back_to_front):
        # None seen so far begins earlier, and the one kept last ends first of them:
        # if that one does not lie in this stretch, none does.
        if not kept or stretch[1] < kept[-1][1]:
            kept.append(stretch)
    return list(reversed(kept))


def first_from(stretches, place):
    """The first stretch that begins at the place or behind it, or None."""
    for stretch in stretches:
        if stretch[0] >= place:
            return stretch
    return None


def last_by(stretches, place):
    """The last stretch that ends at the place or ahead of it, or None."""
    for stretch in reversed(stretches):
        if stretch[1] <= place:
            return stretch
    return None


def places_of_word(words, word):
    return [(place, place) for place, each in enumerate(words, start=1) if each == word]


def either_of(left, right):
    return least(left + right)


def order_of(left, right):
    found = []
    for stretch in left:
        # Any later follower ends later too, so what it makes is not a least one.
        follower = first_from(right, stretch[1] + 1)
        if follower is not None:
            found.append((stretch[0], follower[1]))
    return least(found)


def both_of(left, right):
    found = []
    for stretch in left + right:
        # What a pair makes ends where one of the two ends. Of all pairs that end by there,
        # the last of each side begin latest, so what they make lies in what any other pair makes.
        from_left = last_by(left, stretch[1])
        from_right = last_by(right, stretch[1])
        if from_left is not None and from_right is not None:
            found.append((min(from_left[0], from_right[0]), max(from_left[1], from_right[1])))
    return least(found)


def next_of(left, right):
    found = []
    for stretch in left:
        follower = first_from(right, stretch[1] + 1)
        if follower is not None and follower[0] == stretch[1] + 1:
            found.append((stretch[0], follower[1]))
    return found


def lies_in_some(stretch, others):
    return any([lies_in(stretch, other) for other in others])


def holds_some(stretch, others):
    return any([lies_in(other, stretch) for other in others])


def meets_some(stretch, others):
    return any([share_a_place(stretch, other) for other in others])


def inside_of(left, right):
    return [stretch for stretch in left if lies_in_some(stretch, right)]


def around_of(left, right):
    return [stretch for stretch in left if holds_some(stretch, right)]


def apart_of(left, right):
    return [stretch for stretch in left if not meets_some(stretch, right)]


def without_of(left, right):
    return [stretch for stretch in left if not holds_some(stretch, right)]


def outside_of(left, right):
    return [stretch for stretch in left if not lies_in_some(stretch, right)]


def joined(kind, left, right):
    """The stretches of a question of this kind, joined of two whose stretches are left and right."""
    if kind == EITHER:
        return either_of(left, right)
    if kind == ORDER:
        return order_of(left, right)
    if kind == BOTH:
        return both_of(left, right)
    if kind == NEXT:
        return next_of(left, right)
    if kind == INSIDE:
        return inside_of(left, right)
    if kind == AROUND:
        return around_of(left, right)
    if kind == APART:
        return apart_of(left, right)
    if kind == WITHOUT:
        return without_of(left, right)
    return outside_of(left, right)


def bounded(kind, stretches, bound):
    """The stretches of a question of this kind, within or first, of one that has these."""
    if kind == WITHIN:
        return [stretch for stretch in stretches if width(stretch) <= bound]
    return [stretch for stretch in stretches if stretch[1] <= bound]
