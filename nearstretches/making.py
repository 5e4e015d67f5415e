"""What makes a stretch of a question: which stretches of i and j, the questions it is of, have a share in it."""

from nearstretches.callnumbers import AROUND, BOTH, EITHER, NEXT, ORDER
from nearstretches.stretches import first_from, last_by, lies_in


def first_that_lies_in(stretches, outer):
    for stretch in stretches:
        if lies_in(stretch, outer):
            return stretch
    return None


def left_maker(kind, stretch, left):
    """The stretch of i that makes the stretch, or None if i has no share in it."""
    if kind == EITHER:
        return stretch if stretch in left else None
    if kind in (ORDER, NEXT):
        # One of i begins just there, for the stretch was made from it.
        return first_from(left, stretch[0])
    if kind == BOTH:
        return first_that_lies_in(left, stretch)
    return stretch


def right_maker(kind, stretch, left, right):
    """The stretch of j that makes the stretch, or None if j has no share in it."""
    if kind == EITHER:
        return None if stretch in left else stretch
    if kind in (ORDER, NEXT):
        # One of j ends just there, for the stretch was made up to it.
        return last_by(right, stretch[1])
    if kind in (BOTH, AROUND):
        return first_that_lies_in(right, stretch)
    return None
