"""What is least for all reaches at once. Nothing is checked here: all arguments are sound.

Rows are triples (one, other, most): a gain of other is by up to most more than that of one.
"""

from math import gcd

from nearhours.courses import least_sums, ring_by


def least_terms(top, bottom):
    """The fraction of two integers, the second one being 1 or more."""
    shared = gcd(top, bottom)
    return top // shared, bottom // shared


def is_more(one, other):
    """Whether a fraction is greater than another one."""
    return one[0] * other[1] > other[0] * one[1]


def is_nearer(one, other):
    """Whether a nearness is less than another one, None being more than all fractions."""
    if one is None or other is None:
        return one is not None
    return is_more(other, one)


def greatest_of(fractions):
    """The greatest one of 0 and of these fractions."""
    greatest = (0, 1)
    for one in fractions:
        if is_more(one, greatest):
            greatest = one
    return greatest


def mean_of_all(fractions):
    """The mean of these fractions, 0 of none."""
    top, bottom = 0, 1
    for one in fractions:
        top, bottom = least_terms(top * one[1] + one[0] * bottom, bottom * one[1])
    return least_terms(top, bottom * len(fractions)) if fractions else (0, 1)


def what_remains(most, of_one, of_other):
    """The integer, with one fraction more and another one less."""
    bottom = of_one[1] * of_other[1]
    top = most * bottom + of_one[0] * of_other[1] - of_other[0] * of_one[1]
    return least_terms(top, bottom)


def nearness_by(towers, rows, setting):
    """The nearness of a setting; None if it has none."""
    if is_far(rows):
        return None
    taken = dict(zip(towers, setting))
    return greatest_of([what_remains(most, taken[one], taken[other]) for one, other, most in rows])


def is_far(rows):
    """Whether some row has no greatest amount."""
    return any([most is None for _, _, most in rows])


def slack_ties(rows, mean):
    """Ties of what a setting of this nearness takes, taken from 0, in parts of the mean's bottom.

    A ring of them clashes just if the mean of its rows is more.
    """
    top, bottom = mean
    return tuple([(one, other, top - bottom * most, k) for k, (one, other, most) in enumerate(rows)])


def worst_of(towers, rows):
    """A circle of towers whose mean is the greatest, and this; () and 0 if there is no circle."""
    circle = ()
    # Where a reach is told, that and the one back make a circle whose mean is 0 or more.
    mean = (-1, 1)
    ring = ring_by(slack_ties(rows, mean), towers)
    while ring is not None:
        circle = tuple([tower for _, tower in ring])
        mean = least_terms(sum([rows[k][2] for k, _ in ring]), len(ring))
        ring = ring_by(slack_ties(rows, mean), towers)
    return (circle, mean) if circle else (circle, (0, 1))


def least_nearness(towers, rows):
    """The least nearness of a setting, None if none has one."""
    return None if is_far(rows) else worst_of(towers, rows)[1]


def setting_of(towers, rows, nearness):
    """A setting of this nearness, which is the least one or more."""
    sums, _, _ = least_sums(slack_ties(rows, nearness), towers, len(towers))
    return tuple([least_terms(-sums[tower], nearness[1]) for tower in towers])


def room_of(towers, rows, nearness, one, other):
    """The least and the greatest of what other's fraction is more by in settings of this nearness."""
    ties = slack_ties(rows, nearness)
    there, _, _ = least_sums(ties, (one,), len(towers))
    back, _, _ = least_sums(ties, (other,), len(towers))
    if other not in there:
        return None, None
    return least_terms(-there[other], nearness[1]), least_terms(back[one], nearness[1])
