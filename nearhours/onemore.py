"""What one letter more would tell."""

from nearhours.balances import is_nearer
from nearhours.doubts import is_explained
from nearhours.errors import NotUsable
from nearhours.joins import bounds_by_ends
from nearhours.refusals import refuse_asked, refuse_ends, refuse_letter, refuse_quarrel
from nearhours.settings import nearest


def nearest_after(town, fears, run, letter):
    """The least nearness of a setting by the run with this letter more."""
    refuse_asked(town, fears, run)
    refuse_letter(town, letter)
    refuse_quarrel(town, fears, run)
    longer = (*run, letter)
    if not is_explained(town, fears, longer):
        raise NotUsable("letter", -1)
    return nearest(town, fears, longer)


def hours_explained(town, fears, run, one, other, sent, first, last):
    """The set of the hours at which a letter can be heard so that some feared lot explains the run with it."""
    refuse_asked(town, fears, run)
    refuse_ends(town[0], one, other)
    if (one, other) not in bounds_by_ends(town):
        raise NotUsable("other", other)
    if last < first:
        raise NotUsable("last", last)
    refuse_quarrel(town, fears, run)
    return tuple([
        heard for heard in range(first, last + 1)
        if is_explained(town, fears, (*run, (one, other, sent, heard)))
    ])


def worth_between(town, fears, run, one, other, sent, first, last):
    """The least and the greatest nearness after a letter heard at such an hour, None if there is none."""
    hours = hours_explained(town, fears, run, one, other, sent, first, last)
    if not hours:
        return None
    least = greatest = nearest(town, fears, (*run, (one, other, sent, hours[0])))
    for heard in hours[1:]:
        after = nearest(town, fears, (*run, (one, other, sent, heard)))
        if is_nearer(after, least):
            least = after
        if is_nearer(greatest, after):
            greatest = after
    return least, greatest
