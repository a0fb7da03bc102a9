"""Events, and which of them are ahead of which, whoever lied."""

from nearhours.aheads import gap_by, is_possible, is_sure, told_between
from nearhours.errors import NotUsable
from nearhours.refusals import refuse_ahead, refuse_asked, refuse_ends, refuse_event, refuse_quarrel


def gap(town, fears, run, one, other):
    """The least and the greatest amount by which the gain of other is more than that of one.

    Each is None if there is none; the whole is if no suspect leaves both.
    """
    refuse_asked(town, fears, run)
    refuse_ends(town[0], one, other)
    refuse_quarrel(town, fears, run)
    return gap_by(told_between(town, fears, run, (one, other)), one, other)


def shown_at(town, fears, run, event, tower):
    """The least and the greatest hour that the clock of the tower can show when the event is."""
    refuse_asked(town, fears, run)
    refuse_event(town, "event", event)
    own, hour = event
    if tower not in town[0] or tower == own:
        raise NotUsable("tower", tower)
    refuse_quarrel(town, fears, run)
    between = gap_by(told_between(town, fears, run, (own, tower)), own, tower)
    if between is None:
        return None
    least, greatest = between
    return (None if least is None else hour + least, None if greatest is None else hour + greatest)


def surely_ahead(town, fears, run, early, late):
    """Whether early is ahead of late for all suspects that leave both."""
    refuse_ahead(town, fears, run, early, late)
    refuse_quarrel(town, fears, run)
    return is_sure(told_between(town, fears, run, (early[0], late[0])), early, late)


def could_be_ahead(town, fears, run, early, late):
    """Whether early is ahead of late for some suspect that leaves both."""
    refuse_ahead(town, fears, run, early, late)
    refuse_quarrel(town, fears, run)
    return is_possible(told_between(town, fears, run, (early[0], late[0])), early, late)
