"""The refusals of arguments, each of any value, and of papers that have a fault."""

from nearhours.courses import explains
from nearhours.doubts import is_explained
from nearhours.drifts import is_explained_at
from nearhours.errors import InvalidPaper, NotUsable
from nearhours.faults import fears_fault, is_event, is_letter, is_lot, rates_fault, run_fault, town_fault
from nearhours.houselogs import is_log
from nearhours.kinds import are_fractions, are_integers, is_index, is_number


def refuse_paper(fault):
    """Raises InvalidPaper if there is a fault (word, at)."""
    if fault is not None:
        word, at = fault
        raise InvalidPaper(word, at)


def refuse_town(town):
    """Raises NotUsable for what is no town."""
    if town_fault(town) is not None:
        raise NotUsable("town", -1)


def refuse_run(town, run):
    """Raises NotUsable for what is no run of the town."""
    if run_fault(town, run) is not None:
        raise NotUsable("run", -1)


def refuse_fears(town, fears):
    """Raises NotUsable for what are no fears of the town."""
    if fears_fault(town, fears) is not None:
        raise NotUsable("fears", -1)


def refuse_lot(town, lot):
    """Raises NotUsable for what is no lot of the town."""
    if not is_lot(town, lot):
        raise NotUsable("lot", -1)


def refuse_case(town, run, lot):
    """Raises NotUsable for what is no town, no run of it, or no lot of it."""
    refuse_town(town)
    refuse_run(town, run)
    refuse_lot(town, lot)


def refuse_asked(town, fears, run):
    """Raises NotUsable for what is no town, no fears of it, or no run of it."""
    refuse_town(town)
    refuse_fears(town, fears)
    refuse_run(town, run)


def refuse_quarrel(town, fears, run):
    """Raises NotUsable for a run that no feared lot explains."""
    if not is_explained(town, fears, run):
        raise NotUsable("run", -1)


def refuse_rates(town, rates):
    """Raises NotUsable for what are no rates of the town."""
    if rates_fault(town, rates) is not None:
        raise NotUsable("rates", -1)


def refuse_drift(town, rates, fears, run):
    """Raises NotUsable for what is no town, no rates of it, no fears of it, or no run of it."""
    refuse_town(town)
    refuse_rates(town, rates)
    refuse_fears(town, fears)
    refuse_run(town, run)


def refuse_asked_at(town, rates, fears, run, hours):
    """Raises NotUsable for what is not such, and for hours that are no tuple with an integer for each tower."""
    refuse_drift(town, rates, fears, run)
    if not are_integers(hours, len(town[0])):
        raise NotUsable("hours", -1)


def refuse_quarrel_at(town, rates, fears, run):
    """Raises NotUsable for a run that no feared lot explains at rates."""
    if not is_explained_at(town, rates, fears, run):
        raise NotUsable("run", -1)


def refuse_letter(town, letter):
    """Raises NotUsable for what is no letter of the town."""
    if not is_letter(town, letter):
        raise NotUsable("letter", -1)


def refuse_index(many, index):
    """Raises NotUsable for what is no index of so many things."""
    if not is_index(index, many):
        raise NotUsable("index", index)


def refuse_many(many):
    """Raises NotUsable for what is no number from 1 on."""
    if not is_number(many) or many == 0:
        raise NotUsable("many", many)


def refuse_setting(town, setting):
    """Raises NotUsable for what is no tuple with a fraction for each tower."""
    if not are_fractions(setting, len(town[0])):
        raise NotUsable("setting", -1)


def refuse_event(town, word, event):
    """Raises NotUsable with the word for what is no event of the town."""
    if not is_event(town, event):
        raise NotUsable(word, -1)


def refuse_events(town, events):
    """Raises NotUsable for what is no tuple of events of the town."""
    if not isinstance(events, tuple):
        raise NotUsable("events", -1)
    for k, event in enumerate(events):
        if not is_event(town, event):
            raise NotUsable("events", k)


def refuse_ahead(town, fears, run, early, late):
    """Raises NotUsable for what is not as asked, and unless early and late are events."""
    refuse_asked(town, fears, run)
    refuse_event(town, "early", early)
    refuse_event(town, "late", late)


def refuse_claim(town, fears, run, early, late):
    """Raises NotUsable for what is no claim: events of two towers, the run explained."""
    refuse_ahead(town, fears, run, early, late)
    if early[0] == late[0]:
        raise NotUsable("late", -1)
    refuse_quarrel(town, fears, run)


def refuse_tower(town, tower):
    """Raises NotUsable for what is no tower of the town."""
    if tower not in town[0]:
        raise NotUsable("tower", tower)


def refuse_ends(towers, one, other):
    """Raises NotUsable unless one and other are two of the towers."""
    if one not in towers:
        raise NotUsable("one", one)
    if other not in towers or other == one:
        raise NotUsable("other", other)


def refuse_gains(towers, gains):
    """Raises NotUsable for what is no tuple with an integer for each of the towers."""
    if not are_integers(gains, len(towers)):
        raise NotUsable("gains", -1)


def refuse_unexplained(town, run, lot):
    """Raises NotUsable for a lot that does not explain the run."""
    if not explains(town, run, lot):
        raise NotUsable("lot", -1)


def refuse_text(text):
    """Raises NotUsable for what is no string."""
    if not isinstance(text, str):
        raise NotUsable("text", -1)


def refuse_log(log):
    """Raises NotUsable for what is no log."""
    if not is_log(log):
        raise NotUsable("log", -1)
