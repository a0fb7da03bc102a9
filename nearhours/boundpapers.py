"""Papers by which nearness has no bound."""

from nearhours.parting import three_lots, two_lots


def unbound_paper(town, fears):
    """A paper that lets_unbound accepts, None if nearness has a bound."""
    three = three_lots(town, fears)
    if three is not None:
        return "three", three
    two = two_lots(town, fears)
    return None if two is None else ("two", *two)
