"""No veto power: the first veto violation."""

from peakchoice.bitsets import members
from peakchoice.profiles import ranking_triples


def first_veto(domains, masks):
    """The first veto violation: the alternative and the position of the profile; None if there is none."""
    for position, triple in enumerate(ranking_triples(domains)):
        violating = shared_peak_mask(triple) & ~masks[position]
        if violating != 0:
            return [members(violating)[0], position]
    return None


def shared_peak_mask(triple):
    """The alternatives that are the peak of at least two agents."""
    first = 1 << triple[0][0]
    second = 1 << triple[1][0]
    third = 1 << triple[2][0]
    return first & second | first & third | second & third
