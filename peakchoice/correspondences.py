"""Correspondences: for each profile, in order, the mask of its acceptable alternatives."""

from peakchoice.profiles import ranking_triples
from peakchoice.rankings import preferred_masks


def pareto_masks(domains):
    """The Pareto correspondence."""
    return [pareto_mask(triple) for triple in ranking_triples(domains)]


def pareto_mask(triple):
    """The alternatives to which no alternative is preferred by all three agents."""
    first = preferred_masks(triple[0])
    second = preferred_masks(triple[1])
    third = preferred_masks(triple[2])
    mask = 0
    for x in range(len(first)):
        if first[x] & second[x] & third[x] == 0:
            mask = mask | (1 << x)
    return mask


def peak_masks(domains):
    """The correspondence of all peaks."""
    return [peak_mask(triple) for triple in ranking_triples(domains)]


def peak_mask(triple):
    """The alternatives that are the peak of at least one agent."""
    mask = 0
    for ranking in triple:
        mask = mask | (1 << ranking[0])
    return mask


def borda_masks(domains):
    """The correspondence of the Borda winners."""
    return [borda_mask(triple) for triple in ranking_triples(domains)]


def borda_mask(triple):
    """The alternatives with the highest Borda score."""
    scores = borda_scores(triple)
    highest = max(scores)
    mask = 0
    for x in range(len(scores)):
        if scores[x] == highest:
            mask = mask | (1 << x)
    return mask


def borda_scores(triple):
    """For each alternative its points from all three agents."""
    scores = [0] * len(triple[0])
    for ranking in triple:
        points = len(ranking)
        for x in ranking:
            points -= 1
            scores[x] += points
    return scores
