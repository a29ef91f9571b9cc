"""Correspondences: for each profile, in order, the mask of its acceptable alternatives."""

from peakchoice.profiles import ranking_triples
from peakchoice.rankings import kept_mask, preferred_masks


def pareto_masks(domains):
    """The Pareto correspondence."""
    return [pareto_mask(triple) for triple in ranking_triples(domains)]


def pareto_mask(triple):
    """The alternatives to which no alternative is preferred by all three agents."""
    first = preferred_masks(triple[0])
    second = preferred_masks(triple[1])
    third = preferred_masks(triple[2])
    mask = 0
    for x in range(len(first)):
        if first[x] & second[x] & third[x] == 0:
            mask = mask | (1 << x)
    return mask


def peak_masks(domains):
    """The correspondence of all peaks."""
    return [peak_mask(triple) for triple in ranking_triples(domains)]


def peak_mask(triple):
    """The alternatives that are the peak of at least one agent."""
    mask = 0
    for ranking in triple:
        mask = mask | (1 << ranking[0])
    return mask


def borda_masks(domains):
    """The correspondence of the Borda winners."""
    return [borda_mask(triple) for triple in ranking_triples(domains)]


def borda_mask(triple):
    """The alternatives with the highest Borda score."""
    scores = borda_scores(triple)
    highest = max(scores)
    mask = 0
    for x in range(len(scores)):
        if scores[x] == highest:
            mask = mask | (1 << x)
    return mask


def borda_scores(triple):
    """For each alternative its points from all three agents."""
    scores = [0] * len(triple[0])
    for ranking in triple:
        points = len(ranking)
        for x in ranking:
            points -= 1
            scores[x] += points
    return scores


def closed_masks(domains, masks):
    """The monotonic closure of the correspondence."""
    # Not lowered is asked of each agent by itself, so one agent's preference can be
    # changed after another's, which takes far fewer steps than all pairs of profiles.
    step = len(masks)
    closed = masks
    for domain in domains:
        step = step // len(domain)
        closed = closed_for_agent(closed, domain, step)
    return closed


def closed_for_agent(masks, domain, step):
    """The closure where this agent's preference alone changes; its next one is step profiles further."""
    kept = kept_table(domain)
    closed = []
    for position in range(len(masks)):
        new = position // step % len(domain)
        start = position - new * step
        mask = 0
        for old in range(len(domain)):
            mask = mask | (masks[start + old * step] & kept[old][new])
        closed.append(mask)
    return closed


def kept_table(domain):
    """For each old and each new preference the mask of the alternatives that aren't lowered."""
    table = []
    for old_ranking in domain:
        table.append([kept_mask(old_ranking, new_ranking) for new_ranking in domain])
    return table
