"""Preferences: rankings of all alternatives, the best one first."""

from peakchoice.bitsets import full_mask, is_member


def is_ranking(numbers, alternative_count):
    """Whether each alternative stands in the list exactly once."""
    return sorted(numbers) == list(range(alternative_count))


def all_rankings(alternative_count):
    """Every ranking, in lexicographic order."""
    rankings = [[]]
    for length in range(alternative_count):
        rankings = lengthened(rankings, alternative_count)
    return rankings


def lengthened(beginnings, alternative_count):
    """Each beginning of a ranking, followed by each alternative that it lacks."""
    longer = []
    for beginning in beginnings:
        for x in range(alternative_count):
            if x not in beginning:
                longer.append(beginning + [x])
    return longer


def preferred_masks(ranking):
    """For each alternative the mask of those that are preferred to it."""
    masks = [0] * len(ranking)
    before = 0
    for x in ranking:
        masks[x] = before
        before = before | (1 << x)
    return masks


def not_preferred_masks(ranking):
    """For each alternative the mask of those that aren't preferred to it, itself among them."""
    return [full_mask(len(ranking)) - preferred for preferred in preferred_masks(ranking)]


def best_member(ranking, mask):
    """The alternative of the set that comes first in the ranking."""
    return [x for x in ranking if is_member(mask, x)][0]


def kept_mask(old_ranking, new_ranking):
    """The mask of the alternatives that one agent doesn't lower from the old ranking to the new one."""
    old_preferred = preferred_masks(old_ranking)
    new_preferred = preferred_masks(new_ranking)
    mask = 0
    for x in range(len(old_ranking)):
        # What isn't preferred to x before isn't afterwards: nothing new is preferred to x.
        if new_preferred[x] | old_preferred[x] == old_preferred[x]:
            mask = mask | (1 << x)
    return mask
