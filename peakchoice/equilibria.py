"""The equilibrium outcomes of the mechanism for each profile, by the document's three conditions."""

from peakchoice.bitsets import members
from peakchoice.monotonicity import closed_masks
from peakchoice.profiles import all_profiles
from peakchoice.rankings import best_member, not_preferred_masks


def equilibrium_masks(domains, masks):
    """For each profile, in order, the mask of its equilibrium outcomes."""
    # The first condition is that of the monotonic closure.
    closed = closed_masks(domains, masks)
    held = [held_masks(domains, masks, agent) for agent in range(len(domains))]
    found = []
    for profile, mask in zip(all_profiles(domains), closed):
        peaks = [1 << domain[k][0] for domain, k in zip(domains, profile)]
        own_held = [table[k] for table, k in zip(held, profile)]
        found.append(mask | outcomes_by_peaks(peaks, own_held))
    return found


def outcomes_by_peaks(peaks, held):
    """What the second and the third condition add: peaks of all three, and of two where the third is held there."""
    shared_by_all = peaks[0] & peaks[1] & peaks[2]
    against_first = peaks[1] & peaks[2] & held[0]
    against_second = peaks[0] & peaks[2] & held[1]
    against_third = peaks[0] & peaks[1] & held[2]
    return shared_by_all | against_first | against_second | against_third


def held_masks(domains, masks, agent):
    """For each true preference of the agent the alternatives that it is content with against two that agree."""
    left = sets_left(domains, masks, agent)
    return [best_members(ranking, left) for ranking in domains[agent]]


def best_members(ranking, left):
    """The mask of the best alternative of each set."""
    mask = 0
    for choice in left:
        mask = mask | (1 << best_member(ranking, choice))
    return mask


def sets_left(domains, masks, agent):
    """The sets of alternatives, each once, that two others who agree can leave the agent to choose from."""
    found = {}
    for ranking, named in zip(domains[agent], named_masks(domains, masks, agent)):
        not_preferred = not_preferred_masks(ranking)
        for x in members(named):
            found[not_preferred[x]] = True
    return list(found)


def named_masks(domains, masks, agent):
    """For each preference of the agent what is acceptable in some profile in which it has this preference."""
    named = [0] * len(domains[agent])
    for profile, mask in zip(all_profiles(domains), masks):
        named[profile[agent]] = named[profile[agent]] | mask
    return named
