"""What the calls that may change the state do; each gives back the list of the numbers that it is answered by."""

from peakchoice.codes import INVALID, KNOWN_ALREADY, LIMIT_REACHED, NOT_THERE
from peakchoice.correspondences import borda_masks, pareto_masks, peak_masks
from peakchoice.instance import Instance, replace_domain
from peakchoice.monotonicity import closed_masks
from peakchoice.profiles import is_profile, profile_position
from peakchoice.rankings import all_rankings, is_ranking

FEWEST_ALTERNATIVES = 2
MOST_ALTERNATIVES = 4
MOST_PREFERENCES = 6
# With more alternatives than these, all rankings are more than a domain may hold.
MOST_FOR_FULL_DOMAIN = 3


def create(session, alternative_count):
    if alternative_count < FEWEST_ALTERNATIVES or alternative_count > MOST_ALTERNATIVES:
        return [INVALID]
    session.instance = Instance(alternative_count)
    return [0]


def add_preference(instance, agent, ranking):
    if agent >= len(instance.domains):
        return [NOT_THERE]
    if not is_ranking(ranking, instance.alternative_count):
        return [INVALID]
    domain = instance.domains[agent]
    if ranking in domain:
        return [KNOWN_ALREADY]
    if len(domain) == MOST_PREFERENCES:
        return [LIMIT_REACHED]
    replace_domain(instance, agent, domain + [ranking])
    return [len(domain)]


def set_full_domain(instance, agent):
    if agent >= len(instance.domains):
        return [NOT_THERE]
    if instance.alternative_count > MOST_FOR_FULL_DOMAIN:
        return [LIMIT_REACHED]
    rankings = all_rankings(instance.alternative_count)
    replace_domain(instance, agent, rankings)
    return [len(rankings)]


def set_acceptable(instance, alternatives, profile):
    if alternatives >= 1 << instance.alternative_count:
        return [INVALID]
    if not is_profile(instance.domains, profile):
        return [INVALID]
    position = profile_position(instance.domains, profile)
    previous = instance.masks[position]
    instance.masks[position] = alternatives
    return [previous]


def use_pareto(instance):
    instance.masks = pareto_masks(instance.domains)
    return [0]


def use_peaks(instance):
    instance.masks = peak_masks(instance.domains)
    return [0]


def use_borda_winners(instance):
    instance.masks = borda_masks(instance.domains)
    return [0]


def close_monotonically(instance):
    closed = closed_masks(instance.domains, instance.masks)
    changed = 1 if closed != instance.masks else 0
    instance.masks = closed
    return [changed]
