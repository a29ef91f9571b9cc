"""What the calls that leave the state as it is do; each gives back the list of the numbers that it is answered by."""

from peakchoice.codes import INVALID, NOT_THERE
from peakchoice.equilibria import equilibrium_masks
from peakchoice.messages import are_messages, read_messages
from peakchoice.monotonicity import first_violation
from peakchoice.outcomes import attainable_mask, nobody_deviates, outcome_and_rule
from peakchoice.profiles import is_profile, profile_at, profile_position
from peakchoice.vetoes import first_veto


def acceptable(instance, profile):
    if not is_profile(instance.domains, profile):
        return [INVALID]
    return [instance.masks[profile_position(instance.domains, profile)]]


def monotonicity_violation(instance):
    domains = instance.domains
    violation = first_violation(instance.alternative_count, domains, instance.masks)
    if violation is None:
        return [0]
    return [1, violation[0]] + profile_at(domains, violation[1]) + profile_at(domains, violation[2])


def veto_violation(instance):
    violation = first_veto(instance.domains, instance.masks)
    if violation is None:
        return [0]
    return [1, violation[0]] + profile_at(instance.domains, violation[1])


def profile_index(instance, profile):
    if not is_profile(instance.domains, profile):
        return [INVALID]
    return [profile_position(instance.domains, profile), len(instance.masks)]


def mechanism_outcome(instance, row):
    if not are_messages(instance, row):
        return [INVALID]
    return outcome_and_rule(instance, read_messages(row))


def attainable(instance, agent, row):
    if agent >= len(instance.domains):
        return [NOT_THERE]
    if not are_messages(instance, row):
        return [INVALID]
    return [attainable_mask(instance, read_messages(row), agent)]


def is_equilibrium(instance, position, row):
    if position >= len(instance.masks):
        return [NOT_THERE]
    if not are_messages(instance, row):
        return [INVALID]
    return [1 if nobody_deviates(instance, position, read_messages(row)) else 0]


def equilibrium_outcomes(instance, profile):
    if not is_profile(instance.domains, profile):
        return [INVALID]
    position = profile_position(instance.domains, profile)
    return [equilibrium_masks(instance.domains, instance.masks)[position]]


def implements(instance):
    found = equilibrium_masks(instance.domains, instance.masks)
    for position in range(len(found)):
        if found[position] != instance.masks[position]:
            return [0] + profile_at(instance.domains, position)
    return [1]


def describe(instance):
    return [instance.alternative_count] + [len(domain) for domain in instance.domains]
