"""The canonical mechanism: its outcome, what an agent can attain, and whether messages are an equilibrium."""

from peakchoice.bitsets import full_mask, is_member
from peakchoice.messages import other_messages, others_agree
from peakchoice.profiles import profile_at
from peakchoice.rankings import not_preferred_masks, preferred_masks


def outcome_and_rule(instance, messages):
    """The outcome's alternative, and the number of the rule that determines it."""
    thirds = [agent for agent in range(len(messages)) if others_agree(instance.masks, messages, agent)]
    # Where two pairs agree, the third pair does too: so there are none, one or three.
    if len(thirds) == len(messages):
        return [messages[0].alternative, 1]
    if len(thirds) == 1:
        return [outcome_against_two(instance, messages, thirds[0]), 2]
    return [loudest(messages).alternative, 3]


def outcome_against_two(instance, messages, third):
    """The outcome where the two other agents agree and the third one doesn't join them."""
    wanted = messages[third].alternative
    if is_member(attainable_mask(instance, messages, third), wanted):
        return wanted
    return other_messages(messages, third)[0].alternative


def loudest(messages):
    """The message with the highest number; the lowest agent's, if there are several."""
    found = messages[0]
    for message in messages:
        if message.number > found.number:
            found = message
    return found


def attainable_mask(instance, messages, agent):
    """The alternatives that the agent can attain, given the messages of the others."""
    if not others_agree(instance.masks, messages, agent):
        return full_mask(instance.alternative_count)
    agreed = other_messages(messages, agent)[0]
    ranking = ranking_of(instance.domains, agent, agreed.position)
    return not_preferred_masks(ranking)[agreed.alternative]


def ranking_of(domains, agent, position):
    """The agent's ranking in the profile with this index."""
    return domains[agent][profile_at(domains, position)[agent]]


def nobody_deviates(instance, position, messages):
    """Whether the messages are an equilibrium for the profile with this index."""
    result = outcome_and_rule(instance, messages)[0]
    for agent in range(len(messages)):
        better = preferred_masks(ranking_of(instance.domains, agent, position))[result]
        if attainable_mask(instance, messages, agent) & better != 0:
            return False
    return True
