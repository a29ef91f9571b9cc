"""Messages: each agent names a profile by its index, an alternative and a number."""

from peakchoice.bitsets import is_member

FIELDS = 3
HIGHEST_NUMBER = 1000


class Message:
    """One agent's message; position is the profile index."""

    def __init__(self, position, alternative, number):
        self.position = position
        self.alternative = alternative
        self.number = number


def are_messages(instance, row):
    """Whether the row is one valid message for each agent."""
    if len(row) != FIELDS * len(instance.domains):
        return False
    return all([is_message(instance, message) for message in read_messages(row)])


def is_message(instance, message):
    """Whether the profile and the alternative exist and the number is in its range."""
    if message.position >= len(instance.masks):
        return False
    return message.alternative < instance.alternative_count and message.number <= HIGHEST_NUMBER


def read_messages(row):
    """The messages of the row, agent by agent."""
    return [Message(row[k], row[k + 1], row[k + 2]) for k in range(0, len(row), FIELDS)]


def agree(masks, first, second):
    """Whether two messages agree; their numbers don't matter."""
    if first.position != second.position or first.alternative != second.alternative:
        return False
    return is_member(masks[first.position], first.alternative)


def others_agree(masks, messages, agent):
    """Whether the messages of the two other agents agree."""
    others = other_messages(messages, agent)
    return agree(masks, others[0], others[1])


def other_messages(messages, agent):
    """The messages of the two other agents."""
    return [message for k, message in enumerate(messages) if k != agent]
