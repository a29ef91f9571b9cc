"""The state that the calls of one list work on."""

from peakchoice.profiles import profile_count


class Session:
    """Holds the instance; there is none until a create has succeeded."""

    def __init__(self):
        self.instance = None


class Instance:
    """The alternatives, the domain of each agent, and the acceptable mask of each profile in order."""

    def __init__(self, alternative_count):
        self.alternative_count = alternative_count
        self.domains = [[], [], []]
        self.masks = []


def is_ready(instance):
    """Whether no domain is empty."""
    return all([len(domain) > 0 for domain in instance.domains])


def replace_domain(instance, agent, domain):
    """Gives the agent another domain."""
    instance.domains[agent] = domain
    # The masks belong to the former profiles.
    instance.masks = [0] * profile_count(instance.domains)
