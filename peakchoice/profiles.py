"""Profiles: for each agent the index of a preference in its domain."""


def profile_count(domains):
    """The number of profiles; 0 while a domain is empty."""
    count = 1
    for domain in domains:
        count = count * len(domain)
    return count


def is_profile(domains, numbers):
    """Whether the list names one preference of each domain."""
    if len(numbers) != len(domains):
        return False
    return all([k < len(domain) for k, domain in zip(numbers, domains)])


def profile_position(domains, profile):
    """The profile index: the position in the lexicographic order of all profiles."""
    position = 0
    for k, domain in zip(profile, domains):
        position = position * len(domain) + k
    return position


def ranking_triples(domains):
    """The three rankings of each profile, in the order of the profiles."""
    triples = []
    for first in domains[0]:
        for second in domains[1]:
            for third in domains[2]:
                triples.append([first, second, third])
    return triples
