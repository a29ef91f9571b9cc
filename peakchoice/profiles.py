"""Profiles: for each agent the index of a preference in its domain."""


def profile_count(domains):
    """The number of profiles; 0 while a domain is empty."""
    count = 1
    for domain in domains:
        count = count * len(domain)
    return count


def is_profile(domains, numbers):
    """Whether the list names one preference of each domain."""
    if len(numbers) != len(domains):
        return False
    return all([k < len(domain) for k, domain in zip(numbers, domains)])


def profile_position(domains, profile):
    """The profile index: the position in the lexicographic order of all profiles."""
    position = 0
    for k, domain in zip(profile, domains):
        position = position * len(domain) + k
    return position


def profile_at(domains, position):
    """The profile with this profile index."""
    profile = []
    rest = position
    for domain in reversed(domains):
        profile.insert(0, rest % len(domain))
        rest = rest // len(domain)
    return profile


def all_profiles(domains):
    """Every profile, in lexicographic order."""
    profiles = []
    for first in range(len(domains[0])):
        for second in range(len(domains[1])):
            for third in range(len(domains[2])):
                profiles.append([first, second, third])
    return profiles


def rankings_in(domains, profile):
    """The three rankings of the profile."""
    return [domain[k] for domain, k in zip(domains, profile)]


def ranking_triples(domains):
    """The three rankings of each profile, in the order of the profiles."""
    return [rankings_in(domains, profile) for profile in all_profiles(domains)]
