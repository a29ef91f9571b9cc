"""What the tests share: how calls are written down, and the document's words as a slow model."""

import functools
import itertools

from peakchoice.mechanism import answers

LARGEST = 4294967295
PARETO = [4]
PEAKS = [5]
BORDA = [6]
CLOSE = [7]


def create(alternative_count):
    return [0, alternative_count]


def add(agent, ranking):
    return [1, agent, len(ranking), *ranking]


def full(agent):
    return [2, agent]


def put(alternatives, profile):
    return [3, alternatives, len(profile), *profile]


def ask(profile):
    return [8, len(profile), *profile]


def joined(calls):
    return [number for call in calls for number in call]


def run(calls):
    """The answer of each call, with the counts that stand ahead of them taken off."""
    given = answers(joined(calls))
    split = []
    position = 0
    while position < len(given):
        assert given[position] >= 1, given
        end = position + 1 + given[position]
        split.append(given[position + 1:end])
        position = end
    assert position == len(given), given
    assert len(split) == len(calls), (calls, given)
    return split


def run_last(calls):
    """The number that the last call is answered by alone."""
    answer = run(calls)[-1]
    assert len(answer) == 1, answer
    return answer[0]


def run_model(calls):
    model = Model()
    return [model.answer(call) for call in calls]


def instance_calls(alternative_count, domains):
    """The calls that make an instance with these domains."""
    calls = [create(alternative_count)]
    for agent, domain in enumerate(domains):
        calls += [add(agent, ranking) for ranking in domain]
    return calls


def profiles_of(domains):
    return [list(profile) for profile in itertools.product(*[range(len(domain)) for domain in domains])]


def ask_all(domains):
    return [ask(profile) for profile in profiles_of(domains)]


def masks_after(alternative_count, domains, calls):
    """The mask of every profile, in order, after these calls on an instance with these domains; in several
    lists, as one list has at most 400 calls."""
    ahead = instance_calls(alternative_count, domains) + calls
    questions = ask_all(domains)
    room = 400 - len(ahead)
    assert room > 0, len(ahead)
    masks = []
    for start in range(0, len(questions), room):
        part = questions[start:start + room]
        masks += [answer[0] for answer in run(ahead + part)[len(ahead):]]
    return masks


def prefers(ranking, x, y):
    return ranking.index(x) < ranking.index(y)


@functools.lru_cache(maxsize=None)
def agent_keeps(x, old, new):
    """Every alternative that isn't preferred to x by the old ranking isn't by the new one either."""
    return all(not prefers(new, y, x) for y in old if not prefers(old, y, x))


def not_lowered(x, old_rankings, new_rankings):
    return all(agent_keeps(x, tuple(old), tuple(new)) for old, new in zip(old_rankings, new_rankings))


def rankings_in(domains, profile):
    return [domain[k] for domain, k in zip(domains, profile)]


def mask_of(alternatives):
    return sum(2 ** x for x in set(alternatives))


def members(mask):
    return [x for x in range(mask.bit_length()) if mask >> x & 1]


def word_pareto(count, rankings):
    return mask_of(x for x in range(count) if not any(
        all(prefers(ranking, y, x) for ranking in rankings) for y in range(count)))


def word_peaks(count, rankings):
    return mask_of(x for x in range(count) if any(ranking[0] == x for ranking in rankings))


def word_borda(count, rankings):
    scores = [sum(count - 1 - ranking.index(x) for ranking in rankings) for x in range(count)]
    return mask_of(x for x in range(count) if not any(score > scores[x] for score in scores))


def word_closure(domains, masks):
    """The monotonic closure by its definition; masks: a dict from profiles to masks."""
    closed = {}
    for q in masks:
        new = rankings_in(domains, q)
        closed[q] = mask_of(x for p, mask in masks.items() for x in members(mask)
                            if not_lowered(x, rankings_in(domains, p), new))
    return closed


def monotonicity_violations(domains, masks):
    return [(x, p, q) for p in masks for q in masks for x in members(masks[p])
            if not masks[q] >> x & 1 and not_lowered(x, rankings_in(domains, p), rankings_in(domains, q))]


def veto_violations(count, domains, masks):
    return [(x, p) for p in masks for x in range(count)
            if [ranking[0] for ranking in rankings_in(domains, p)].count(x) >= 2 and not masks[p] >> x & 1]


class Model:
    """Answers calls 0 to 8 by the document's words, one after another, without regard to speed."""

    def __init__(self):
        self.count = None
        self.domains = None
        self.masks = None

    def answer(self, call):
        operation = call[0]
        if operation == 0:
            return [self.create(call[1])]
        if self.count is None:
            return [-11]
        if operation == 1:
            return [self.add_preference(call[1], call[3:])]
        if operation == 2:
            return [self.set_full_domain(call[1])]
        if [] in self.domains:
            return [-16]
        if operation == 3:
            return [self.set_acceptable(call[1], tuple(call[3:]))]
        if operation == 7:
            return [self.close()]
        if operation == 8:
            return [self.masks.get(tuple(call[2:]), -22)]
        words = {4: word_pareto, 5: word_peaks, 6: word_borda}[operation]
        for p in self.masks:
            self.masks[p] = words(self.count, rankings_in(self.domains, p))
        return [0]

    def forget(self):
        self.masks = {tuple(p): 0 for p in profiles_of(self.domains)}

    def create(self, alternative_count):
        if alternative_count not in (2, 3, 4):
            return -22
        self.count = alternative_count
        self.domains = [[], [], []]
        self.forget()
        return 0

    def add_preference(self, agent, ranking):
        if agent not in (0, 1, 2):
            return -2
        if len(ranking) != self.count or set(ranking) != set(range(self.count)):
            return -22
        if ranking in self.domains[agent]:
            return -17
        if len(self.domains[agent]) >= 6:
            return -28
        self.domains[agent].append(ranking)
        self.forget()
        return len(self.domains[agent]) - 1

    def set_full_domain(self, agent):
        if agent not in (0, 1, 2):
            return -2
        if self.count == 4:
            return -28
        self.domains[agent] = [list(ranking) for ranking in itertools.permutations(range(self.count))]
        self.forget()
        return len(self.domains[agent])

    def set_acceptable(self, alternatives, profile):
        if alternatives > 2 ** self.count - 1 or profile not in self.masks:
            return -22
        previous = self.masks[profile]
        self.masks[profile] = alternatives
        return previous

    def close(self):
        closed = word_closure(self.domains, self.masks)
        changed = int(closed != self.masks)
        self.masks = closed
        return changed
