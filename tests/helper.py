"""What the tests share: how calls are written down, and the document's words as a slow model."""

import functools
import itertools

from peakchoice.mechanism import answers

LARGEST = 4294967295
PARETO = [4]
PEAKS = [5]
BORDA = [6]
CLOSE = [7]
MONOTONICITY = [9]
VETO = [10]
IMPLEMENTS = [16]
DESCRIBE = [17]


def create(alternative_count):
    return [0, alternative_count]


def add(agent, ranking):
    return [1, agent, len(ranking), *ranking]


def full(agent):
    return [2, agent]


def put(alternatives, profile):
    return [3, alternatives, len(profile), *profile]


def ask(profile):
    return [8, len(profile), *profile]


def index_of(profile):
    return [11, len(profile), *profile]


def outcome_of(messages):
    return [12, len(messages), *messages]


def attain(agent, messages):
    return [13, agent, len(messages), *messages]


def is_stable(profile_index, messages):
    return [14, profile_index, len(messages), *messages]


def outcomes_in(profile):
    return [15, len(profile), *profile]


def joined(calls):
    return [number for call in calls for number in call]


def run(calls):
    """The answer of each call, with the counts that stand ahead of them taken off."""
    given = answers(joined(calls))
    split = []
    position = 0
    while position < len(given):
        assert given[position] >= 1, given
        end = position + 1 + given[position]
        split.append(given[position + 1:end])
        position = end
    assert position == len(given), given
    assert len(split) == len(calls), (calls, given)
    return split


def run_many(ahead, questions):
    """The answers of the questions, each list of calls begun by the calls ahead; in several lists, as one list
    has at most 400 calls and 5200 numbers."""
    room = min(400 - len(ahead), (5200 - len(joined(ahead))) // max(len(call) for call in questions))
    assert room > 0, len(ahead)
    given = []
    for start in range(0, len(questions), room):
        given += run(ahead + questions[start:start + room])[len(ahead):]
    return given


def run_last(calls):
    """The number that the last call is answered by alone."""
    answer = run(calls)[-1]
    assert len(answer) == 1, answer
    return answer[0]


def run_model(calls):
    model = Model()
    return [model.answer(call) for call in calls]


def instance_calls(alternative_count, domains):
    """The calls that make an instance with these domains."""
    calls = [create(alternative_count)]
    for agent, domain in enumerate(domains):
        calls += [add(agent, ranking) for ranking in domain]
    return calls


def profiles_of(domains):
    return [list(profile) for profile in itertools.product(*[range(len(domain)) for domain in domains])]


def ask_all(domains):
    return [ask(profile) for profile in profiles_of(domains)]


def masks_after(alternative_count, domains, calls):
    """The mask of every profile, in order, after these calls on an instance with these domains."""
    ahead = instance_calls(alternative_count, domains) + calls
    return [answer[0] for answer in run_many(ahead, ask_all(domains))]


def set_calls(alternative_count, domains, masks):
    """The calls that make an instance with these domains and, profile by profile, these masks."""
    sets = [put(mask, profile) for mask, profile in zip(masks, profiles_of(domains), strict=True)]
    return instance_calls(alternative_count, domains) + sets


def as_dict(domains, masks):
    """The correspondence as the words below take it: from profiles to masks."""
    return dict(zip([tuple(profile) for profile in profiles_of(domains)], masks, strict=True))


def every_correspondence(alternative_count, domains):
    return list(itertools.product(range(2 ** alternative_count), repeat=len(profiles_of(domains))))


def prefers(ranking, x, y):
    return ranking.index(x) < ranking.index(y)


@functools.lru_cache(maxsize=None)
def agent_keeps(x, old, new):
    """Every alternative that isn't preferred to x by the old ranking isn't by the new one either."""
    return all(not prefers(new, y, x) for y in old if not prefers(old, y, x))


def not_lowered(x, old_rankings, new_rankings):
    return all(agent_keeps(x, tuple(old), tuple(new)) for old, new in zip(old_rankings, new_rankings))


def rankings_in(domains, profile):
    return [domain[k] for domain, k in zip(domains, profile)]


def mask_of(alternatives):
    return sum(2 ** x for x in set(alternatives))


def members(mask):
    return [x for x in range(mask.bit_length()) if mask >> x & 1]


def word_pareto(count, rankings):
    return mask_of(x for x in range(count) if not any(
        all(prefers(ranking, y, x) for ranking in rankings) for y in range(count)))


def word_peaks(count, rankings):
    return mask_of(x for x in range(count) if any(ranking[0] == x for ranking in rankings))


def word_borda(count, rankings):
    scores = [sum(count - 1 - ranking.index(x) for ranking in rankings) for x in range(count)]
    return mask_of(x for x in range(count) if not any(score > scores[x] for score in scores))


def word_closure(domains, masks):
    """The monotonic closure by its definition; masks: a dict from profiles to masks."""
    closed = {}
    for q in masks:
        new = rankings_in(domains, q)
        closed[q] = mask_of(x for p, mask in masks.items() for x in members(mask)
                            if not_lowered(x, rankings_in(domains, p), new))
    return closed


def monotonicity_violations(domains, masks):
    """Each one as (p, x, q), so that the first one in the document's order is the least."""
    return [(p, x, q) for p in masks for q in masks for x in members(masks[p])
            if not masks[q] >> x & 1 and not_lowered(x, rankings_in(domains, p), rankings_in(domains, q))]


def veto_violations(count, domains, masks):
    """Each one as (profile, x)."""
    return [(p, x) for p in masks for x in range(count)
            if [ranking[0] for ranking in rankings_in(domains, p)].count(x) >= 2 and not masks[p] >> x & 1]


def word_monotonicity(domains, masks):
    """What monotonicity_violation answers."""
    found = monotonicity_violations(domains, masks)
    if not found:
        return [0]
    p, x, q = min(found)
    return [1, x, *p, *q]


def word_veto(count, domains, masks):
    """What veto_violation answers."""
    found = veto_violations(count, domains, masks)
    if not found:
        return [0]
    p, x = min(found)
    return [1, x, *p]


def own_ranking(domains, masks, agent, index):
    """The agent's preference in the profile with this index."""
    return domains[agent][list(masks)[index][agent]]


def word_agree(masks, first, second):
    """Messages are tuples (profile index, alternative, number)."""
    return first[:2] == second[:2] and bool(list(masks.values())[first[0]] >> first[1] & 1)


def word_outcome(domains, masks, messages):
    """The alternative and the rule."""
    pairs = [pair for pair in ((0, 1), (0, 2), (1, 2)) if word_agree(masks, *[messages[k] for k in pair])]
    if len(pairs) == 3:
        return messages[0][1], 1
    if pairs:
        p, x = messages[pairs[0][0]][:2]
        i = 3 - sum(pairs[0])
        y = messages[i][1]
        return (x if prefers(own_ranking(domains, masks, i, p), y, x) else y), 2
    highest = max(message[2] for message in messages)
    return [message[1] for message in messages if message[2] == highest][0], 3


def word_attainable(count, domains, masks, agent, messages):
    """The alternatives by the document's rule."""
    first, second = [message for k, message in enumerate(messages) if k != agent]
    if not word_agree(masks, first, second):
        return list(range(count))
    own = own_ranking(domains, masks, agent, first[0])
    return [y for y in range(count) if not prefers(own, y, first[1])]


def tried_attainable(count, domains, masks, agent, messages):
    """The alternatives by trying every message, with a number above all others and with one below or level."""
    above = max(message[2] for message in messages) + 1
    found = set()
    for message in itertools.product(range(len(masks)), range(count), (0, above)):
        tried = list(messages)
        tried[agent] = message
        found.add(word_outcome(domains, masks, tried)[0])
    return sorted(found)


def is_content(ranking, outcome, choices):
    """Whether none of the choices is preferred to the outcome."""
    return not any(prefers(ranking, y, outcome) for y in choices)


def word_equilibrium(count, domains, masks, profile, messages):
    outcome = word_outcome(domains, masks, messages)[0]
    return all(is_content(ranking, outcome, word_attainable(count, domains, masks, agent, messages))
               for agent, ranking in enumerate(rankings_in(domains, profile)))


def word_outcomes(count, domains, masks, t):
    """The mask of the equilibrium outcomes for t by the document's three conditions."""
    true = rankings_in(domains, t)
    named = [(r, x) for r in masks for x in members(masks[r])]
    peaks = [ranking[0] for ranking in true]
    found = [x for r, x in named if not_lowered(x, rankings_in(domains, r), true)]
    found += [z for z in range(count) if peaks == [z, z, z]]
    for i in range(3):
        z, other = [peak for k, peak in enumerate(peaks) if k != i]
        if z == other and any(is_held(domains[i][r[i]], true[i], x, z) for r, x in named):
            found.append(z)
    return mask_of(found)


def is_held(named_ranking, true_ranking, x, z):
    """The third condition's words on r and x."""
    lower = [y for y in named_ranking if not prefers(named_ranking, y, x)]
    return z in lower and is_content(true_ranking, z, lower)


def word_implements(count, domains, masks):
    """What implements answers."""
    for t in masks:
        if word_outcomes(count, domains, masks, t) != masks[t]:
            return [0, *t]
    return [1]


class Model:
    """Answers every call by the document's words, one after another, without regard to speed."""

    def __init__(self):
        self.count = None
        self.domains = None
        self.masks = None

    def answer(self, call):
        operation = call[0]
        if operation == 0:
            return [self.create(call[1])]
        if self.count is None:
            return [-11]
        if operation == 1:
            return [self.add_preference(call[1], call[3:])]
        if operation == 2:
            return [self.set_full_domain(call[1])]
        if operation == 17:
            return [self.count, *[len(domain) for domain in self.domains]]
        if [] in self.domains:
            return [-16]
        if operation > 8:
            return self.question(operation, call[1:])
        if operation == 3:
            return [self.set_acceptable(call[1], tuple(call[3:]))]
        if operation == 7:
            return [self.close()]
        if operation == 8:
            return [self.masks.get(tuple(call[2:]), -22)]
        words = {4: word_pareto, 5: word_peaks, 6: word_borda}[operation]
        for p in self.masks:
            self.masks[p] = words(self.count, rankings_in(self.domains, p))
        return [0]

    def question(self, operation, given):
        if operation == 9:
            return word_monotonicity(self.domains, self.masks)
        if operation == 10:
            return word_veto(self.count, self.domains, self.masks)
        if operation == 16:
            return word_implements(self.count, self.domains, self.masks)
        if operation in (11, 15):
            profile = tuple(given[1:])
            if profile not in self.masks:
                return [-22]
            if operation == 11:
                return [list(self.masks).index(profile), len(self.masks)]
            return [word_outcomes(self.count, self.domains, self.masks, profile)]
        return self.question_on_messages(operation, given)

    def question_on_messages(self, operation, given):
        if operation == 13 and given[0] > 2 or operation == 14 and given[0] >= len(self.masks):
            return [-2]
        row = given[1:] if operation == 12 else given[2:]
        messages = [tuple(row[k:k + 3]) for k in range(0, len(row), 3)]
        if len(row) != 9 or any(message[0] >= len(self.masks) or message[1] >= self.count or message[2] > 1000
                                for message in messages):
            return [-22]
        if operation == 12:
            return list(word_outcome(self.domains, self.masks, messages))
        if operation == 13:
            return [mask_of(word_attainable(self.count, self.domains, self.masks, given[0], messages))]
        profile = list(self.masks)[given[0]]
        return [int(word_equilibrium(self.count, self.domains, self.masks, profile, messages))]

    def forget(self):
        self.masks = {tuple(p): 0 for p in profiles_of(self.domains)}

    def create(self, alternative_count):
        if alternative_count not in (2, 3, 4):
            return -22
        self.count = alternative_count
        self.domains = [[], [], []]
        self.forget()
        return 0

    def add_preference(self, agent, ranking):
        if agent not in (0, 1, 2):
            return -2
        if len(ranking) != self.count or set(ranking) != set(range(self.count)):
            return -22
        if ranking in self.domains[agent]:
            return -17
        if len(self.domains[agent]) >= 6:
            return -28
        self.domains[agent].append(ranking)
        self.forget()
        return len(self.domains[agent]) - 1

    def set_full_domain(self, agent):
        if agent not in (0, 1, 2):
            return -2
        if self.count == 4:
            return -28
        self.domains[agent] = [list(ranking) for ranking in itertools.permutations(range(self.count))]
        self.forget()
        return len(self.domains[agent])

    def set_acceptable(self, alternatives, profile):
        if alternatives > 2 ** self.count - 1 or profile not in self.masks:
            return -22
        previous = self.masks[profile]
        self.masks[profile] = alternatives
        return previous

    def close(self):
        closed = word_closure(self.domains, self.masks)
        changed = int(closed != self.masks)
        self.masks = closed
        return changed
