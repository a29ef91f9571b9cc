"""equilibrium_outcomes and implements; the requirements 1, 2, 3 and 6."""

import itertools
import random
import unittest

from helper import (BORDA, CLOSE, IMPLEMENTS, LARGEST, MONOTONICITY, PARETO, PEAKS, VETO, add, as_dict, create,
                    every_correspondence, full, instance_calls, is_content, is_stable, mask_of, masks_after,
                    outcome_of, outcomes_in, profiles_of, put, rankings_in, run, run_last, run_many, set_calls,
                    tried_attainable, word_attainable, word_implements, word_outcome, word_outcomes)

TWO = [[0, 1], [1, 0]]
THREE = [list(ranking) for ranking in itertools.permutations(range(3))]
FOUR = [list(ranking) for ranking in itertools.permutations(range(4))]
# The third condition alone adds an outcome for many correspondences over these.
HELD = [[[2, 0, 1], [2, 1, 0]], [[1, 0, 2]], [[1, 0, 2]]]
# Small enough to go through all messages for many correspondences.
SMALL = [
    (2, [TWO[:1]] * 3), (2, [TWO[1:], TWO[:1], TWO[:1]]), (2, [TWO, TWO[:1], TWO[1:]]), (2, [TWO[1:], TWO[1:], TWO]),
    (2, [TWO, TWO[:1], TWO]), (3, [THREE[:1], THREE[2:3], THREE[4:5]]), (3, [THREE[3:4]] * 3), (3, HELD),
    (3, [HELD[1], HELD[0], HELD[1]]), (3, [HELD[1], HELD[1], HELD[0]]), (3, [THREE[:2], THREE[:1], THREE[3:4]]),
    (3, [THREE[5:], THREE[5:], [THREE[0], THREE[4]]]),
]
# Small enough for every correspondence.
MEDIUM = [
    (2, [TWO, TWO, TWO[:1]]), (3, [HELD[0] + [[0, 1, 2]], HELD[1], HELD[1]]), (3, [THREE[:1], THREE[1:4], THREE[5:]]),
    (3, [THREE[2:3], THREE[3:4], THREE[::2]]), (4, [[[0, 1, 2, 3]], [[3, 2, 1, 0], [0, 3, 1, 2]], [[0, 2, 1, 3]]]),
]
LARGER = [
    (2, [TWO, TWO, TWO]), (3, [THREE[:2], THREE[2:4], THREE[4:]]), (3, [THREE[:3], THREE[::2], THREE[5:]]),
    (3, [THREE[::-1], THREE[:1], THREE[1:3]]), (4, [FOUR[::9], FOUR[5:7], FOUR[3:9]]),
    (4, [FOUR[:2], FOUR[::5], FOUR[22:]]), (4, [FOUR[9:11], FOUR[6:8], FOUR[7:9]]),
]
LARGEST_DOMAINS = [
    (3, [THREE] * 3), (4, [FOUR[:6], FOUR[6:12], FOUR[12:18]]), (4, [FOUR[::4], FOUR[1::4], FOUR[3::4]]),
]
# Each of the three agents may have the highest number.
NUMBERS = ((1, 0, 0), (0, 1, 0), (0, 0, 1))


def tried_outcomes(count, domains, masks):
    """For each profile, in order, the mask of the outcomes of all equilibria, found by going through all messages
    and, for what an agent can attain, through all its other messages."""
    single = list(itertools.product(range(len(masks)), range(count)))
    attained = {}
    found = set()
    for numbers in NUMBERS:
        for chosen in itertools.product(single, repeat=3):
            messages = [(*pair, number) for pair, number in zip(chosen, numbers)]
            choices = []
            for agent in range(3):
                others = (agent, *[message for k, message in enumerate(messages) if k != agent])
                if others not in attained:
                    # With one profile the document has the rule used instead.
                    search = tried_attainable if len(masks) > 1 else word_attainable
                    attained[others] = tuple(search(count, domains, masks, agent, messages))
                choices.append(attained[others])
            found.add((word_outcome(domains, masks, messages)[0], *choices))
    return [mask_of(outcome for outcome, *choices in found
                    if all(map(is_content, rankings_in(domains, t), [outcome] * 3, choices))) for t in masks]


def outcome_calls(domains):
    return [outcomes_in(profile) for profile in profiles_of(domains)]


def some_masks(draw, count, domains):
    share = draw.choice((0.1, 0.4, 0.8))
    return [sum(2 ** x for x in range(count) if draw.random() < share) for p in profiles_of(domains)]


class TestAgainstAllEquilibria(unittest.TestCase):
    """Requirement 3."""

    def check(self, count, domains, masks):
        words = as_dict(domains, masks)
        tried = tried_outcomes(count, domains, words)
        self.assertEqual(tried, [word_outcomes(count, domains, words, t) for t in words])
        given = run(set_calls(count, domains, masks) + outcome_calls(domains) + [IMPLEMENTS])
        self.assertEqual(given[-len(masks) - 1:-1], [[mask] for mask in tried], (domains, masks))
        wrong = [t for t, mask in zip(words, tried) if mask != words[t]]
        self.assertEqual(given[-1], [0, *wrong[0]] if wrong else [1], (domains, masks))

    def test_correspondences_of_small_instances(self):
        for count, domains in SMALL:
            every = every_correspondence(count, domains)
            # To go through all messages takes long, so some have only every third one.
            step = 1 if len(every) <= 16 or domains == HELD else 3
            for masks in every[::step]:
                self.check(count, domains, masks)

    def test_some_correspondences_of_further_instances(self):
        draw = random.Random(15)
        for count, domains in MEDIUM + [(2, [TWO] * 3), (3, [THREE[:2], THREE[2:4], THREE[4:5]])]:
            for k in range(4):
                self.check(count, domains, some_masks(draw, count, domains))

    def test_the_program_s_own_equilibria(self):
        """All messages, with the outcome and the equilibria that the program itself tells."""
        for count, domains, masks in ((2, [TWO, TWO[:1], TWO[1:]], [1, 2]), (2, [TWO[1:], TWO, TWO[1:]], [3, 0]),
                                      (3, HELD, [1, 0]), (3, HELD, [5, 3]), (3, [HELD[1], HELD[0], HELD[1]], [1, 0])):
            ahead = set_calls(count, domains, masks)
            single = list(itertools.product(range(len(masks)), range(count)))
            rows = [[number for pair, own in zip(chosen, numbers) for number in (*pair, own)]
                    for chosen in itertools.product(single, repeat=3) for numbers in NUMBERS]
            results = [answer[0] for answer in run_many(ahead, [outcome_of(row) for row in rows])]
            for position, profile in enumerate(profiles_of(domains)):
                stable = run_many(ahead, [is_stable(position, row) for row in rows])
                found = mask_of(result for result, answer in zip(results, stable) if answer == [1])
                self.assertEqual(run_last(ahead + [outcomes_in(profile)]), found)


class TestByTheConditions(unittest.TestCase):
    def check(self, count, domains, masks):
        words = as_dict(domains, masks)
        given = run(set_calls(count, domains, masks) + outcome_calls(domains) + [IMPLEMENTS])[-len(masks) - 1:]
        expected = [[word_outcomes(count, domains, words, t)] for t in words]
        self.assertEqual(given, expected + [word_implements(count, domains, words)], (domains, masks))

    def test_every_correspondence(self):
        for count, domains in MEDIUM:
            for masks in every_correspondence(count, domains):
                self.check(count, domains, masks)

    def test_larger_instances(self):
        draw = random.Random(16)
        for count, domains in LARGER:
            for k in range(25):
                self.check(count, domains, some_masks(draw, count, domains))

    def test_largest_instances(self):
        for count, domains in LARGEST_DOMAINS:
            profiles = profiles_of(domains)
            for calls in ([], [PARETO], [PEAKS], [BORDA], [BORDA, CLOSE], [put(2 ** count - 1, [1, 2, 3])],
                          [put(2, [5, 5, 5]), put(4, [0, 3, 1])], [PARETO, put(0, [5, 5, 5])]):
                words = as_dict(domains, masks_after(count, domains, calls))
                ahead = instance_calls(count, domains) + calls
                given = run_many(ahead, [outcomes_in(profile) for profile in profiles[::17]])
                expected = [[word_outcomes(count, domains, words, tuple(profile))] for profile in profiles[::17]]
                self.assertEqual(given, expected)
                self.assertEqual(run(ahead + [IMPLEMENTS])[-1], word_implements(count, domains, words))


class TestByHand(unittest.TestCase):
    def outcomes(self, count, domains, masks):
        calls = set_calls(count, domains, masks) + outcome_calls(domains)
        return [answer[0] for answer in run(calls)[-len(masks):]]

    def implements(self, count, domains, masks):
        return run(set_calls(count, domains, masks) + [IMPLEMENTS])[-1]

    def test_the_third_condition(self):
        # With the first profile's 0, agents 1 and 2 leave agent 0 to choose from 0 and 1; in the second it takes 1.
        for agent in range(3):
            domains = [HELD[0] if k == agent else HELD[1] for k in range(3)]
            second = [1 if k == agent else 0 for k in range(3)]
            self.assertEqual(self.outcomes(3, domains, [1, 0]), [1, 2])
            self.assertEqual(self.implements(3, domains, [1, 0]), [0, *second])
            self.assertEqual(self.outcomes(3, domains, [1, 1]), [1, 3])
            self.assertEqual(self.implements(3, domains, [1, 1]), [0, *second])

    def test_no_veto_power_is_not_needed(self):
        for agent in range(3):
            domains = [HELD[0] if k == agent else HELD[1] for k in range(3)]
            calls = set_calls(3, domains, [1, 2]) + [MONOTONICITY, VETO, IMPLEMENTS]
            self.assertEqual(run(calls)[-3:], [[0], [1, 1, 0, 0, 0], [1]])

    def test_a_peak_of_two_alone_is_no_outcome(self):
        self.assertEqual(self.outcomes(3, [[[2, 0, 1]], [[1, 0, 2]], [[1, 0, 2]]], [0]), [0])
        self.assertEqual(self.outcomes(3, [[[2, 0, 1]], [[1, 0, 2]], [[1, 0, 2]]], [1]), [1])

    def test_nothing_acceptable(self):
        # Only what is everybody's peak is an outcome.
        self.assertEqual(self.outcomes(2, [TWO, TWO, TWO], [0] * 8), [1, 0, 0, 0, 0, 0, 0, 2])
        self.assertEqual(self.implements(2, [TWO, TWO, TWO], [0] * 8), [0, 0, 0, 0])
        self.assertEqual(self.implements(2, [TWO, TWO, TWO[1:]], [0] * 4), [0, 1, 1, 0])
        self.assertEqual(self.implements(2, [TWO[:1], TWO, TWO[1:]], [0] * 2), [1])
        self.assertEqual(self.outcomes(3, [THREE[2:4], THREE[2:3], THREE[3:4]], [0, 0]), [2, 2])

    def test_everything_acceptable(self):
        for count, domains in SMALL + MEDIUM + LARGER:
            masks = [2 ** count - 1] * len(profiles_of(domains))
            self.assertEqual(self.outcomes(count, domains, masks), masks)
            self.assertEqual(self.implements(count, domains, masks), [1])

    def test_one_preference_in_each_domain(self):
        for rankings in itertools.product(THREE[::2], repeat=3):
            peaks = {ranking[0] for ranking in rankings}
            for mask in range(8):
                expected = mask | (1 << rankings[0][0] if len(peaks) == 1 else 0)
                domains = [[ranking] for ranking in rankings]
                self.assertEqual(self.outcomes(3, domains, [mask]), [expected])
                self.assertEqual(self.implements(3, domains, [mask]), [1] if expected == mask else [0, 0, 0, 0])

    def test_the_first_profile_that_is_wrong(self):
        # Alternative 1 is acceptable only where all three have it on top, 0 everywhere else.
        domains = [TWO, TWO, TWO]
        self.assertEqual(self.implements(2, domains, [1, 1, 1, 1, 1, 1, 1, 2]), [1])
        self.assertEqual(self.implements(2, domains, [1, 1, 1, 1, 1, 1, 1, 1]), [0, 1, 1, 1])
        self.assertEqual(self.implements(2, domains, [1, 1, 1, 1, 1, 1, 2, 1]), [0, 1, 1, 0])
        self.assertEqual(self.implements(2, domains, [1, 3, 1, 1, 1, 1, 1, 2]), [0, 0, 1, 1])

    def test_peaks_and_borda_on_full_domains(self):
        ahead = instance_calls(3, [THREE] * 3)
        self.assertEqual(run(ahead + [PEAKS, IMPLEMENTS])[-1], [1])
        self.assertEqual(run(ahead + [BORDA, IMPLEMENTS])[-1][0], 0)


class TestRequirements(unittest.TestCase):
    def test_sufficiency_and_necessity(self):
        """Requirements 1 and 2, by the program's own answers."""
        draw = random.Random(17)
        seen = set()
        tried = [(count, domains, masks) for count, domains in SMALL + MEDIUM
                 for masks in every_correspondence(count, domains)]
        tried += [(count, domains, some_masks(draw, count, domains)) for count, domains in LARGER for k in range(20)]
        for count, domains, masks in tried:
            calls = set_calls(count, domains, masks) + [MONOTONICITY, VETO, IMPLEMENTS]
            closed = calls + [CLOSE, MONOTONICITY, VETO, IMPLEMENTS]
            given = run(closed)
            for monotonicity, veto, implements in (given[-7:-4], given[-3:]):
                found = (monotonicity == [0], veto == [0], implements == [1])
                self.assertTrue(found[2] or not (found[0] and found[1]), (domains, masks))
                self.assertTrue(found[0] or not found[2], (domains, masks))
                seen.add(found)
        self.assertEqual(seen, {(True, True, True), (True, False, True), (True, False, False), (False, True, False),
                                (False, False, False)})

    def test_pareto(self):
        """Requirement 6, and what the first one makes of it."""
        for count, domains in SMALL + MEDIUM + LARGER + LARGEST_DOMAINS:
            calls = instance_calls(count, domains) + [PARETO, MONOTONICITY, VETO, IMPLEMENTS]
            self.assertEqual(run(calls)[-3:], [[0], [0], [1]], domains)

    def test_pareto_on_every_pair_of_small_domains(self):
        pairs = [list(pair) for pair in itertools.combinations(THREE, 2)]
        for first, second in itertools.product(pairs, repeat=2):
            calls = instance_calls(3, [first, second, THREE[1:4]]) + [PARETO, MONOTONICITY, VETO, IMPLEMENTS]
            self.assertEqual(run(calls)[-3:], [[0], [0], [1]])


class TestErrors(unittest.TestCase):
    UNEVEN = [[[0, 1, 2]], [[0, 1, 2], [0, 2, 1]], [[0, 1, 2], [1, 0, 2], [2, 1, 0]]]

    def test_profile(self):
        ahead = instance_calls(3, self.UNEVEN) + [PARETO]
        wrong = [[0] * length for length in range(11) if length != 3] + [[LARGEST] * length for length in range(11)]
        wrong += [[1, 0, 0], [0, 2, 0], [0, 0, 3], [LARGEST, 0, 0], [0, LARGEST, 0], [0, 0, LARGEST], [2, 1, 0]]
        for profile in wrong:
            self.assertEqual(run_last(ahead + [outcomes_in(profile)]), -22, profile)
        for profile in profiles_of(self.UNEVEN):
            self.assertGreater(run_last(ahead + [outcomes_in(profile)]), 0)

    def test_not_ready_and_no_instance(self):
        calls = [MONOTONICITY, VETO, IMPLEMENTS, outcomes_in([]), outcomes_in([0, 0, 0]), outcomes_in([LARGEST] * 10)]
        self.assertEqual(run(calls), [[-11]] * len(calls))
        for fill in ([], [0], [1], [2], [0, 1], [0, 2], [1, 2]):
            ahead = [create(3)] + [full(agent) for agent in fill]
            self.assertEqual(run(ahead + calls)[len(ahead):], [[-16]] * len(calls))

    def test_ready_with_the_last_domain(self):
        calls = [create(2), add(0, [0, 1]), add(2, [0, 1]), IMPLEMENTS, add(1, [0, 1]), IMPLEMENTS, MONOTONICITY, VETO,
                 outcomes_in([0, 0, 0])]
        self.assertEqual(run(calls)[3:], [[-16], [0], [0, 0, 0, 0], [0], [1, 0, 0, 0, 0], [1]])


if __name__ == "__main__":
    unittest.main()
