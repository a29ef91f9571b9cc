"""set_acceptable and acceptable."""

import itertools
import unittest

from helper import (LARGEST, PARETO, add, ask, ask_all, create, instance_calls, masks_after, profiles_of, put, run,
                    run_last)

UNEVEN = [[[0, 1, 2]], [[0, 1, 2], [0, 2, 1]], [[0, 1, 2], [1, 0, 2], [2, 1, 0]]]
FOUR = [list(ranking) for ranking in itertools.permutations(range(4))]
WRONG_PROFILES = [
    [], [0], [0, 0], [0, 0, 0, 0], [0] * 9, [0] * 10, [1, 0, 0], [0, 2, 0], [0, 0, 3], [1, 2, 3], [2, 1, 0],
    [LARGEST, 0, 0], [0, LARGEST, 0], [0, 0, LARGEST], [LARGEST] * 3, [LARGEST] * 10, [0, 1, 2, 0], [0, 1],
]


class TestSetAndRead(unittest.TestCase):
    def test_nothing_is_acceptable_at_first(self):
        for count in (2, 3, 4):
            ranking = list(range(count))
            self.assertEqual(masks_after(count, [[ranking]] * 3, []), [0])
        self.assertEqual(masks_after(3, UNEVEN, []), [0] * 6)

    def test_previous(self):
        for count in (2, 3, 4):
            ahead = instance_calls(count, [[list(range(count))]] * 3)
            masks = list(range(2 ** count)) + [2 ** count - 1, 0, 1]
            calls = ahead + [put(mask, [0, 0, 0]) for mask in masks] + [ask([0, 0, 0])]
            self.assertEqual(run(calls)[len(ahead):], [[mask] for mask in [0] + masks])

    def test_every_pair_of_masks(self):
        ahead = instance_calls(3, UNEVEN)
        for first, second in itertools.product(range(8), repeat=2):
            calls = [put(first, [0, 1, 2]), put(second, [0, 1, 2]), ask([0, 1, 2])]
            self.assertEqual(run(ahead + calls)[len(ahead):], [[0], [first], [second]])

    def test_each_profile_has_its_own(self):
        for domains in (UNEVEN, UNEVEN[::-1], [UNEVEN[1], UNEVEN[2], UNEVEN[0]], [UNEVEN[2]] * 3):
            profiles = profiles_of(domains)
            for changed in profiles:
                expected = [5 if profile == changed else 0 for profile in profiles]
                self.assertEqual(masks_after(3, domains, [put(5, changed)]), expected)

    def test_all_profiles_of_the_largest_instance(self):
        domains = [FOUR[:6], FOUR[6:12], FOUR[12:18]]
        profiles = profiles_of(domains)
        self.assertEqual(len(profiles), 216)
        half = [put(k % 15 + 1, profile) for k, profile in enumerate(profiles)][::2]
        expected = [k % 15 + 1 if k % 2 == 0 else 0 for k in range(216)]
        self.assertEqual(masks_after(4, domains, half), expected)

    def test_reading_changes_nothing(self):
        ahead = instance_calls(3, UNEVEN) + [put(6, [0, 1, 1]), put(3, [0, 0, 2])]
        questions = ask_all(UNEVEN)
        given = run(ahead + questions + [ask(profile) for profile in WRONG_PROFILES] + questions)
        self.assertEqual(given[len(ahead):len(ahead) + 6], given[-6:])
        self.assertEqual(given[-6:], [[0], [0], [3], [0], [6], [0]])


class TestErrors(unittest.TestCase):
    def test_alternatives(self):
        for count in (2, 3, 4):
            ahead = instance_calls(count, [[list(range(count))]] * 3)
            for mask in (2 ** count, 2 ** count + 1, 2 ** (count + 1), 2 ** 31, LARGEST - 1, LARGEST):
                self.assertEqual(run_last(ahead + [put(mask, [0, 0, 0])]), -22, mask)

    def test_profile(self):
        ahead = instance_calls(3, UNEVEN)
        for profile in WRONG_PROFILES:
            self.assertEqual(run_last(ahead + [ask(profile)]), -22, profile)
            for mask in (0, 7, 8, LARGEST):
                self.assertEqual(run_last(ahead + [put(mask, profile)]), -22, profile)

    def test_every_small_profile(self):
        ahead = instance_calls(3, UNEVEN)
        profiles = profiles_of(UNEVEN)
        for profile in itertools.product(range(4), repeat=3):
            expected = 0 if list(profile) in profiles else -22
            self.assertEqual(run_last(ahead + [ask(profile)]), expected)
            self.assertEqual(run_last(ahead + [put(1, profile)]), expected)

    def test_lists_of_each_length(self):
        ahead = instance_calls(3, UNEVEN)
        for length in range(11):
            expected = 0 if length == 3 else -22
            self.assertEqual(run_last(ahead + [ask([0] * length)]), expected)
            self.assertEqual(run_last(ahead + [put(7, [0] * length)]), expected)
            self.assertEqual(run_last(ahead + [ask([LARGEST] * length)]), -22)

    def test_refused_leaves_all_masks(self):
        sets = [put(k + 1, profile) for k, profile in enumerate(profiles_of(UNEVEN))]
        refused = [put(mask, [0, 0, 0]) for mask in (8, 9, 16, LARGEST)]
        refused += [put(mask, profile) for mask in (0, 7) for profile in WRONG_PROFILES]
        refused += [ask(profile) for profile in WRONG_PROFILES]
        for call in refused:
            self.assertEqual(masks_after(3, UNEVEN, sets + [call]), [1, 2, 3, 4, 5, 6], call)

    def test_not_ready_ahead_of_the_others(self):
        for call in (put(LARGEST, [0, 0, 0]), put(0, []), ask([]), ask([LARGEST] * 10), ask([0, 0, 0]), PARETO):
            self.assertEqual(run_last([create(2), add(0, [0, 1]), add(2, [0, 1]), call]), -16)

    def test_refused_while_not_ready_leaves_the_state(self):
        calls = [create(2), add(0, [0, 1]), add(1, [0, 1]), put(3, [0, 0, 0]), PARETO, add(2, [0, 1]),
                 ask([0, 0, 0])]
        self.assertEqual(run(calls)[3:], [[-16], [-16], [0], [0]])


if __name__ == "__main__":
    unittest.main()
