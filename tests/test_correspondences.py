"""use_pareto, use_peaks, use_borda_winners; requirement 6 by the words alone."""

import itertools
import unittest

from helper import (BORDA, CLOSE, PARETO, PEAKS, instance_calls, masks_after, monotonicity_violations, profiles_of,
                    put, rankings_in, run, veto_violations, word_borda, word_pareto, word_peaks)

USES = ((PARETO, word_pareto), (PEAKS, word_peaks), (BORDA, word_borda))
TWO = [[0, 1], [1, 0]]
THREE = [list(ranking) for ranking in itertools.permutations(range(3))]
FOUR = [list(ranking) for ranking in itertools.permutations(range(4))]
INSTANCES = [
    (2, [TWO, TWO, TWO]), (2, [TWO, TWO[:1], TWO[::-1]]), (2, [TWO[:1], TWO[1:], TWO[:1]]),
    (3, [THREE, THREE, THREE]), (3, [THREE[:1], THREE[1:3], THREE[3:]]), (3, [THREE[2:3]] * 3),
    (3, [THREE[::-1], THREE[4:], THREE[:2]]), (4, [FOUR[:6], FOUR[6:12], FOUR[12:18]]),
    (4, [FOUR[3::4], FOUR[1::4], FOUR[2::4]]), (4, [FOUR[17:18], FOUR[23:], FOUR[:1]]),
    (4, [FOUR[::-5], FOUR[:1], FOUR[::6]]),
]


def masks_by_profile(count, domains, calls):
    return dict(zip([tuple(p) for p in profiles_of(domains)], masks_after(count, domains, calls)))


class TestWords(unittest.TestCase):
    def test_each_instance_by_the_words(self):
        for count, domains in INSTANCES:
            for use, words in USES:
                expected = [words(count, rankings_in(domains, p)) for p in profiles_of(domains)]
                self.assertEqual(masks_after(count, domains, [use]), expected, (count, domains, use))

    def test_every_triple_of_four_alternatives(self):
        # Renaming the alternatives renames the answers, so one agent's ranking may stay.
        for start in range(0, 24, 6):
            for other in range(0, 24, 6):
                domains = [FOUR[:1], FOUR[start:start + 6], FOUR[other:other + 6]]
                for use, words in USES:
                    expected = [words(4, rankings_in(domains, p)) for p in profiles_of(domains)]
                    self.assertEqual(masks_after(4, domains, [use]), expected)

    def test_answer_and_replacement(self):
        # What was acceptable before plays no part.
        for count, domains in INSTANCES[:3] + INSTANCES[4:5]:
            ahead = instance_calls(count, domains)
            for use, words in USES:
                for mask in range(2 ** count):
                    calls = [put(mask, p) for p in profiles_of(domains)] + [use]
                    self.assertEqual(run(ahead + calls)[-1], [0])
                    self.assertEqual(masks_after(count, domains, calls), masks_after(count, domains, [use]))
                for before in (PARETO, PEAKS, BORDA):
                    self.assertEqual(masks_after(count, domains, [before, use]), masks_after(count, domains, [use]))


class TestByHand(unittest.TestCase):
    def masks(self, rankings):
        domains = [[ranking] for ranking in rankings]
        return [masks_after(len(rankings[0]), domains, [use])[0] for use, words in USES]

    def test_all_agree(self):
        self.assertEqual(self.masks([[2, 0, 1]] * 3), [4, 4, 4])

    def test_two_against_one(self):
        # 0: 2 + 2 + 0, 1: 1 + 1 + 1, 2: 0 + 0 + 2.
        self.assertEqual(self.masks([[0, 1, 2], [0, 1, 2], [2, 1, 0]]), [7, 5, 1])

    def test_a_circle(self):
        self.assertEqual(self.masks([[0, 1, 2], [1, 2, 0], [2, 0, 1]]), [7, 7, 7])

    def test_a_winner_that_is_no_peak(self):
        # 0: 3 + 0 + 1, 1: 2 + 2 + 2, 2: 1 + 3 + 0, 3: 0 + 1 + 3.
        self.assertEqual(self.masks([[0, 1, 2, 3], [2, 1, 3, 0], [3, 1, 0, 2]]), [15, 13, 2])

    def test_below_another_for_all(self):
        # 0 is preferred to 3 by all three, and 1 to 2.
        self.assertEqual(self.masks([[0, 3, 1, 2], [1, 0, 2, 3], [0, 1, 3, 2]]), [3, 3, 1])

    def test_one_winner(self):
        # 0: 2 + 0 + 1, 1: 1 + 1 + 2, 2: 0 + 2 + 0.
        self.assertEqual(self.masks([[0, 1, 2], [2, 1, 0], [1, 0, 2]])[2], 2)
        # 0: 3 + 2 + 1, 1: 2 + 3 + 0, 2: 1 + 1 + 3, 3: 0 + 0 + 2.
        self.assertEqual(self.masks([[0, 1, 2, 3], [1, 0, 2, 3], [2, 3, 0, 1]])[2], 1)

    def test_several_winners(self):
        # 0: 2 + 2 + 0, 1: 1 + 1 + 2, 2: 0 + 0 + 1.
        self.assertEqual(self.masks([[0, 1, 2], [0, 1, 2], [1, 2, 0]])[2], 3)
        # 0: 2 + 1 + 0, 1: 0 + 2 + 1, 2: 1 + 0 + 2.
        self.assertEqual(self.masks([[0, 2, 1], [1, 0, 2], [2, 1, 0]])[2], 7)
        # 0: 3 + 1 + 2, 1: 2 + 3 + 1, 3: 1 + 2 + 3, 2: none.
        self.assertEqual(self.masks([[0, 1, 3, 2], [1, 3, 0, 2], [3, 0, 1, 2]])[2], 11)

    def test_two_alternatives(self):
        self.assertEqual(self.masks([[0, 1], [0, 1], [1, 0]]), [3, 3, 1])
        self.assertEqual(self.masks([[1, 0], [0, 1], [1, 0]]), [3, 3, 2])
        self.assertEqual(self.masks([[1, 0], [1, 0], [1, 0]]), [2, 2, 2])


class TestParetoRequirement(unittest.TestCase):
    def test_monotonic_and_no_veto(self):
        for count, domains in INSTANCES:
            masks = masks_by_profile(count, domains, [PARETO])
            self.assertEqual(monotonicity_violations(domains, masks), [], (count, domains))
            self.assertEqual(veto_violations(count, domains, masks), [], (count, domains))

    def test_every_small_domain_of_three_alternatives(self):
        pairs = [list(pair) for pair in itertools.combinations(THREE, 2)]
        for first, second in itertools.product(pairs, repeat=2):
            domains = [first, second, THREE[1:3]]
            masks = masks_by_profile(3, domains, [PARETO])
            self.assertEqual(monotonicity_violations(domains, masks), [])
            self.assertEqual(veto_violations(3, domains, masks), [])

    def test_its_closure_changes_nothing(self):
        for count, domains in INSTANCES:
            self.assertEqual(run(instance_calls(count, domains) + [PARETO, CLOSE])[-1], [0])
            self.assertEqual(masks_after(count, domains, [PARETO, CLOSE]), masks_after(count, domains, [PARETO]))


if __name__ == "__main__":
    unittest.main()
