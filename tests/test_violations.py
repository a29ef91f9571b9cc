"""monotonicity_violation and veto_violation."""

import itertools
import random
import unittest

from helper import (BORDA, CLOSE, MONOTONICITY, PARETO, PEAKS, VETO, as_dict, every_correspondence, instance_calls,
                    masks_after, profiles_of, put, run, run_last, set_calls, word_monotonicity, word_veto)

TWO = [[0, 1], [1, 0]]
THREE = [list(ranking) for ranking in itertools.permutations(range(3))]
FOUR = [list(ranking) for ranking in itertools.permutations(range(4))]
# Small enough for every correspondence.
SMALL = [
    (2, [TWO, TWO[:1], TWO[1:]]), (2, [TWO, TWO, TWO[:1]]), (2, [TWO[1:], TWO, TWO[::-1]]), (2, [TWO[:1]] * 3),
    (3, [THREE[:2], THREE[:1], THREE[3:4]]), (3, [THREE[:1], THREE[1:4], THREE[5:]]), (3, [THREE[4:5]] * 3),
    (3, [THREE[2:3], THREE[4:5], [THREE[0], THREE[2], THREE[5]]]), (4, [FOUR[:1], [FOUR[0], FOUR[6]], FOUR[9:10]]),
]
LARGER = [
    (2, [TWO, TWO, TWO]), (3, [THREE[:2], THREE[2:4], THREE[4:]]), (3, [THREE[:3], THREE[::2], THREE[5:]]),
    (3, [THREE[::-1], THREE[:1], THREE[1:3]]), (4, [FOUR[::9], FOUR[5:7], FOUR[3:9]]),
    (4, [FOUR[:2], FOUR[::5], FOUR[22:]]),
]


def masks_at_random(draw, count, domains):
    """Now and then few are acceptable, now and then nearly all."""
    share = draw.choice((0.1, 0.5, 0.9))
    return [sum(2 ** x for x in range(count) if draw.random() < share) for p in profiles_of(domains)]


class TestByTheWords(unittest.TestCase):
    def check(self, count, domains, masks):
        given = run(set_calls(count, domains, masks) + [MONOTONICITY, VETO])[-2:]
        words = as_dict(domains, masks)
        expected = [word_monotonicity(domains, words), word_veto(count, domains, words)]
        self.assertEqual(given, expected, (count, domains, masks))
        return given

    def test_every_correspondence_of_small_instances(self):
        for count, domains in SMALL:
            for masks in every_correspondence(count, domains):
                self.check(count, domains, masks)

    def test_many_correspondences_of_larger_instances(self):
        draw = random.Random(9)
        seen = set()
        for count, domains in LARGER:
            for k in range(60):
                seen.update(tuple(given) for given in self.check(count, domains, masks_at_random(draw, count, domains)))
        self.assertGreater(len(seen), 100)

    def test_nearly_monotonic(self):
        """One alternative is taken out of one profile of a closed correspondence."""
        draw = random.Random(10)
        for count, domains in LARGER:
            for use in (PARETO, PEAKS, BORDA):
                closed = masks_after(count, domains, [use, CLOSE])
                for k in range(12):
                    masks = list(closed)
                    masks[draw.randrange(len(masks))] &= ~(1 << draw.randrange(count))
                    self.check(count, domains, masks)

    def test_largest_domains(self):
        for count, domains in ((3, [THREE] * 3), (4, [FOUR[::4], FOUR[1::4], FOUR[3::4]])):
            for calls in ([], [PARETO], [PEAKS], [BORDA], [put(5, [5, 5, 5])], [put(6, [2, 0, 4])],
                          [PARETO, put(0, [5, 5, 5])], [PARETO, put(0, [0, 0, 0])], [BORDA, CLOSE]):
                words = as_dict(domains, masks_after(count, domains, calls))
                given = run(instance_calls(count, domains) + calls + [MONOTONICITY, VETO])[-2:]
                self.assertEqual(given, [word_monotonicity(domains, words), word_veto(count, domains, words)])


class TestMonotonicityByHand(unittest.TestCase):
    def answer(self, count, domains, masks):
        return run(set_calls(count, domains, masks) + [MONOTONICITY])[-1]

    def test_one_agent_changes(self):
        # From the first profile to the second 0 is lowered, from the second to the first 1 is.
        domains = [[[0, 1, 2], [1, 0, 2]], [[0, 1, 2]], [[2, 1, 0]]]
        self.assertEqual(self.answer(3, domains, [7, 0]), [1, 1, 0, 0, 0, 1, 0, 0])
        self.assertEqual(self.answer(3, domains, [4, 0]), [1, 2, 0, 0, 0, 1, 0, 0])
        self.assertEqual(self.answer(3, domains, [7, 2]), [1, 2, 0, 0, 0, 1, 0, 0])
        self.assertEqual(self.answer(3, domains, [0, 7]), [1, 0, 1, 0, 0, 0, 0, 0])
        self.assertEqual(self.answer(3, domains, [2, 1]), [1, 1, 0, 0, 0, 1, 0, 0])
        for masks in ([1, 0], [0, 2], [1, 2], [1, 3], [5, 6], [7, 7], [0, 0]):
            self.assertEqual(self.answer(3, domains, masks), [0], masks)

    def test_the_first_q(self):
        # Alternative 1 stays acceptable wherever agent 2 has it on top.
        domains = [TWO, TWO, TWO]
        self.assertEqual(self.answer(2, domains, [0, 2, 0, 0, 0, 0, 0, 0]), [1, 1, 0, 0, 1, 0, 1, 1])
        self.assertEqual(self.answer(2, domains, [0, 2, 0, 2, 0, 0, 0, 0]), [1, 1, 0, 0, 1, 1, 0, 1])
        self.assertEqual(self.answer(2, domains, [0, 2, 0, 2, 0, 2, 0, 0]), [1, 1, 0, 0, 1, 1, 1, 1])
        self.assertEqual(self.answer(2, domains, [0, 2, 0, 2, 0, 2, 0, 2]), [0])

    def test_a_q_ahead_of_p(self):
        self.assertEqual(self.answer(2, [TWO, TWO, TWO], [0] * 7 + [1]), [1, 0, 1, 1, 1, 0, 0, 0])
        self.assertEqual(self.answer(2, [TWO, TWO, TWO], [1] + [0] * 6 + [1]), [1, 0, 1, 1, 1, 0, 0, 1])

    def test_the_first_p_comes_before_the_lowest_alternative(self):
        self.assertEqual(self.answer(2, [TWO, TWO, TWO], [0, 2, 0, 0, 0, 0, 0, 1]), [1, 1, 0, 0, 1, 0, 1, 1])

    def test_the_lowest_alternative_comes_before_the_first_q(self):
        # From the first profile on, 1 is lacking in the second already, 0 only in the third.
        domains = [[[2, 0, 1], [2, 1, 0], [0, 2, 1]], [[0, 1, 2]], [[0, 1, 2]]]
        self.assertEqual(self.answer(3, domains, [3, 1, 2]), [1, 0, 0, 0, 0, 2, 0, 0])
        self.assertEqual(self.answer(3, domains, [2, 1, 2]), [1, 1, 0, 0, 0, 1, 0, 0])

    def test_nothing_and_everything_acceptable(self):
        for count, domains in SMALL + LARGER:
            for mask in (0, 2 ** count - 1):
                self.assertEqual(self.answer(count, domains, [mask] * len(profiles_of(domains))), [0])

    def test_one_preference_in_each_domain(self):
        for rankings in itertools.product(THREE[::2], repeat=3):
            for mask in range(8):
                self.assertEqual(self.answer(3, [[ranking] for ranking in rankings], [mask]), [0])

    def test_the_closure_has_none(self):
        for count, domains in LARGER + [(3, [THREE] * 3)]:
            for use in (PARETO, PEAKS, BORDA, put(2 ** count - 1, [0, 0, 0])):
                ahead = instance_calls(count, domains) + [use]
                given = run(ahead + [MONOTONICITY, CLOSE, MONOTONICITY])[-3:]
                self.assertEqual(given[2], [0])
                self.assertEqual(given[0] == [0], given[1] == [0])

    def test_borda_on_full_domains(self):
        ahead = instance_calls(3, [THREE] * 3) + [BORDA]
        words = as_dict([THREE] * 3, masks_after(3, [THREE] * 3, [BORDA]))
        self.assertEqual(run(ahead + [MONOTONICITY])[-1], word_monotonicity([THREE] * 3, words))
        self.assertEqual(run(ahead + [MONOTONICITY])[-1][0], 1)


class TestVetoByHand(unittest.TestCase):
    def answer(self, count, domains, masks):
        return run(set_calls(count, domains, masks) + [VETO])[-1]

    def test_each_pair_of_agents(self):
        for third in range(3):
            domains = [[[0, 1, 2]] if agent == third else [[2, 0, 1]] for agent in range(3)]
            for mask in range(8):
                expected = [0] if mask & 4 else [1, 2, 0, 0, 0]
                self.assertEqual(self.answer(3, domains, [mask]), expected)

    def test_all_three(self):
        for mask in range(16):
            self.assertEqual(self.answer(4, [[[1, 0, 2, 3]]] * 3, [mask]), [0] if mask & 2 else [1, 1, 0, 0, 0])

    def test_three_peaks_that_differ(self):
        domains = [[[0, 1, 2]], [[1, 0, 2]], [[2, 1, 0]]]
        for mask in range(8):
            self.assertEqual(self.answer(3, domains, [mask]), [0])

    def test_the_first_profile(self):
        self.assertEqual(self.answer(2, [TWO, TWO, TWO], [0] * 8), [1, 0, 0, 0, 0])
        self.assertEqual(self.answer(2, [TWO, TWO, TWO], [1, 2, 0, 0, 0, 0, 0, 0]), [1, 0, 0, 0, 1])
        self.assertEqual(self.answer(2, [TWO, TWO, TWO], [1, 1, 1, 0, 0, 0, 0, 0]), [1, 1, 0, 1, 1])
        self.assertEqual(self.answer(2, [TWO, TWO, TWO], [1, 1, 1, 2, 1, 2, 2, 0]), [1, 1, 1, 1, 1])
        self.assertEqual(self.answer(2, [TWO, TWO, TWO], [1, 1, 1, 2, 1, 2, 2, 2]), [0])

    def test_everything_acceptable(self):
        for count, domains in SMALL + LARGER:
            self.assertEqual(self.answer(count, domains, [2 ** count - 1] * len(profiles_of(domains))), [0])

    def test_peaks_and_pareto_have_none(self):
        for count, domains in SMALL + LARGER:
            for use in (PEAKS, PARETO):
                self.assertEqual(run_last(instance_calls(count, domains) + [use, VETO]), 0)


if __name__ == "__main__":
    unittest.main()
