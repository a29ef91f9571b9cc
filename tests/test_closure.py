"""close_monotonically, and requirement 5: the smallest closure."""

import itertools
import unittest

from helper import (BORDA, CLOSE, PARETO, PEAKS, add, as_dict, ask, ask_all, create, every_correspondence,
                    instance_calls, masks_after, monotonicity_violations, profiles_of, put, run, run_last,
                    word_closure)

TWO = [[0, 1], [1, 0]]
THREE = [list(ranking) for ranking in itertools.permutations(range(3))]
FOUR = [list(ranking) for ranking in itertools.permutations(range(4))]
SMALL = [
    (2, [TWO, TWO[:1], TWO[1:]]), (2, [TWO, TWO, TWO[:1]]), (2, [TWO[1:], TWO, TWO[::-1]]),
    (3, [THREE[:2], THREE[:1], THREE[3:4]]), (3, [THREE[:1], THREE[1:4], THREE[5:]]),
    (3, [THREE[2:3], THREE[4:5], [THREE[0], THREE[2], THREE[5]]]), (4, [FOUR[:1], [FOUR[0], FOUR[6]], FOUR[9:10]]),
]


def contains(outer, inner):
    return all(mask | other == mask for mask, other in zip(outer, inner))


def closures(count, domains, correspondences):
    """For each correspondence what close_monotonically answers and makes of it; several to a list of calls."""
    ahead = instance_calls(count, domains)
    profiles = profiles_of(domains)
    questions = ask_all(domains)
    share = (400 - len(ahead)) // (2 * len(profiles) + 1)
    found = []
    for start in range(0, len(correspondences), share):
        calls = []
        for masks in correspondences[start:start + share]:
            calls += [put(mask, profile) for mask, profile in zip(masks, profiles)] + [CLOSE] + questions
        numbers = [answer[0] for answer in run(ahead + calls)[len(ahead):]]
        for at in range(0, len(numbers), 2 * len(profiles) + 1):
            part = numbers[at + len(profiles):at + 2 * len(profiles) + 1]
            found.append((part[0], tuple(part[1:])))
    return found


class TestSmallestClosure(unittest.TestCase):
    def test_every_correspondence_of_small_instances(self):
        for count, domains in SMALL:
            every = every_correspondence(count, domains)
            monotonic = [masks for masks in every if not monotonicity_violations(domains, as_dict(domains, masks))]
            for masks, (changed, closed) in zip(every, closures(count, domains, every), strict=True):
                self.assertTrue(contains(closed, masks))
                self.assertIn(closed, monotonic)
                for other in monotonic:
                    if contains(other, masks):
                        self.assertTrue(contains(other, closed), (domains, masks, closed, other))
                self.assertEqual(changed, int(closed != masks))

    def test_every_set_of_profiles_for_each_of_two_alternatives(self):
        domains = [TWO, TWO, TWO]
        every = [tuple(own << x for own in chosen) for chosen in itertools.product((0, 1), repeat=8) for x in (0, 1)]
        for masks, (changed, closed) in zip(every, closures(2, domains, every), strict=True):
            self.assertEqual(as_dict(domains, closed), word_closure(domains, as_dict(domains, masks)))
            self.assertEqual(changed, int(closed != masks))


class TestByTheDefinition(unittest.TestCase):
    def check(self, count, domains, calls):
        masks = masks_after(count, domains, calls)
        closed = masks_after(count, domains, calls + [CLOSE])
        self.assertEqual(as_dict(domains, closed), word_closure(domains, as_dict(domains, masks)))
        changed = run_last(instance_calls(count, domains) + calls + [CLOSE])
        self.assertEqual(changed, int(closed != masks))
        return changed

    def test_from_one_profile(self):
        domains = [THREE[:3], THREE[2:5], THREE[::2]]
        for profile in profiles_of(domains):
            for mask in (1, 2, 4, 7):
                self.check(3, domains, [put(mask, profile)])

    def test_full_domains(self):
        domains = [THREE, THREE, THREE]
        self.assertEqual(self.check(3, domains, [PEAKS]), 0)
        self.assertEqual(self.check(3, domains, [BORDA]), 1)
        self.assertEqual(self.check(3, domains, [PARETO]), 0)
        for profile in ([0, 0, 0], [5, 2, 1], [3, 4, 0]):
            self.assertEqual(self.check(3, domains, [put(7, profile)]), 1)

    def test_four_alternatives(self):
        domains = [FOUR[::4], FOUR[1::4], FOUR[3::4]]
        for calls in ([BORDA], [put(15, [0, 3, 5])], [put(10, [5, 5, 5]), put(5, [2, 1, 0])]):
            self.check(4, domains, calls)

    def test_sizes_that_differ(self):
        for domains in ([FOUR[:2], FOUR[5:8], FOUR[::4]], [FOUR[::4], FOUR[:1], FOUR[7:9]],
                        [FOUR[20:], FOUR[9:15], FOUR[3:5]], [FOUR[3:4], FOUR[::4], FOUR[1::4]]):
            for profile in profiles_of(domains)[::5]:
                self.check(4, domains, [put(15, profile)])


class TestByHand(unittest.TestCase):
    def test_one_agent_raises_an_alternative(self):
        # 1 rises for agent 0, nothing else changes; 0 and 2 are lowered behind it.
        domains = [[[0, 1, 2], [1, 0, 2]], [[0, 1, 2]], [[2, 1, 0]]]
        self.assertEqual(masks_after(3, domains, [put(7, [0, 0, 0]), CLOSE]), [7, 6])
        self.assertEqual(masks_after(3, domains, [put(7, [1, 0, 0]), CLOSE]), [5, 7])

    def test_two_agents_at_once(self):
        # 0 is acceptable where two agents rank it last, and so wherever it stands no lower.
        domains = [[[1, 0], [0, 1]]] * 2 + [[[0, 1]]]
        self.assertEqual(masks_after(2, domains, [put(1, [0, 0, 0]), CLOSE]), [1, 1, 1, 1])
        self.assertEqual(masks_after(2, domains, [put(1, [0, 1, 0]), CLOSE]), [0, 1, 0, 1])
        self.assertEqual(masks_after(2, domains, [put(1, [1, 1, 0]), CLOSE]), [0, 0, 0, 1])
        self.assertEqual(masks_after(2, domains, [put(2, [1, 1, 0]), CLOSE]), [2, 2, 2, 2])

    def test_same_lower_set_in_another_order(self):
        # What stands below 0 changes places, so 0 is lowered in neither direction.
        domains = [[[0, 1, 2], [0, 2, 1]], [[1, 0, 2]], [[1, 0, 2]]]
        self.assertEqual(masks_after(3, domains, [put(1, [0, 0, 0]), CLOSE]), [1, 1])
        self.assertEqual(masks_after(3, domains, [put(1, [1, 0, 0]), CLOSE]), [1, 1])

    def test_another_alternative_comes_above_in_exchange(self):
        # 1 stays in the middle, but 2 comes above it: 1 is lowered.
        domains = [[[0, 1, 2], [2, 1, 0]], [[0, 1, 2]], [[0, 1, 2]]]
        self.assertEqual(run(instance_calls(3, domains) + [put(2, [0, 0, 0]), CLOSE, ask([1, 0, 0])])[-2:], [[0], [0]])


class TestChangesNothing(unittest.TestCase):
    def test_none_acceptable(self):
        for count, domains in SMALL + [(3, [THREE] * 3)]:
            self.assertEqual(run_last(instance_calls(count, domains) + [CLOSE]), 0)
            self.assertEqual(set(masks_after(count, domains, [CLOSE])), {0})

    def test_all_acceptable(self):
        for count, domains in SMALL:
            every = [put(2 ** count - 1, p) for p in profiles_of(domains)]
            self.assertEqual(run_last(instance_calls(count, domains) + every + [CLOSE]), 0)
            self.assertEqual(set(masks_after(count, domains, every + [CLOSE])), {2 ** count - 1})

    def test_domains_with_one_preference(self):
        for rankings in itertools.product(THREE[::2], repeat=3):
            domains = [[ranking] for ranking in rankings]
            for mask in range(8):
                self.assertEqual(run_last(instance_calls(3, domains) + [put(mask, [0, 0, 0]), CLOSE]), 0)
                self.assertEqual(masks_after(3, domains, [put(mask, [0, 0, 0]), CLOSE]), [mask])

    def test_twice(self):
        domains = [THREE[:4], THREE[1:], THREE[::2]]
        for calls in ([BORDA], [PEAKS], [PARETO], [put(3, [1, 2, 0])]):
            self.assertEqual(run_last(instance_calls(3, domains) + calls + [CLOSE, CLOSE]), 0)
            self.assertEqual(masks_after(3, domains, calls + [CLOSE, CLOSE]), masks_after(3, domains, calls + [CLOSE]))

    def test_refused_while_not_ready(self):
        self.assertEqual(run([create(2), CLOSE, add(0, [0, 1]), add(1, [0, 1]), CLOSE]), [[0], [-16], [0], [0], [-16]])


if __name__ == "__main__":
    unittest.main()
