"""create, add_preference, set_full_domain."""

import itertools
import unittest

from helper import (BORDA, LARGEST, PARETO, PEAKS, add, ask, ask_all, create, full, instance_calls, put, run,
                    run_last)

FOUR = [list(ranking) for ranking in itertools.permutations(range(4))]
WRONG_AGENTS = (3, 4, 10, 2 ** 31, 2 ** 32 - 2, LARGEST)


class TestCreate(unittest.TestCase):
    def test_range(self):
        for count in (2, 3, 4):
            self.assertEqual(run([create(count)]), [[0]])
        for count in (0, 1, 5, 6, 255, 256, 2 ** 31, LARGEST - 1, LARGEST):
            self.assertEqual(run([create(count)]), [[-22]], count)

    def test_again_replaces(self):
        ahead = instance_calls(2, [[[0, 1]]] * 3) + [put(3, [0, 0, 0])]
        for count in (2, 3, 4):
            ranking = list(range(count))
            calls = ahead + [create(count), ask([0, 0, 0])] + [add(agent, ranking) for agent in range(3)]
            calls += [ask([0, 0, 0]), put(2 ** count, [0, 0, 0]), put(2 ** count - 1, [0, 0, 0])]
            self.assertEqual(run(calls)[5:], [[0], [-16], [0], [0], [0], [0], [-22], [0]])

    def test_refused_leaves_the_existing_one(self):
        ahead = instance_calls(3, [[[0, 1, 2], [2, 1, 0]], [[1, 0, 2]], [[0, 1, 2]]]) + [put(6, [1, 0, 0])]
        for count in (0, 1, 5, LARGEST):
            calls = ahead + [create(count), ask([1, 0, 0]), ask([0, 0, 0]), ask([2, 0, 0]), put(7, [0, 0, 0]),
                             put(8, [0, 0, 0]), add(0, [0, 1, 2]), add(0, [1, 0, 2])]
            self.assertEqual(run(calls)[6:], [[-22], [6], [0], [-22], [0], [-22], [-17], [2]])


class TestAddPreference(unittest.TestCase):
    def test_indexes(self):
        for agent in range(3):
            for count in (2, 3):
                rankings = [list(ranking) for ranking in itertools.permutations(range(count))]
                calls = [create(count)] + [add(agent, ranking) for ranking in rankings]
                self.assertEqual(run(calls), [[0]] + [[k] for k in range(len(rankings))])

    def test_every_ranking_of_four(self):
        for ranking in FOUR:
            self.assertEqual(run([create(4), add(2, ranking)]), [[0], [0]])

    def test_domains_are_apart(self):
        calls = [create(2), add(0, [0, 1]), add(1, [0, 1]), add(2, [0, 1]), add(1, [1, 0])]
        self.assertEqual(run(calls), [[0], [0], [0], [0], [1]])

    def test_it_stands_behind_the_others(self):
        calls = [create(3), add(0, [2, 0, 1]), add(0, [0, 1, 2]), add(1, [1, 0, 2]), add(2, [1, 0, 2]), PEAKS]
        self.assertEqual(run(calls + [ask([0, 0, 0]), ask([1, 0, 0])])[-2:], [[6], [3]])

    def test_behind_a_full_domain(self):
        calls = [create(2), full(0), add(0, [0, 1]), add(0, [1, 0])]
        self.assertEqual(run(calls)[2:], [[-17], [-17]])

    def test_agent(self):
        for agent in WRONG_AGENTS:
            self.assertEqual(run_last([create(2), add(agent, [0, 1])]), -2, agent)

    def test_ranking(self):
        wrong = [[], [0], [1], [0, 0], [1, 1], [0, 2], [2, 0], [1, 2], [0, 1, 0], [0, 1, 2], [0, 1, 1],
                 [0, LARGEST], [LARGEST, LARGEST], [0] * 10, [0, 1] * 5, list(range(10)), [LARGEST] * 10]
        for ranking in wrong:
            self.assertEqual(run_last([create(2), add(0, ranking)]), -22, ranking)

    def test_ranking_by_its_length(self):
        for count in (2, 3, 4):
            for length in range(11):
                expected = 0 if length == count else -22
                self.assertEqual(run_last([create(count), add(1, list(range(length)))]), expected)

    def test_all_lists_of_small_numbers(self):
        for count in (2, 3, 4):
            for ranking in itertools.product(range(count + 1), repeat=count):
                expected = 0 if len(set(ranking)) == count and max(ranking) < count else -22
                self.assertEqual(run_last([create(count), add(0, ranking)]), expected, ranking)

    def test_known_already(self):
        for count in (2, 3, 4):
            ranking = list(reversed(range(count)))
            self.assertEqual(run([create(count), add(2, ranking), add(2, ranking)]), [[0], [0], [-17]])

    def test_limit(self):
        for agent in range(3):
            ahead = [create(4)] + [add(agent, ranking) for ranking in FOUR[:6]]
            for ranking in FOUR[6:]:
                self.assertEqual(run(ahead + [add(agent, ranking)])[1:], [[k] for k in range(6)] + [[-28]])

    def test_the_limit_is_each_agents_own(self):
        calls = [create(4)]
        for ranking in FOUR[:6]:
            calls += [add(agent, ranking) for agent in range(3)]
        self.assertEqual(run(calls)[1:], [[k] for k in range(6) for agent in range(3)])

    def test_order_agent_first(self):
        at_limit = [create(4)] + [add(0, ranking) for ranking in FOUR[:6]]
        for agent in WRONG_AGENTS:
            for ranking in ([], [0, 0, 0, 0], FOUR[0], FOUR[6], [LARGEST] * 10):
                self.assertEqual(run_last(at_limit + [add(agent, ranking)]), -2)

    def test_order_ranking_before_limit(self):
        at_limit = [create(4)] + [add(0, ranking) for ranking in FOUR[:6]]
        for ranking in ([], [0, 1, 2], [0, 0, 0, 0], [0, 1, 2, 4], [0, 1, 2, 3, 0], [LARGEST] * 10):
            self.assertEqual(run_last(at_limit + [add(0, ranking)]), -22)

    def test_order_known_before_limit(self):
        at_limit = [create(4)] + [add(0, ranking) for ranking in FOUR[:6]]
        for ranking in FOUR[:6]:
            self.assertEqual(run_last(at_limit + [add(0, ranking)]), -17)
        self.assertEqual(run_last([create(3), full(1), add(1, [1, 2, 0])]), -17)


class TestSetFullDomain(unittest.TestCase):
    def test_count(self):
        for agent in range(3):
            self.assertEqual(run([create(2), full(agent), full(agent)]), [[0], [2], [2]])
            self.assertEqual(run([create(3), full(agent), full(agent)]), [[0], [6], [6]])

    def test_agent_before_limit(self):
        for count in (2, 3, 4):
            for agent in WRONG_AGENTS:
                self.assertEqual(run_last([create(count), full(agent)]), -2)

    def test_limit(self):
        for agent in range(3):
            self.assertEqual(run_last([create(4), full(agent)]), -28)
            self.assertEqual(run_last([create(4), add(agent, FOUR[0]), full(agent)]), -28)

    def test_lexicographic_order(self):
        # With the other agents as told, the Borda winners tell every ranking of the domain apart.
        rankings = [[0, 1, 2], [0, 2, 1], [1, 0, 2], [1, 2, 0], [2, 0, 1], [2, 1, 0]]
        for agent in range(3):
            for k, ranking in enumerate(rankings):
                others = [other for other in range(3) if other != agent]
                own = [0, 0, 0]
                own[agent] = k
                written = [create(3), add(agent, ranking)] + [full(other) for other in others]
                filled = [create(3)] + [full(other) for other in range(3)]
                first = [[0 if place == agent else at[others.index(place)] for place in range(3)]
                         for at in itertools.product(range(6), repeat=2)]
                second = [[k if place == agent else number for place, number in enumerate(p)] for p in first]
                self.assertEqual(run(written + [BORDA] + [ask(p) for p in first])[-36:],
                                 run(filled + [BORDA] + [ask(p) for p in second])[-36:], (agent, k))

    def test_order_of_two(self):
        calls = [create(2), full(0), full(1), full(2), PEAKS]
        self.assertEqual(run(calls + [ask([0, 0, 0]), ask([1, 1, 1]), ask([0, 1, 0])])[-3:], [[1], [2], [3]])

    def test_replaces_what_was_there(self):
        calls = [create(2), add(0, [1, 0]), add(1, [0, 1]), add(2, [0, 1]), full(0), PEAKS]
        self.assertEqual(run(calls + [ask([0, 0, 0]), ask([1, 0, 0]), ask([2, 0, 0])])[-3:], [[1], [3], [-22]])


class TestNothingStaysAcceptable(unittest.TestCase):
    def check(self, count, domains, calls, expected, domains_after):
        """After all alternatives were made acceptable, the calls leave none acceptable in any profile."""
        ahead = instance_calls(count, domains)
        every = [put(2 ** count - 1, call[2:]) for call in ask_all(domains)]
        after = ask_all(domains_after)
        given = run(ahead + every + calls + after)
        self.assertEqual(given[len(ahead) + len(every):-len(after)], expected)
        self.assertEqual(given[-len(after):], [[0]] * len(after))

    def test_after_add_preference(self):
        domains = [[[0, 1, 2], [2, 1, 0]], [[1, 0, 2]], [[0, 2, 1], [1, 2, 0]]]
        for agent in range(3):
            more = [domain + [[2, 0, 1]] if k == agent else domain for k, domain in enumerate(domains)]
            self.check(3, domains, [add(agent, [2, 0, 1])], [[len(domains[agent])]], more)

    def test_after_set_full_domain(self):
        every = [[0, 1], [1, 0]]
        domains = [[[1, 0]], [[0, 1]], [[1, 0], [0, 1]]]
        for agent in range(3):
            more = [every if k == agent else domain for k, domain in enumerate(domains)]
            self.check(2, domains, [full(agent)], [[2]], more)

    def test_after_set_full_domain_with_the_same_domain(self):
        for count in (2, 3):
            every = [list(ranking) for ranking in itertools.permutations(range(count))]
            for agent in range(3):
                domains = [every if k == agent else every[:1] for k in range(3)]
                self.check(count, domains, [full(agent)], [[len(every)]], domains)
                self.check(count, domains, [full(agent), full(agent)], [[len(every)]] * 2, domains)

    def test_after_each_of_several(self):
        domains = [[[0, 1]], [[0, 1]], [[0, 1]]]
        calls = instance_calls(2, domains)
        expected = []
        for change, count in ((add(0, [1, 0]), 1), (full(1), 2), (full(1), 2), (full(0), 2), (add(2, [1, 0]), 1)):
            for use in (PARETO, PEAKS, BORDA):
                self.assertEqual(run(calls + [use, ask([0, 0, 0])])[-1], [1])
            calls += [PARETO, ask([0, 0, 0]), change, ask([0, 0, 0])]
            expected += [[0], [1], [count], [0]]
        self.assertEqual(run(calls)[4:], expected)

    def test_a_refused_one_leaves_them(self):
        domains = [[[0, 1, 2, 3]], [[0, 1, 2, 3]], FOUR[:6]]
        ahead = instance_calls(4, domains) + [put(k + 1, [0, 0, k]) for k in range(6)]
        refused = [(add(3, FOUR[0]), -2), (add(0, [0]), -22), (add(0, FOUR[0]), -17), (add(2, FOUR[7]), -28),
                   (full(3), -2), (full(0), -28), (full(LARGEST), -2)]
        for call, code in refused:
            given = run(ahead + [call] + ask_all(domains) + [ask([0, 0, 6]), ask([1, 0, 0]), add(0, FOUR[9])])
            self.assertEqual(given[len(ahead):], [[code]] + [[k + 1] for k in range(6)] + [[-22], [-22], [1]])


if __name__ == "__main__":
    unittest.main()
