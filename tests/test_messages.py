"""profile_index, mechanism_outcome, attainable, is_equilibrium, describe; requirement 4."""

import itertools
import random
import unittest

from helper import (DESCRIBE, LARGEST, PARETO, add, as_dict, attain, create, full, index_of, instance_calls,
                    is_stable, mask_of, outcome_of, profiles_of, put, run, run_last, run_many, set_calls,
                    tried_attainable, word_attainable, word_equilibrium, word_outcome)

TWO = [[0, 1], [1, 0]]
THREE = [list(ranking) for ranking in itertools.permutations(range(3))]
FOUR = [list(ranking) for ranking in itertools.permutations(range(4))]
UNEVEN = [[[0, 1, 2]], [[0, 1, 2], [0, 2, 1]], [[0, 1, 2], [1, 0, 2], [2, 1, 0]]]
SIX_PROFILES = set_calls(3, UNEVEN, [7, 3, 5, 1, 6, 2])
VALID = [0, 0, 0, 1, 2, 7, 5, 1, 1000]
# Domains and masks for which all messages can be gone through.
SMALL = [
    (2, [TWO, TWO[:1], TWO[1:]], [1, 3]), (2, [TWO, TWO[:1], TWO[1:]], [2, 1]), (2, [TWO[:1], TWO[1:], TWO], [0, 3]),
    (2, [TWO, TWO, TWO[:1]], [3, 1, 0, 2]), (3, [THREE[:2], THREE[3:4], THREE[5:]], [7, 5]),
    (3, [THREE[2:3], THREE[1:2], THREE[::4]], [6, 3]), (3, [[[1, 0, 2]], [[2, 0, 1], [0, 2, 1]], [[1, 2, 0]]], [2, 7]),
]


def flat(messages):
    return [number for message in messages for number in message]


def all_messages(count, domains, numbers):
    """Every three messages with these numbers."""
    single = list(itertools.product(range(len(profiles_of(domains))), range(count)))
    return [[(*pair, number) for pair, number in zip(chosen, numbers)]
            for chosen in itertools.product(single, repeat=3)]


def any_messages(draw, count, profiles):
    """Messages that often agree."""
    common = (draw.randrange(profiles), draw.randrange(count))
    messages = []
    for agent in range(3):
        pair = common if draw.random() < 0.7 else (draw.randrange(profiles), draw.randrange(count))
        messages.append((*pair, draw.choice((0, 1, 2, 1000))))
    return messages


class TestProfileIndex(unittest.TestCase):
    def test_every_profile(self):
        for count, domains in ((3, UNEVEN), (3, UNEVEN[::-1]), (2, [TWO] * 3), (4, [FOUR[:6], FOUR[:6], FOUR[9:15]]),
                               (4, [FOUR[:1], FOUR[3:9], FOUR[:2]]), (2, [TWO[:1]] * 3)):
            profiles = profiles_of(domains)
            given = run_many(instance_calls(count, domains), [index_of(profile) for profile in profiles])
            self.assertEqual(given, [[k, len(profiles)] for k in range(len(profiles))])

    def test_count_follows_the_domains(self):
        calls = [create(3), add(0, [0, 1, 2]), add(1, [0, 1, 2]), add(2, [0, 1, 2]), index_of([0, 0, 0]),
                 add(1, [1, 0, 2]), index_of([0, 1, 0]), full(2), index_of([0, 1, 5]), full(0), index_of([5, 1, 5])]
        self.assertEqual(run(calls)[4:], [[0, 1], [1], [1, 2], [6], [11, 12], [6], [71, 72]])

    def test_wrong(self):
        wrong = [[0] * length for length in range(11) if length != 3]
        wrong += [[1, 0, 0], [0, 2, 0], [0, 0, 3], [LARGEST, 0, 0], [0, LARGEST, 0], [0, 0, LARGEST], [LARGEST] * 10]
        for profile in wrong:
            self.assertEqual(run_last(SIX_PROFILES + [index_of(profile)]), -22, profile)

    def test_every_small_list(self):
        profiles = profiles_of(UNEVEN)
        tried = [list(profile) for profile in itertools.product(range(4), repeat=3)]
        expected = [[profiles.index(profile), 6] if profile in profiles else [-22] for profile in tried]
        self.assertEqual(run(SIX_PROFILES + [index_of(profile) for profile in tried])[len(SIX_PROFILES):], expected)


class TestDescribe(unittest.TestCase):
    def test_sizes(self):
        calls = [create(4), DESCRIBE, add(2, FOUR[3]), DESCRIBE, add(0, FOUR[1]), add(2, FOUR[4]), DESCRIBE,
                 create(3), DESCRIBE, full(1), DESCRIBE, add(0, [2, 1, 0]), DESCRIBE, create(2), DESCRIBE]
        self.assertEqual([answer for call, answer in zip(calls, run(calls)) if call == DESCRIBE],
                         [[4, 0, 0, 0], [4, 0, 0, 1], [4, 1, 0, 2], [3, 0, 0, 0], [3, 0, 6, 0], [3, 1, 6, 0],
                          [2, 0, 0, 0]])

    def test_refused_calls_leave_it(self):
        calls = [create(2), add(0, [0, 1]), create(5), add(0, [0, 1]), add(3, [1, 0]), full(3), DESCRIBE]
        self.assertEqual(run(calls)[-1], [2, 1, 0, 0])

    def test_largest(self):
        self.assertEqual(run(instance_calls(4, [FOUR[:6]] * 3) + [DESCRIBE])[-1], [4, 6, 6, 6])

    def test_no_instance(self):
        self.assertEqual(run([DESCRIBE, create(1), DESCRIBE]), [[-11], [-22], [-11]])


class TestOutcomeByHand(unittest.TestCase):
    # Two profiles; agent 0 ranks 0, 1, 2 in the first and 2, 1, 0 in the second.
    DOMAINS = [[[0, 1, 2], [2, 1, 0]], [[1, 0, 2]], [[2, 0, 1]]]

    def check(self, masks, messages, expected):
        self.assertEqual(run(set_calls(3, self.DOMAINS, masks) + [outcome_of(messages)])[-1], expected, messages)

    def test_all_agree(self):
        self.check([7, 7], [0, 1, 0, 0, 1, 5, 0, 1, 9], [1, 1])
        self.check([0, 4], [1, 2, 9, 1, 2, 5, 1, 2, 0], [2, 1])

    def test_the_same_but_not_acceptable(self):
        self.check([5, 7], [0, 1, 0, 0, 1, 5, 0, 1, 9], [1, 3])
        self.check([0, 0], [0, 1, 0, 0, 1, 5, 1, 2, 4], [1, 3])
        self.check([5, 7], [0, 1, 0, 0, 1, 5, 1, 2, 9], [2, 3])

    def test_agent_0_is_the_third(self):
        # In the first profile it prefers 0 to 1, and 1 to 2; in the second the other way round.
        self.check([7, 7], [0, 0, 1000, 0, 1, 0, 0, 1, 0], [1, 2])
        self.check([7, 7], [0, 2, 0, 0, 1, 5, 0, 1, 9], [2, 2])
        self.check([7, 7], [1, 0, 0, 1, 1, 5, 1, 1, 9], [0, 2])
        self.check([7, 7], [1, 2, 1000, 1, 1, 5, 1, 1, 9], [1, 2])

    def test_agent_1_is_the_third(self):
        # It ranks 1, 0, 2 in both.
        self.check([7, 7], [0, 0, 5, 1, 1, 1000, 0, 0, 5], [0, 2])
        self.check([7, 7], [0, 0, 5, 1, 2, 0, 0, 0, 5], [2, 2])
        self.check([7, 7], [1, 2, 5, 1, 0, 1000, 1, 2, 5], [2, 2])
        self.check([7, 7], [1, 1, 5, 1, 0, 0, 1, 1, 5], [0, 2])

    def test_agent_2_is_the_third(self):
        # It ranks 2, 0, 1 in both.
        self.check([7, 7], [0, 0, 5, 0, 0, 6, 1, 2, 1000], [0, 2])
        self.check([7, 7], [0, 0, 5, 0, 0, 6, 1, 1, 0], [1, 2])
        self.check([7, 7], [1, 2, 5, 1, 2, 6, 0, 0, 0], [0, 2])

    def test_the_third_names_the_same_alternative_with_another_profile(self):
        for third in range(3):
            for own in (0, 5, 1000):
                messages = [[0, 1, 5] for agent in range(3)]
                messages[third] = [1, 1, own]
                self.check([7, 7], flat(messages), [1, 2])
                self.check([2, 0], flat(messages), [1, 2])

    def test_the_third_s_alternative_need_not_be_acceptable(self):
        self.check([2, 0], [0, 2, 0, 0, 1, 5, 0, 1, 9], [2, 2])
        self.check([2, 0], [1, 2, 0, 0, 1, 5, 0, 1, 9], [2, 2])

    def test_the_highest_number(self):
        self.check([7, 7], [0, 0, 7, 0, 1, 6, 0, 2, 5], [0, 3])
        self.check([7, 7], [0, 0, 6, 0, 1, 7, 0, 2, 5], [1, 3])
        self.check([7, 7], [0, 0, 5, 0, 1, 6, 0, 2, 7], [2, 3])
        self.check([7, 7], [0, 0, 999, 0, 1, 0, 0, 2, 1000], [2, 3])

    def test_equal_numbers_go_to_the_lowest_agent(self):
        self.check([7, 7], [0, 0, 0, 0, 1, 0, 0, 2, 0], [0, 3])
        self.check([7, 7], [0, 2, 1000, 0, 1, 1000, 0, 0, 1000], [2, 3])
        self.check([7, 7], [0, 0, 3, 0, 1, 8, 0, 2, 8], [1, 3])
        self.check([7, 7], [0, 0, 8, 0, 1, 3, 0, 2, 8], [0, 3])
        self.check([7, 7], [0, 0, 8, 0, 1, 8, 0, 2, 3], [0, 3])

    def test_the_same_alternative_in_three_places_is_no_agreement(self):
        self.check([7, 0], [0, 2, 0, 1, 2, 1, 1, 0, 0], [2, 3])
        self.check([7, 0], [1, 2, 0, 1, 2, 0, 0, 0, 1], [0, 3])


class TestAttainableByHand(unittest.TestCase):
    DOMAINS = TestOutcomeByHand.DOMAINS

    def check(self, masks, agent, messages, expected):
        self.assertEqual(run(set_calls(3, self.DOMAINS, masks) + [attain(agent, messages)])[-1], [expected])

    def test_the_others_agree(self):
        for own in ([0, 0, 0], [0, 1, 5], [1, 2, 1000]):
            self.check([7, 7], 0, own + [0, 1, 5, 0, 1, 9], 6)
            self.check([7, 7], 0, own + [1, 1, 5, 1, 1, 9], 3)
            self.check([7, 7], 0, own + [0, 0, 5, 0, 0, 9], 7)
            self.check([7, 7], 0, own + [1, 0, 5, 1, 0, 9], 1)
            self.check([7, 7], 1, [0, 0, 1] + own + [0, 0, 2], 5)
            self.check([7, 7], 1, [1, 2, 1] + own + [1, 2, 2], 4)
            self.check([7, 7], 2, [0, 1, 1, 0, 1, 2] + own, 2)
            self.check([7, 7], 2, [1, 0, 1, 1, 0, 2] + own, 3)

    def test_the_others_do_not_agree(self):
        for agent in range(3):
            for pair in (([0, 1, 5], [1, 1, 5]), ([0, 1, 5], [0, 2, 5]), ([1, 2, 5], [1, 2, 5])):
                messages = list(pair)
                messages.insert(agent, pair[0])
                self.check([7, 3], agent, flat(messages), 7)

    def test_one_profile_has_the_same_rule(self):
        # No message of agent 0 brings about 0: naming it agrees with agent 1, and the outcome is agent 2's 1.
        rankings = [[0, 1, 2], [0, 2, 1], [0, 1, 2]]
        ahead = instance_calls(3, [[ranking] for ranking in rankings]) + [put(3, [0, 0, 0])]
        messages = [0, 2, 0, 0, 0, 4, 0, 1, 5]
        tried = [outcome_of([0, y, number] + messages[3:]) for y in range(3) for number in (0, 5, 6, 1000)]
        self.assertNotIn([0], [answer[:1] for answer in run(ahead + tried)[len(ahead):]])
        self.assertEqual(run_last(ahead + [attain(0, messages)]), 7)


class TestEquilibriumByHand(unittest.TestCase):
    DOMAINS = [[[0, 1, 2], [2, 1, 0]], [[1, 0, 2]], [[0, 1, 2]]]

    def check(self, masks, position, messages, expected):
        self.assertEqual(run(set_calls(3, self.DOMAINS, masks) + [is_stable(position, messages)])[-1], [expected])

    def test_all_agree_on_the_true_profile(self):
        for x in range(3):
            for position in range(2):
                self.check([7, 7], position, [position, x, 0] * 3, 1)

    def test_all_agree_on_a_false_profile(self):
        # Agent 0 lowers 0 and keeps 2 from the first profile to the second.
        self.check([7, 7], 1, [0, 0, 0] * 3, 0)
        self.check([7, 7], 1, [0, 2, 0] * 3, 1)
        self.check([7, 7], 0, [1, 2, 0] * 3, 0)
        self.check([7, 7], 0, [1, 0, 0] * 3, 1)
        self.check([7, 7], 0, [1, 1, 0] * 3, 0)

    def test_two_agree_on_a_false_profile(self):
        # Agents 0 and 2 have 0 as their peak in the first profile; agent 1 can get 0 and 2 alone.
        self.check([7, 7], 0, [1, 0, 0, 0, 0, 9, 1, 0, 0], 1)
        self.check([7, 7], 1, [1, 0, 0, 0, 0, 9, 1, 0, 0], 0)
        self.check([7, 7], 0, [1, 0, 0, 0, 2, 9, 1, 0, 0], 0)
        self.check([7, 7], 0, [1, 1, 0, 0, 0, 9, 1, 1, 0], 0)

    def test_none_agree(self):
        self.check([7, 7], 0, [0, 0, 9, 1, 0, 0, 0, 1, 0], 0)
        ahead = set_calls(3, [[[0, 1, 2]], [[0, 2, 1]], [[0, 1, 2], [2, 1, 0]]], [0, 0])
        self.assertEqual(run_last(ahead + [is_stable(0, [0, 0, 0, 0, 1, 0, 1, 2, 0])]), 1)
        self.assertEqual(run_last(ahead + [is_stable(0, [0, 0, 0, 0, 1, 1, 1, 2, 0])]), 0)
        self.assertEqual(run_last(ahead + [is_stable(1, [0, 0, 0, 0, 1, 0, 1, 2, 0])]), 0)

    def test_each_agent_may_deviate(self):
        # All name 0 in the one profile, where nothing is acceptable: the outcome is 0, and each may change it.
        for agent in range(3):
            domains = [[[1, 0]] if k == agent else [[0, 1]] for k in range(3)]
            self.assertEqual(run_last(instance_calls(2, domains) + [is_stable(0, [0, 0, 0] * 3)]), 0)
        self.assertEqual(run_last(instance_calls(2, [[[0, 1]]] * 3) + [is_stable(0, [0, 0, 0] * 3)]), 1)


class TestByTheWords(unittest.TestCase):
    def test_all_messages_of_small_instances(self):
        for count, domains, masks in SMALL:
            ahead = set_calls(count, domains, masks)
            words = as_dict(domains, masks)
            for numbers in ((0, 0, 0), (1, 2, 2), (3, 1000, 4), (5, 6, 7)):
                every = all_messages(count, domains, numbers)
                given = run_many(ahead, [outcome_of(flat(messages)) for messages in every])
                self.assertEqual(given, [list(word_outcome(domains, words, messages)) for messages in every])

    def test_all_attainable_of_small_instances(self):
        """Requirement 4: also the same as what trying every message brings about."""
        for count, domains, masks in SMALL:
            ahead = set_calls(count, domains, masks)
            words = as_dict(domains, masks)
            every = all_messages(count, domains, (3, 0, 4))
            for agent in range(3):
                given = run_many(ahead, [attain(agent, flat(messages)) for messages in every])
                tried = {}
                for messages in every:
                    others = tuple(message for k, message in enumerate(messages) if k != agent)
                    if others not in tried:
                        tried[others] = tried_attainable(count, domains, words, agent, messages)
                        self.assertEqual(word_attainable(count, domains, words, agent, messages), tried[others])
                    self.assertEqual(given.pop(0), [mask_of(tried[others])], (masks, agent, messages))

    def test_attainable_is_what_the_program_brings_about(self):
        """Requirement 4 by the program's own outcomes."""
        draw = random.Random(13)
        for count, domains in ((2, [TWO, TWO[:1], TWO]), (3, [THREE[:2], THREE[4:], THREE[1:2]]),
                               (4, [FOUR[5:6], FOUR[::12], FOUR[7:8]])):
            profiles = len(profiles_of(domains))
            for k in range(25):
                ahead = set_calls(count, domains, [draw.randrange(2 ** count) for p in range(profiles)])
                agent = draw.randrange(3)
                messages = [[position, x, draw.randrange(1000)]
                            for position, x, number in any_messages(draw, count, profiles)]
                tried = []
                for message in itertools.product(range(profiles), range(count), (0, 1000)):
                    messages[agent] = list(message)
                    tried.append(outcome_of(flat(messages)))
                given = run(ahead + tried + [attain(agent, flat(messages))])[len(ahead):]
                self.assertEqual([mask_of(answer[0] for answer in given[:-1])], given[-1])

    def test_all_equilibria_of_small_instances(self):
        for count, domains, masks in SMALL:
            ahead = set_calls(count, domains, masks)
            words = as_dict(domains, masks)
            every = all_messages(count, domains, (1, 0, 2))
            for position, profile in enumerate(profiles_of(domains)):
                given = run_many(ahead, [is_stable(position, flat(messages)) for messages in every])
                expected = [[int(word_equilibrium(count, domains, words, profile, messages))] for messages in every]
                self.assertEqual(given, expected)

    def test_larger_instances(self):
        draw = random.Random(14)
        seen = set()
        for count, domains in ((3, [THREE] * 3), (3, UNEVEN), (4, [FOUR[::4], FOUR[1::4], FOUR[3::4]]),
                               (4, [FOUR[:2], FOUR[9:13], FOUR[20:23]]), (2, [TWO] * 3)):
            profiles = profiles_of(domains)
            chosen = draw.sample(range(len(profiles)), min(len(profiles), 100))
            masks = [draw.randrange(2 ** count) if k in chosen else 0 for k in range(len(profiles))]
            ahead = instance_calls(count, domains) + [put(masks[k], profiles[k]) for k in chosen]
            words = as_dict(domains, masks)
            for k in range(100):
                messages = any_messages(draw, count, len(profiles))
                agent = draw.randrange(3)
                position = draw.choice((messages[0][0], draw.randrange(len(profiles))))
                given = run(ahead + [outcome_of(flat(messages)), attain(agent, flat(messages)),
                                     is_stable(position, flat(messages))])[-3:]
                stable = int(word_equilibrium(count, domains, words, profiles[position], messages))
                self.assertEqual(given, [list(word_outcome(domains, words, messages)),
                                         [mask_of(word_attainable(count, domains, words, agent, messages))], [stable]])
                seen.add((given[0][1], stable))
        self.assertLessEqual({(1, 0), (1, 1), (2, 0), (3, 0)}, seen)

    def test_numbers_do_not_matter_where_two_agree(self):
        for third in range(3):
            for numbers in itertools.product((0, 1, 1000), repeat=3):
                messages = [[2, 0, number] for number in numbers]
                messages[third][1] = 1
                expected = run(SIX_PROFILES + [outcome_of(flat([message[:2] + [0] for message in messages]))])[-1]
                self.assertEqual(expected[1], 2)
                self.assertEqual(run(SIX_PROFILES + [outcome_of(flat(messages))])[-1], expected)


def wrong_messages():
    """Rows that aren't three messages over six profiles and three alternatives: of every other length, and
    with each number just too high or as high as can be."""
    rows = [VALID[:length] if length < 9 else VALID + [0] for length in (0, 1, 2, 3, 4, 5, 6, 7, 8, 10)]
    rows += [[0] * length for length in range(11) if length != 9] + [[LARGEST] * length for length in range(11)]
    for agent in range(3):
        for field, limit in enumerate((6, 3, 1001)):
            for number in (limit, limit + 1, 2 ** 31, LARGEST):
                row = list(VALID)
                row[3 * agent + field] = number
                rows.append(row)
    return rows


class TestErrors(unittest.TestCase):
    def test_the_highest_that_are_allowed(self):
        for row in (VALID, [5, 2, 1000] * 3, [0] * 9, [0, 0, 1000, 5, 2, 0, 0, 2, 1000]):
            given = run(SIX_PROFILES + [outcome_of(row), attain(2, row), is_stable(5, row)])[-3:]
            self.assertTrue(all(answer[0] >= 0 for answer in given), row)

    def test_messages(self):
        for row in wrong_messages():
            calls = [outcome_of(row), attain(0, row), attain(2, row), is_stable(0, row), is_stable(5, row)]
            self.assertEqual(run(SIX_PROFILES + calls)[len(SIX_PROFILES):], [[-22]] * 5, row)

    def test_agent_comes_first(self):
        for agent in (3, 4, 9, 2 ** 31, LARGEST):
            for row in [VALID] + wrong_messages():
                self.assertEqual(run_last(SIX_PROFILES + [attain(agent, row)]), -2, (agent, row))

    def test_profile_index_comes_first(self):
        for position in (6, 7, 216, 2 ** 31, LARGEST):
            for row in [VALID] + wrong_messages():
                self.assertEqual(run_last(SIX_PROFILES + [is_stable(position, row)]), -2, (position, row))

    def test_the_limits_follow_the_instance(self):
        for count, domains in ((2, [TWO[:1]] * 3), (2, [TWO] * 3), (4, [FOUR[:6], FOUR[6:12], FOUR[12:18]])):
            ahead = instance_calls(count, domains) + [PARETO]
            profiles = len(profiles_of(domains))
            for agent in range(3):
                for place, limit in ((3 * agent, profiles), (3 * agent + 1, count), (3 * agent + 2, 1001)):
                    row = [0] * 9
                    row[place] = limit
                    calls = [outcome_of(row), attain(agent, row), is_stable(profiles - 1, row)]
                    self.assertEqual(run(ahead + calls)[len(ahead):], [[-22]] * 3)
                    self.assertEqual(run_last(ahead + [is_stable(profiles, row)]), -2)
                    row[place] = limit - 1
                    calls = [outcome_of(row), attain(agent, row), is_stable(profiles - 1, row)]
                    self.assertTrue(all(answer[0] >= 0 for answer in run(ahead + calls)), row)

    def test_not_ready_ahead_of_the_others(self):
        calls = [index_of([]), index_of([0, 0, 0]), outcome_of([]), outcome_of([0] * 9), attain(0, [0] * 9),
                 attain(3, [0] * 9), attain(LARGEST, []), is_stable(0, [0] * 9), is_stable(LARGEST, [LARGEST] * 10)]
        for fill in ([], [0], [1], [2], [0, 1], [0, 2], [1, 2]):
            ahead = [create(2)] + [full(agent) for agent in fill]
            self.assertEqual(run(ahead + calls)[len(ahead):], [[-16]] * len(calls))
        self.assertEqual(run(calls), [[-11]] * len(calls))


if __name__ == "__main__":
    unittest.main()
