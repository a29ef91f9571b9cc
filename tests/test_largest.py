"""Lists of 400 calls over the largest domains."""

import itertools
import unittest

from peakchoice.mechanism import answers
from helper import (BORDA, CLOSE, IMPLEMENTS, MONOTONICITY, PARETO, PEAKS, VETO, add, ask, attain, create, full,
                    index_of, is_stable, joined, outcome_of, outcomes_in, put, run, run_model)

FOUR = [list(ranking) for ranking in itertools.permutations(range(4))]
THREE_AHEAD = [create(3), full(0), full(1), full(2)]
FOUR_AHEAD = [create(4)] + [add(agent, ranking) for agent in range(3) for ranking in FOUR[agent::4]]
# The last profile alone differs from a correspondence with no violation, so all profiles have to be gone through.
LAST_DIFFERS = [PARETO, put(0, [5, 5, 5])]
LAST_IS_TOO_LARGE = [PARETO, put(7, [5, 5, 5])]
BEGINNINGS = [[PARETO], [BORDA], LAST_DIFFERS, LAST_IS_TOO_LARGE]
ROWS = [[215, 2, 1000, 215, 2, 999, 215, 2, 0], [215, 1, 1000, 215, 1, 1000, 0, 0, 1000], [1, 0, 5, 2, 1, 6, 3, 2, 7]]
QUESTIONS = [MONOTONICITY, VETO, IMPLEMENTS, outcomes_in([5, 5, 5]), outcomes_in([0, 0, 0]), index_of([5, 5, 5])]
QUESTIONS += [call for row in ROWS for call in (outcome_of(row), attain(1, row), is_stable(215, row))]


class TestFourHundredCalls(unittest.TestCase):
    def check_alone(self, call):
        """The rest of 400 calls is one call again and again; each time it is answered alike."""
        for ahead in (THREE_AHEAD, FOUR_AHEAD):
            for beginning in BEGINNINGS:
                start = ahead + beginning
                calls = start + [call] * (400 - len(start))
                given = run(calls)
                self.assertEqual(given[:len(start) + 1], run_model(start + [call]))
                self.assertEqual(given[len(start):], [given[-1]] * (400 - len(start)))

    def test_implements_alone(self):
        self.check_alone(IMPLEMENTS)

    def test_monotonicity_violation_alone(self):
        self.check_alone(MONOTONICITY)

    def test_equilibrium_outcomes_alone(self):
        self.check_alone(outcomes_in([5, 5, 5]))

    def test_veto_violation_alone(self):
        self.check_alone(VETO)

    def test_equilibrium_outcomes_of_every_profile(self):
        profiles = [list(profile) for profile in itertools.product(range(6), repeat=3)]
        for ahead in (THREE_AHEAD, FOUR_AHEAD):
            for use in (PARETO, PEAKS):
                calls = ahead + [use, CLOSE] + [call for profile in profiles[:180]
                                                for call in (ask(profile), outcomes_in(profile))]
                given = run(calls)[len(ahead) + 2:]
                # Both are monotonic and have no veto violation, so the outcomes are what is acceptable.
                self.assertEqual(given[::2], given[1::2])

    def test_closing_again_and_again(self):
        for ahead in (THREE_AHEAD, FOUR_AHEAD):
            calls = ahead + [BORDA, CLOSE, IMPLEMENTS] * ((400 - len(ahead)) // 3)
            given = run(calls)[len(ahead):]
            self.assertEqual(given, given[:3] * (len(given) // 3))
            self.assertEqual(given[:3], run_model(ahead + [BORDA, CLOSE, IMPLEMENTS])[-3:])

    def test_all_questions_in_turn(self):
        for ahead in (THREE_AHEAD, FOUR_AHEAD):
            for beginning in (LAST_DIFFERS, [BORDA]):
                start = ahead + beginning
                calls = (start + QUESTIONS * 30)[:400]
                self.assertEqual(len(calls), 400)
                self.assertLessEqual(len(joined(calls)), 5200)
                expected = run_model(start + QUESTIONS)
                expected = (expected + expected[len(start):] * 29)[:400]
                handed_in = joined(calls)
                self.assertEqual(answers(handed_in), [n for answer in expected for n in [len(answer)] + answer])
                self.assertEqual(handed_in, joined(calls))


if __name__ == "__main__":
    unittest.main()
