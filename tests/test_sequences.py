"""Long lists of calls, right and wrong ones mixed, against the document's words."""

import itertools
import random
import unittest

from peakchoice.mechanism import answers
from helper import (BORDA, CLOSE, DESCRIBE, IMPLEMENTS, LARGEST, MONOTONICITY, PARETO, PEAKS, VETO, add, ask, attain,
                    create, full, index_of, instance_calls, is_stable, joined, outcome_of, outcomes_in, put, run,
                    run_model)

SEEDS = 60
STRANGE = (5, 6, 8, 9, 15, 16, 17, 255, 2 ** 16, 2 ** 31, LARGEST - 1, LARGEST)


def any_number(draw, likely):
    return draw.choice(STRANGE) if draw.random() < 0.08 else draw.randrange(likely)


def any_row(draw, likely, length):
    if draw.random() < 0.1:
        length = draw.randrange(11)
    return [any_number(draw, likely) for k in range(length)]


def any_ranking(draw, count):
    if draw.random() < 0.15:
        return any_row(draw, count, count)
    return draw.sample(range(count), count)


def any_messages(draw, count):
    """Messages that often agree, and now and then are invalid."""
    if draw.random() < 0.1:
        return any_row(draw, 2, 9)
    common = [draw.randrange(3), draw.randrange(count)]
    messages = []
    for agent in range(3):
        pair = common if draw.random() < 0.6 else [draw.randrange(3), draw.randrange(count)]
        messages += pair + [draw.choice((0, 1, 1, 1000, 1001 if draw.random() < 0.2 else 999))]
    return messages


def any_question(draw, count):
    kind = draw.randrange(9)
    if kind < 4:
        return (MONOTONICITY, VETO, IMPLEMENTS, DESCRIBE)[kind]
    if kind < 6:
        return (index_of, outcomes_in)[kind - 4](any_row(draw, 2, 3))
    if kind == 6:
        return outcome_of(any_messages(draw, count))
    return (attain, is_stable)[kind - 7](any_number(draw, 3), any_messages(draw, count))


def any_call(draw, count):
    if draw.random() < 0.4:
        return any_question(draw, count)
    kind = draw.randrange(20)
    if kind == 0:
        return create(draw.choice((0, 1, 5, LARGEST)))
    if kind < 5:
        return add(any_number(draw, 3), any_ranking(draw, count))
    if kind < 7 and draw.random() < 0.3:
        return full(any_number(draw, 3))
    if kind < 11:
        return put(any_number(draw, 2 ** count), any_row(draw, 3, 3))
    if kind < 14:
        return draw.choice((PARETO, PEAKS, BORDA, CLOSE))
    return ask(any_row(draw, 3, 3))


def any_calls(seed):
    draw = random.Random(seed)
    calls = [any_call(draw, 3) for k in range(draw.randrange(3))]
    while len(calls) < 130:
        count = draw.choice((2, 3, 3, 4))
        calls += [create(count)] + [add(agent, any_ranking(draw, count)) for agent in range(3)]
        calls += [any_call(draw, count) for k in range(draw.randrange(60))]
    return calls


class TestSequences(unittest.TestCase):
    def test_against_the_words(self):
        seen = set()
        for seed in range(SEEDS):
            calls = any_calls(seed)
            handed_in = joined(calls)
            before = list(handed_in)
            expected = run_model(calls)
            self.assertEqual(answers(handed_in), [number for answer in expected for number in [len(answer)] + answer])
            self.assertEqual(handed_in, before)
            seen.update((call[0], answer[0]) for call, answer in zip(calls, expected))
        refusals = {(0, -22), (1, -11), (1, -2), (1, -22), (1, -17), (2, -2), (2, -28), (3, -16), (3, -22),
                    (7, 0), (7, 1), (7, -16), (8, -16), (8, -22), (9, 0), (9, 1), (10, 0), (10, 1), (11, 1), (11, -22),
                    (12, 0), (12, 1), (12, -22), (13, 7), (13, -2), (13, -22), (14, 0), (14, 1), (14, -2), (14, -22),
                    (15, 0), (15, 1), (15, -22), (16, 0), (16, 1), (17, 2), (17, 3), (17, 4)}
        refusals |= {(operation, -16) for operation in range(3, 17)} | {(operation, -11) for operation in range(8, 18)}
        self.assertEqual(refusals - seen, set())

    def test_refused_calls_change_nothing(self):
        """What the rest answers is the same with every refused call left out."""
        for seed in range(SEEDS):
            calls = any_calls(seed)
            given = run(calls)
            kept = [(call, answer) for call, answer in zip(calls, given) if answer[0] >= 0]
            self.assertLess(len(kept), len(calls))
            self.assertEqual(run([call for call, answer in kept]), [answer for call, answer in kept])


    def test_questions_change_nothing(self):
        """What the rest answers is the same with every call from number 8 on left out."""
        for seed in range(SEEDS):
            calls = any_calls(seed)
            given = run(calls)
            kept = [(call, answer) for call, answer in zip(calls, given) if call[0] < 8]
            self.assertLess(len(kept), len(calls))
            self.assertEqual(run([call for call, answer in kept]), [answer for call, answer in kept])


class TestEachByItself(unittest.TestCase):
    def test_state_is_unchanged(self):
        """Every refused call, and every call from number 8 on, leaves all that later calls show: domains, masks,
        and what is refused."""
        four = [list(ranking) for ranking in itertools.permutations(range(4))]
        ahead = instance_calls(4, [four[:6], four[6:8], four[20:21]])
        ahead += [put((5 * a + 3 * b + 1) % 16, [a, b, 0]) for a in range(6) for b in range(2)]
        refused = [create(k) for k in (0, 1, 5, LARGEST)]
        refused += [add(agent, four[9]) for agent in (3, LARGEST)] + [add(0, four[9]), add(0, four[0]), add(1, four[7])]
        refused += [add(2, []), add(2, [0, 1, 2]), add(2, [0, 1, 2, 2]), add(2, list(range(10)))]
        refused += [full(agent) for agent in (0, 1, 2, 3, LARGEST)]
        refused += [put(16, [0, 0, 0]), put(LARGEST, [5, 1, 0]), put(1, [6, 0, 0]), put(1, [0, 2, 0]),
                    put(1, [0, 0, 1]), put(1, []), put(1, [0] * 10), ask([6, 0, 0]), ask([]), ask([0] * 10)]
        for row in ([], [0] * 8, [0] * 10, [12] + [0] * 8, [0, 4] + [0] * 7, [0] * 8 + [1001], [LARGEST] * 9):
            refused += [outcome_of(row), attain(0, row), is_stable(11, row), attain(3, row), is_stable(12, row)]
        refused += [attain(3, [0] * 9), is_stable(12, [0] * 9), index_of([6, 0, 0]), index_of([]),
                    outcomes_in([0, 2, 0]), outcomes_in([0] * 10)]
        asked = [MONOTONICITY, VETO, IMPLEMENTS, DESCRIBE]
        for profile in ([0, 0, 0], [5, 1, 0]):
            asked += [ask(profile), index_of(profile), outcomes_in(profile)]
        for row in ([0] * 9, [3, 1, 5] * 3, [2, 1, 0, 2, 1, 7, 11, 3, 1000], [0, 0, 1, 1, 1, 2, 2, 2, 3]):
            asked += [outcome_of(row), attain(0, row), attain(2, row), is_stable(0, row), is_stable(11, row)]
        shown = [ask([a, b, c]) for a in range(7) for b in range(3) for c in range(2)]
        shown += [DESCRIBE, MONOTONICITY, VETO, IMPLEMENTS, index_of([5, 1, 0]), outcomes_in([3, 1, 0])]
        shown += [CLOSE] + [ask([a, b, 0]) for a in range(6) for b in range(2)]
        shown += [BORDA] + [ask([a, b, 0]) for a in range(6) for b in range(2)]
        shown += [add(0, four[9]), add(1, four[7]), add(1, four[0]), add(2, four[20]), add(2, four[0]), PARETO]
        shown += [ask([a, b, c]) for a in range(7) for b in range(4) for c in range(3)]
        expected = run(ahead + shown)[len(ahead):]
        for call in refused + asked:
            given = run(ahead + [call] + shown)[len(ahead):]
            self.assertEqual(given[0][0] < 0, call in refused, call)
            self.assertEqual(given[1:], expected, call)
        self.assertEqual({call[0] for call in asked}, set(range(8, 18)))

    def test_not_ready_changes_nothing(self):
        """The calls 3 to 16 are refused while a domain is empty, and leave the other domains."""
        asked = [put(1, [0, 0, 0]), PARETO, PEAKS, BORDA, CLOSE, ask([0, 0, 0]), MONOTONICITY, VETO,
                 index_of([0, 0, 0]), outcome_of([0] * 9), attain(0, [0] * 9), is_stable(0, [0] * 9),
                 outcomes_in([0, 0, 0]), IMPLEMENTS]
        for call in asked:
            calls = [create(3), add(0, [2, 0, 1]), add(1, [0, 1, 2]), call, DESCRIBE, add(2, [1, 0, 2]), DESCRIBE,
                     ask([0, 0, 0]), VETO, PEAKS, ask([0, 0, 0]), add(0, [2, 0, 1])]
            self.assertEqual(run(calls)[3:], [[-16], [3, 1, 1, 0], [0], [3, 1, 1, 1], [0], [0], [0], [7], [-17]])


if __name__ == "__main__":
    unittest.main()
