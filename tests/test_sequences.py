"""Long lists of calls, right and wrong ones mixed, against the document's words."""

import itertools
import random
import unittest

from peakchoice.mechanism import answers
from helper import (BORDA, CLOSE, LARGEST, PARETO, PEAKS, add, ask, create, full, instance_calls, joined, put, run,
                    run_model)

SEEDS = 60
STRANGE = (5, 6, 8, 9, 15, 16, 17, 255, 2 ** 16, 2 ** 31, LARGEST - 1, LARGEST)


def any_number(draw, likely):
    return draw.choice(STRANGE) if draw.random() < 0.08 else draw.randrange(likely)


def any_row(draw, likely, length):
    if draw.random() < 0.1:
        length = draw.randrange(11)
    return [any_number(draw, likely) for k in range(length)]


def any_ranking(draw, count):
    if draw.random() < 0.15:
        return any_row(draw, count, count)
    return draw.sample(range(count), count)


def any_call(draw, count):
    kind = draw.randrange(20)
    if kind == 0:
        return create(draw.choice((0, 1, 5, LARGEST)))
    if kind < 5:
        return add(any_number(draw, 3), any_ranking(draw, count))
    if kind < 7 and draw.random() < 0.3:
        return full(any_number(draw, 3))
    if kind < 11:
        return put(any_number(draw, 2 ** count), any_row(draw, 3, 3))
    if kind < 14:
        return draw.choice((PARETO, PEAKS, BORDA, CLOSE))
    return ask(any_row(draw, 3, 3))


def any_calls(seed):
    draw = random.Random(seed)
    calls = [any_call(draw, 3) for k in range(draw.randrange(3))]
    while len(calls) < 130:
        count = draw.choice((2, 3, 3, 4))
        calls += [create(count)] + [add(agent, any_ranking(draw, count)) for agent in range(3)]
        calls += [any_call(draw, count) for k in range(draw.randrange(60))]
    return calls


class TestSequences(unittest.TestCase):
    def test_against_the_words(self):
        seen = set()
        for seed in range(SEEDS):
            calls = any_calls(seed)
            handed_in = joined(calls)
            before = list(handed_in)
            expected = run_model(calls)
            self.assertEqual(answers(handed_in), [number for answer in expected for number in [len(answer)] + answer])
            self.assertEqual(handed_in, before)
            seen.update((call[0], answer[0]) for call, answer in zip(calls, expected))
        refusals = {(0, -22), (1, -11), (1, -2), (1, -22), (1, -17), (2, -2), (2, -28), (3, -16), (3, -22),
                    (7, 0), (7, 1), (7, -16), (8, -16), (8, -22)}
        self.assertEqual(refusals - seen, set())

    def test_refused_calls_change_nothing(self):
        """What the rest answers is the same with every refused call left out."""
        for seed in range(SEEDS):
            calls = any_calls(seed)
            given = run(calls)
            kept = [(call, answer) for call, answer in zip(calls, given) if answer[0] >= 0]
            self.assertLess(len(kept), len(calls))
            self.assertEqual(run([call for call, answer in kept]), [answer for call, answer in kept])


class TestEachRefusalByItself(unittest.TestCase):
    def test_state_is_unchanged(self):
        """Every refused call leaves all that later calls show: domains, masks, and what is refused."""
        four = [list(ranking) for ranking in itertools.permutations(range(4))]
        ahead = instance_calls(4, [four[:6], four[6:8], four[20:21]])
        ahead += [put((5 * a + 3 * b + 1) % 16, [a, b, 0]) for a in range(6) for b in range(2)]
        refused = [create(k) for k in (0, 1, 5, LARGEST)]
        refused += [add(agent, four[9]) for agent in (3, LARGEST)] + [add(0, four[9]), add(0, four[0]), add(1, four[7])]
        refused += [add(2, []), add(2, [0, 1, 2]), add(2, [0, 1, 2, 2]), add(2, list(range(10)))]
        refused += [full(agent) for agent in (0, 1, 2, 3, LARGEST)]
        refused += [put(16, [0, 0, 0]), put(LARGEST, [5, 1, 0]), put(1, [6, 0, 0]), put(1, [0, 2, 0]),
                    put(1, [0, 0, 1]), put(1, []), put(1, [0] * 10), ask([6, 0, 0]), ask([]), ask([0] * 10)]
        shown = [ask([a, b, c]) for a in range(7) for b in range(3) for c in range(2)]
        shown += [CLOSE] + [ask([a, b, 0]) for a in range(6) for b in range(2)]
        shown += [BORDA] + [ask([a, b, 0]) for a in range(6) for b in range(2)]
        shown += [add(0, four[9]), add(1, four[7]), add(1, four[0]), add(2, four[20]), add(2, four[0]), PARETO]
        shown += [ask([a, b, c]) for a in range(7) for b in range(4) for c in range(3)]
        expected = run(ahead + shown)[len(ahead):]
        for call in refused:
            given = run(ahead + [call] + shown)[len(ahead):]
            self.assertLess(given[0][0], 0, call)
            self.assertEqual(given[1:], expected, call)


if __name__ == "__main__":
    unittest.main()
