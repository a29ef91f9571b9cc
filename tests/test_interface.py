"""What is handed in and given back, the refusals ahead of all others, and what is kept: nothing."""

import contextlib
import inspect
import io
import unittest

import peakchoice.mechanism
from peakchoice.mechanism import answers
from helper import (BORDA, CLOSE, DESCRIBE, IMPLEMENTS, LARGEST, MONOTONICITY, PARETO, PEAKS, VETO, add, ask, attain,
                    create, full, index_of, instance_calls, is_stable, joined, outcome_of, outcomes_in, put, run,
                    run_last)

# Every call but create, once each, with arguments of the right form.
ALL_BUT_CREATE = [
    add(0, [0, 1]), full(0), put(0, [0, 0, 0]), PARETO, PEAKS, BORDA, CLOSE, ask([0, 0, 0]),
    MONOTONICITY, VETO, index_of([0, 0, 0]), outcome_of([0] * 9), attain(0, [0] * 9), is_stable(0, [0] * 9),
    outcomes_in([0, 0, 0]), IMPLEMENTS, DESCRIBE,
]
# The same with arguments that their own errors would refuse.
ALL_BUT_CREATE_WRONG = [
    add(3, [9]), full(LARGEST), put(LARGEST, []), ask([]), ask([LARGEST] * 10), index_of([]), outcome_of([]),
    attain(7, [5]), attain(0, [0] * 8), is_stable(LARGEST, [LARGEST] * 10), is_stable(0, []), outcomes_in([0, 0]),
]
SAMPLE = [create(3), full(0), full(1), add(2, [2, 0, 1]), put(5, [0, 1, 0]), CLOSE, ask([0, 1, 0]), BORDA,
          put(9, [0, 0, 0]), ask([5, 5, 0]), MONOTONICITY, VETO, index_of([3, 4, 0]), outcome_of([1, 2, 3] * 3),
          attain(1, [7, 0, 1] * 3), attain(3, []), is_stable(35, [9, 1, 0] * 3), outcomes_in([2, 2, 0]), IMPLEMENTS,
          DESCRIBE, create(7), create(2), ask([0, 0, 0]), DESCRIBE, IMPLEMENTS, add(1, [0, 1])]


class TestForm(unittest.TestCase):
    def test_the_function_takes_calls_alone(self):
        self.assertEqual(list(inspect.signature(peakchoice.mechanism.answers).parameters), ["calls"])

    def test_examples_of_these_calls(self):
        calls = [create(2), full(0), full(1), full(2), put(1, [0, 0, 0]), PARETO, ask([0, 0, 1])]
        self.assertEqual(answers(joined(calls)), [1, 0, 1, 2, 1, 2, 1, 2, 1, 0, 1, 0, 1, 3])

    def test_written_out(self):
        given = answers([0, 2, 1, 0, 2, 1, 0, 1, 1, 2, 0, 1, 1, 2, 2, 1, 0, 8, 3, 0, 0, 0, 3, 2, 3, 0, 0, 0,
                         8, 3, 0, 0, 0, 8, 0, 7])
        self.assertEqual(given, [1, 0, 1, 0, 1, 0, 1, 0, 1, 0, 1, 0, 1, 2, 1, -22, 1, 0])

    def test_an_error_is_one_number(self):
        self.assertEqual(answers([0, 5]), [1, -22])
        self.assertEqual(answers([0, 2, 1, 3, 0]), [1, 0, 1, -2])
        self.assertEqual(answers([4]), [1, -11])

    def test_only_whole_numbers_are_given_back(self):
        given = answers(joined(SAMPLE))
        self.assertIs(type(given), list)
        self.assertEqual({type(number) for number in given}, {int})

    def test_how_many_numbers_each_call_is_answered_by(self):
        ahead = instance_calls(2, [[[0, 1], [1, 0]], [[0, 1]], [[0, 1]]])
        told = [(put(0, [0, 0, 0]), 1), (CLOSE, 1), (ask([0, 0, 0]), 1), (MONOTONICITY, 1), (VETO, 5), (IMPLEMENTS, 4),
                (put(1, [1, 0, 0]), 1), (MONOTONICITY, 8), (PEAKS, 1), (BORDA, 1), (PARETO, 1), (MONOTONICITY, 1),
                (VETO, 1), (IMPLEMENTS, 1), (index_of([0, 0, 0]), 2), (outcome_of([0] * 9), 2),
                (attain(0, [0] * 9), 1), (is_stable(0, [0] * 9), 1), (outcomes_in([0, 0, 0]), 1), (DESCRIBE, 4),
                (add(1, [1, 0]), 1), (full(1), 1), (create(2), 1)]
        given = run(ahead + [call for call, length in told])[len(ahead):]
        self.assertEqual([len(answer) for answer in given], [length for call, length in told])
        self.assertTrue(all(number >= 0 for answer in given for number in answer))
        self.assertEqual({call[0] for call, length in told}, set(range(18)))

    def test_every_call_of_every_form_is_answered(self):
        for ahead in ([], [create(2)], instance_calls(2, [[[0, 1]]] * 3)):
            for call in ALL_BUT_CREATE + ALL_BUT_CREATE_WRONG:
                self.assertEqual(len(run(ahead + [call])), len(ahead) + 1)

    def test_rows_of_each_length_are_read_to_their_end(self):
        ahead = instance_calls(2, [[[0, 1]], [[0, 1]], [[0, 1]]])
        for length in range(11):
            row = [0] * length
            calls = ahead + [add(0, row), put(1, row), ask(row), [8, 3, 0, 0, 0]]
            is_profile = length == 3
            expected = [[-22], [0 if is_profile else -22], [1 if is_profile else -22], [1 if is_profile else 0]]
            self.assertEqual(run(calls)[len(ahead):], expected, length)
            calls = ahead + [PARETO, index_of(row), outcomes_in(row), outcome_of(row), attain(2, row)]
            calls.append(is_stable(0, row))
            expected = [[0]] + ([[0, 1], [1]] if is_profile else [[-22]] * 2)
            expected += [[0, 1], [3], [1]] if length == 9 else [[-22]] * 3
            self.assertEqual(run(calls + [DESCRIBE])[len(ahead):], expected + [[2, 1, 1, 1]], length)

    def test_numbers_that_look_like_calls_are_arguments(self):
        calls = [create(2), add(0, [0, 4, 5, 6, 7, 8, 0, 2, 0, 3]), add(4, [5, 6]), full(7), full(0)]
        self.assertEqual(run(calls), [[0], [-22], [-2], [-2], [2]])

    def test_four_hundred_calls(self):
        calls = [create(3), full(0), full(1), full(2)] + [PARETO, CLOSE, BORDA, CLOSE] * 99
        self.assertEqual(len(calls), 400)
        self.assertEqual(run(calls), [[0], [6], [6], [6]] + [[0], [0], [0], [1]] * 99)

    def test_the_longest_list(self):
        row = [LARGEST] * 10
        calls = [create(2)] + [put(LARGEST, row)] * 399
        self.assertLessEqual(len(joined(calls)), 5200)
        self.assertEqual(run(calls), [[0]] + [[-16]] * 399)
        ahead = instance_calls(2, [[[0, 1]]] * 3)
        for call, code in ((is_stable(LARGEST, row), -2), (attain(2, row), -22), (is_stable(0, row), -22)):
            calls = ahead + [call] * 396
            self.assertLessEqual(len(joined(calls)), 5200)
            self.assertEqual(run(calls)[4:], [[code]] * 396)


class TestAhead(unittest.TestCase):
    def test_no_instance(self):
        for call in ALL_BUT_CREATE + ALL_BUT_CREATE_WRONG:
            self.assertEqual(run([call]), [[-11]], call)

    def test_no_instance_after_refused_creates(self):
        for count in (0, 1, 5, LARGEST):
            for call in ALL_BUT_CREATE + ALL_BUT_CREATE_WRONG:
                self.assertEqual(run([create(count), call, create(count), call]), [[-22], [-11]] * 2, call)

    def test_no_instance_until_create(self):
        self.assertEqual(run([full(0), create(2), full(0)]), [[-11], [0], [2]])

    def test_not_ready(self):
        fills = [[], [0], [1], [2], [0, 1], [0, 2], [1, 2]]
        needing = [call for call in ALL_BUT_CREATE + ALL_BUT_CREATE_WRONG if 3 <= call[0] <= 16]
        self.assertEqual({call[0] for call in needing}, set(range(3, 17)))
        for fill in fills:
            for call in needing:
                calls = [create(2)] + [full(agent) for agent in fill] + [call]
                self.assertEqual(run_last(calls), -16, (fill, call))

    def test_not_ready_does_not_hold_for_the_calls_before(self):
        calls = [create(4), add(3, [0, 1, 2, 3]), add(0, [0]), add(0, [3, 2, 1, 0]), full(3), full(0)]
        self.assertEqual(run(calls), [[0], [-2], [-22], [0], [-2], [-28]])

    def test_ready_with_the_last_domain(self):
        for last in range(3):
            others = [full(agent) for agent in range(3) if agent != last]
            calls = [create(2)] + others + [CLOSE, add(last, [1, 0]), CLOSE]
            self.assertEqual(run(calls)[3:], [[-16], [0], [0]])

    def test_not_ready_again_after_create(self):
        calls = instance_calls(2, [[[0, 1]]] * 3) + [PARETO, create(2), PARETO]
        self.assertEqual(run(calls)[4:], [[0], [0], [-16]])


class TestNothingKept(unittest.TestCase):
    def test_the_list_is_the_same_afterwards(self):
        calls = joined(SAMPLE)
        before = list(calls)
        answers(calls)
        self.assertEqual(calls, before)

    def test_the_list_is_not_changed_for_a_while_either(self):
        class Watched(list):
            def refuse(self, *given):
                raise AssertionError("the list was changed")

            __setitem__ = __delitem__ = __iadd__ = __imul__ = refuse
            append = extend = insert = pop = remove = clear = sort = reverse = refuse

        self.assertEqual(answers(Watched(joined(SAMPLE))), answers(joined(SAMPLE)))

    def test_twice_alike(self):
        calls = joined(SAMPLE)
        first = answers(calls)
        self.assertEqual(answers(calls), first)

    def test_the_answer_is_a_new_list(self):
        calls = joined(SAMPLE)
        first = answers(calls)
        expected = list(first)
        first.clear()
        self.assertEqual(answers(calls), expected)

    def test_lists_do_not_know_of_one_another(self):
        answers(joined([create(2), full(0), full(1), full(2), PARETO]))
        self.assertEqual(run([PARETO]), [[-11]])
        self.assertEqual(run([create(2), PARETO, add(0, [0, 1])]), [[0], [-16], [0]])

    def test_prints_nothing(self):
        printed = io.StringIO()
        with contextlib.redirect_stdout(printed), contextlib.redirect_stderr(printed):
            answers(joined(SAMPLE))
        self.assertEqual(printed.getvalue(), "")


if __name__ == "__main__":
    unittest.main()
