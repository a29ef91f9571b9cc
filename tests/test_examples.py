"""The document's examples, all rows in their order on one instance."""

import unittest

from peakchoice.mechanism import answers
from helper import (DESCRIBE, IMPLEMENTS, MONOTONICITY, PARETO, VETO, ask, attain, create, full, index_of, is_stable,
                    joined, outcome_of, put, run)

ROWS = [
    (create(2), [0]),
    (full(0), [2]),
    (full(1), [2]),
    (full(2), [2]),
    (put(1, [0, 0, 0]), [0]),
    (MONOTONICITY, [0]),
    (VETO, [1, 0, 0, 0, 1]),
    (PARETO, [0]),
    (ask([0, 0, 1]), [3]),
    (IMPLEMENTS, [1]),
    (index_of([0, 1, 1]), [3, 8]),
    (outcome_of([0, 0, 0, 0, 0, 5, 3, 1, 9]), [1, 2]),
    (attain(2, [0, 0, 0, 0, 0, 5, 3, 1, 9]), [3]),
    (is_stable(0, [0, 0, 0, 0, 0, 5, 0, 0, 9]), [1]),
    (outcome_of([0, 0, 0, 1, 0, 5, 3, 2, 9]), [-22]),
    (DESCRIBE, [2, 2, 2, 2]),
]


class TestExamples(unittest.TestCase):
    def test_all_rows(self):
        self.assertEqual(run([call for call, answer in ROWS]), [answer for call, answer in ROWS])

    def test_each_beginning(self):
        for length in range(1, len(ROWS) + 1):
            expected = [number for call, answer in ROWS[:length] for number in [len(answer)] + answer]
            self.assertEqual(answers(joined([call for call, answer in ROWS[:length]])), expected)

    def test_written_out(self):
        calls = [0, 2, 2, 0, 2, 1, 2, 2, 3, 1, 3, 0, 0, 0, 9, 10, 4, 8, 3, 0, 0, 1, 16, 11, 3, 0, 1, 1,
                 12, 9, 0, 0, 0, 0, 0, 5, 3, 1, 9, 13, 2, 9, 0, 0, 0, 0, 0, 5, 3, 1, 9,
                 14, 0, 9, 0, 0, 0, 0, 0, 5, 0, 0, 9, 12, 9, 0, 0, 0, 1, 0, 5, 3, 2, 9, 17]
        given = [1, 0, 1, 2, 1, 2, 1, 2, 1, 0, 1, 0, 5, 1, 0, 0, 0, 1, 1, 0, 1, 3, 1, 1, 2, 3, 8, 2, 1, 2, 1, 3,
                 1, 1, 1, -22, 4, 2, 2, 2, 2]
        self.assertEqual(answers(calls), given)


if __name__ == "__main__":
    unittest.main()
