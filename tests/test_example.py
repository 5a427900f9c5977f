"""The rows of the document's example."""

import unittest

from ovenbatches.tins import answers
from tests.calls import (
    add_product, are_compatible, batch, best_order, check_batches, create, describe, fill_batch, flat, min_batches,
    min_batches_if_capacity, min_change, run, temperatures)

ROWS = [
    (create(6), [0]),
    (add_product(180, 200, 5), [0]),
    (add_product(190, 230, 4), [1]),
    (add_product(220, 250, 3), [2]),
    (min_batches(), [2]),
    (batch(0), [200, 5, 1, 0]),
    (batch(1), [230, 0, 3, 3]),
    (best_order(240), [40, 230, 200]),
    (min_change(150), [80]),
    (are_compatible(0, 2), [0]),
    (fill_batch(225), [6, 0, 4, 2]),
    (min_batches_if_capacity(5), [3]),
    (check_batches([200, 5, 0, 0, 230, 0, 4, 3]), [0, 2]),
    (check_batches([200, 5, 1, 0, 225, 0, 3, 3]), [1, 2]),
    (check_batches([200, 5]), [-22]),
]


class Example(unittest.TestCase):
    def test_rows_with_their_counts(self):
        calls = [
            0, 6, 1, 180, 200, 5, 1, 190, 230, 4, 1, 220, 250, 3, 6, 7, 0, 7, 1, 9, 240, 10, 150, 11, 0, 2, 12, 225,
            14, 5, 15, 8, 200, 5, 0, 0, 230, 0, 4, 3, 15, 8, 200, 5, 1, 0, 225, 0, 3, 3, 15, 2, 200, 5]
        expected = [
            1, 0, 1, 0, 1, 1, 1, 2, 1, 2, 4, 200, 5, 1, 0, 4, 230, 0, 3, 3, 3, 40, 230, 200, 1, 80, 1, 0, 4, 6, 0, 4, 2,
            1, 3, 2, 0, 2, 2, 1, 2, 1, -22]
        self.assertEqual(calls, flat([call for call, answer in ROWS]))
        self.assertEqual(answers(calls), expected)

    def test_rows_one_by_one(self):
        self.assertEqual(run(*[call for call, answer in ROWS]), [answer for call, answer in ROWS])

    def test_what_the_instance_of_the_rows_holds(self):
        calls = [call for call, answer in ROWS] + [temperatures(), describe()]
        expected = [[2, 200, 230], [6, 3, 180, 200, 5, 190, 230, 4, 220, 250, 3]]
        self.assertEqual(run(*calls)[-2:], expected)


if __name__ == "__main__":
    unittest.main()
