"""The rows of the document's example."""

import unittest

from ovenbatches.tins import answers
from tests.calls import add_product, batch, create, min_batches, run, temperatures


class Example(unittest.TestCase):
    def test_rows_with_their_counts(self):
        calls = [0, 6, 1, 180, 200, 5, 1, 190, 230, 4, 1, 220, 250, 3, 6, 7, 0, 7, 1]
        expected = [1, 0, 1, 0, 1, 1, 1, 2, 1, 2, 4, 200, 5, 1, 0, 4, 230, 0, 3, 3]
        self.assertEqual(answers(calls), expected)

    def test_rows_one_by_one(self):
        rows = [
            (create(6), [0]),
            (add_product(180, 200, 5), [0]),
            (add_product(190, 230, 4), [1]),
            (add_product(220, 250, 3), [2]),
            (min_batches(), [2]),
            (batch(0), [200, 5, 1, 0]),
            (batch(1), [230, 0, 3, 3]),
            (temperatures(), [2, 200, 230]),
        ]
        self.assertEqual(run(*[call for call, answer in rows]), [answer for call, answer in rows])


if __name__ == "__main__":
    unittest.main()
