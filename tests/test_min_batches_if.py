"""What min_batches would return behind a change: min_batches_if_tins and min_batches_if_capacity."""

import unittest

from tests.calls import (
    BAD_CAPACITIES, BAD_TINS, MISSING, OUT_OF_RANGE, SIX, THREE, Case, bad_indices, create, instances, last, making,
    min_batches, min_batches_if_capacity, min_batches_if_tins, run, set_capacity, set_tins)


class IfTins(Case):
    def test_of_the_example(self):
        for i, tins, count in ((0, 5, 2), (0, 0, 2), (0, 6, 3), (0, 9, 3), (1, 0, 2), (1, 9, 3), (2, 0, 2), (2, 9, 3)):
            with self.subTest(i=i, tins=tins):
                self.assertEqual(last(*THREE, min_batches_if_tins(i, tins)), [count])

    def test_down_to_no_tins_at_all(self):
        calls = making(6, [(180, 200, 5)])
        self.assertEqual(run(*calls, min_batches_if_tins(0, 0), min_batches())[-2:], [[0], [1]])
        calls = making(6, [(180, 200, 0)])
        self.assertEqual(run(*calls, min_batches_if_tins(0, 9), min_batches())[-2:], [[2], [0]])

    def test_what_set_tins_and_min_batches_answer_on_another_instance(self):
        for capacity, products in list(instances(51, 80)) + [(6, []), (4, [(0, 400, 9)] * 6)]:
            calls = making(capacity, products)
            for i in range(len(products)):
                told = run(*calls, *[min_batches_if_tins(i, tins) for tins in range(10)])[len(calls):]
                expected = [last(*calls, set_tins(i, tins), min_batches()) for tins in range(10)]
                self.assertEqual(told, expected, (capacity, products, i))

    def test_no_such_product(self):
        for calls, count in (([create(6)], 0), (THREE, 3), (SIX, 6)):
            for i in bad_indices(count):
                for tins in [0, 1, 9] + BAD_TINS:
                    self.assert_refused(calls, min_batches_if_tins(i, tins), MISSING)

    def test_out_of_range(self):
        for calls, count in ((THREE, 3), (SIX, 6)):
            for i in range(count):
                for tins in BAD_TINS:
                    self.assert_refused(calls, min_batches_if_tins(i, tins), OUT_OF_RANGE)

    def test_the_instance_is_not_changed(self):
        for calls, count in ((THREE, 3), (SIX, 6)):
            for i in range(count):
                for tins in (0, 1, 5, 9):
                    self.assert_unchanged(calls, min_batches_if_tins(i, tins))


class IfCapacity(Case):
    def test_of_the_example(self):
        for capacity, count in ((1, 12), (2, 6), (5, 3), (6, 2), (7, 2), (19, 2), (20, 2)):
            with self.subTest(capacity=capacity):
                self.assertEqual(last(*THREE, min_batches_if_capacity(capacity)), [count])

    def test_without_tins(self):
        for calls in ([create(6)], making(6, [(180, 200, 0)])):
            self.assertEqual(run(*calls, min_batches_if_capacity(1), min_batches_if_capacity(20))[-2:], [[0], [0]])

    def test_what_set_capacity_and_min_batches_answer_on_another_instance(self):
        for capacity, products in list(instances(52, 80)) + [(6, []), (4, [(0, 400, 9)] * 6)]:
            calls = making(capacity, products)
            told = run(*calls, *[min_batches_if_capacity(other) for other in range(1, 21)])[len(calls):]
            expected = [last(*calls, set_capacity(other), min_batches()) for other in range(1, 21)]
            self.assertEqual(told, expected, (capacity, products))

    def test_out_of_range(self):
        for calls in ([create(6)], THREE, SIX):
            for capacity in BAD_CAPACITIES:
                self.assert_refused(calls, min_batches_if_capacity(capacity), OUT_OF_RANGE)

    def test_the_instance_is_not_changed(self):
        for calls in ([create(6)], THREE, SIX):
            for capacity in (1, 5, 6, 20):
                self.assert_unchanged(calls, min_batches_if_capacity(capacity))


if __name__ == "__main__":
    unittest.main()
