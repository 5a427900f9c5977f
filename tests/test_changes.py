"""The calls that change an instance: what they answer, change and leave, their ranges and their errors."""

import unittest

from tests.calls import (
    BAD_CAPACITIES, BAD_TINS, GREATEST, LEAST, MISSING, OUT_OF_RANGE, PRODUCTS, SIX, SIX_PRODUCTS, THREE,
    TOO_MANY_PRODUCTS, Case, add_product, bad_indices, batches_of, holds, last, making, min_batches, remove_product,
    run, set_capacity, set_temperatures, set_tins, state_behind, temperatures)

GOOD_RANGES = [(0, 0), (0, 400), (400, 400), (0, 1), (399, 400), (200, 200), (199, 200)]
BAD_RANGES = [
    (-1, 200), (0, 401), (-1, -1), (401, 401), (-1, 401), (201, 200), (1, 0), (400, 399), (400, 0), (200, -1),
    (401, 200), (LEAST, 200), (200, LEAST), (GREATEST, 200), (200, GREATEST), (LEAST, GREATEST), (LEAST, LEAST),
    (GREATEST, GREATEST)]
GOOD_TINS = [0, 1, 5, 8, 9]


class AddProduct(Case):
    def test_answers_the_index(self):
        self.assertEqual(run(*SIX), [[0], [0], [1], [2], [3], [4], [5]])
        self.assertEqual(holds(*SIX), (4, SIX_PRODUCTS))

    def test_ends_of_the_ranges(self):
        for low, high in GOOD_RANGES:
            with self.subTest(low=low, high=high):
                calls = making(6, [(low, high, 7)])
                self.assertEqual(run(*calls), [[0], [0]])
                self.assertEqual(holds(*calls), (6, [(low, high, 7)]))
        for tins in GOOD_TINS:
            with self.subTest(tins=tins):
                self.assertEqual(holds(*making(6, [(3, 5, tins)])), (6, [(3, 5, tins)]))

    def test_out_of_range(self):
        for calls in (making(6, []), THREE):
            for low, high in BAD_RANGES:
                self.assert_refused(calls, add_product(low, high, 1), OUT_OF_RANGE)
            for tins in BAD_TINS:
                self.assert_refused(calls, add_product(180, 200, tins), OUT_OF_RANGE)

    def test_with_6_products_and_none_out_of_range(self):
        self.assert_refused(SIX, add_product(180, 200, 5), TOO_MANY_PRODUCTS)
        self.assert_refused(SIX, add_product(0, 400, 0), TOO_MANY_PRODUCTS)

    def test_with_6_products_and_a_parameter_out_of_range(self):
        for low, high in BAD_RANGES:
            self.assert_refused(SIX, add_product(low, high, 1), OUT_OF_RANGE)
        for tins in BAD_TINS:
            self.assert_refused(SIX, add_product(180, 200, tins), OUT_OF_RANGE)

    def test_there_is_room_again_behind_remove_product(self):
        added = add_product(1, 2, 3)
        self.assertEqual(run(*SIX, remove_product(2), added, added)[-3:], [[5], [5], [-28]])
        expected = SIX_PRODUCTS[:2] + SIX_PRODUCTS[3:] + [(1, 2, 3)]
        self.assertEqual(holds(*SIX, remove_product(2), added), (4, expected))


class SetTins(Case):
    def test_answers_the_previous_number(self):
        for i in range(3):
            for tins in GOOD_TINS:
                with self.subTest(i=i, tins=tins):
                    self.assertEqual(last(*THREE, set_tins(i, tins)), [PRODUCTS[i][2]])
                    self.assertEqual(run(*THREE, set_tins(i, tins), set_tins(i, 2))[-1], [tins])

    def test_changes_the_tins_of_this_product_alone(self):
        expected = [PRODUCTS[0], (190, 230, 9), PRODUCTS[2]]
        self.assertEqual(holds(*THREE, set_tins(1, 9)), (6, expected))
        self.assertEqual(state_behind(*THREE, set_tins(1, 9)), state_behind(*making(6, expected)))

    def test_out_of_range(self):
        for i in range(3):
            for tins in BAD_TINS:
                self.assert_refused(THREE, set_tins(i, tins), OUT_OF_RANGE)

    def test_no_such_product(self):
        for i in bad_indices(3):
            for tins in [1] + BAD_TINS:
                self.assert_refused(THREE, set_tins(i, tins), MISSING)
        self.assert_refused(making(6, []), set_tins(0, 1), MISSING)
        self.assert_refused(SIX, set_tins(6, 1), MISSING)


class SetTemperatures(Case):
    def test_answers_0_and_the_previous_range(self):
        for i in range(3):
            for low, high in GOOD_RANGES:
                with self.subTest(i=i, low=low, high=high):
                    calls = THREE + [set_temperatures(i, low, high)]
                    self.assertEqual(last(*calls), [0, PRODUCTS[i][0], PRODUCTS[i][1]])
                    self.assertEqual(last(*calls, set_temperatures(i, 7, 8)), [0, low, high])

    def test_changes_the_range_of_this_product_alone(self):
        expected = [PRODUCTS[0], (100, 300, 4), PRODUCTS[2]]
        self.assertEqual(holds(*THREE, set_temperatures(1, 100, 300)), (6, expected))
        self.assertEqual(state_behind(*THREE, set_temperatures(1, 100, 300)), state_behind(*making(6, expected)))

    def test_out_of_range(self):
        for i in range(3):
            for low, high in BAD_RANGES:
                self.assert_refused(THREE, set_temperatures(i, low, high), OUT_OF_RANGE)

    def test_no_such_product(self):
        for i in bad_indices(3):
            for low, high in GOOD_RANGES + BAD_RANGES:
                self.assert_refused(THREE, set_temperatures(i, low, high), MISSING)
        self.assert_refused(making(6, []), set_temperatures(0, 1, 2), MISSING)
        self.assert_refused(SIX, set_temperatures(6, 1, 2), MISSING)


class RemoveProduct(Case):
    def removed(self, i, batches):
        """Remove product i of three: what is left, its indices and its planned batches."""
        calls = THREE + [remove_product(i)]
        left = PRODUCTS[:i] + PRODUCTS[i + 1:]
        self.assertEqual(last(*calls), [2])
        self.assertEqual(holds(*calls), (6, left))
        self.assertEqual(batches_of(*calls), batches)
        self.assertEqual(state_behind(*calls), state_behind(*making(6, left)))
        self.assertEqual(run(*calls, set_tins(0, 1), set_tins(1, 1))[-2:], [[left[0][2]], [left[1][2]]])
        self.assert_refused(calls, set_tins(2, 1), MISSING)

    def test_first(self):
        self.removed(0, [[230, 4, 2], [250, 0, 1]])

    def test_middle(self):
        self.removed(1, [[200, 5, 0], [250, 0, 3]])

    def test_last(self):
        self.removed(2, [[200, 5, 1], [230, 0, 3]])

    def test_each_of_six(self):
        for i in range(6):
            with self.subTest(i=i):
                self.assertEqual(last(*SIX, remove_product(i)), [5])
                self.assertEqual(holds(*SIX, remove_product(i)), (4, SIX_PRODUCTS[:i] + SIX_PRODUCTS[i + 1:]))

    def test_down_to_none(self):
        calls = THREE + [remove_product(0)] * 4 + [min_batches(), temperatures(), add_product(1, 2, 3)]
        self.assertEqual(run(*calls)[4:], [[2], [1], [0], [-2], [0], [0], [0]])

    def test_no_such_product(self):
        for i in bad_indices(3):
            self.assert_refused(THREE, remove_product(i), MISSING)
        self.assert_refused(making(6, []), remove_product(0), MISSING)
        self.assert_refused(making(6, []), remove_product(-1), MISSING)
        self.assert_refused(SIX, remove_product(6), MISSING)


class SetCapacity(Case):
    def test_answers_the_previous_capacity(self):
        for capacity in (1, 2, 6, 19, 20):
            with self.subTest(capacity=capacity):
                self.assertEqual(run(*THREE, set_capacity(capacity), set_capacity(3))[-2:], [[6], [capacity]])

    def test_changes_the_capacity_alone(self):
        for capacity in (1, 2, 6, 19, 20):
            with self.subTest(capacity=capacity):
                self.assertEqual(holds(*THREE, set_capacity(capacity)), (capacity, PRODUCTS))
                calls = making(capacity, PRODUCTS)
                self.assertEqual(state_behind(*THREE, set_capacity(capacity)), state_behind(*calls))

    def test_planned_batches_behind_it(self):
        self.assertEqual(batches_of(*THREE, set_capacity(5)), [[200, 5, 0, 0], [230, 0, 4, 1], [250, 0, 0, 2]])

    def test_out_of_range(self):
        for calls in (making(6, []), THREE):
            for capacity in BAD_CAPACITIES:
                self.assert_refused(calls, set_capacity(capacity), OUT_OF_RANGE)


if __name__ == "__main__":
    unittest.main()
