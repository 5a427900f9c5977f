"""The planned batches: min_batches, batch and temperatures."""

import unittest

from tests.calls import (
    GREATEST, LEAST, MISSING, batch, batches_of, instances, last, making, min_batches, run, state_behind,
    temperatures)


class Planned(unittest.TestCase):
    def assert_planned(self, capacity, products, batches):
        """The planned batches are these, in the answers of all three calls; there is none ahead of or behind them."""
        calls = making(capacity, products)
        count = len(batches)
        self.assertEqual(last(*calls, min_batches()), [count])
        self.assertEqual(last(*calls, temperatures()), [count] + [planned[0] for planned in batches])
        self.assertEqual(run(*calls, *[batch(k) for k in range(count)])[len(calls):], batches)
        for k in (-1, -count, count, count + 1, LEAST, GREATEST):
            if not 0 <= k < count:
                self.assertEqual(last(*calls, batch(k)), MISSING)
                self.assertEqual(state_behind(*calls, batch(k)), state_behind(*calls))

    def test_no_products(self):
        self.assert_planned(6, [], [])

    def test_products_without_tins(self):
        self.assert_planned(6, [(180, 200, 0)], [])
        self.assert_planned(1, [(0, 0, 0), (0, 400, 0), (400, 400, 0)], [])

    def test_a_product_without_tins_beside_others(self):
        # It has the lowest max_temperature, and no batch is planned for it.
        self.assert_planned(6, [(180, 200, 0), (190, 230, 4)], [[230, 0, 4]])
        self.assert_planned(6, [(190, 230, 4), (180, 240, 0), (235, 250, 2)], [[230, 4, 0, 0], [250, 0, 0, 2]])

    def test_one_product(self):
        self.assert_planned(6, [(180, 200, 5)], [[200, 5]])
        self.assert_planned(6, [(180, 200, 6)], [[200, 6]])
        self.assert_planned(6, [(0, 0, 1)], [[0, 1]])
        self.assert_planned(6, [(400, 400, 1)], [[400, 1]])
        self.assert_planned(6, [(0, 400, 1)], [[400, 1]])

    def test_the_same_max_temperature_is_filled_by_ascending_number(self):
        self.assert_planned(4, [(50, 90, 3), (10, 90, 3), (30, 90, 3)], [[90, 3, 1, 0], [90, 0, 2, 2], [90, 0, 0, 1]])
        self.assert_planned(5, [(30, 90, 3), (50, 90, 3), (90, 90, 3)], [[90, 3, 2, 0], [90, 0, 1, 3]])
        self.assert_planned(2, [(0, 95, 1), (80, 90, 2), (70, 90, 1)], [[90, 0, 2, 0], [90, 1, 0, 1]])

    def test_more_tins_of_a_product_than_a_batch_holds(self):
        self.assert_planned(4, [(180, 200, 9)], [[200, 4], [200, 4], [200, 1]])
        self.assert_planned(1, [(180, 200, 3)], [[200, 1], [200, 1], [200, 1]])
        self.assert_planned(3, [(180, 200, 7), (190, 300, 3)], [[200, 3, 0], [200, 3, 0], [200, 1, 2], [300, 0, 1]])

    def test_room_is_filled_by_ascending_max_temperature(self):
        products = [(100, 400, 2), (100, 300, 2), (100, 200, 1), (100, 350, 2)]
        self.assert_planned(6, products, [[200, 1, 2, 1, 2], [400, 1, 0, 0, 0]])
        self.assert_planned(4, products, [[200, 0, 2, 1, 1], [350, 2, 0, 0, 1]])
        self.assert_planned(2, products, [[200, 0, 1, 1, 0], [300, 0, 1, 0, 1], [350, 1, 0, 0, 1], [400, 1, 0, 0, 0]])

    def test_min_temperature_above_the_temperature_of_the_batch(self):
        self.assert_planned(20, [(180, 200, 1), (201, 230, 1)], [[200, 1, 0], [230, 0, 1]])
        self.assert_planned(20, [(180, 200, 1), (200, 230, 1)], [[200, 1, 1]])
        # The product that would come next can't be baked at 200, the one behind it can.
        self.assert_planned(6, [(180, 200, 1), (210, 230, 2), (190, 240, 3)], [[200, 1, 0, 3], [230, 0, 2, 0]])

    def test_the_order_is_by_max_temperature_not_by_number(self):
        products = [(390, 400, 1), (0, 10, 1), (190, 200, 1)]
        self.assert_planned(20, products, [[10, 0, 1, 0], [200, 0, 0, 1], [400, 1, 0, 0]])

    def test_six_products_in_full_batches(self):
        self.assert_planned(20, [(0, 400, 9)] * 6, [
            [400, 9, 9, 2, 0, 0, 0], [400, 0, 0, 7, 9, 4, 0], [400, 0, 0, 0, 0, 5, 9]])

    def test_temperatures_beside_min_batches(self):
        for capacity, products in instances(5, 100):
            calls = making(capacity, products)
            count, told = run(*calls, min_batches(), temperatures())[-2:]
            planned = batches_of(*calls)
            self.assertEqual(told, count + [row[0] for row in planned])
            self.assertEqual([len(row) for row in planned], [1 + len(products)] * count[0])
            self.assertEqual(last(*calls, batch(count[0])), MISSING)


if __name__ == "__main__":
    unittest.main()
