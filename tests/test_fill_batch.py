"""A batch that is filled at a temperature while all tins remain: fill_batch."""

import unittest

from tests.calls import (
    BAD_TEMPERATURES, OUT_OF_RANGE, SIX, THREE, Case, batch, create, fill_batch, instances, last, making, min_batches,
    run)


def filled(capacity, products, temperature):
    """What the document's words put into the batch, tin by tin."""
    put = [0] * len(products)
    while sum(put) < capacity:
        open_to = [
            (high, i) for i, (low, high, tins) in enumerate(products) if low <= temperature <= high and put[i] < tins]
        if not open_to:
            break
        put[min(open_to)[1]] += 1
    return [sum(put)] + put


class FillBatch(Case):
    def assert_filled(self, capacity, products, temperature, answer):
        with self.subTest(capacity=capacity, products=products, temperature=temperature):
            self.assertEqual(last(*making(capacity, products), fill_batch(temperature)), answer)
            self.assertEqual(filled(capacity, products, temperature), answer)
            self.assert_unchanged(making(capacity, products), fill_batch(temperature))

    def test_no_products(self):
        for temperature in (0, 200, 400):
            self.assert_filled(6, [], temperature, [0])

    def test_products_without_tins(self):
        for temperature in (0, 200, 400):
            self.assert_filled(6, [(0, 400, 0)], temperature, [0, 0])
            self.assert_filled(6, [(0, 400, 0), (0, 400, 2), (0, 300, 0)], temperature, [2, 0, 2, 0])

    def test_a_temperature_at_which_none_can_be_baked(self):
        products = [(180, 200, 5), (220, 250, 3)]
        for temperature in (0, 179, 201, 219, 251, 400):
            self.assert_filled(6, products, temperature, [0, 0, 0])

    def test_both_ends_of_a_product(self):
        products = [(180, 200, 5), (200, 250, 3)]
        self.assert_filled(20, products, 180, [5, 5, 0])
        self.assert_filled(20, products, 199, [5, 5, 0])
        self.assert_filled(20, products, 200, [8, 5, 3])
        self.assert_filled(20, products, 201, [3, 0, 3])
        self.assert_filled(20, products, 250, [3, 0, 3])

    def test_more_tins_than_room(self):
        self.assert_filled(4, [(180, 200, 9)], 190, [4, 4])
        self.assert_filled(1, [(180, 200, 9)], 190, [1, 1])
        self.assert_filled(6, [(180, 200, 5), (190, 230, 4), (195, 250, 3)], 195, [6, 5, 1, 0])
        self.assert_filled(20, [(0, 400, 9)] * 6, 200, [20, 9, 9, 2, 0, 0, 0])

    def test_just_as_many_tins_as_room(self):
        self.assert_filled(9, [(180, 200, 5), (190, 230, 4)], 195, [9, 5, 4])
        self.assert_filled(8, [(180, 200, 5), (190, 230, 4)], 195, [8, 5, 3])
        self.assert_filled(10, [(180, 200, 5), (190, 230, 4)], 195, [9, 5, 4])

    def test_ascending_max_temperature(self):
        products = [(100, 400, 2), (100, 300, 2), (100, 200, 1), (100, 350, 2)]
        self.assert_filled(4, products, 150, [4, 0, 2, 1, 1])
        self.assert_filled(4, products, 201, [4, 0, 2, 0, 2])
        self.assert_filled(4, products, 301, [4, 2, 0, 0, 2])
        # The lowest min_temperature doesn't come first.
        self.assert_filled(3, [(0, 300, 3), (200, 299, 2)], 250, [3, 1, 2])

    def test_the_same_max_temperature_is_filled_by_ascending_number(self):
        self.assert_filled(4, [(50, 90, 3), (10, 90, 3), (30, 90, 3)], 60, [4, 3, 1, 0])
        self.assert_filled(4, [(70, 90, 3), (10, 90, 3), (30, 90, 3)], 60, [4, 0, 3, 1])
        self.assert_filled(2, [(10, 95, 3), (20, 90, 1), (10, 90, 9)], 60, [2, 0, 1, 1])

    def test_all_tins_remain_whatever_was_asked_before(self):
        asked = [min_batches(), batch(0), batch(1), fill_batch(200), fill_batch(225)]
        self.assertEqual(last(*THREE, *asked, fill_batch(225)), [6, 0, 4, 2])

    def test_is_planned_batch_0_at_the_lowest_max_temperature(self):
        for capacity, products in instances(41, 100):
            calls = making(capacity, products)
            planned = last(*calls, batch(0))
            if planned != [-2]:
                tins = planned[1:]
                self.assertEqual(last(*calls, fill_batch(planned[0])), [sum(tins)] + tins)

    def test_many_instances_tin_by_tin(self):
        for capacity, products in instances(42, 120):
            ends = [end for low, high, tins in products for end in (low - 1, low, high, high + 1) if 0 <= end <= 400]
            asked = [0, 7, 200, 400] + ends
            told = run(*making(capacity, products), *[fill_batch(temperature) for temperature in asked])
            expected = [filled(capacity, products, temperature) for temperature in asked]
            self.assertEqual(told[1 + len(products):], expected, (capacity, products))


class Temperatures(Case):
    def test_both_ends_of_the_range(self):
        calls = making(6, [(0, 1, 2), (399, 400, 3)])
        self.assertEqual(run(*calls, fill_batch(0), fill_batch(400))[-2:], [[2, 2, 0], [3, 0, 3]])
        self.assertEqual(run(*THREE, fill_batch(0), fill_batch(400))[-2:], [[0, 0, 0, 0], [0, 0, 0, 0]])

    def test_out_of_range(self):
        for calls in ([create(6)], making(6, [(0, 400, 9)]), THREE, SIX):
            for temperature in BAD_TEMPERATURES:
                self.assert_refused(calls, fill_batch(temperature), OUT_OF_RANGE)


if __name__ == "__main__":
    unittest.main()
