"""What an instance holds: describe."""

import unittest

from tests.calls import (
    GREATEST, LEAST, PRODUCTS, SIX, SIX_PRODUCTS, THREE, Case, add_product, are_compatible, batch, best_order,
    check_batches, create, describe, fill_batch, flat, holds, instances, last, making, min_batches_if_capacity,
    min_batches_if_tins, min_change, remove_product, run, set_capacity, set_temperatures, set_tins)


class Describe(Case):
    def assert_described(self, calls, capacity, products):
        with self.subTest(calls=calls):
            self.assertEqual(last(*calls, describe()), [capacity, len(products)] + flat(products))

    def test_no_products(self):
        self.assert_described([create(6)], 6, [])
        self.assert_described([create(1)], 1, [])
        self.assert_described([create(20)], 20, [])

    def test_one_product_and_several(self):
        self.assert_described(making(6, [(180, 200, 5)]), 6, [(180, 200, 5)])
        self.assert_described(making(1, [(0, 0, 0)]), 1, [(0, 0, 0)])
        self.assert_described(making(20, [(0, 400, 9), (400, 400, 0)]), 20, [(0, 400, 9), (400, 400, 0)])
        self.assert_described(THREE, 6, PRODUCTS)
        self.assert_described(SIX, 4, SIX_PRODUCTS)

    def test_behind_create(self):
        self.assert_described(SIX + [create(9)], 9, [])
        self.assert_described(SIX + [create(9)] + THREE[1:], 9, PRODUCTS)

    def test_behind_add_product(self):
        self.assert_described(THREE + [add_product(1, 2, 3)], 6, PRODUCTS + [(1, 2, 3)])

    def test_behind_set_tins(self):
        self.assert_described(THREE + [set_tins(0, 0)], 6, [(180, 200, 0)] + PRODUCTS[1:])
        self.assert_described(THREE + [set_tins(2, 9)], 6, PRODUCTS[:2] + [(220, 250, 9)])

    def test_behind_set_temperatures(self):
        self.assert_described(THREE + [set_temperatures(0, 0, 400)], 6, [(0, 400, 5)] + PRODUCTS[1:])
        self.assert_described(THREE + [set_temperatures(2, 7, 7)], 6, PRODUCTS[:2] + [(7, 7, 3)])

    def test_behind_remove_product(self):
        for i in range(3):
            self.assert_described(THREE + [remove_product(i)], 6, PRODUCTS[:i] + PRODUCTS[i + 1:])
        self.assert_described(THREE + [remove_product(0)] * 3, 6, [])

    def test_behind_set_capacity(self):
        self.assert_described(THREE + [set_capacity(1)], 1, PRODUCTS)
        self.assert_described(THREE + [set_capacity(20)], 20, PRODUCTS)
        self.assert_described([create(6), set_capacity(5)], 5, [])

    def test_behind_each_error(self):
        refused = [
            create(0), create(21), add_product(-1, 2, 3), add_product(2, 1, 3), add_product(1, 401, 3),
            add_product(1, 2, 10), set_tins(-1, 1), set_tins(6, 1), set_tins(0, -1), set_tins(0, 10),
            set_temperatures(-1, 1, 2), set_temperatures(6, 1, 2), set_temperatures(0, 2, 1),
            set_temperatures(0, -1, 2), set_temperatures(0, 1, 401), remove_product(-1), remove_product(6),
            set_capacity(0), set_capacity(21), batch(-1), batch(60), best_order(-1), best_order(401), min_change(-1),
            min_change(401), are_compatible(-1, 0), are_compatible(0, 6), fill_batch(-1), fill_batch(401),
            min_batches_if_tins(6, 1), min_batches_if_tins(0, 10), min_batches_if_capacity(0),
            min_batches_if_capacity(21), check_batches([1]), check_batches([-1] * 28)]
        for calls, capacity, products in ((THREE, 6, PRODUCTS), (SIX, 4, SIX_PRODUCTS)):
            for call in refused:
                self.assertLess(last(*calls, call)[0], 0)
                self.assert_described(calls + [call], capacity, products)
            self.assert_described(calls + refused, capacity, products)
        self.assertEqual(last(*SIX, add_product(1, 2, 3)), [-28])
        self.assert_described(SIX + [add_product(1, 2, 3)], 4, SIX_PRODUCTS)

    def test_many_changes_one_behind_another(self):
        calls = making(6, PRODUCTS) + [
            set_tins(1, 9), add_product(9, 8, 7), add_product(7, 8, 9), set_temperatures(3, 6, 8), remove_product(0),
            set_capacity(GREATEST), set_capacity(2), set_tins(0, 1), set_tins(3, 1), remove_product(LEAST)]
        self.assert_described(calls, 2, [(190, 230, 1), (220, 250, 3), (6, 8, 9)])

    def test_what_the_calls_that_change_an_instance_tell_of_it(self):
        for capacity, products in instances(81, 60):
            calls = making(capacity, products)
            self.assert_described(calls, capacity, products)
            self.assertEqual(holds(*calls), (capacity, products))

    def test_the_instance_is_not_changed(self):
        for calls in ([create(6)], THREE, SIX):
            self.assert_unchanged(calls, describe())
            self.assertEqual(len({tuple(answer) for answer in run(*calls, *[describe()] * 9)[-9:]}), 1)


if __name__ == "__main__":
    unittest.main()
