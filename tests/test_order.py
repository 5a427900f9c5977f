"""In which order the planned batches are baked: best_order and min_change."""

import itertools
import unittest

from tests.calls import (
    BAD_TEMPERATURES, OUT_OF_RANGE, THREE, Case, best_order, instances, last, making, min_change, run,
    small_instances, temperatures)


def change_of(start, degrees):
    """The total change of these temperatures from `start`, by the document's words."""
    return sum(abs(after - before) for before, after in zip([start] + degrees, degrees))


def planned(capacity, products):
    """The temperatures of the planned batches."""
    return last(*making(capacity, products), temperatures())[1:]


class OrderCase(Case):
    def assert_order(self, capacity, products, start, change, order):
        """From `start` the best order of the planned batches is this one, with this change."""
        calls = making(capacity, products)
        with self.subTest(capacity=capacity, products=products, start=start):
            self.assertEqual(run(*calls, best_order(start), min_change(start))[-2:], [[change] + order, [change]])


class Orders(OrderCase):
    def test_no_planned_batch(self):
        for products in ([], [(180, 200, 0)], [(0, 0, 0), (400, 400, 0)]):
            for start in (0, 1, 200, 399, 400):
                self.assert_order(6, products, start, 0, [])

    def test_one_planned_batch(self):
        for start, change in ((0, 200), (199, 1), (200, 0), (201, 1), (400, 200)):
            self.assert_order(6, [(180, 200, 5)], start, change, [200])
        self.assert_order(6, [(0, 0, 5)], 400, 400, [0])
        self.assert_order(6, [(400, 400, 5)], 0, 400, [400])

    def test_several_of_the_same_temperature(self):
        for start, change in ((0, 200), (199, 1), (200, 0), (201, 1), (400, 200)):
            self.assert_order(2, [(180, 200, 5)], start, change, [200, 200, 200])
        products = [(180, 200, 2), (230, 230, 2)]
        self.assert_order(1, products, 210, 40, [200, 200, 230, 230])
        self.assert_order(1, products, 220, 40, [230, 230, 200, 200])
        self.assert_order(1, products, 215, 45, [200, 200, 230, 230])

    def test_start_below_all(self):
        products = [(180, 200, 5), (210, 230, 5), (260, 260, 5)]
        for start, change in ((0, 260), (150, 110), (199, 61), (200, 60)):
            self.assert_order(6, products, start, change, [200, 230, 260])

    def test_start_above_all(self):
        products = [(180, 200, 5), (210, 230, 5), (260, 260, 5)]
        for start, change in ((400, 200), (300, 100), (261, 61), (260, 60)):
            self.assert_order(6, products, start, change, [260, 230, 200])

    def test_start_among_them_and_nearer_to_the_lowest(self):
        products = [(180, 200, 5), (210, 230, 5), (260, 260, 5)]
        for start, change in ((201, 61), (220, 80), (229, 89)):
            self.assert_order(6, products, start, change, [200, 230, 260])

    def test_start_among_them_and_nearer_to_the_highest(self):
        products = [(180, 200, 5), (210, 230, 5), (260, 260, 5)]
        for start, change in ((259, 61), (240, 80), (231, 89)):
            self.assert_order(6, products, start, change, [260, 230, 200])

    def test_start_just_in_the_middle(self):
        self.assert_order(6, [(180, 200, 5), (210, 230, 5), (260, 260, 5)], 230, 90, [200, 230, 260])
        self.assert_order(6, [(180, 200, 5), (210, 202, 5), (202, 202, 1)], 201, 3, [200, 202])
        self.assert_order(6, [(400, 400, 1), (0, 0, 1)], 200, 600, [0, 400])
        self.assert_order(6, [(400, 400, 1), (0, 0, 1)], 199, 599, [0, 400])
        self.assert_order(6, [(400, 400, 1), (0, 0, 1)], 201, 599, [400, 0])

    def test_a_middle_that_no_start_meets(self):
        self.assert_order(6, [(200, 200, 1), (203, 203, 1)], 201, 4, [200, 203])
        self.assert_order(6, [(200, 200, 1), (203, 203, 1)], 202, 4, [203, 200])

    def test_54_planned_batches(self):
        products = [(i, 10 * i, 9) for i in range(6)]
        ascending = [10 * i for i in range(6) for tin in range(9)]
        self.assert_order(1, products, 25, 75, ascending)
        self.assert_order(1, products, 26, 74, ascending[::-1])

    def test_the_products_may_stand_in_any_order(self):
        for products in itertools.permutations([(200, 200, 1), (230, 230, 1), (260, 260, 1)]):
            self.assert_order(6, list(products), 210, 70, [200, 230, 260])
            self.assert_order(6, list(products), 250, 70, [260, 230, 200])


class Starts(OrderCase):
    def test_both_ends_of_the_range(self):
        self.assertEqual(run(*THREE, best_order(0), min_change(0))[-2:], [[230, 200, 230], [230]])
        self.assertEqual(run(*THREE, best_order(400), min_change(400))[-2:], [[200, 230, 200], [200]])

    def test_out_of_range(self):
        for calls in (making(6, []), making(6, [(180, 200, 0)]), THREE):
            for start in BAD_TEMPERATURES:
                self.assert_refused(calls, best_order(start), OUT_OF_RANGE)
                self.assert_refused(calls, min_change(start), OUT_OF_RANGE)

    def test_every_start_is_taken(self):
        for start in range(0, 401):
            lowest, highest = abs(start - 200), abs(start - 230)
            order = [230, 200] if highest < lowest else [200, 230]
            change = min(lowest, highest) + 30
            self.assertEqual(run(*THREE, best_order(start), min_change(start))[-2:], [[change] + order, [change]])

    def test_the_instance_is_not_changed(self):
        for calls in (making(6, []), THREE):
            for start in (0, 215, 400):
                self.assert_unchanged(calls, best_order(start))
                self.assert_unchanged(calls, min_change(start))


class OrderOfLeastChange(OrderCase):
    """Requirement 2."""

    def check(self, capacity, products, starts):
        degrees = planned(capacity, products)
        # What is planned may be too much for all its orders to be gone through.
        if len(degrees) > 6:
            return 0
        orders = [list(order) for order in set(itertools.permutations(degrees))]
        for start in starts:
            told, change = run(*making(capacity, products), best_order(start), min_change(start))[-2:]
            with self.subTest(capacity=capacity, products=products, start=start):
                self.assertEqual(change, [min(change_of(start, order) for order in orders)])
                self.assertEqual(told[:1], change)
                self.assertEqual(change_of(start, told[1:]), change[0])
                ascending = sorted(degrees)
                opposite = change_of(start, ascending[::-1]) < change_of(start, ascending)
                self.assertEqual(told[1:], ascending[::-1] if opposite else ascending)
        return 1

    def test_no_order_of_a_small_instance_has_a_smaller_change(self):
        for capacity, products in small_instances():
            self.check(capacity, products, range(7))

    def test_no_order_has_a_smaller_change_over_the_whole_range(self):
        checked = 0
        for capacity, products in instances(21, 250):
            degrees = planned(capacity, products)
            among = [(degree + degrees[-1]) // 2 for degree in degrees[:3]]
            checked += self.check(capacity, products, [0, 200, 400] + degrees[:2] + among)
        self.assertGreater(checked, 100)

    def test_the_change_of_this_test_itself(self):
        self.assertEqual(change_of(240, [230, 200]), 40)
        self.assertEqual(change_of(240, [200, 230]), 70)
        self.assertEqual(change_of(240, []), 0)


if __name__ == "__main__":
    unittest.main()
