"""The document's requirements 1, 3 and 4, over many instances."""

import itertools
import unittest

from tests.calls import (
    Numbers, batches_of, instances, last, making, min_batches, set_capacity, set_temperatures, set_tins,
    small_instances)


def is_solution(capacity, products, batches):
    """Whether batches, each a temperature and then tins, are a solution, by the document's words."""
    for temperature, *tins in batches:
        if len(tins) != len(products) or min(tins, default=0) < 0 or sum(tins) > capacity:
            return False
        for (low, high, wanted), put in zip(products, tins):
            if put > 0 and not low <= temperature <= high:
                return False
    return all(sum(row[1 + i] for row in batches) == products[i][2] for i in range(len(products)))


def ways_to_take(capacity, products, remaining):
    """What can remain behind one batch that isn't empty, of any temperature and any contents."""
    for temperature in range(0, 5):
        choices = [
            range(left + 1) if low <= temperature <= high else (0,)
            for (low, high, tins), left in zip(products, remaining)]
        for put in itertools.product(*choices):
            if 0 < sum(put) <= capacity:
                yield tuple(left - taken for left, taken in zip(remaining, put))


def fewest_batches(capacity, products):
    """The smallest number of batches of any solution, found by trying every batch there can be."""
    reached = {tuple(product[2] for product in products)}
    count = 0
    while not any(sum(remaining) == 0 for remaining in reached):
        reached = {left for remaining in reached for left in ways_to_take(capacity, products, remaining)}
        count += 1
    return count


def count_behind(*calls):
    return last(*calls, min_batches())[0]


class MinimumNumberOfBatches(unittest.TestCase):
    def test_no_solution_of_a_small_instance_has_fewer(self):
        for capacity, products in small_instances():
            with self.subTest(capacity=capacity, products=products):
                batches = batches_of(*making(capacity, products))
                self.assertTrue(is_solution(capacity, products, batches), batches)
                self.assertEqual(len(batches), fewest_batches(capacity, products))
                self.assertNotIn(0, [sum(tins) for temperature, *tins in batches])

    def test_the_planned_batches_are_a_solution(self):
        for capacity, products in instances(1, 400):
            with self.subTest(capacity=capacity, products=products):
                self.assertTrue(is_solution(capacity, products, batches_of(*making(capacity, products))))

    def test_the_search_itself(self):
        self.assertEqual(fewest_batches(2, []), 0)
        self.assertEqual(fewest_batches(2, [(0, 4, 3)]), 2)
        self.assertEqual(fewest_batches(4, [(0, 1, 1), (2, 3, 1)]), 2)
        self.assertEqual(fewest_batches(2, [(0, 2, 1), (2, 4, 1)]), 1)
        products = [(0, 2, 1), (2, 4, 2)]
        self.assertTrue(is_solution(2, products, [[2, 1, 1], [3, 0, 1]]))
        self.assertFalse(is_solution(2, products, [[2, 1, 1], [1, 0, 1]]))
        self.assertFalse(is_solution(2, products, [[2, 1, 2]]))
        self.assertFalse(is_solution(2, products, [[2, 1, 1]]))


class Monotonicity(unittest.TestCase):
    def test_a_greater_capacity(self):
        for capacity, products in instances(2, 300):
            calls = making(capacity, products)
            counts = [count_behind(*calls, set_capacity(greater)) for greater in range(capacity, 21)]
            self.assertEqual(counts, sorted(counts, reverse=True), (capacity, products))

    def test_wider_temperature_ranges(self):
        numbers = Numbers(3)
        for capacity, products in instances(3, 300):
            calls = making(capacity, products)
            count = count_behind(*calls)
            for i, (low, high, tins) in enumerate(products):
                for step in (1, 3, numbers.between(1, 400)):
                    wider = set_temperatures(i, max(low - step, 0), min(high + numbers.between(0, step), 400))
                    self.assertLessEqual(count_behind(*calls, wider), count, (capacity, products, wider))
            every = [set_temperatures(i, max(product[0] - 2, 0), product[1]) for i, product in enumerate(products)]
            self.assertLessEqual(count_behind(*calls, *every), count, (capacity, products))

    def test_fewer_tins(self):
        for capacity, products in instances(4, 300):
            calls = making(capacity, products)
            for i, product in enumerate(products):
                counts = [count_behind(*calls, set_tins(i, tins)) for tins in range(product[2] + 1)]
                self.assertEqual(counts, sorted(counts), (capacity, products, i))


class Bounds(unittest.TestCase):
    def test_all_tins_have_room(self):
        for capacity, products in instances(6, 600):
            tins = sum(product[2] for product in products)
            self.assertLessEqual(tins, capacity * count_behind(*making(capacity, products)), (capacity, products))

    def test_all_products_at_one_temperature(self):
        for capacity, products in instances(7, 600):
            shared = products[0][0] if products else 0
            products = [(min(low, shared), max(high, shared), tins) for low, high, tins in products]
            tins = sum(product[2] for product in products)
            count = count_behind(*making(capacity, products))
            self.assertEqual(count, (tins + capacity - 1) // capacity, (capacity, products))


if __name__ == "__main__":
    unittest.main()
