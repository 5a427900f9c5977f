"""The document's requirements 1, 3, 4 and 5, over many instances; 2 stands in test_order."""

import itertools
import unittest

from tests.calls import (
    BAD_CAPACITIES, BAD_TEMPERATURES, BAD_TINS, GREATEST, LEAST, MISSING, OUT_OF_RANGE, SIX, THREE, TOO_MANY_PRODUCTS,
    Case, Numbers, add_product, are_compatible, bad_indices, batch, batches_of, best_order, check_batches, create,
    describe, fill_batch, flat, instances, is_solution, last, making, min_batches, min_batches_if_capacity,
    min_batches_if_tins, min_change, remove_product, run, set_capacity, set_temperatures, set_tins, small_instances,
    temperatures)


def ways_to_take(capacity, products, remaining):
    """What can remain behind one batch that isn't empty, of any temperature and any contents."""
    for temperature in range(0, 5):
        choices = [
            range(left + 1) if low <= temperature <= high else (0,)
            for (low, high, tins), left in zip(products, remaining)]
        for put in itertools.product(*choices):
            if 0 < sum(put) <= capacity:
                yield tuple(left - taken for left, taken in zip(remaining, put))


def fewest_batches(capacity, products):
    """The smallest number of batches of any solution, found by trying every batch there can be."""
    reached = {tuple(product[2] for product in products)}
    count = 0
    while not any(sum(remaining) == 0 for remaining in reached):
        reached = {left for remaining in reached for left in ways_to_take(capacity, products, remaining)}
        count += 1
    return count


def count_behind(*calls):
    return last(*calls, min_batches())[0]


class MinimumNumberOfBatches(unittest.TestCase):
    def test_no_solution_of_a_small_instance_has_fewer(self):
        for capacity, products in small_instances():
            with self.subTest(capacity=capacity, products=products):
                batches = batches_of(*making(capacity, products))
                self.assertTrue(is_solution(capacity, products, batches), batches)
                self.assertEqual(len(batches), fewest_batches(capacity, products))
                self.assertNotIn(0, [sum(tins) for temperature, *tins in batches])
                if len(flat(batches)) <= 70:
                    self.assertEqual(last(*making(capacity, products), check_batches(flat(batches))), [1, len(batches)])

    def test_no_solution_of_more_products_has_fewer(self):
        numbers = Numbers(8)
        for number in range(150):
            products = [numbers.product(4, 2) for i in range(numbers.between(4, 6))]
            capacity = numbers.between(1, 4)
            with self.subTest(capacity=capacity, products=products):
                batches = batches_of(*making(capacity, products))
                self.assertTrue(is_solution(capacity, products, batches), batches)
                self.assertEqual(len(batches), fewest_batches(capacity, products))

    def test_the_planned_batches_are_a_solution(self):
        for capacity, products in instances(1, 400):
            with self.subTest(capacity=capacity, products=products):
                self.assertTrue(is_solution(capacity, products, batches_of(*making(capacity, products))))

    def test_the_search_itself(self):
        self.assertEqual(fewest_batches(2, []), 0)
        self.assertEqual(fewest_batches(2, [(0, 4, 3)]), 2)
        self.assertEqual(fewest_batches(4, [(0, 1, 1), (2, 3, 1)]), 2)
        self.assertEqual(fewest_batches(2, [(0, 2, 1), (2, 4, 1)]), 1)
        products = [(0, 2, 1), (2, 4, 2)]
        self.assertTrue(is_solution(2, products, [[2, 1, 1], [3, 0, 1]]))
        self.assertFalse(is_solution(2, products, [[2, 1, 1], [1, 0, 1]]))
        self.assertFalse(is_solution(2, products, [[2, 1, 2]]))
        self.assertFalse(is_solution(2, products, [[2, 1, 1]]))


class Monotonicity(unittest.TestCase):
    def test_a_greater_capacity(self):
        for capacity, products in instances(2, 300):
            calls = making(capacity, products)
            counts = [count_behind(*calls, set_capacity(greater)) for greater in range(capacity, 21)]
            self.assertEqual(counts, sorted(counts, reverse=True), (capacity, products))
            told = run(*calls, *[min_batches_if_capacity(greater) for greater in range(capacity, 21)])[len(calls):]
            self.assertEqual(told, [[count] for count in counts], (capacity, products))

    def test_wider_temperature_ranges(self):
        numbers = Numbers(3)
        for capacity, products in instances(3, 300):
            calls = making(capacity, products)
            count = count_behind(*calls)
            for i, (low, high, tins) in enumerate(products):
                for step in (1, 3, numbers.between(1, 400)):
                    wider = set_temperatures(i, max(low - step, 0), min(high + numbers.between(0, step), 400))
                    self.assertLessEqual(count_behind(*calls, wider), count, (capacity, products, wider))
            every = [set_temperatures(i, max(product[0] - 2, 0), product[1]) for i, product in enumerate(products)]
            self.assertLessEqual(count_behind(*calls, *every), count, (capacity, products))

    def test_fewer_tins(self):
        for capacity, products in instances(4, 300):
            calls = making(capacity, products)
            for i, product in enumerate(products):
                counts = [count_behind(*calls, set_tins(i, tins)) for tins in range(product[2] + 1)]
                self.assertEqual(counts, sorted(counts), (capacity, products, i))
                told = run(*calls, *[min_batches_if_tins(i, tins) for tins in range(product[2] + 1)])[len(calls):]
                self.assertEqual(told, [[count] for count in counts], (capacity, products, i))


class Bounds(unittest.TestCase):
    def test_all_tins_have_room(self):
        for capacity, products in instances(6, 600):
            tins = sum(product[2] for product in products)
            self.assertLessEqual(tins, capacity * count_behind(*making(capacity, products)), (capacity, products))

    def test_all_products_at_one_temperature(self):
        for capacity, products in instances(7, 600):
            shared = products[0][0] if products else 0
            products = [(min(low, shared), max(high, shared), tins) for low, high, tins in products]
            tins = sum(product[2] for product in products)
            count = count_behind(*making(capacity, products))
            self.assertEqual(count, (tins + capacity - 1) // capacity, (capacity, products))


BAD_RANGES = [(-1, 9), (9, 401), (9, 8), (LEAST, 9), (9, GREATEST)]
OPERATIONS = range(17)
QUERIES = range(6, 17)


class ErrorsAndQueries(Case):
    def missing(self, count, planned):
        """Each call that may be refused for want of a product or a planned batch, where there are so many."""
        calls = [batch(k) for k in bad_indices(planned)]
        for i in bad_indices(count):
            calls += [set_tins(i, 1), set_tins(i, 10), set_temperatures(i, 8, 9), set_temperatures(i, 9, 8)]
            calls += [remove_product(i), min_batches_if_tins(i, 1), min_batches_if_tins(i, 10)]
            calls += [are_compatible(i, 0), are_compatible(0, i), are_compatible(i, i)]
        return calls

    def out_of_range(self, count):
        """Each call that may be refused for a parameter out of range or malformed."""
        calls = [add_product(low, high, 1) for low, high in BAD_RANGES] + [add_product(8, 9, tins) for tins in BAD_TINS]
        for capacity in BAD_CAPACITIES:
            calls += [create(capacity), set_capacity(capacity), min_batches_if_capacity(capacity)]
        for temperature in BAD_TEMPERATURES:
            calls += [best_order(temperature), min_change(temperature), fill_batch(temperature)]
        for i in range(count):
            calls += [set_temperatures(i, low, high) for low, high in BAD_RANGES]
            calls += [ask(i, tins) for ask in (set_tins, min_batches_if_tins) for tins in BAD_TINS]
        calls += [check_batches([-1] * (count + 1)), check_batches([0] * count + [LEAST])]
        return calls + [check_batches([0] * size) for size in range(1, count + 1)]

    def test_each_error_of_each_call_leaves_the_instance(self):
        for calls, count, planned in (([create(6)], 0, 0), (THREE, 3, 2), (SIX, 6, last(*SIX, min_batches())[0])):
            missing, out_of_range = self.missing(count, planned), self.out_of_range(count)
            for call in missing:
                self.assert_refused(calls, call, MISSING)
            for call in out_of_range:
                self.assert_refused(calls, call, OUT_OF_RANGE)
        self.assert_refused(SIX, add_product(8, 9, 1), TOO_MANY_PRODUCTS)
        # The calls that have no error where there is an instance.
        without = {6, 8, 16}
        self.assertEqual({call[0] for call in missing + out_of_range}, set(OPERATIONS) - without)

    def test_each_query_leaves_the_instance(self):
        for calls in ([create(6)], making(6, [(180, 200, 0)]), THREE, SIX):
            asked = [min_batches(), batch(0), batch(1), batch(2), temperatures(), describe()]
            for temperature in (0, 200, 215, 230, 400):
                asked += [best_order(temperature), min_change(temperature), fill_batch(temperature)]
            for i in range(6):
                asked += [are_compatible(i, j) for j in range(6)]
                asked += [min_batches_if_tins(i, tins) for tins in (0, 5, 9)]
            asked += [min_batches_if_capacity(capacity) for capacity in (1, 6, 7, 20)]
            asked += [check_batches(listed) for listed in ([], [200, 5, 1, 0, 230, 0, 3, 3], [0] * 28, [1, 2, 3])]
            self.assertEqual({call[0] for call in asked}, set(QUERIES))
            for call in asked:
                self.assert_unchanged(calls, call)

    def test_queries_of_many_instances(self):
        for capacity, products in instances(9, 100):
            calls = making(capacity, products)
            planned = batches_of(*calls)
            listed = flat(planned) if len(flat(planned)) <= 70 else []
            asked = [
                min_batches(), batch(0), temperatures(), best_order(200), min_change(200), are_compatible(0, 1),
                fill_batch(200), min_batches_if_tins(0, 9), min_batches_if_capacity(1), check_batches(listed)]
            self.assertEqual(last(*calls, *asked, describe()), last(*calls, describe()))
            self.assertEqual(run(*calls, *asked, *asked)[-10:], run(*calls, *asked)[-10:])


if __name__ == "__main__":
    unittest.main()
