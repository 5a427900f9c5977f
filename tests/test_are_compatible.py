"""Whether two products can be baked at one temperature: are_compatible."""

import unittest

from tests.calls import MISSING, SIX, THREE, Case, are_compatible, bad_indices, create, instances, making, run


class AreCompatible(Case):
    def assert_compatible(self, first, second, result):
        """Two products with these ranges answer this in both orders, also when they have no tins."""
        for tins in (0, 3):
            calls = making(6, [first + (tins,), second + (3,)])
            with self.subTest(first=first, second=second, tins=tins):
                self.assertEqual(run(*calls, are_compatible(0, 1), are_compatible(1, 0))[-2:], [[result], [result]])

    def test_i_equal_to_j(self):
        calls = making(6, [(180, 200, 5), (0, 0, 0), (400, 400, 9), (0, 400, 1)])
        self.assertEqual(run(*calls, *[are_compatible(i, i) for i in range(4)])[-4:], [[1]] * 4)

    def test_ranges_that_touch_in_one_temperature(self):
        self.assert_compatible((180, 200), (200, 230), 1)
        self.assert_compatible((0, 0), (0, 400), 1)
        self.assert_compatible((400, 400), (0, 400), 1)
        self.assert_compatible((200, 200), (200, 200), 1)
        self.assert_compatible((0, 1), (1, 1), 1)

    def test_ranges_that_miss_by_one(self):
        self.assert_compatible((180, 200), (201, 230), 0)
        self.assert_compatible((0, 0), (1, 400), 0)
        self.assert_compatible((400, 400), (0, 399), 0)
        self.assert_compatible((200, 200), (201, 201), 0)

    def test_ranges_that_overlap_hold_each_other_or_lie_apart(self):
        self.assert_compatible((180, 220), (200, 230), 1)
        self.assert_compatible((100, 300), (200, 230), 1)
        self.assert_compatible((100, 230), (200, 230), 1)
        self.assert_compatible((200, 300), (200, 230), 1)
        self.assert_compatible((200, 230), (200, 230), 1)
        self.assert_compatible((0, 100), (200, 230), 0)
        self.assert_compatible((0, 0), (400, 400), 0)

    def test_all_pairs_of_small_ranges(self):
        ranges = [(low, high) for low in range(5) for high in range(low, 5)]
        for first in ranges:
            for second in ranges:
                shared = set(range(first[0], first[1] + 1)) & set(range(second[0], second[1] + 1))
                self.assert_compatible(first, second, 1 if shared else 0)

    def test_all_pairs_of_many_instances(self):
        for capacity, products in instances(31, 60):
            pairs = [(i, j) for i in range(len(products)) for j in range(len(products))]
            calls = making(capacity, products) + [are_compatible(i, j) for i, j in pairs]
            for (i, j), answer in zip(pairs, run(*calls)[1 + len(products):]):
                shared = [t for t in range(401) if all(products[at][0] <= t <= products[at][1] for at in (i, j))]
                self.assertEqual(answer, [1 if shared else 0], (products, i, j))

    def test_no_such_product(self):
        for calls, count in ((THREE, 3), (SIX, 6), (making(6, [(0, 400, 1)]), 1)):
            for i in bad_indices(count):
                self.assert_refused(calls, are_compatible(i, 0), MISSING)
                self.assert_refused(calls, are_compatible(0, i), MISSING)
                self.assert_refused(calls, are_compatible(i, count - 1), MISSING)
                self.assert_refused(calls, are_compatible(count - 1, i), MISSING)
                self.assert_refused(calls, are_compatible(i, i), MISSING)

    def test_no_products(self):
        self.assert_refused([create(6)], are_compatible(0, 0), MISSING)
        self.assert_refused([create(6)], are_compatible(-1, -1), MISSING)

    def test_the_instance_is_not_changed(self):
        for i in range(3):
            for j in range(3):
                self.assert_unchanged(THREE, are_compatible(i, j))


if __name__ == "__main__":
    unittest.main()
