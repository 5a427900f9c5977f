"""Whether batches that are handed in are a solution: check_batches."""

import unittest

from tests.calls import (
    GREATEST, LEAST, OUT_OF_RANGE, SIX, SIX_PRODUCTS, THREE, Case, Numbers, batches_of, check_batches, create,
    describe, flat, instances, is_solution, last, making, min_batches, run)


class CheckCase(Case):
    def assert_checked(self, calls, batches, result):
        """Behind these calls the batches, each a list, answer this and their number, and change nothing."""
        with self.subTest(batches=batches):
            self.assertEqual(last(*calls, check_batches(flat(batches))), [result, len(batches)])
            self.assert_unchanged(calls, check_batches(flat(batches)))


class NoBatches(CheckCase):
    def test_with_no_tins_left_to_bake(self):
        self.assert_checked([create(6)], [], 1)
        self.assert_checked(making(6, [(180, 200, 0)]), [], 1)
        self.assert_checked(making(6, [(180, 200, 0)] * 6), [], 1)

    def test_with_tins(self):
        self.assert_checked(making(6, [(180, 200, 1)]), [], 0)
        self.assert_checked(making(6, [(180, 200, 0), (180, 200, 1)]), [], 0)
        self.assert_checked(THREE, [], 0)

    def test_the_numbers_of_the_call_and_of_its_answer(self):
        self.assertEqual(run([0, 6], [15, 0], [6]), [[0], [1, 0], [0]])
        self.assertEqual(run([0, 6], [1, 5, 5, 1], [15, 0], [6]), [[0], [0], [0, 0], [1]])


class NoProducts(CheckCase):
    def test_each_group_is_a_temperature_alone(self):
        self.assert_checked([create(6)], [[200]], 1)
        self.assert_checked([create(6)], [[0], [400], [0]], 1)
        self.assert_checked([create(1)], [[200]] * 70, 1)

    def test_a_negative_one_at_each_place(self):
        for at in range(5):
            degrees = [200] * 5
            degrees[at] = -1
            self.assert_refused([create(6)], check_batches(degrees), OUT_OF_RANGE)


class Malformed(CheckCase):
    def test_a_list_that_cannot_be_divided_into_groups(self):
        batches = [200, 5, 1, 0, 230, 0, 3, 3]
        for count in (1, 2, 3, 5, 6, 7):
            self.assert_refused(THREE, check_batches(batches[:count]), OUT_OF_RANGE)
        self.assert_refused(THREE, check_batches(batches + [0]), OUT_OF_RANGE)
        self.assert_refused(THREE, check_batches([0] * 70), OUT_OF_RANGE)
        self.assert_refused(making(6, [(180, 200, 5)]), check_batches([200, 5, 200]), OUT_OF_RANGE)
        self.assert_refused(SIX, check_batches([0] * 6), OUT_OF_RANGE)
        self.assert_refused(SIX, check_batches([0] * 8), OUT_OF_RANGE)

    def test_groups_follow_the_number_of_products(self):
        for products in range(7):
            calls = making(6, [(180, 200, 0)] * products)
            for count in range(71):
                answer = last(*calls, check_batches([0] * count))
                groups, left = divmod(count, products + 1)
                self.assertEqual(answer, [-22] if left else [1, groups], (products, count))

    def test_a_negative_number_at_each_place(self):
        batches = [200, 5, 1, 0, 230, 0, 3, 3, 230, 0, 0, 0]
        self.assertEqual(last(*THREE, check_batches(batches)), [1, 3])
        for at in range(12):
            for negative in (-1, LEAST):
                wrong = list(batches)
                wrong[at] = negative
                self.assert_refused(THREE, check_batches(wrong), OUT_OF_RANGE)

    def test_a_negative_number_beside_what_would_be_0(self):
        # Neither the sums over the batches nor those in a batch are wrong here.
        self.assert_refused(making(6, [(180, 200, 2)]), check_batches([200, 3, 200, -1]), OUT_OF_RANGE)
        self.assert_refused(making(6, [(0, 9, 7), (0, 9, 0)]), check_batches([9, 7, -1, 9, 0, 1]), OUT_OF_RANGE)
        self.assert_refused(THREE, check_batches([-1, 0, 0, 0]), OUT_OF_RANGE)
        self.assert_refused(THREE, check_batches([200, 9, 9, -9]), OUT_OF_RANGE)

    def test_both(self):
        self.assert_refused(THREE, check_batches([-1]), OUT_OF_RANGE)
        self.assert_refused(THREE, check_batches([200, 5, 1, 0, -1]), OUT_OF_RANGE)


class Solutions(CheckCase):
    def test_the_planned_batches_themselves(self):
        self.assert_checked(THREE, [[200, 5, 1, 0], [230, 0, 3, 3]], 1)
        self.assert_checked(SIX, batches_of(*SIX), 1)
        for capacity, products in instances(61, 120):
            calls = making(capacity, products)
            batches = batches_of(*calls)
            if len(flat(batches)) <= 70:
                self.assert_checked(calls, batches, 1)
                self.assert_checked(calls, batches[::-1], 1)
                self.assertEqual(last(*calls, min_batches()), [len(batches)])

    def test_more_batches_than_are_needed(self):
        self.assert_checked(THREE, [[200, 5, 0, 0], [190, 0, 4, 0], [250, 0, 0, 3]], 1)
        self.assert_checked(THREE, [[180, 1, 0, 0]] * 5 + [[230, 0, 1, 0]] * 4 + [[220, 0, 0, 1]] * 3, 1)

    def test_a_batch_full_and_above_the_capacity_by_one(self):
        products = [(180, 200, 5), (190, 230, 2)]
        self.assert_checked(making(7, products), [[195, 5, 2]], 1)
        self.assert_checked(making(6, products), [[195, 5, 2]], 0)
        self.assert_checked(making(6, products), [[195, 5, 1], [195, 0, 1]], 1)
        self.assert_checked(making(6, products), [[195, 0, 0], [195, 5, 2]], 0)
        self.assert_checked(making(6, products), [[195, 5, 2], [195, 0, 0]], 0)
        self.assert_checked(making(1, [(0, 0, 2)]), [[0, 2]], 0)
        self.assert_checked(making(1, [(0, 0, 2)]), [[0, 1], [0, 1]], 1)

    def test_both_ends_of_a_product_and_one_beyond(self):
        calls = making(6, [(180, 200, 5)])
        for temperature, result in ((179, 0), (180, 1), (181, 1), (199, 1), (200, 1), (201, 0), (0, 0), (400, 0)):
            self.assert_checked(calls, [[temperature, 5]], result)
            self.assert_checked(calls, [[190, 4], [temperature, 1]], result)
            self.assert_checked(calls, [[temperature, 1], [190, 4]], result)
        calls = making(6, [(0, 0, 1), (400, 400, 1)])
        self.assert_checked(calls, [[0, 1, 0], [400, 0, 1]], 1)
        self.assert_checked(calls, [[0, 1, 0], [401, 0, 1]], 0)
        self.assert_checked(calls, [[1, 1, 0], [400, 0, 1]], 0)

    def test_only_products_with_a_tin_in_the_batch_need_its_temperature(self):
        calls = making(6, [(180, 200, 5), (190, 230, 4)])
        self.assert_checked(calls, [[180, 5, 0], [230, 0, 4]], 1)
        self.assert_checked(calls, [[190, 5, 1], [230, 0, 3]], 1)
        self.assert_checked(calls, [[180, 5, 1], [230, 0, 3]], 0)
        self.assert_checked(calls, [[200, 4, 0], [230, 1, 4]], 0)

    def test_a_temperature_above_400(self):
        # The document refuses a negative number alone, and a batch without tins suits every temperature.
        for temperature in (401, 1000, GREATEST):
            self.assert_checked([create(6)], [[temperature]], 1)
            self.assert_checked(making(6, [(0, 400, 0)]), [[temperature, 0]], 1)
            self.assert_checked(THREE, [[200, 5, 1, 0], [temperature, 0, 0, 0], [230, 0, 3, 3]], 1)
            self.assert_checked(THREE, [[200, 5, 1, 0], [temperature, 0, 3, 3]], 0)

    def test_empty_batches(self):
        planned = [[200, 5, 1, 0], [230, 0, 3, 3]]
        empty = [0, 0, 0, 0]
        self.assert_checked(THREE, [empty] + planned, 1)
        self.assert_checked(THREE, planned + [empty], 1)
        self.assert_checked(THREE, planned[:1] + [empty, empty, [400, 0, 0, 0]] + planned[1:], 1)
        self.assert_checked(THREE, [empty, empty], 0)
        self.assert_checked(making(6, [(180, 200, 0)]), [[0, 0], [190, 0]], 1)

    def test_one_tin_too_few_and_one_too_many(self):
        planned = [[200, 5, 1, 0], [230, 0, 3, 3]]
        roomy = making(20, [(180, 200, 5), (190, 230, 4), (220, 250, 3)])
        self.assert_checked(roomy, planned, 1)
        for at in range(2):
            for product in range(1, 4):
                for step in (-1, 1):
                    wrong = [list(batch) for batch in planned]
                    if wrong[at][product] > 0:
                        wrong[at][product] += step
                        self.assert_checked(roomy, wrong, 0)
        # As many tins in all, but of another product.
        self.assert_checked(roomy, [[200, 4, 2, 0], [230, 0, 3, 3]], 0)
        self.assert_checked(roomy, [[200, 5, 1, 0], [230, 0, 2, 4]], 0)
        self.assert_checked(making(6, [(180, 200, 0)]), [[190, 1]], 0)

    def test_very_large_numbers(self):
        calls = making(20, [(0, 400, 5), (0, 400, 5)])
        self.assert_checked(calls, [[GREATEST, GREATEST, GREATEST]], 0)
        self.assert_checked(calls, [[200, 5, GREATEST]], 0)
        self.assert_checked(calls, [[200, GREATEST, 5]], 0)
        self.assert_checked(calls, [[200, 5, 5], [200, GREATEST, 0], [200, GREATEST, 0], [200, 2, 0]], 0)
        self.assert_checked(calls, [[200, GREATEST, GREATEST], [200, 7, 7]], 0)
        self.assert_checked([create(6)], [[GREATEST]] * 70, 1)

    def test_70_numbers(self):
        calls = making(1, [(180, 200, 9)])
        self.assert_checked(calls, [[190, 1]] * 9 + [[200, 0]] * 26, 1)
        self.assert_checked(calls, [[200, 0]] * 26 + [[190, 1]] * 9, 1)
        self.assert_checked(calls, [[200, 0]] * 25 + [[190, 1]] * 10, 0)
        calls = making(20, SIX_PRODUCTS)
        alone = [[low] + [tins if j == i else 0 for j in range(6)] for i, (low, high, tins) in enumerate(SIX_PRODUCTS)]
        self.assertEqual(len(flat(alone + [[0] * 7] * 4)), 70)
        self.assert_checked(calls, alone + [[0] * 7] * 4, 1)
        self.assert_checked(calls, alone + [[0] * 7] * 3 + [[75, 0, 0, 0, 0, 0, 1]], 0)


class ManyLists(CheckCase):
    def changed(self, numbers, batches):
        """Batches with something in them changed, so that they may be a solution or not."""
        batches = [list(batch) for batch in batches]
        for step in range(numbers.between(0, 2)):
            at = numbers.between(0, len(batches) - 1)
            other = numbers.between(0, len(batches) - 1)
            product = numbers.between(1, len(batches[at]) - 1)
            change = numbers.between(0, 4)
            if change == 0:
                batches[at][0] += numbers.between(0, 2) - min(batches[at][0], 1)
            if change == 1 and batches[at][product] > 0:
                batches[at][product] -= 1
                batches[other][product] += 1
            if change == 2:
                batches[at][product] += 1
            if change == 3 and batches[at][product] > 0:
                batches[at][product] -= 1
            if change == 4:
                batches.append([numbers.between(0, 450)] + [0] * (len(batches[at]) - 1))
        return batches

    def test_what_the_words_say_of_them(self):
        numbers = Numbers(71)
        results = [0, 0]
        for capacity, products in instances(62, 700):
            calls = making(capacity, products)
            batches = batches_of(*calls)
            if batches:
                batches = self.changed(numbers, batches)
            if len(flat(batches)) <= 70:
                result = 1 if is_solution(capacity, products, batches) else 0
                results[result] += 1
                answer = last(*calls, check_batches(flat(batches)))
                self.assertEqual(answer, [result, len(batches)], (capacity, products, batches))
        self.assertGreater(min(results), 100)


class TheCallsBehind(CheckCase):
    # Lists that look like calls themselves, and so does how many numbers they have.
    LISTS = [[], [6], [0, 6], [16, 16, 16], [15, 2, 0, 6], [0, 5] * 8, [15] * 16, [16] * 70]

    def test_are_read_at_the_right_places(self):
        for listed in self.LISTS:
            with self.subTest(listed=listed):
                calls = [create(6), check_batches(listed), describe(), check_batches(listed), min_batches()]
                answer = [1, len(listed)]
                self.assertEqual(run(*calls), [[0], answer, [6, 0], answer, [0]])

    def test_are_read_at_the_right_places_behind_a_refused_list(self):
        for listed in self.LISTS:
            with self.subTest(listed=listed):
                calls = making(6, [(180, 200, 5)]) + [check_batches(listed + [-1]), describe(), check_batches([200, 5])]
                self.assertEqual(run(*calls)[2:], [[-22], [6, 1, 180, 200, 5], [1, 1]])


if __name__ == "__main__":
    unittest.main()
