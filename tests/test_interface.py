"""How calls are handed in and answers are given back."""

import unittest

from ovenbatches.tins import answers
from tests.calls import (
    GREATEST, LEAST, THREE, add_product, are_compatible, batch, best_order, check_batches, create, describe,
    fill_batch, flat, instances, making, min_batches, min_batches_if_capacity, min_batches_if_tins, min_change,
    remove_product, run, set_capacity, set_temperatures, set_tins, temperatures)

CALLS = [
    create(6), add_product(180, 200, 5), add_product(190, 230, 4), add_product(9, 8, 1), set_tins(0, 9),
    set_tins(5, 1), set_temperatures(1, 0, 400), set_temperatures(1, 1, 401), set_capacity(4), set_capacity(0),
    min_batches(), batch(0), batch(99), temperatures(), remove_product(0), remove_product(7), temperatures(),
    create(21), best_order(300), min_change(300), are_compatible(0, 0), are_compatible(0, 1), fill_batch(12),
    fill_batch(401), min_batches_if_tins(0, 9), min_batches_if_capacity(1), check_batches([7, 4]),
    check_batches([7, 4, 5, -6]), check_batches([]), describe(), create(2), min_batches(), temperatures(),
    check_batches([]), check_batches([1, 2, 3]), describe()]


class Untouchable(list):
    """A list that says so when somebody changes it, be it for a while."""

    def refuse(self, *args, **kwargs):
        raise AssertionError("the list that was handed in was changed")

    append = extend = insert = pop = remove = clear = sort = reverse = refuse
    __setitem__ = __delitem__ = __iadd__ = __imul__ = refuse


class HandedIn(unittest.TestCase):
    def test_stands_as_it_was(self):
        calls = flat(CALLS)
        before = list(calls)
        answered = answers(calls)
        self.assertEqual(calls, before)
        self.assertIsNot(answered, calls)

    def test_is_not_changed_for_a_while(self):
        self.assertEqual(answers(Untouchable(flat(CALLS))), answers(flat(CALLS)))


class GivenBack(unittest.TestCase):
    def test_each_answer_with_its_count(self):
        expected = [
            [0], [0], [1], [-22], [5],
            [-2], [0, 190, 230], [-22], [6], [-22],
            [4], [200, 4, 0], [-2], [4, 200, 200, 200, 400], [1], [-2], [1, 400],
            [-22], [100, 400], [100], [1], [-2], [4, 4],
            [-22], [3], [4], [1, 1],
            [-22], [0, 0], [4, 1, 0, 400, 4], [0], [0], [0],
            [1, 0], [1, 3], [2, 0]]
        self.assertEqual(run(*CALLS), expected)
        self.assertEqual(answers(flat(CALLS)), flat([[len(answer)] + answer for answer in expected]))

    def test_is_one_list_of_whole_numbers(self):
        answered = answers(flat(CALLS))
        self.assertIs(type(answered), list)
        self.assertEqual({type(number) for number in answered}, {int})

    def test_only_errors_are_below_0(self):
        for capacity, products in instances(11, 40):
            calls = making(capacity, products) + [temperatures()] + [batch(k) for k in range(-1, 5)]
            calls += [ask(t) for ask in (best_order, min_change, fill_batch) for t in (-1, 0, 200, 401)]
            calls += [are_compatible(0, 1), min_batches_if_tins(0, 5), min_batches_if_capacity(7)]
            calls += [check_batches([0] * 14), check_batches([0] * 15), describe()]
            for answer in run(*calls):
                self.assertTrue(min(answer) >= 0 or answer in ([-2], [-22]), answer)

    def test_an_error_is_its_code_alone(self):
        self.assertEqual(answers([6]), [1, -11])
        self.assertEqual(answers([0, 0]), [1, -22])
        self.assertEqual(answers([0, 1, 7, 0]), [1, 0, 1, -2])
        self.assertEqual(answers([0, 1] + [1, 0, 0, 0] * 7), [1, 0, 1, 0, 1, 1, 1, 2, 1, 3, 1, 4, 1, 5, 1, -28])


class OneRequestAndTheNext(unittest.TestCase):
    def test_the_second_has_no_instance(self):
        self.assertEqual(run(create(6), add_product(1, 2, 3), min_batches()), [[0], [0], [1]])
        self.assertEqual(run(min_batches(), add_product(1, 2, 3), temperatures()), [[-11], [-11], [-11]])
        self.assertEqual(run(create(5), min_batches(), add_product(1, 2, 3)), [[0], [0], [0]])
        self.assertEqual(run(describe(), check_batches([]), create(4), describe()), [[-11], [-11], [0], [4, 0]])

    def test_the_same_calls_have_the_same_answers(self):
        first = answers(flat(CALLS))
        again = list(first)
        first.append(7)
        first[1] = 8
        self.assertEqual(answers(flat(CALLS)), again)


class SixtyCalls(unittest.TestCase):
    def test_that_make_54_batches_and_ask_for_them(self):
        products = [(i, 10 + i, 9) for i in range(6)]
        calls = making(1, products) + [batch(k) for k in range(52)] + [min_batches()]
        self.assertEqual(len(calls), 60)
        expected = [[0]] + [[i] for i in range(6)]
        for k in range(52):
            product = k // 9
            expected.append([10 + product] + [1 if i == product else 0 for i in range(6)])
        self.assertEqual(run(*calls), expected + [[54]])

    def test_of_creates_and_products_in_turn(self):
        calls = [create(3), add_product(5, 6, 7), min_batches(), create(GREATEST), create(LEAST), temperatures()] * 10
        self.assertEqual(len(calls), 60)
        self.assertEqual(run(*calls), [[0], [0], [3], [-22], [-22], [3, 6, 6, 6]] * 10)

    def test_with_all_17_calls_among_them(self):
        asked = [
            (min_batches(), [2]), (batch(1), [230, 0, 3, 3]), (temperatures(), [2, 200, 230]),
            (best_order(240), [40, 230, 200]), (min_change(150), [80]), (are_compatible(0, 2), [0]),
            (fill_batch(225), [6, 0, 4, 2]), (min_batches_if_tins(1, 9), [3]), (min_batches_if_capacity(5), [3]),
            (check_batches([200, 5, 1, 0, 225, 0, 3, 3]), [1, 2]),
            (describe(), [6, 3, 180, 200, 5, 190, 230, 4, 220, 250, 3])]
        changed = [
            (set_tins(1, 0), [4]), (set_temperatures(2, 200, 210), [0, 220, 250]), (remove_product(1), [2]),
            (set_capacity(8), [6])]
        again = [
            (min_batches(), [1]), (batch(0), [200, 5, 3]), (temperatures(), [1, 200]), (best_order(0), [200, 200]),
            (min_change(400), [200]), (are_compatible(0, 1), [1]), (fill_batch(205), [3, 0, 3]),
            (min_batches_if_tins(0, 9), [2]), (min_batches_if_capacity(1), [8]), (check_batches([200, 5, 3]), [1, 1]),
            (describe(), [8, 2, 180, 200, 5, 200, 210, 3])]
        rows = list(zip(THREE, [[0], [0], [1], [2]])) + asked + changed + again
        rows += [(create(20), [0])] + list(zip(making(1, [(7, 8, 9)]), [[0], [0]]))
        rows += [(batch(k), [8, 1]) for k in range(9)] + [(batch(9), [-2])]
        rows += [(check_batches([8, 1] * count), [1 if count == 9 else 0, count]) for count in range(17)]
        self.assertEqual(len(rows), 60)
        self.assertEqual({call[0] for call, answer in rows}, set(range(17)))
        self.assertEqual(run(*[call for call, answer in rows]), [answer for call, answer in rows])

    def test_with_the_longest_lists(self):
        calls = [create(1)] + [check_batches([GREATEST] * 70)] * 59
        self.assertEqual(run(*calls), [[0]] + [[1, 70]] * 59)
        self.assertEqual(run(*calls[1:], calls[1]), [[-11]] * 60)

    def test_that_are_all_refused(self):
        self.assertEqual(run(*[temperatures()] * 60), [[-11]] * 60)


class OneCall(unittest.TestCase):
    def test_by_itself(self):
        self.assertEqual(answers([0, 20]), [1, 0])
        self.assertEqual(answers([8]), [1, -11])
        self.assertEqual(answers([15, 0]), [1, -11])
        self.assertEqual(answers([15, 2, 0, 6]), [1, -11])
        self.assertEqual(answers([16]), [1, -11])


if __name__ == "__main__":
    unittest.main()
