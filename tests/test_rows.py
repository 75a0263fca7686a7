import copy
import unittest

from sheetask.rows import grouped, in_order, joined

HUGE = 10 ** 100 - 1


class RowsTest(unittest.TestCase):
    # What is handed in must be as it was afterwards, and what comes back must be a list of lists of numbers.
    def asked(self, function, *given):
        given = copy.deepcopy(given)
        before = copy.deepcopy(given)
        got = function(*given)
        self.assertEqual(given, before)
        self.assertIs(type(got), list)
        for row in got:
            self.assertIs(type(row), list)
            self.assertEqual({type(number) for number in row}, {int})
        return got


class Joined(RowsTest):
    def check(self, rows, others, spot, place, wanted):
        self.assertEqual(self.asked(joined, rows, others, spot, place), wanted)

    def test_rows_with_the_same_number(self):
        self.check([[1, 2], [3, 4]], [[3, 30], [1, 10]], 0, 0, [[1, 2, 1, 10], [3, 4, 3, 30]])
        self.check([[1, 2], [3, 4]], [[3, 30], [1, 10]], 1, 0, [])
        self.check([[1, 2], [3, 4]], [[3, 4], [1, 2]], 1, 1, [[1, 2, 1, 2], [3, 4, 3, 4]])

    def test_spot_and_place_are_counted_in_their_own_rows(self):
        self.check([[1, 2, 3]], [[7, 3]], 2, 1, [[1, 2, 3, 7, 3]])
        self.check([[3]], [[7, 8, 3]], 0, 2, [[3, 7, 8, 3]])
        self.check([[1, 2, 3]], [[3, 2]], 0, 0, [])

    def test_the_order_is_that_of_the_rows_and_then_that_of_the_others(self):
        self.check(
            [[2, 1], [1, 2], [2, 3]], [[9, 2], [8, 1], [7, 2]], 0, 1,
            [[2, 1, 9, 2], [2, 1, 7, 2], [1, 2, 8, 1], [2, 3, 9, 2], [2, 3, 7, 2]],
        )

    def test_equal_rows_stay(self):
        self.check([[1], [1]], [[1], [1], [1]], 0, 0, [[1, 1]] * 6)

    def test_no_rows_on_either_side(self):
        self.check([], [], 0, 0, [])
        self.check([], [[1, 2]], 3, 1, [])
        self.check([[1, 2]], [], 1, 3, [])

    def test_below_nought_and_nought(self):
        self.check([[-1], [0], [1]], [[1], [-1], [0]], 0, 0, [[-1, -1], [0, 0], [1, 1]])

    def test_numbers_of_a_hundred_figures(self):
        self.check(
            [[HUGE, 0], [HUGE - 1, 1], [-HUGE, 2]], [[5, -HUGE], [6, HUGE], [7, HUGE + 1]], 0, 1,
            [[HUGE, 0, 6, HUGE], [-HUGE, 2, 5, -HUGE]],
        )

    def test_two_hundred_rows(self):
        rows = [[k % 7 - 3, k] for k in range(200)]
        others = [[k, k * k % 11 - 5] for k in range(200)]
        wanted = [row + other for row in rows for other in others if row[0] == other[1]]
        self.assertGreater(len(wanted), 200)
        self.check(rows, others, 0, 1, wanted)

    def test_two_hundred_rows_that_are_all_alike(self):
        self.check([[4]] * 200, [[4]] * 200, 0, 0, [[4, 4]] * 40000)

    def test_the_same_list_on_both_sides(self):
        rows = [[1, 2], [2, 1]]
        self.assertEqual(joined(rows, rows, 0, 1), [[1, 2, 2, 1], [2, 1, 1, 2]])
        self.assertEqual(rows, [[1, 2], [2, 1]])


class Grouped(RowsTest):
    def check(self, rows, spot, place, wanted):
        self.assertEqual(self.asked(grouped, rows, spot, place), wanted)

    def test_number_count_and_sum(self):
        self.check([[1, 10], [2, 20], [1, 5]], 0, 1, [[1, 2, 15], [2, 1, 20]])
        self.check([[1, 10], [2, 20], [1, 5]], 1, 0, [[10, 1, 1], [20, 1, 2], [5, 1, 1]])

    def test_the_order_is_that_in_which_the_numbers_come_first(self):
        self.check([[3, 1], [1, 1], [2, 1], [1, 1], [3, 1]], 0, 1, [[3, 2, 2], [1, 2, 2], [2, 1, 1]])
        self.check([[1, 1], [3, 1], [3, 1], [3, 1]], 0, 1, [[1, 1, 1], [3, 3, 3]])

    def test_the_same_spot_twice(self):
        self.check([[3], [4], [3], [3]], 0, 0, [[3, 3, 9], [4, 1, 4]])
        self.check([[9, -2, 9], [9, 0, 9], [9, -2, 9]], 1, 1, [[-2, 2, -4], [0, 1, 0]])

    def test_other_columns_play_no_part(self):
        self.check([[5, 1, 2, 6], [6, 1, 3, 5]], 1, 2, [[1, 2, 5]])
        self.check([[5, 1, 2, 6], [6, 1, 3, 5]], 3, 0, [[6, 1, 5], [5, 1, 6]])

    def test_no_rows(self):
        self.check([], 0, 1, [])
        self.check([], 0, 0, [])

    def test_equal_rows_count_each(self):
        self.check([[1, 2]] * 5, 0, 1, [[1, 5, 10]])

    def test_below_nought_and_nought(self):
        self.check([[-1, 4], [1, -4], [0, 0], [-1, -9], [1, 4]], 0, 1, [[-1, 2, -5], [1, 2, 0], [0, 1, 0]])

    def test_numbers_of_a_hundred_figures(self):
        self.check(
            [[HUGE, HUGE], [-HUGE, 1], [HUGE, HUGE], [HUGE - 1, -HUGE]], 0, 1,
            [[HUGE, 2, 2 * HUGE], [-HUGE, 1, 1], [HUGE - 1, 1, -HUGE]],
        )

    def test_two_hundred_rows(self):
        rows = [[k * k % 13 - 6, k] for k in range(200)]
        numbers = []
        for row in rows:
            if row[0] not in numbers:
                numbers.append(row[0])
        of_each = [[row[1] for row in rows if row[0] == number] for number in numbers]
        self.check(rows, 0, 1, [[number, len(found), sum(found)] for number, found in zip(numbers, of_each)])

    def test_two_hundred_different_numbers(self):
        self.check([[-k, k] for k in range(200)], 0, 1, [[-k, 1, k] for k in range(200)])


class InOrder(RowsTest):
    def check(self, rows, spot, wanted):
        self.assertEqual(self.asked(in_order, rows, spot), wanted)

    def test_from_the_least_to_the_greatest(self):
        self.check([[3, 1], [1, 2], [2, 3]], 0, [[1, 2], [2, 3], [3, 1]])
        self.check([[3, 1], [1, 2], [2, 3]], 1, [[3, 1], [1, 2], [2, 3]])
        self.check([[3, 3], [1, 2], [2, 1]], 1, [[2, 1], [1, 2], [3, 3]])

    def test_rows_with_the_same_number_stay_in_their_order(self):
        self.check([[1, 9], [0, 5], [1, 3], [0, 7], [1, 4]], 0, [[0, 5], [0, 7], [1, 9], [1, 3], [1, 4]])
        self.check([[5, 2, 1], [4, 2, 9], [3, 2, 5]], 1, [[5, 2, 1], [4, 2, 9], [3, 2, 5]])

    def test_equal_rows_stay(self):
        self.check([[2], [1], [2], [1]], 0, [[1], [1], [2], [2]])

    def test_no_rows_and_one(self):
        self.check([], 0, [])
        self.check([], 5, [])
        self.check([[4, 2]], 1, [[4, 2]])

    def test_below_nought_and_nought(self):
        self.check([[0], [-1], [10], [-10], [9]], 0, [[-10], [-1], [0], [9], [10]])

    def test_numbers_of_a_hundred_figures(self):
        self.check(
            [[HUGE], [1], [-HUGE], [HUGE - 1], [1 - HUGE]], 0,
            [[-HUGE], [1 - HUGE], [1], [HUGE - 1], [HUGE]],
        )

    def test_two_hundred_rows(self):
        rows = [[k, k * 37 % 11 - 5] for k in range(200)]
        wanted = [row for number in range(-5, 6) for row in rows if row[1] == number]
        self.assertEqual(len(wanted), 200)
        self.check(rows, 1, wanted)
        self.check(rows[::-1], 0, rows)

    def test_another_list_comes_back(self):
        rows = [[1], [2]]
        in_order(rows, 0).append([3])
        self.assertEqual(rows, [[1], [2]])


if __name__ == "__main__":
    unittest.main()
