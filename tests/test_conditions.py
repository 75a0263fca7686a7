import unittest

from sheetask.conditions import columns_of, holds

YES = ("same", 0, 0)
NO = ("less", 0, 0)
HUGE = 10 ** 100 - 1
BEYOND = 10 ** 120


def by_recursion(condition, heads, row):
    values = [row[heads.index(side)] if isinstance(side, str) else side for side in condition[1:]
              if not isinstance(side, tuple)]
    word = condition[0]
    if word == "less":
        return values[0] < values[1]
    if word == "same":
        return values[0] == values[1]
    answers = [by_recursion(inner, heads, row) for inner in condition[1:]]
    if word == "not":
        return not answers[0]
    return all(answers) if word == "and" else any(answers)


def one_deeper(conditions):
    deeper = [("not", c) for c in conditions]
    deeper += [(word, c, d) for word in ("and", "or") for c in conditions for d in conditions]
    return deeper


def wrapped(times, wrap, innermost):
    condition = innermost
    for k in range(times):
        condition = wrap(k, condition)
    return condition


class HoldsTest(unittest.TestCase):
    def check(self, condition, wanted, heads=("a", "b", "c"), row=(1, 2, 1)):
        self.assertIs(holds(condition, list(heads), list(row)), wanted, condition)


class Comparisons(HoldsTest):
    def test_less_of_two_names(self):
        self.check(("less", "a", "b"), True)
        self.check(("less", "b", "a"), False)
        self.check(("less", "a", "c"), False)
        self.check(("less", "a", "a"), False)

    def test_same_of_two_names(self):
        self.check(("same", "a", "c"), True)
        self.check(("same", "a", "a"), True)
        self.check(("same", "a", "b"), False)
        self.check(("same", "b", "a"), False)

    def test_a_name_and_a_number(self):
        self.check(("less", "b", 3), True)
        self.check(("less", "b", 2), False)
        self.check(("less", "b", 1), False)
        self.check(("same", "b", 2), True)
        self.check(("same", "b", 1), False)

    def test_a_number_and_a_name(self):
        self.check(("less", 1, "b"), True)
        self.check(("less", 2, "b"), False)
        self.check(("less", 3, "b"), False)
        self.check(("same", 2, "b"), True)
        self.check(("same", 3, "b"), False)

    def test_two_numbers(self):
        for heads, row in ((["a"], [5]), (["a", "b"], [0, 0])):
            self.check(("less", 1, 2), True, heads, row)
            self.check(("less", 2, 2), False, heads, row)
            self.check(("less", 2, 1), False, heads, row)
            self.check(("same", 2, 2), True, heads, row)
            self.check(("same", 2, 1), False, heads, row)

    def test_numbers_below_nought_and_nought(self):
        row = [-5, 0, 5]
        self.check(("less", "a", "b"), True, row=row)
        self.check(("less", "a", -4), True, row=row)
        self.check(("less", "a", -5), False, row=row)
        self.check(("less", "a", -6), False, row=row)
        self.check(("less", "c", "a"), False, row=row)
        self.check(("same", "a", "c"), False, row=row)
        self.check(("same", "a", -5), True, row=row)
        self.check(("same", "b", 0), True, row=row)
        self.check(("less", "b", 0), False, row=row)
        self.check(("less", -1, "b"), True, row=row)

    def test_numbers_of_a_hundred_figures(self):
        row = [HUGE - 1, HUGE, -HUGE]
        self.check(("less", "a", "b"), True, row=row)
        self.check(("less", "b", "a"), False, row=row)
        self.check(("same", "a", "b"), False, row=row)
        self.check(("same", "b", HUGE), True, row=row)
        self.check(("less", "c", -HUGE + 1), True, row=row)
        self.check(("same", -HUGE, "c"), True, row=row)

    def test_numbers_somewhat_beyond_a_hundred_figures(self):
        row = [BEYOND, BEYOND + 1, -BEYOND]
        self.check(("less", "a", "b"), True, row=row)
        self.check(("same", "a", "b"), False, row=row)
        self.check(("same", "c", -BEYOND), True, row=row)

    def test_equal_numbers_that_are_two_objects(self):
        self.check(("same", "a", "b"), True, ["a", "b"], [int("9" * 100), int("9" * 100)])
        self.check(("less", "a", "b"), False, ["a", "b"], [int("9" * 100), int("9" * 100)])

    def test_a_column_is_found_by_its_name_and_not_by_its_order(self):
        self.check(("less", "a", "z"), False, ["z", "a"], [1, 2])
        self.check(("less", "z", "a"), True, ["z", "a"], [1, 2])
        self.check(("same", "ab", 7), True, ["b", "abc", "ab", "a"], [1, 2, 7, 3])

    def test_words_of_the_language_are_names_of_columns(self):
        heads = ["less", "and", "not", "same", "or"]
        row = [1, 2, 3, 2, 0]
        self.check(("less", "less", "and"), True, heads, row)
        self.check(("same", "and", "same"), True, heads, row)
        self.check(("less", "not", "or"), False, heads, row)
        self.check(("not", ("less", "not", "or")), True, heads, row)


class Connected(HoldsTest):
    def test_not(self):
        self.check(("not", YES), False)
        self.check(("not", NO), True)
        self.check(("not", ("not", YES)), True)

    def test_and(self):
        self.check(("and", YES, YES), True)
        self.check(("and", YES, NO), False)
        self.check(("and", NO, YES), False)
        self.check(("and", NO, NO), False)

    def test_or(self):
        self.check(("or", YES, YES), True)
        self.check(("or", YES, NO), True)
        self.check(("or", NO, YES), True)
        self.check(("or", NO, NO), False)

    def test_all_small_conditions_as_point_four_says(self):
        heads = ["a", "b"]
        once = one_deeper([("less", "a", "b"), ("same", "a", 1), NO])
        conditions = once + one_deeper(once)
        for row in ([0, 1], [1, 1], [1, 2], [2, 1]):
            for condition in conditions:
                self.assertIs(holds(condition, heads, row), by_recursion(condition, heads, row), condition)

    def test_what_is_handed_in_stays_as_it_was(self):
        heads = ["b", "a"]
        row = [3, -4]
        condition = ("or", ("and", ("less", "a", "b"), ("not", ("same", "a", 3))), ("less", 9, "a"))
        self.assertIs(holds(condition, heads, row), True)
        self.assertEqual(heads, ["b", "a"])
        self.assertEqual(row, [3, -4])
        self.assertIs(holds(condition, heads, row), True)


class Deep(HoldsTest):
    def test_not_upon_not(self):
        for depth in (98, 99, 100, 101, 150, 200):
            condition = wrapped(depth, lambda k, c: ("not", c), ("less", "a", "b"))
            self.check(condition, depth % 2 == 0)

    def test_the_innermost_one_decides_on_either_side(self):
        for depth in (99, 100, 150, 200):
            for innermost, wanted in ((("less", "a", "b"), True), (("less", "b", "a"), False)):
                for word, idle in (("and", YES), ("or", NO)):
                    self.check(wrapped(depth, lambda k, c: (word, c, idle), innermost), wanted)
                    self.check(wrapped(depth, lambda k, c: (word, idle, c), innermost), wanted)

    def test_the_outermost_one_decides(self):
        deep = wrapped(99, lambda k, c: ("and", c, YES), YES)
        self.check(("and", deep, NO), False)
        self.check(("and", NO, deep), False)
        self.check(("or", ("not", deep), NO), False)
        self.check(("or", NO, deep), True)

    def test_all_words_in_turn(self):
        wraps = (
            lambda c: ("not", c),
            lambda c: ("and", ("less", "a", 3), c),
            lambda c: ("or", c, ("same", "b", 4)),
            lambda c: ("and", c, ("not", ("same", "a", 0))),
            lambda c: ("or", ("less", "b", "a"), c),
        )
        for shift in range(5):
            condition = wrapped(99, lambda k, c: wraps[(k + shift) % 5](c), ("less", "a", "b"))
            for row in ([0, 0], [1, 2], [2, 1], [3, 4], [3, 3], [-1, 4]):
                wanted = by_recursion(condition, ["a", "b"], row)
                self.check(condition, wanted, ["a", "b"], row)


class ColumnsOf(unittest.TestCase):
    def check(self, condition, wanted):
        found = columns_of(condition)
        self.assertIsInstance(found, list)
        self.assertEqual(found, wanted)

    def test_in_the_order_of_texts(self):
        self.check(("less", "b", "a"), ["a", "b"])
        self.check(
            ("and", ("less", "z", "abz"), ("or", ("same", "b", "ab"), ("not", ("less", "a", 1)))),
            ["a", "ab", "abz", "b", "z"],
        )

    def test_each_name_once(self):
        self.check(("same", "a", "a"), ["a"])
        self.check(("or", ("less", "b", "a"), ("and", ("same", "a", "b"), ("not", ("less", "b", 1)))), ["a", "b"])

    def test_sides_that_are_numbers_are_no_names(self):
        self.check(("less", "a", 1), ["a"])
        self.check(("less", 1, "a"), ["a"])
        self.check(("same", "a", -HUGE), ["a"])

    def test_no_name_at_all(self):
        self.check(("less", 1, 2), [])
        self.check(("and", ("same", 0, 0), ("not", ("or", ("less", -1, 0), ("same", HUGE, 1)))), [])

    def test_names_beneath_each_word_and_on_each_side(self):
        self.check(("not", ("same", "c", 1)), ["c"])
        self.check(("and", ("less", "c", 1), ("less", 2, "b")), ["b", "c"])
        self.check(("or", ("same", 1, "c"), ("same", "b", 2)), ["b", "c"])

    def test_a_name_counts_where_the_other_part_decides(self):
        self.check(("and", NO, ("less", "a", 1)), ["a"])
        self.check(("or", YES, ("less", "a", 1)), ["a"])

    def test_words_are_names_only_where_sides_stand(self):
        self.check(("less", "same", "and"), ["and", "same"])
        self.check(("not", ("or", ("less", "not", 1), ("same", "or", "less"))), ["less", "not", "or"])

    def test_a_list_of_its_own_each_time(self):
        condition = ("less", "b", "a")
        columns_of(condition).append("c")
        self.check(condition, ["a", "b"])

    def test_a_hundred_deep_and_somewhat_beyond(self):
        for depth in (99, 100, 150, 200):
            self.check(wrapped(depth, lambda k, c: ("not", c), ("less", "b", "a")), ["a", "b"])
            self.check(wrapped(depth, lambda k, c: ("and", c, ("less", "z", k)), ("less", "b", "a")), ["a", "b", "z"])
            self.check(wrapped(depth, lambda k, c: ("or", ("same", k, "z"), c), ("less", "b", "a")), ["a", "b", "z"])

    def test_a_hundred_names(self):
        names = ["a" * k for k in range(1, 101)]
        condition = wrapped(99, lambda k, c: ("or", ("same", names[k], 0), c), ("same", names[99], 0))
        self.check(condition, names)


if __name__ == "__main__":
    unittest.main()
