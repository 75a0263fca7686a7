import copy
import unittest

from sheetask.errors import AskError, NoColumn, NoQuestion, NoTable, NotAlike, TwoColumns
from sheetask.heads import heads_of
from sheetask.notes import shown

REFUSALS = (NoQuestion, NoTable, NoColumn, TwoColumns, NotAlike)

TABLES = [
    ("t", ["a", "b"], [[1, 2], [3, 4], [1, 2]]),
    ("u", ["c", "d"], [[1, -5]]),
    ("v", ["b", "a"], []),
    ("w", ["a", "b"], []),
    ("one", ["a"], [[10 ** 100 - 1]]),
    ("sort", ["pick", "sort"], [[0, 0]]),
]
T = ("table", "t")
U = ("table", "u")
V = ("table", "v")
W = ("table", "w")
ONE = ("table", "one")

YES = ("same", 0, 0)
NO_TABLE = ("table", "none")
NO_COLUMN = ("sort", "x", T)
TWO_COLUMNS = ("pair", T, T)
NOT_ALIKE = ("both", T, U)
REFUSED = ((NO_TABLE, NoTable), (NO_COLUMN, NoColumn), (TWO_COLUMNS, TwoColumns), (NOT_ALIKE, NotAlike))

# Each word over one question, right where that one has the columns a and b, and wrong where it hasn't.
OVER_ONE = (
    lambda q: ("pick", ("less", "a", 1), q),
    lambda q: ("pick", YES, q),
    lambda q: ("cols", ("a",), q),
    lambda q: ("cols", ("x", "x"), q),
    lambda q: ("group", "a", "b", "m", "s", q),
    lambda q: ("group", "x", "y", "x", "x", q),
    lambda q: ("sort", "a", q),
    lambda q: ("sort", "y", q),
    lambda q: ("first", 0, q),
)
OVER_TWO = (
    lambda q, r: ("pair", q, r),
    lambda q, r: ("join", "a", "c", q, r),
    lambda q, r: ("join", "x", "y", q, r),
    lambda q, r: ("both", q, r),
)


class HeadsTest(unittest.TestCase):
    # A question is tuples, texts and numbers, which nothing can change: its line is enough to tell that it is the same.
    def asked(self, question, tables):
        line = shown(question)
        given = copy.deepcopy(tables)
        try:
            return heads_of(given, question)
        finally:
            self.assertEqual(given, tables)
            self.assertEqual(shown(question), line)

    def check(self, question, heads, tables=TABLES):
        got = self.asked(question, tables)
        self.assertIs(type(got), list)
        self.assertEqual(got, heads)

    def refused(self, question, refusal, tables=TABLES):
        with self.assertRaises(AskError, msg=question) as caught:
            self.asked(question, tables)
        self.assertEqual([kind for kind in REFUSALS if isinstance(caught.exception, kind)], [refusal], question)


class Heads(HeadsTest):
    def test_table(self):
        self.check(T, ["a", "b"])
        self.check(U, ["c", "d"])
        self.check(ONE, ["a"])

    def test_pick(self):
        self.check(("pick", ("less", "a", "b"), T), ["a", "b"])
        self.check(("pick", ("same", 1, 1), T), ["a", "b"])
        self.check(("pick", ("not", ("or", ("same", "c", 0), ("less", "d", "c"))), U), ["c", "d"])

    def test_cols(self):
        self.check(("cols", ("a",), T), ["a"])
        self.check(("cols", ("b", "a"), T), ["b", "a"])
        self.check(("cols", ("a", "b"), T), ["a", "b"])
        self.check(("cols", ("d", "a", "c"), ("pair", T, U)), ["d", "a", "c"])

    def test_pair(self):
        self.check(("pair", T, U), ["a", "b", "c", "d"])
        self.check(("pair", U, T), ["c", "d", "a", "b"])

    def test_join(self):
        self.check(("join", "a", "c", T, U), ["a", "b", "c", "d"])
        self.check(("join", "b", "c", T, U), ["a", "b", "c", "d"])
        self.check(("join", "d", "b", U, T), ["c", "d", "a", "b"])

    def test_group(self):
        self.check(("group", "a", "b", "m", "s", T), ["a", "m", "s"])
        self.check(("group", "b", "a", "m", "s", T), ["b", "m", "s"])

    def test_group_with_the_same_column_twice(self):
        self.check(("group", "a", "a", "m", "s", T), ["a", "m", "s"])

    def test_group_with_new_names_that_the_question_has(self):
        self.check(("group", "a", "b", "b", "s", T), ["a", "b", "s"])
        self.check(("group", "a", "b", "m", "b", T), ["a", "m", "b"])

    def test_sort(self):
        self.check(("sort", "a", T), ["a", "b"])
        self.check(("sort", "b", V), ["b", "a"])

    def test_first(self):
        self.check(("first", 0, T), ["a", "b"])
        self.check(("first", 10 ** 100 - 1, V), ["b", "a"])

    def test_both(self):
        self.check(("both", T, W), ["a", "b"])
        self.check(("both", T, T), ["a", "b"])
        self.check(("both", ("cols", ("b", "a"), T), V), ["b", "a"])

    def test_one_over_the_other(self):
        self.check(("sort", "m", ("group", "a", "d", "m", "s", ("join", "b", "c", T, U))), ["a", "m", "s"])
        self.check(("pair", ("cols", ("a",), T), ("cols", ("b",), T)), ["a", "b"])
        self.check(("both", ("pair", T, U), ("cols", ("a", "b", "c", "d"), ("pair", U, T))), ["a", "b", "c", "d"])
        self.check(("pair", ("pair", ONE, U), ("cols", ("b",), V)), ["a", "c", "d", "b"])
        self.check(("join", "m", "d", ("group", "a", "b", "m", "s", T), ("pick", YES, U)), ["a", "m", "s", "c", "d"])

    def test_names_that_are_words(self):
        table = ("table", "sort")
        self.check(("sort", "sort", table), ["pick", "sort"])
        self.check(("cols", ("sort",), table), ["sort"])
        self.check(("cols", ("sort", "pick"), table), ["sort", "pick"])
        self.check(("pick", ("less", "pick", "sort"), table), ["pick", "sort"])
        self.check(("group", "pick", "sort", "table", "group", table), ["pick", "table", "group"])
        tables = [("table", ["table", "t"], []), ("cols", ["pair"], [])]
        self.check(("cols", ("table", "t"), ("table", "table")), ["table", "t"], tables)
        self.check(("join", "t", "pair", ("table", "table"), ("table", "cols")), ["table", "t", "pair"], tables)

    def test_the_table_is_found_wherever_it_stands(self):
        tables = [(name, [name * 2], []) for name in "abcdefgh"]
        for name in "abcdefgh":
            self.check(("table", name), [name * 2], tables)

    def test_no_rows_are_never_a_reason(self):
        tables = [(name, heads, []) for name, heads, rows in TABLES]
        for question, heads in (
            (T, ["a", "b"]),
            (("pick", ("less", "a", 0), T), ["a", "b"]),
            (("cols", ("b",), T), ["b"]),
            (("pair", T, U), ["a", "b", "c", "d"]),
            (("join", "a", "d", T, U), ["a", "b", "c", "d"]),
            (("group", "a", "b", "m", "s", T), ["a", "m", "s"]),
            (("sort", "b", T), ["a", "b"]),
            (("first", 3, T), ["a", "b"]),
            (("both", T, W), ["a", "b"]),
        ):
            with self.subTest(question=question):
                self.check(question, heads, tables)
        for question, refusal in REFUSED:
            with self.subTest(question=question):
                self.refused(question, refusal, tables)

    def test_what_comes_back_can_be_changed_without_harm(self):
        tables = copy.deepcopy(TABLES)
        for question in (T, ("pick", YES, T), ("sort", "a", T), ("first", 1, T), ("both", T, W), ("pair", T, U)):
            heads_of(tables, question).append("z")
            self.assertEqual(tables, TABLES)


class Refusals(HeadsTest):
    def test_no_table(self):
        self.refused(NO_TABLE, NoTable)
        self.refused(("table", "a"), NoTable)
        self.refused(("table", "tt"), NoTable)
        self.refused(T, NoTable, [])

    def test_no_column_of_a_pick(self):
        for condition in (
            ("less", "x", 1), ("less", 1, "x"), ("same", "a", "x"), ("same", "x", "a"), ("not", ("less", "x", 1)),
            ("and", ("less", "a", 1), ("same", "x", 1)), ("and", ("same", "x", 1), ("less", "a", 1)),
            ("or", ("less", "a", 1), ("same", 1, "x")), ("or", ("same", 1, "x"), ("less", "a", 1)),
            ("or", YES, ("not", ("and", YES, ("less", 1, "c")))),
        ):
            with self.subTest(condition=condition):
                self.refused(("pick", condition, T), NoColumn)

    def test_no_column_of_a_pick_even_where_the_condition_is_settled(self):
        self.refused(("pick", ("or", YES, ("same", "x", "x")), T), NoColumn)
        self.refused(("pick", ("and", ("not", YES), ("same", "x", "x")), T), NoColumn)

    def test_no_column_of_cols(self):
        self.refused(("cols", ("x",), T), NoColumn)
        self.refused(("cols", ("a", "x"), T), NoColumn)
        self.refused(("cols", ("x", "a"), T), NoColumn)
        self.refused(("cols", ("a",), ("cols", ("b",), T)), NoColumn)

    def test_no_column_of_sort(self):
        self.refused(("sort", "x", T), NoColumn)
        self.refused(("sort", "t", T), NoColumn)
        self.refused(("sort", "b", ("group", "a", "b", "m", "s", T)), NoColumn)

    def test_no_column_of_group(self):
        self.refused(("group", "x", "b", "m", "s", T), NoColumn)
        self.refused(("group", "a", "x", "m", "s", T), NoColumn)
        self.refused(("group", "x", "x", "m", "s", T), NoColumn)
        self.refused(("group", "m", "s", "m", "b", T), NoColumn)

    def test_no_column_of_join(self):
        self.refused(("join", "x", "c", T, U), NoColumn)
        self.refused(("join", "a", "x", T, U), NoColumn)
        self.refused(("join", "x", "x", T, U), NoColumn)

    def test_the_columns_of_a_join_on_the_wrong_sides(self):
        self.refused(("join", "c", "a", T, U), NoColumn)
        self.refused(("join", "c", "c", T, U), NoColumn)
        self.refused(("join", "a", "a", T, U), NoColumn)

    def test_two_columns(self):
        self.refused(("cols", ("a", "a"), T), TwoColumns)
        self.refused(("cols", ("a", "b", "a"), T), TwoColumns)
        self.refused(("pair", T, T), TwoColumns)
        self.refused(("pair", T, V), TwoColumns)
        self.refused(("pair", ONE, T), TwoColumns)
        self.refused(("pair", ("pair", T, U), ("cols", ("d",), U)), TwoColumns)
        self.refused(("join", "a", "a", T, T), TwoColumns)
        self.refused(("join", "b", "a", T, ONE), TwoColumns)
        self.refused(("join", "a", "b", ONE, T), TwoColumns)

    def test_two_columns_of_group(self):
        self.refused(("group", "a", "b", "a", "s", T), TwoColumns)
        self.refused(("group", "a", "b", "m", "a", T), TwoColumns)
        self.refused(("group", "a", "b", "m", "m", T), TwoColumns)
        self.refused(("group", "a", "a", "a", "a", T), TwoColumns)

    def test_not_alike(self):
        self.refused(("both", T, U), NotAlike)
        self.refused(("both", T, ONE), NotAlike)
        self.refused(("both", ONE, T), NotAlike)
        self.refused(("both", T, ("pair", T, U)), NotAlike)

    def test_not_alike_in_another_order(self):
        self.refused(("both", T, V), NotAlike)
        self.refused(("both", W, V), NotAlike)


class TwoWrongs(HeadsTest):
    def test_no_column_ahead_of_two_columns(self):
        self.refused(("cols", ("a", "a", "x"), T), NoColumn)
        self.refused(("cols", ("x", "a", "a"), T), NoColumn)
        self.refused(("cols", ("x", "x"), T), NoColumn)
        self.refused(("join", "x", "a", T, T), NoColumn)
        self.refused(("join", "a", "x", T, T), NoColumn)
        self.refused(("join", "b", "b", T, ONE), NoColumn)
        self.refused(("group", "x", "b", "m", "m", T), NoColumn)
        self.refused(("group", "a", "x", "a", "s", T), NoColumn)
        self.refused(("group", "x", "x", "x", "x", T), NoColumn)

    def test_a_refused_question_beneath_each(self):
        for inner, refusal in REFUSED:
            for over in OVER_ONE:
                self.refused(over(inner), refusal)
                self.refused(over(("first", 1, inner)), refusal)
            for over in OVER_TWO:
                self.refused(over(inner, T), refusal)
                self.refused(over(T, inner), refusal)
                self.refused(over(inner, U), refusal)
                self.refused(over(U, inner), refusal)

    def test_the_first_one_goes_ahead_of_the_second(self):
        for q, refusal in REFUSED:
            for r, other in REFUSED:
                for over in OVER_TWO:
                    self.refused(over(q, r), refusal)
                    self.refused(over(("sort", "y", q), r), refusal)
                    self.refused(over(q, ("first", 2, r)), refusal)
                    self.refused(over(("first", 2, ("first", 3, q)), r), refusal)

    def test_the_first_one_goes_ahead_further_within_too(self):
        for q, refusal in REFUSED:
            for r, other in REFUSED:
                self.refused(("pair", ("both", T, ("pair", W, q)), ("both", r, r)), refusal)
                self.refused(("both", ("first", 1, T), ("pair", ("pick", YES, q), r)), refusal)

    def test_the_inner_one_ahead_of_the_one_over_it(self):
        self.refused(("sort", "x", ("cols", ("a", "a"), T)), TwoColumns)
        self.refused(("cols", ("a", "a"), ("sort", "x", T)), NoColumn)
        self.refused(("both", ("cols", ("a", "a"), T), U), TwoColumns)
        self.refused(("both", T, ("sort", "x", U)), NoColumn)
        self.refused(("join", "x", "y", T, ("both", U, T)), NotAlike)
        self.refused(("group", "x", "x", "x", "x", ("both", U, T)), NotAlike)
        self.refused(("pick", ("less", "x", 1), ("pair", T, W)), TwoColumns)

    def test_a_wrong_beside_a_right_one(self):
        self.refused(("pair", ("sort", "a", T), ("sort", "a", U)), NoColumn)
        self.refused(("pair", ("sort", "x", T), NO_TABLE), NoColumn)
        self.refused(("pair", NO_TABLE, ("sort", "x", T)), NoTable)


class Deep(HeadsTest):
    def deep_condition(self, depth, innermost):
        condition = innermost
        for k in range(depth - 1):
            condition = (
                ("not", condition),
                ("and", condition, ("same", "b", k)),
                ("or", ("same", -k, "a"), condition),
            )[k % 3]
        return condition

    # With the innermost one, as many questions one within the other as asked for.
    def deep_question(self, questions, condition, innermost):
        question = innermost
        depth = 1
        steps = 0
        while depth < questions - 1:
            question, more = (
                (("pick", condition, question), 1),
                (("sort", "a", question), 1),
                (("both", question, T), 1),
                (("cols", ("a", "b"), question), 1),
                (("both", W, question), 1),
                (("first", depth, question), 1),
                (("cols", ("a", "b"), ("group", "a", "b", "b", "s", question)), 2),
                (("cols", ("a", "b"), ("pair", U, question)), 2),
                (("cols", ("a", "b"), ("join", "a", "c", question, U)), 2),
            )[steps % 9]
            depth += more
            steps += 1
        return question if depth == questions else ("pick", condition, question)

    def test_fifty_questions_and_a_hundred_conditions_deep(self):
        right = self.deep_condition(100, ("less", "a", "b"))
        wrong = self.deep_condition(100, ("less", "a", "x"))
        self.check(self.deep_question(50, right, T), ["a", "b"])
        self.refused(self.deep_question(50, wrong, T), NoColumn)
        for inner, refusal in REFUSED:
            self.refused(self.deep_question(50, wrong, inner), refusal)

    def test_somewhat_beyond(self):
        condition = self.deep_condition(200, ("less", "a", "b"))
        self.check(self.deep_question(100, condition, T), ["a", "b"])
        self.refused(self.deep_question(100, condition, NO_TABLE), NoTable)

    def test_many_pairs(self):
        names = [first + second for first in "abcdefgh" for second in "abcdefgh"][:50]
        tables = [(name, [name], [[1]]) for name in names]
        ahead = behind = ("table", names[0])
        for name in names[1:]:
            ahead = ("pair", ("table", name), ahead)
            behind = ("pair", behind, ("table", name))
        self.check(behind, names, tables)
        self.check(ahead, names[::-1], tables)
        self.refused(("pair", ahead, ("table", names[0])), TwoColumns, tables)
        self.refused(("pair", behind, ("table", names[49])), TwoColumns, tables)


if __name__ == "__main__":
    unittest.main()
