"""Each refusal through all the functions that refuse as point 6 tells."""

import copy
import unittest

from sheetask.clever import clever_answer
from sheetask.errors import AskError, NoColumn, NoQuestion, NoTable, NotAlike, TwoColumns
from sheetask.heads import heads_of
from sheetask.notes import shown
from sheetask.plain import plain_answer
from sheetask.reading import read
from sheetask.turning import last_turning, turnings

ASKED = (heads_of, plain_answer, turnings, clever_answer, last_turning)
REFUSALS = (NoQuestion, NoTable, NoColumn, TwoColumns, NotAlike)
TABLES = [
    ("t", ["a", "b"], [[1, 2], [3, 4], [1, 2]]),
    ("u", ["c", "d"], [[1, -5]]),
    ("v", ["b", "a"], [[2, 2]]),
    ("w", ["a", "b"], []),
    ("one", ["a"], [[1]]),
]
WRONG = (
    ("none", NoTable),
    ("(sort x t)", NoColumn),
    ("(pair t w)", TwoColumns),
    ("(both t v)", NotAlike),
)
OVER_ONE = (
    "(pick (less a 1) {})", "(pick (less 0 1) {})", "(pick (and (less a 1) (less x 1)) {})", "(pick (less 1 0) {})",
    "(cols a {})", "(cols x {})", "(cols a a {})", "(cols x x {})", "(group a b m s {})", "(group x y x x {})",
    "(group a b m m {})", "(sort a {})", "(sort x {})", "(first 0 {})", "(first 3 {})",
)
OVER_TWO = (
    "(pair {} {})", "(join a c {} {})", "(join x y {} {})", "(both {} {})", "(pick (same a c) (pair {} {}))",
    "(pick (less a 1) (both {} {}))", "(cols x (pair {} {}))",
)


class RefusalTest(unittest.TestCase):
    def refused_question(self, question, refusal, tables=TABLES):
        line = shown(question)
        for asked in ASKED:
            given = copy.deepcopy(tables)
            with self.assertRaises(AskError, msg=(asked.__name__, line)) as caught:
                asked(given, question)
            found = [kind for kind in REFUSALS if isinstance(caught.exception, kind)]
            self.assertEqual(found, [refusal], (asked.__name__, line))
            self.assertIsInstance(caught.exception, ValueError)
            self.assertEqual(given, tables)
            self.assertEqual(shown(question), line)

    def refused(self, line, refusal, tables=TABLES):
        self.refused_question(read(line), refusal, tables)

    def all_refused(self, lines, refusal):
        for line in lines:
            self.refused(line, refusal)

    def not_refused(self, line, tables=TABLES):
        for asked in ASKED:
            asked(tables, read(line))


class OneWrong(RefusalTest):
    def test_no_table(self):
        self.all_refused(("none", "a", "tt", "table"), NoTable)
        self.refused("t", NoTable, [])

    def test_no_column_of_a_pick(self):
        self.all_refused((
            "(pick (less x 1) t)", "(pick (less 1 x) t)", "(pick (same a x) t)", "(pick (same x x) t)",
            "(pick (not (less x 1)) t)", "(pick (and (less a 1) (same x 1)) t)", "(pick (and (same x 1) (less a 1)) t)",
            "(pick (or (less a 1) (same 1 x)) t)", "(pick (or (same 1 x) (less a 1)) t)", "(pick (less c 1) t)",
        ), NoColumn)

    def test_no_column_of_a_pick_even_where_the_condition_is_settled(self):
        self.all_refused((
            "(pick (or (same 0 0) (same x x)) t)", "(pick (and (less 1 0) (same x x)) t)",
            "(pick (and (less 1 0) (same x x)) w)",
        ), NoColumn)

    def test_no_column_of_cols(self):
        self.all_refused(("(cols x t)", "(cols a x t)", "(cols x a t)", "(cols t t)"), NoColumn)

    def test_no_column_of_sort(self):
        self.all_refused(("(sort x t)", "(sort c t)", "(sort b (group a b m s t))"), NoColumn)

    def test_no_column_of_group(self):
        self.all_refused(("(group x b m s t)", "(group a x m s t)", "(group m s m s t)"), NoColumn)

    def test_no_column_of_join(self):
        self.all_refused((
            "(join x c t u)", "(join a x t u)", "(join c a t u)", "(join a a t u)", "(join c c t u)",
        ), NoColumn)

    def test_two_columns(self):
        self.all_refused((
            "(cols a a t)", "(cols a b a t)", "(pair t t)", "(pair t v)", "(pair one t)", "(join a a t one)",
            "(join a b one t)", "(group a b a s t)", "(group a b m a t)", "(group a b m m t)", "(group a a a a t)",
            "(pair (pair t u) (cols d u))",
        ), TwoColumns)

    def test_not_alike(self):
        self.all_refused((
            "(both t u)", "(both t v)", "(both w v)", "(both t one)", "(both one t)", "(both t (pair t u))",
            "(both t (cols b a t))",
        ), NotAlike)

    def test_no_rows_are_never_a_reason(self):
        tables = [(name, heads, []) for name, heads, rows in TABLES]
        for line in (
            "t", "(pick (less a 0) t)", "(cols b t)", "(pair t u)", "(join a d t u)", "(group a b m s t)", "(sort b t)",
            "(first 3 t)", "(both t w)", "(pick (and (same a c) (less a 1)) (pair (first 2 (cols a t)) u))",
        ):
            self.not_refused(line, tables)
        for line, refusal in WRONG:
            self.refused(line, refusal, tables)


class HiddenByATurning(RefusalTest):
    """What one turning more would take away is refused all the same."""

    def test_a_cols_over_a_cols(self):
        self.refused("(cols b (cols a t))", NoColumn)
        self.refused("(cols a (cols a x t))", NoColumn)
        self.refused("(cols a (cols a a t))", TwoColumns)
        self.refused("(cols a (cols a b a t))", TwoColumns)

    def test_a_pick_or_first_over_a_cols(self):
        self.refused("(pick (less b 1) (cols a t))", NoColumn)
        self.refused("(pick (same a c) (cols a (pair t u)))", NoColumn)
        self.refused("(first 1 (cols a x t))", NoColumn)

    def test_a_pick_over_a_both(self):
        self.refused("(pick (less a 1) (both t v))", NotAlike)
        self.refused("(pick (less a 1) (both (cols a t) t))", NotAlike)

    def test_a_pick_over_a_pair(self):
        self.refused("(pick (same a x) (pair t u))", NoColumn)
        self.refused("(pick (same a a) (pair t one))", TwoColumns)
        self.refused("(pick (and (less a 1) (less x c)) (pair t u))", NoColumn)

    def test_sorts_and_firsts(self):
        self.refused("(sort x (sort x t))", NoColumn)
        self.refused("(first 0 (first 1 (sort x t)))", NoColumn)

    def test_tables_and_rows_that_play_no_part(self):
        self.refused("(cols a (pair t none))", NoTable)
        self.refused("(both w (pick (less 1 0) (sort x t)))", NoColumn)
        self.refused("(first 0 none)", NoTable)


class TwoWrongs(RefusalTest):
    def test_no_column_ahead_of_two_columns(self):
        self.all_refused((
            "(cols a a x t)", "(cols x a a t)", "(cols x x t)", "(join x a t t)", "(join a x t t)", "(join b b t one)",
            "(group x b m m t)", "(group a x a s t)", "(group x x x x t)",
        ), NoColumn)

    def test_the_inner_one_first(self):
        for inner, refusal in WRONG:
            for over in OVER_ONE:
                self.refused(over.format(inner), refusal)
                self.refused(over.format(f"(first 1 {inner})"), refusal)

    def test_the_one_part_right_and_the_other_wrong(self):
        for inner, refusal in WRONG:
            for over in OVER_TWO:
                for right in ("t", "u"):
                    self.refused(over.format(inner, right), refusal)
                    self.refused(over.format(right, inner), refusal)

    def test_the_first_part_ahead_of_the_second(self):
        for q, refusal in WRONG:
            for r, other in WRONG:
                for over in OVER_TWO:
                    self.refused(over.format(q, r), refusal)
                self.refused(f"(pair (sort y {q}) {r})", refusal)
                self.refused(f"(both (first 2 (first 3 {q})) {r})", refusal)
                self.refused(f"(pair (both t (pair u {q})) (both {r} {r}))", refusal)
                self.refused(f"(both (first 1 t) (pair (pick (less 0 1) {q}) {r}))", refusal)

    def test_the_inner_one_whatever_stands_over_it(self):
        self.refused("(sort x (cols a a t))", TwoColumns)
        self.refused("(cols a a (sort x t))", NoColumn)
        self.refused("(both (cols a a t) u)", TwoColumns)
        self.refused("(join x y t (both u t))", NotAlike)
        self.refused("(pick (less x 1) (pair t w))", TwoColumns)
        self.refused("(pair none (sort x t))", NoTable)
        self.refused("(pair (sort x t) none)", NoColumn)

    def test_a_pick_over_a_pick(self):
        self.refused("(pick (less x 1) (pick (less a 1) (both t v)))", NotAlike)
        self.refused("(pick (less a 1) (pick (less x 1) t))", NoColumn)
        self.refused("(pick (less x 1) (pick (less a 1) t))", NoColumn)


class Bounds(RefusalTest):
    def test_fifty_deep_and_beyond(self):
        for inner, refusal in WRONG:
            for depth in (49, 150):
                question = read(inner)
                for k in range(depth):
                    question = (
                        ("pick", ("and", ("less", "a", 1), ("same", "x", 2)), question),
                        ("sort", "a", question),
                        ("both", question, ("sort", "y", ("table", "t"))),
                        ("cols", ("a", "a"), question),
                        ("both", ("table", "w"), question),
                        ("first", k, question),
                    )[k % 6]
                self.refused_question(question, refusal)

    def test_a_condition_a_hundred_deep_and_beyond(self):
        for depth in (100, 300):
            left = right = ("same", "x", 0)
            for k in range(depth - 1):
                left = ("and", left, ("less", "a", k))
                right = ("or", ("less", "a", k), ("not", right))
            self.refused_question(("pick", left, ("table", "t")), NoColumn)
            self.refused_question(("pick", right, ("table", "t")), NoColumn)

    # Else there would be more rows to make than can be made.
    def test_refused_ahead_of_any_work_on_rows(self):
        tables = [(name, [name], [[k] for k in range(200)]) for name in "abcdefgh"]
        self.refused("(sort x (pair a (pair b (pair c (pair d (pair e (pair f (pair g h))))))))", NoColumn, tables)
        self.refused("(pair (pair a (pair b (pair c (pair d (pair e (pair f g)))))) (sort x h))", NoColumn, tables)


if __name__ == "__main__":
    unittest.main()
