import unittest

from sheetask.notes import shown

T = ("table", "t")
U = ("table", "u")
HUGE = int("1234567890" * 10)


class ShownTest(unittest.TestCase):
    def check(self, question, line):
        self.assertEqual(shown(question), line)


class Questions(ShownTest):
    def test_the_example_of_point_seven(self):
        self.check(
            ("pick", ("less", "a", -3), ("cols", ("b", "a"), ("table", "t"))),
            "(pick (less a -3) (cols b a t))",
        )

    def test_table(self):
        self.check(("table", "t"), "t")
        self.check(("table", "longname"), "longname")

    def test_pick(self):
        self.check(("pick", ("same", "a", "b"), T), "(pick (same a b) t)")

    def test_cols_of_one_name_and_of_several(self):
        self.check(("cols", ("a",), T), "(cols a t)")
        self.check(("cols", ("c", "a", "bb"), T), "(cols c a bb t)")
        self.check(("cols", ("a", "a"), T), "(cols a a t)")

    def test_pair(self):
        self.check(("pair", T, U), "(pair t u)")
        self.check(("pair", U, ("pair", T, U)), "(pair u (pair t u))")

    def test_join(self):
        self.check(("join", "a", "b", T, U), "(join a b t u)")
        self.check(("join", "a", "b", ("sort", "c", U), ("first", 2, T)), "(join a b (sort c u) (first 2 t))")

    def test_group(self):
        self.check(("group", "by", "of", "many", "total", T), "(group by of many total t)")
        self.check(("group", "a", "a", "m", "s", ("both", T, U)), "(group a a m s (both t u))")

    def test_sort(self):
        self.check(("sort", "a", T), "(sort a t)")

    def test_first(self):
        self.check(("first", 0, T), "(first 0 t)")
        self.check(("first", 7, T), "(first 7 t)")
        self.check(("first", 100, T), "(first 100 t)")
        self.check(("first", HUGE, T), "(first " + "1234567890" * 10 + " t)")

    def test_both(self):
        self.check(("both", T, U), "(both t u)")

    def test_all_of_them_in_one(self):
        question = ("first", 10, ("sort", "s", ("group", "a", "b", "m", "s", ("both", (
            "pick", ("not", ("less", "a", 0)), ("cols", ("a", "b"), ("pair", T, U))), (
            "join", "a", "c", U, T)))))
        self.check(
            question,
            "(first 10 (sort s (group a b m s (both (pick (not (less a 0)) (cols a b (pair t u))) (join a c u t)))))",
        )

    def test_refused_questions_are_written_too(self):
        self.check(("both", ("table", "none"), ("cols", ("a", "a"), T)), "(both none (cols a a t))")


class Conditions(ShownTest):
    def check_condition(self, condition, part):
        self.check(("pick", condition, T), "(pick " + part + " t)")

    def test_less_and_same(self):
        self.check_condition(("less", "a", "b"), "(less a b)")
        self.check_condition(("less", 1, "b"), "(less 1 b)")
        self.check_condition(("same", "a", 2), "(same a 2)")
        self.check_condition(("same", 2, 1), "(same 2 1)")

    def test_not_and_or(self):
        self.check_condition(("not", ("less", "a", "b")), "(not (less a b))")
        self.check_condition(("and", ("less", "a", "b"), ("same", "c", 1)), "(and (less a b) (same c 1))")
        self.check_condition(("or", ("same", "c", 1), ("less", "a", "b")), "(or (same c 1) (less a b))")

    def test_one_within_the_other(self):
        self.check_condition(
            ("or", ("not", ("and", ("less", "a", 1), ("same", "b", 2))), ("not", ("not", ("less", 0, "a")))),
            "(or (not (and (less a 1) (same b 2))) (not (not (less 0 a))))",
        )

    def test_numbers(self):
        figures = "1234567890" * 10
        self.check_condition(("less", "a", 0), "(less a 0)")
        self.check_condition(("less", -1, 10), "(less -1 10)")
        self.check_condition(("same", -100, 1000), "(same -100 1000)")
        self.check_condition(("same", HUGE, -HUGE), "(same " + figures + " -" + figures + ")")

    def test_numbers_somewhat_beyond_a_hundred_figures(self):
        self.check_condition(("same", -10 ** 150, "a"), "(same -1" + "0" * 150 + " a)")


class WordsAsNames(ShownTest):
    def test_the_example_of_point_eight(self):
        self.check(("sort", "sort", ("table", "pick")), "(sort sort pick)")

    def test_tables_and_columns_called_like_words(self):
        self.check(("table", "table"), "table")
        self.check(("pair", ("table", "cols"), ("table", "table")), "(pair cols table)")
        self.check(("join", "join", "table", ("table", "cols"), T), "(join join table cols t)")
        self.check(("group", "cols", "table", "group", "pick", T), "(group cols table group pick t)")

    def test_names_of_cols_that_look_like_a_question_or_a_condition(self):
        self.check(("cols", ("table", "t"), T), "(cols table t t)")
        self.check(("cols", ("table",), ("table", "table")), "(cols table table)")
        self.check(("cols", ("cols", "a", "b"), T), "(cols cols a b t)")
        self.check(("cols", ("less", "a", "b"), T), "(cols less a b t)")
        self.check(("cols", ("sort", "first", "not"), T), "(cols sort first not t)")

    def test_sides_called_like_words(self):
        self.check(("pick", ("less", "table", "cols"), T), "(pick (less table cols) t)")
        self.check(("pick", ("not", ("same", "not", "and")), T), "(pick (not (same not and)) t)")


class Deep(ShownTest):
    def deep_condition(self, depth):
        condition = ("less", "a", -1)
        part = "(less a -1)"
        for k in range(depth - 1):
            if k % 3 == 0:
                condition = ("not", condition)
                part = f"(not {part})"
            elif k % 3 == 1:
                condition = ("and", condition, ("same", "b", k))
                part = f"(and {part} (same b {k}))"
            else:
                condition = ("or", ("same", -k, "b"), condition)
                part = f"(or (same {-k} b) {part})"
        return condition, part

    def check_deep(self, questions, conditions):
        condition, part = self.deep_condition(conditions)
        question = ("pick", condition, T)
        line = f"(pick {part} t)"
        wraps = (
            lambda q, s: (("sort", "a", q), f"(sort a {s})"),
            lambda q, s: (("both", q, U), f"(both {s} u)"),
            lambda q, s: (("pick", condition, q), f"(pick {part} {s})"),
            lambda q, s: (("join", "a", "b", U, q), f"(join a b u {s})"),
            lambda q, s: (("cols", ("a", "b"), q), f"(cols a b {s})"),
            lambda q, s: (("group", "a", "b", "c", "d", q), f"(group a b c d {s})"),
            lambda q, s: (("first", 3, q), f"(first 3 {s})"),
            lambda q, s: (("pair", U, q), f"(pair u {s})"),
        )
        for k in range(questions - 2):
            question, line = wraps[k % len(wraps)](question, line)
        self.check(question, line)

    def test_fifty_questions_and_a_hundred_conditions_deep(self):
        self.check_deep(50, 100)

    def test_somewhat_beyond(self):
        self.check_deep(51, 101)
        self.check_deep(100, 200)

    def test_the_deepest_condition_in_the_deepest_question(self):
        condition, part = self.deep_condition(100)
        question = ("pick", condition, T)
        line = f"(pick {part} t)"
        for k in range(48):
            question = ("first", k, question)
            line = f"(first {k} {line})"
        self.check(question, line)


if __name__ == "__main__":
    unittest.main()
