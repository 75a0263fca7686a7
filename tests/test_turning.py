import copy
import unittest

import making
import reference
from sheetask.notes import shown
from sheetask.plain import plain_answer
from sheetask.reading import read
from sheetask.turning import last_turning, turnings

GREAT = 10 ** 100 - 1
TABLES = [
    ("t", ["a", "b"], [[3, 1], [1, 2], [3, 1], [2, 2], [1, 5]]),
    ("u", ["c", "d"], [[2, 7], [1, 1], [2, 7], [5, 2]]),
    ("v", ["e"], [[0], [2]]),
    ("w", ["a", "b"], [[2, 4], [3, 1]]),
    ("sort", ["pick", "sort", "and"], [[2, 1, 0], [1, 2, 0]]),
    ("cols", ["table", "cols", "t"], [[2, 1, 0], [2, 2, 5]]),
    ("pair", ["pair", "same"], [[2, 1], [1, 5]]),
]

# Each word over a group with the heads a, b and m, where no turning can be done.
OVER = (
    "{}", "(pick (less a 2) {})", "(cols a {})", "(pair {} u)", "(pair u {})", "(join a c {} u)", "(join c a u {})",
    "(group a b k s {})", "(sort a {})", "(first 2 {})", "(both {} (group a b b m t))", "(both (group a b b m t) {})",
)


class TurningTest(unittest.TestCase):
    # A question is tuples, texts and numbers, which nothing can change: its line is enough to tell that it is the same.
    def turned(self, question, tables):
        line = shown(question)
        given = copy.deepcopy(tables)
        questions = turnings(given, question)
        self.assertEqual(given, tables)
        self.assertEqual(shown(question), line)
        self.assertIs(type(questions), list)
        self.assertEqual(shown(questions[0]), line)
        return questions

    # For questions of which only one turning can be done at a time, so that the list is told.
    def check(self, *lines, tables=TABLES):
        questions = self.turned(read(lines[0]), tables)
        self.assertEqual([shown(question) for question in questions], list(lines))
        self.check_steps(questions, tables)

    def stays(self, *lines):
        for line in lines:
            with self.subTest(line=line):
                self.check(line)

    def check_steps(self, questions, tables):
        answer = reference.answer(tables, questions[0])
        for question, later in zip(questions, questions[1:]):
            self.assertIn(later, reference.turned_anywhere(tables, question))
        for question in questions:
            self.assertEqual(plain_answer(tables, question), answer)
        self.assertEqual(reference.turned_anywhere(tables, questions[-1]), [])
        self.assertEqual(last_turning(tables, questions[0]), questions[-1])

    def check_all(self, question, tables=TABLES):
        questions = self.turned(question, tables)
        self.check_steps(questions, tables)
        return [shown(later) for later in questions]


class PicksWithAnd(TurningTest):
    def test_one(self):
        self.check("(pick (and (less a 3) (less b 2)) t)", "(pick (less a 3) (pick (less b 2) t))")

    def test_one_within_the_other(self):
        self.check(
            "(pick (and (and (less a 3) (less b 5)) (less 1 b)) t)",
            "(pick (and (less a 3) (less b 5)) (pick (less 1 b) t))",
            "(pick (less a 3) (pick (less b 5) (pick (less 1 b) t)))",
        )
        self.check(
            "(pick (and (less a 3) (and (less b 5) (less 1 b))) t)",
            "(pick (less a 3) (pick (and (less b 5) (less 1 b)) t))",
            "(pick (less a 3) (pick (less b 5) (pick (less 1 b) t)))",
        )

    def test_over_any_question(self):
        for inner in ("t", "(first 2 t)", "(group a b b m t)", "(pick (less a b) t)"):
            self.check(f"(pick (and (less a 3) (less b 2)) {inner})", f"(pick (less a 3) (pick (less b 2) {inner}))")

    def test_ahead_of_going_within(self):
        for inner in ("(sort a t)", "(cols b a t)", "(both t w)", "(pair t u)", "(join a c t u)"):
            lines = self.check_all(read(f"(pick (and (less a 3) (less b 2)) {inner})"))
            self.assertEqual(lines[1], f"(pick (less a 3) (pick (less b 2) {inner}))")

    def test_not_where_the_and_lies_further_within(self):
        self.stays(
            "(pick (not (and (less a 3) (less b 2))) t)",
            "(pick (or (and (less a 3) (less b 2)) (less a 1)) t)",
            "(pick (or (less a 1) (and (less a 3) (less b 2))) t)",
            "(pick (same a b) t)",
        )


class PicksOverOne(TurningTest):
    def test_over_sort(self):
        self.check("(pick (less a 3) (sort b t))", "(sort b (pick (less a 3) t))")
        self.check("(pick (less 1 2) (sort b t))", "(sort b (pick (less 1 2) t))")

    def test_over_cols(self):
        self.check("(pick (less a 3) (cols b a t))", "(cols b a (pick (less a 3) t))")
        self.check("(pick (not (and (less a 3) (less a 2))) (cols a t))",
                   "(cols a (pick (not (and (less a 3) (less a 2))) t))")

    def test_over_several(self):
        self.check(
            "(pick (or (less a 3) (less b 5)) (sort a (cols b a (sort b t))))",
            "(sort a (pick (or (less a 3) (less b 5)) (cols b a (sort b t))))",
            "(sort a (cols b a (pick (or (less a 3) (less b 5)) (sort b t))))",
            "(sort a (cols b a (sort b (pick (or (less a 3) (less b 5)) t))))",
        )

    def test_not_over_the_others(self):
        self.stays("(pick (less a 3) t)", "(pick (less a 3) (first 2 t))", "(pick (less a 3) (group a b m s t))",
                   "(pick (same 1 1) t)", "(pick (same 1 1) (first 0 t))", "(pick (less m 2) (group a b m s t))")

    def test_names_that_are_words(self):
        self.check("(pick (same and pick) (sort sort sort))", "(sort sort (pick (same and pick) sort))")
        self.check("(pick (less t cols) (cols table cols t cols))", "(cols table cols t (pick (less t cols) cols))")
        self.stays("(pick (same and and) sort)", "(cols table t cols)", "(cols sort pick sort)")


class PicksOverBoth(TurningTest):
    def test_it_goes_into_the_two_parts(self):
        self.check("(pick (less a 3) (both t w))", "(both (pick (less a 3) t) (pick (less a 3) w))")
        self.check("(pick (less 1 0) (both t t))", "(both (pick (less 1 0) t) (pick (less 1 0) t))")

    def test_further_within(self):
        lines = self.check_all(read("(pick (less a 3) (both (both t (sort a w)) (first 1 t)))"))
        self.assertEqual(lines[1], "(both (pick (less a 3) (both t (sort a w))) (pick (less a 3) (first 1 t)))")
        self.assertEqual(
            lines[-1],
            "(both (both (pick (less a 3) t) (sort a (pick (less a 3) w))) (pick (less a 3) (first 1 t)))",
        )


class PicksOverPairAndJoin(TurningTest):
    def check_both(self, condition, line):
        for ahead in ("pair", "join a c"):
            self.check(f"(pick {condition} ({ahead} t u))", f"({ahead} {line})".replace("*", f"pick {condition}"))

    def stays_both(self, *conditions):
        for condition in conditions:
            self.stays(f"(pick {condition} (pair t u))", f"(pick {condition} (join a c t u))")

    def test_to_the_first_part(self):
        self.check_both("(less a 3)", "(* t) u")
        self.check_both("(same a b)", "(* t) u")
        self.check_both("(same b b)", "(* t) u")
        self.check_both("(same b 1)", "(* t) u")
        self.check_both("(or (not (less a 3)) (and (same b 2) (less a 1)))", "(* t) u")

    def test_to_the_second_part(self):
        self.check_both("(less 1 d)", "t (* u)")
        self.check_both("(same c d)", "t (* u)")
        self.check_both("(same 2 c)", "t (* u)")
        self.check_both("(or (less c 2) (not (same d 7)))", "t (* u)")

    def test_to_the_first_part_where_no_column_is_named(self):
        self.check_both("(less 1 2)", "(* t) u")
        self.check_both("(not (same 1 1))", "(* t) u")
        self.check_both("(same 3 3)", "(* t) u")

    def test_not_with_columns_of_both(self):
        self.stays_both("(less a c)", "(less d b)", "(not (same a c))", "(or (less a 3) (less c 2))",
                        "(or (same a c) (same a c))", "(not (and (less a 2) (less d 3)))", "(not (not (same a c)))")

    def test_by_the_heads_of_the_parts(self):
        self.check("(pick (less e 1) (pair t (pair u v)))", "(pair t (pick (less e 1) (pair u v)))",
                   "(pair t (pair u (pick (less e 1) v)))")
        self.check("(pick (less a c) (pair (join b d t u) v))", "(pair (pick (less a c) (join b d t u)) v)")
        self.check("(pick (less m 2) (join a c (group a b m s t) u))",
                   "(join a c (pick (less m 2) (group a b m s t)) u)")
        self.stays("(pick (less e c) (pair (pair v t) u))", "(pick (or (less e c) (less a 1)) (pair t (pair u v)))")

    def test_a_same_over_a_pair_becomes_a_join(self):
        self.check("(pick (same a c) (pair t u))", "(join a c t u)")
        self.check("(pick (same c a) (pair t u))", "(join a c t u)")
        self.check("(pick (same d b) (pair t u))", "(join b d t u)")
        self.check("(pick (same b c) (pair u t))", "(join c b u t)")
        self.check("(pick (same e a) (pair (pair t u) v))", "(join a e (pair t u) v)")
        self.check("(pick (same a c) (pair (pair t u) v))", "(pair (pick (same a c) (pair t u)) v)",
                   "(pair (join a c t u) v)")

    def test_a_same_over_a_join_does_not(self):
        self.stays("(pick (same a c) (join a c t u))", "(pick (same b d) (join a c t u))",
                   "(pick (same c b) (join a d t u))")

    def test_names_that_are_words(self):
        self.check("(pick (same pair a) (pair t pair))", "(join a pair t pair)")
        self.stays("(pick (same a same) (join b pair t pair))", "(pick (less pair a) (join b pair t pair))",
                   "(pick (less same pick) (join pair and pair sort))", "(pick (less a same) (pair t pair))")

    def test_one_same_of_two(self):
        lines = self.check_all(read("(pick (and (same a c) (same b d)) (pair t u))"))
        self.assertIn(lines[-1], ("(pick (same a c) (join b d t u))", "(pick (same b d) (join a c t u))"))


class PicksOverPicks(TurningTest):
    def test_it_goes_to_the_question_that_takes_it(self):
        self.check(
            "(pick (less a 3) (pick (less a c) (pair t u)))",
            "(pick (less a c) (pick (less a 3) (pair t u)))",
            "(pick (less a c) (pair (pick (less a 3) t) u))",
        )
        self.check(
            "(pick (less c 3) (pick (less a c) (join b d t u)))",
            "(pick (less a c) (pick (less c 3) (join b d t u)))",
            "(pick (less a c) (join b d t (pick (less c 3) u)))",
        )

    def test_where_no_column_is_named(self):
        self.check(
            "(pick (less 1 3) (pick (less a c) (pair t u)))",
            "(pick (less a c) (pick (less 1 3) (pair t u)))",
            "(pick (less a c) (pair (pick (less 1 3) t) u))",
        )

    def test_where_it_makes_a_join(self):
        self.check(
            "(pick (same c a) (pick (less b d) (pair t u)))",
            "(pick (less b d) (pick (same c a) (pair t u)))",
            "(pick (less b d) (join a c t u))",
        )
        self.stays("(pick (same c a) (pick (less b d) (join a c t u)))")

    def test_beneath_several(self):
        self.check(
            "(pick (less a 3) (pick (less a c) (pick (less b d) (pick (less b c) (pair t u)))))",
            "(pick (less a c) (pick (less a 3) (pick (less b d) (pick (less b c) (pair t u)))))",
            "(pick (less a c) (pick (less b d) (pick (less a 3) (pick (less b c) (pair t u)))))",
            "(pick (less a c) (pick (less b d) (pick (less b c) (pick (less a 3) (pair t u)))))",
            "(pick (less a c) (pick (less b d) (pick (less b c) (pair (pick (less a 3) t) u))))",
        )

    def test_not_where_the_question_does_not_take_it(self):
        self.stays(
            "(pick (less a c) (pick (less b d) (pair t u)))",
            "(pick (less a 3) (pick (less b 2) t))",
            "(pick (less a 3) (pick (less b 2) (first 4 t)))",
            "(pick (less a 3) (pick (less m 2) (group a b m s t)))",
            "(pick (less a c) (pick (less b d) (pick (not (same a c)) (pair t u))))",
        )

    # Only the pick between can be turned then: the list would be another one if the upper one went beneath it first.
    def test_not_where_a_pick_between_is_taken_itself(self):
        lines = self.check_all(read("(pick (less a 3) (pick (less b 2) (pair t u)))"))
        self.assertEqual(lines[1], "(pick (less a 3) (pair (pick (less b 2) t) u))")
        lines = self.check_all(read("(pick (less a 3) (pick (same a c) (pair t u)))"))
        self.assertEqual(lines[1], "(pick (less a 3) (join a c t u))")
        lines = self.check_all(read("(pick (less a 3) (pick (less b 2) (sort a t)))"))
        self.assertEqual(lines[1], "(pick (less a 3) (sort a (pick (less b 2) t)))")

    def test_not_where_a_further_one_is_taken(self):
        lines = self.check_all(read("(pick (less a 3) (pick (less a c) (pick (less 1 d) (pair t u))))"))
        self.assertEqual(lines[1], "(pick (less a 3) (pick (less a c) (pair t (pick (less 1 d) u))))")
        lines = self.check_all(read("(pick (less a 3) (pick (less b 2) (pick (less a c) (pair t u))))"))
        self.assertEqual(lines[1], "(pick (less a 3) (pick (less a c) (pick (less b 2) (pair t u))))")

    def test_not_where_a_pick_between_has_an_and(self):
        lines = self.check_all(read("(pick (less a 3) (pick (and (less a c) (less b d)) (pair t u)))"))
        self.assertEqual(lines[1], "(pick (less a 3) (pick (less a c) (pick (less b d) (pair t u))))")
        line = "(pick (less a 3) (pick (less a c) (pick (and (less a d) (less b d)) (pair t u))))"
        lines = self.check_all(read(line))
        self.assertEqual(lines[1], "(pick (less a 3) (pick (less a c) (pick (less a d) (pick (less b d) (pair t u)))))")
        self.check("(pick (less a 3) (pick (and (less a 4) (less b 4)) t))",
                   "(pick (less a 3) (pick (less a 4) (pick (less b 4) t)))")

    def test_an_and_over_a_pick_is_taken_apart(self):
        lines = self.check_all(read("(pick (and (less a 3) (less b 2)) (pick (less a c) (pair t u)))"))
        self.assertEqual(lines[1], "(pick (less a 3) (pick (less b 2) (pick (less a c) (pair t u))))")


class TheOthers(TurningTest):
    def test_cols_over_cols(self):
        self.check("(cols a (cols b a t))", "(cols a t)")
        self.check("(cols b a (cols a b t))", "(cols b a t)")
        self.check("(cols a (cols a t))", "(cols a t)")

    def test_cols_not_over_the_others(self):
        self.stays("(cols a t)", "(cols a (sort b t))", "(cols a (first 1 t))", "(cols a (pick (less a 3) t))",
                   "(cols a (pair t u))", "(cols m (group a b m s t))", "(cols a (both t w))")

    def test_sort_over_the_same_sort(self):
        self.check("(sort a (sort a t))", "(sort a t)")
        self.check("(sort b (sort b (first 3 t)))", "(sort b (first 3 t))")

    def test_sort_not_over_the_others(self):
        self.stays("(sort a (sort b t))", "(sort a (sort b (sort a t)))", "(sort a (cols a (sort a t)))",
                   "(sort a (first 2 (sort a t)))", "(sort a (both (sort a t) (sort a w)))", "(sort a t)")

    def test_first_over_first(self):
        self.check("(first 2 (first 3 t))", "(first 2 t)")
        self.check("(first 3 (first 2 t))", "(first 2 t)")
        self.check("(first 2 (first 2 t))", "(first 2 t)")
        self.check("(first 0 (first 3 t))", "(first 0 t)")
        self.check("(first 3 (first 0 t))", "(first 0 t)")
        self.check(f"(first {GREAT} (first {GREAT - 1} t))", f"(first {GREAT - 1} t)")

    def test_first_over_cols(self):
        self.check("(first 2 (cols a t))", "(cols a (first 2 t))")
        self.check("(first 0 (cols b a (sort a t)))", "(cols b a (first 0 (sort a t)))")
        self.check("(pair (first 1 (cols a (pair t v))) u)", "(pair (cols a (first 1 (pair t v))) u)")

    def test_the_heads_beneath_a_first_that_went_within_a_cols(self):
        lines = self.check_all(read("(pick (less a 3) (pair (first 2 (cols e (pair u v))) t))"))
        self.assertEqual(lines[-1], "(pair (cols e (first 2 (pair u v))) (pick (less a 3) t))")

    def test_first_not_over_the_others(self):
        self.stays("(first 2 t)", "(first 2 (sort a t))", "(first 2 (pick (less a 3) t))", "(first 2 (pair t u))",
                   "(first 2 (join a c t u))", "(first 2 (group a b m s t))", "(first 2 (both t w))")

    def test_the_words_that_are_never_turned(self):
        self.stays("t", "(pair t u)", "(join a c t u)", "(group a b m s (sort a t))", "(both t w)",
                   "(both (cols a t) (cols a t))", "(pair (sort a t) (sort c u))")


class AtEachPlace(TurningTest):
    def test_a_turning_within_each_word(self):
        for inner, later in (
            ("(group a b b m (sort a (sort a t)))", "(group a b b m (sort a t))"),
            ("(group a b b m (first 2 (first 3 t)))", "(group a b b m (first 2 t))"),
            ("(group a b b m (first 2 (cols b a t)))", "(group a b b m (cols b a (first 2 t)))"),
            ("(group a b b m (cols b a (cols a b t)))", "(group a b b m (cols b a t))"),
            ("(group a b b m (pick (less a 3) (sort a t)))", "(group a b b m (sort a (pick (less a 3) t)))"),
            ("(group a b b m (pick (and (less a 3) (less b 3)) t))",
             "(group a b b m (pick (less a 3) (pick (less b 3) t)))"),
        ):
            for over in OVER:
                with self.subTest(over=over, inner=inner):
                    self.check(over.format(inner), over.format(later))

    def test_in_both_parts(self):
        for ahead in ("pair", "join a c"):
            lines = self.check_all(read(f"({ahead} (sort a (sort a t)) (first 1 (first 2 u)))"))
            self.assertEqual(len(lines), 3)
            self.assertEqual(lines[-1], f"({ahead} (sort a t) (first 1 u))")

    def test_one_turning_makes_room_for_another(self):
        self.check("(cols a (first 2 (cols b a t)))", "(cols a (cols b a (first 2 t)))", "(cols a (first 2 t))")
        self.check("(first 2 (cols a (first 1 t)))", "(cols a (first 2 (first 1 t)))", "(cols a (first 1 t))")
        self.check("(sort a (pick (less b 3) (sort a t)))", "(sort a (sort a (pick (less b 3) t)))",
                   "(sort a (pick (less b 3) t))")


class Made(TurningTest):
    def test_over_questions_made_by_a_fixed_rule(self):
        for number in range(360):
            question = making.made_question(number, 1 + number % 12)
            with self.subTest(number=number):
                self.check_all(question, making.TABLES)

    def test_picks_over_pairs_made_by_a_fixed_rule(self):
        for number in range(60):
            question = making.made_question(number, 12, ("pick", "pair", "pick", "join", "pick"))
            with self.subTest(number=number):
                self.check_all(question, making.TABLES)

    def test_deep_ones(self):
        for number in range(12):
            question = making.made_question(number, 49, making.SLIM)
            with self.subTest(number=number):
                self.check_all(question, making.TABLES)

    # For all conditions of a small kind one over the other, in each order.
    def test_picks_over_one_pair_or_join(self):
        conditions = (
            "(less a 3)", "(less a c)", "(same a c)", "(less 1 d)", "(and (less b d) (less b 9))", "(less 0 1)",
        )
        for ahead in ("pair", "join b d"):
            for first in conditions:
                for second in conditions:
                    for third in conditions:
                        line = f"(pick {first} (pick {second} (pick {third} ({ahead} t u))))"
                        self.check_all(read(line))


class Bounds(TurningTest):
    def ands(self, count, left, made):
        condition = made(0)
        for k in range(1, count):
            condition = ("and", condition, made(k)) if left else ("and", made(k), condition)
        return condition

    def test_a_hundred_conditions_one_within_the_other(self):
        for left in (True, False):
            condition = self.ands(100, left, lambda k: ("less", "a", k - 3))
            lines = self.check_all(("pick", condition, read("(sort a t)")))
            self.assertEqual(len(lines), 200)
            self.assertTrue(lines[-1].startswith("(sort a (pick (less a "))
            condition = self.ands(40, left, lambda k: ("less", "a", (k, "c", k, "d")[k % 4]))
            self.check_all(("pick", condition, read("(pair t u)")))

    def test_no_and_at_the_top_of_a_deep_condition(self):
        condition = ("less", "a", "c")
        for k in range(99):
            condition = (
                ("not", condition), ("and", condition, ("less", "a", k)), ("or", ("same", k, "b"), condition),
            )[k % 3]
        self.assertEqual(condition[0], "or")
        self.assertEqual(len(self.turned(("pick", condition, read("(pair t u)")), TABLES)), 1)
        self.assertEqual(len(self.turned(("pick", condition, read("(sort a (pair t u))")), TABLES)), 2)

    # With as many turnings as can't be helped: each of a hundred picks goes within each of the others.
    def test_deep_questions_with_deep_conditions(self):
        for left in (True, False):
            condition = self.ands(100, left, lambda k: ("less", "a", k + 2))
            question = ("table", "t")
            for k in range(48):
                question = ("sort", "ab"[k % 2], question) if k % 3 else ("both", question, ("table", "w"))
            questions = self.turned(("pick", condition, question), TABLES)
            self.assertEqual(len(questions), 1 + 99 + 4800)
            self.assertEqual(plain_answer(TABLES, questions[-1]), plain_answer(TABLES, questions[0]))
            self.assertEqual(shown(questions[-1]), shown(last_turning(TABLES, questions[0])))

    def test_many_picks_with_deep_conditions(self):
        question = ("table", "t")
        for k in range(49):
            question = ("pick", self.ands(100, k % 2 == 0, lambda n: ("less", "a", n + 2)), question)
        questions = self.turned(question, TABLES)
        self.assertEqual(len(questions), 1 + 49 * 99)
        self.assertEqual(plain_answer(TABLES, questions[-1]), plain_answer(TABLES, question))

    def test_somewhat_beyond(self):
        question = ("table", "t")
        for k in range(150):
            question = (("first", 300 - k, question), ("cols", ("a", "b"), question))[k % 2]
        questions = self.turned(question, TABLES)
        self.assertEqual(shown(questions[-1]), "(cols a b (first 152 t))")
        question = ("pair", ("table", "t"), ("table", "u"))
        for k in range(100):
            question = ("pick", (("less", "a", 300), ("less", "a", "d"))[k % 2], question)
        questions = self.turned(question, TABLES)
        self.assertEqual(len(questions), 1 + 50 + sum(range(50)))
        self.assertEqual(plain_answer(TABLES, questions[-1]), plain_answer(TABLES, question))


if __name__ == "__main__":
    unittest.main()
