import copy
import unittest

import making
import reference
from sheetask.notes import shown
from sheetask.plain import plain_answer
from sheetask.reading import read

GREAT = 10 ** 100 - 1
TABLES = [
    ("t", ["a", "b"], [[3, 1], [1, 2], [3, 1], [2, 2], [1, 5]]),
    ("u", ["c", "d"], [[2, 7], [1, 8], [2, 7]]),
    ("v", ["e"], [[0]]),
    ("none", ["a", "b"], []),
    ("nought", ["c", "d"], []),
    ("great", ["g", "h"], [[GREAT, -GREAT], [-GREAT, GREAT], [GREAT, 1]]),
    ("sort", ["pick", "sort", "and"], [[2, 1, 0], [1, 2, 0]]),
]


class PlainTest(unittest.TestCase):
    # A question is tuples, texts and numbers, which nothing can change: its line is enough to tell that it is the same.
    def asked(self, question, tables):
        line = shown(question)
        given = copy.deepcopy(tables)
        answer = plain_answer(given, question)
        self.assertEqual(given, tables)
        self.assertEqual(shown(question), line)
        return answer

    def check_question(self, question, heads, rows, tables=TABLES):
        answer = self.asked(question, tables)
        self.assertIs(type(answer), tuple)
        self.assertEqual([type(part) for part in answer], [list, list])
        self.assertEqual({type(row) for row in answer[1]} - {list}, set())
        self.assertEqual(answer, (heads, rows))

    def check(self, line, heads, rows, tables=TABLES):
        self.check_question(read(line), heads, rows, tables)


class Words(PlainTest):
    def test_table(self):
        self.check("t", ["a", "b"], [[3, 1], [1, 2], [3, 1], [2, 2], [1, 5]])
        self.check("v", ["e"], [[0]])
        self.check("none", ["a", "b"], [])

    def test_the_table_is_found_wherever_it_stands(self):
        tables = [(name, [name * 2], [[k]]) for k, name in enumerate("abcdefgh")]
        for k, name in enumerate("abcdefgh"):
            self.check(name, [name * 2], [[k]], tables)

    def test_pick(self):
        self.check("(pick (less b 2) t)", ["a", "b"], [[3, 1], [3, 1]])
        self.check("(pick (less a b) t)", ["a", "b"], [[1, 2], [1, 5]])
        self.check("(pick (same a b) t)", ["a", "b"], [[2, 2]])
        self.check("(pick (not (same a 1)) t)", ["a", "b"], [[3, 1], [3, 1], [2, 2]])
        self.check("(pick (and (less a 3) (same b 2)) t)", ["a", "b"], [[1, 2], [2, 2]])
        self.check("(pick (or (same a 2) (same b 5)) t)", ["a", "b"], [[2, 2], [1, 5]])
        self.check("(pick (less 0 1) t)", ["a", "b"], [[3, 1], [1, 2], [3, 1], [2, 2], [1, 5]])

    def test_pick_of_none(self):
        self.check("(pick (less 1 0) t)", ["a", "b"], [])
        self.check("(pick (less a 1) t)", ["a", "b"], [])
        self.check("(pick (less a b) none)", ["a", "b"], [])

    def test_cols(self):
        self.check("(cols b a t)", ["b", "a"], [[1, 3], [2, 1], [1, 3], [2, 2], [5, 1]])
        self.check("(cols a t)", ["a"], [[3], [1], [3], [2], [1]])
        self.check("(cols a b u)", ["a", "b"], [[1, 2]], [("u", ["b", "c", "a"], [[2, 3, 1]])])
        self.check("(cols b none)", ["b"], [])

    def test_pair(self):
        self.check("(pair u (cols b (first 2 t)))", ["c", "d", "b"],
                   [[2, 7, 1], [2, 7, 2], [1, 8, 1], [1, 8, 2], [2, 7, 1], [2, 7, 2]])
        self.check("(pair v u)", ["e", "c", "d"], [[0, 2, 7], [0, 1, 8], [0, 2, 7]])

    def test_pair_with_none(self):
        self.check("(pair none u)", ["a", "b", "c", "d"], [])
        self.check("(pair u none)", ["c", "d", "a", "b"], [])
        self.check("(pair none nought)", ["a", "b", "c", "d"], [])

    def test_join(self):
        self.check("(join a c t u)", ["a", "b", "c", "d"],
                   [[1, 2, 1, 8], [2, 2, 2, 7], [2, 2, 2, 7], [1, 5, 1, 8]])
        self.check("(join c b u t)", ["c", "d", "a", "b"],
                   [[2, 7, 1, 2], [2, 7, 2, 2], [1, 8, 3, 1], [1, 8, 3, 1], [2, 7, 1, 2], [2, 7, 2, 2]])

    def test_join_of_none(self):
        self.check("(join a d t u)", ["a", "b", "c", "d"], [])
        self.check("(join a c none u)", ["a", "b", "c", "d"], [])
        self.check("(join a c t nought)", ["a", "b", "c", "d"], [])

    def test_group(self):
        self.check("(group a b m s t)", ["a", "m", "s"], [[3, 2, 2], [1, 2, 7], [2, 1, 2]])
        self.check("(group b a m s t)", ["b", "m", "s"], [[1, 2, 6], [2, 2, 3], [5, 1, 1]])
        self.check("(group c d m s u)", ["c", "m", "s"], [[2, 2, 14], [1, 1, 8]])

    def test_group_by_the_column_of_the_sums(self):
        self.check("(group a a m s t)", ["a", "m", "s"], [[3, 2, 6], [1, 2, 2], [2, 1, 2]])

    def test_group_with_new_names_that_the_question_has(self):
        self.check("(group a b b s t)", ["a", "b", "s"], [[3, 2, 2], [1, 2, 7], [2, 1, 2]])
        self.check("(group a b s b t)", ["a", "s", "b"], [[3, 2, 2], [1, 2, 7], [2, 1, 2]])

    def test_group_of_none(self):
        self.check("(group a b m s none)", ["a", "m", "s"], [])

    def test_sort(self):
        self.check("(sort a t)", ["a", "b"], [[1, 2], [1, 5], [2, 2], [3, 1], [3, 1]])
        self.check("(sort b t)", ["a", "b"], [[3, 1], [3, 1], [1, 2], [2, 2], [1, 5]])
        self.check("(sort d u)", ["c", "d"], [[2, 7], [2, 7], [1, 8]])
        self.check("(sort b none)", ["a", "b"], [])

    def test_sort_keeps_the_order_of_rows_with_the_same_number(self):
        tables = [("t", ["a", "b"], [[k % 3, -k] for k in range(12)])]
        rows = [[number, -k] for number in range(3) for k in range(number, 12, 3)]
        self.check("(sort a t)", ["a", "b"], rows, tables)
        self.check("(sort a (sort b t))", ["a", "b"], [row for number in range(3) for row in rows[::-1]
                                                       if row[0] == number], tables)

    def test_first(self):
        self.check("(first 1 t)", ["a", "b"], [[3, 1]])
        self.check("(first 3 t)", ["a", "b"], [[3, 1], [1, 2], [3, 1]])
        self.check("(first 0 t)", ["a", "b"], [])
        self.check("(first 2 none)", ["a", "b"], [])

    def test_first_where_there_are_no_more(self):
        for n in (5, 6, 200, GREAT, GREAT * 1000):
            self.check(f"(first {n} t)", ["a", "b"], [[3, 1], [1, 2], [3, 1], [2, 2], [1, 5]])

    def test_both(self):
        self.check("(both (cols a (first 2 t)) (cols a (first 3 t)))", ["a"], [[3], [1], [3], [1], [3]])
        self.check("(both u u)", ["c", "d"], [[2, 7], [1, 8], [2, 7], [2, 7], [1, 8], [2, 7]])
        self.check("(both (first 1 t) (pick (same a b) t))", ["a", "b"], [[3, 1], [2, 2]])

    def test_both_with_none(self):
        self.check("(both none (first 1 t))", ["a", "b"], [[3, 1]])
        self.check("(both (first 1 t) none)", ["a", "b"], [[3, 1]])
        self.check("(both none none)", ["a", "b"], [])


class Wholes(PlainTest):
    def test_one_over_the_other(self):
        self.check("(sort s (group b c m s (join a c t u)))", ["b", "m", "s"], [[5, 1, 1], [2, 3, 5]])
        self.check("(first 2 (sort a (pick (less 1 b) t)))", ["a", "b"], [[1, 2], [1, 5]])
        self.check("(sort a (first 2 t))", ["a", "b"], [[1, 2], [3, 1]])
        self.check("(pick (same a d) (pair (cols a t) (first 1 (group c d m d u))))", ["a", "c", "m", "d"], [])

    def test_names_that_are_words(self):
        self.check("(sort sort sort)", ["pick", "sort", "and"], [[2, 1, 0], [1, 2, 0]])
        self.check("(sort pick sort)", ["pick", "sort", "and"], [[1, 2, 0], [2, 1, 0]])
        self.check("(pick (less pick sort) sort)", ["pick", "sort", "and"], [[1, 2, 0]])
        self.check("(cols and sort sort)", ["and", "sort"], [[0, 1], [0, 2]])
        self.check("(group and pick table cols sort)", ["and", "table", "cols"], [[0, 2, 3]])

    def test_great_numbers(self):
        self.check("(sort h great)", ["g", "h"], [[GREAT, -GREAT], [GREAT, 1], [-GREAT, GREAT]])
        self.check("(group g h m s great)", ["g", "m", "s"], [[GREAT, 2, 1 - GREAT], [-GREAT, 1, GREAT]])
        self.check(f"(pick (same g {GREAT}) great)", ["g", "h"], [[GREAT, -GREAT], [GREAT, 1]])
        self.check(f"(pick (less h {1 - GREAT}) great)", ["g", "h"], [[GREAT, -GREAT]])
        self.check("(cols h (join g i great other))", ["h"], [[-GREAT], [1]],
                   TABLES + [("other", ["i"], [[GREAT], [GREAT - 1]])])

    def test_two_hundred_rows(self):
        rows = [[k, k * k % 7] for k in range(200)]
        tables = [("t", ["a", "b"], rows), ("u", ["c", "d"], [row[::-1] for row in rows])]
        self.check("(pair t u)", ["a", "b", "c", "d"], [row + other[::-1] for row in rows for other in rows], tables)
        self.check("(join a d t u)", ["a", "b", "c", "d"], [row + row[::-1] for row in rows], tables)
        self.check("(first 1 (pick (same a d) (sort d (pair u t))))", ["c", "d", "a", "b"], [[0, 0, 0, 0]], tables)
        self.check("(group b d m s (join b c t u))", ["b", "m", "s"], [
            [number, len(same) ** 2, sum(same) * len(same)]
            for number in (0, 1, 4, 2) for same in [[row[0] for row in rows if row[1] == number]]
        ], tables)

    def test_what_comes_back_twice_is_the_same(self):
        tables = copy.deepcopy(TABLES)
        question = read("(sort a (both t (pick (less a b) t)))")
        self.assertEqual(plain_answer(tables, question), plain_answer(tables, question))
        self.assertEqual(tables, TABLES)

    def test_over_questions_made_by_a_fixed_rule(self):
        for number in range(400):
            question = making.made_question(number, 1 + number % 12)
            with self.subTest(number=number):
                self.check_question(question, *reference.answer(making.TABLES, question), making.TABLES)


class Deep(PlainTest):
    def test_a_hundred_conditions_one_within_the_other_and_beyond(self):
        for depth in (100, 300):
            for word, rows in (("and", [[1, 2], [2, 2]]), ("or", [[3, 1], [3, 1], [2, 2], [1, 5]])):
                right = left = ("same", "b", 2) if word == "and" else ("not", ("same", "b", 2))
                other = ("less", "a", 3) if word == "and" else ("less", 1, "a")
                for k in range(depth - 1):
                    left = (word, left, other)
                    right = (word, other, right)
                self.check_question(("pick", left, ("table", "t")), ["a", "b"], rows)
                self.check_question(("pick", right, ("table", "t")), ["a", "b"], rows)
            condition = ("less", "a", "b")
            for k in range(depth):
                condition = ("not", condition)
            self.check_question(("pick", condition, ("table", "t")), ["a", "b"], [[1, 2], [1, 5]])

    def test_fifty_questions_one_within_the_other(self):
        for number in range(60):
            question = making.made_question(number, 49, making.SLIM)
            with self.subTest(number=number):
                self.check_question(question, *reference.answer(making.TABLES, question), making.TABLES)

    def test_somewhat_beyond(self):
        question = ("table", "t")
        for k in range(300):
            question = (
                ("both", question, ("table", "none")),
                ("both", ("table", "none"), question),
                ("pick", ("less", "a", k + 4), question),
                ("cols", ("a", "b"), ("pair", question, ("table", "v"))),
                ("cols", ("a", "b"), ("join", "e", "f", ("table", "v"), ("pair", ("cols", ("f",), ("pair", (
                    "table", "q"), ("cols", ("c",), ("first", 1, ("table", "u"))))), question))),
                ("first", k + 5, question),
            )[k % 6]
        self.check_question(question, ["a", "b"], TABLES[0][2], TABLES + [("q", ["f"], [[0], [1]])])

    def test_many_pairs(self):
        names = [first + second for first in "abcdefgh" for second in "abcdefgh"][:50]
        tables = [(name, [name], [[k]]) for k, name in enumerate(names)]
        ahead = behind = ("table", names[0])
        for name in names[1:]:
            ahead = ("pair", ("table", name), ahead)
            behind = ("pair", behind, ("table", name))
        self.check_question(behind, names, [list(range(50))], tables)
        self.check_question(ahead, names[::-1], [list(range(49, -1, -1))], tables)


if __name__ == "__main__":
    unittest.main()
