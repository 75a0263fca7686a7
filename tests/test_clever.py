import copy
import unittest

import making
import reference
from sheetask.clever import clever_answer
from sheetask.notes import shown
from sheetask.plain import plain_answer
from sheetask.reading import read
from sheetask.turning import turnings

TABLES = [
    ("t", ["a", "b"], [[3, 1], [1, 2], [3, 1], [2, 2], [1, 5]]),
    ("u", ["c", "d"], [[2, 7], [1, 1], [2, 7], [5, 2]]),
    ("v", ["e"], [[0], [2]]),
    ("none", ["a", "b"], []),
]


class CleverTest(unittest.TestCase):
    # A question is tuples, texts and numbers, which nothing can change: its line is enough to tell that it is the same.
    def asked(self, question, tables):
        line = shown(question)
        given = copy.deepcopy(tables)
        answer = clever_answer(given, question)
        self.assertEqual(given, tables)
        self.assertEqual(shown(question), line)
        self.assertIs(type(answer), tuple)
        self.assertEqual([type(part) for part in answer], [list, list])
        return answer

    def check(self, line, heads, rows, tables=TABLES):
        self.assertEqual(self.asked(read(line), tables), (heads, rows))

    def check_plain(self, question, tables=TABLES):
        answer = self.asked(question, tables)
        self.assertEqual(answer, plain_answer(tables, question))
        return answer


class Answers(CleverTest):
    def test_each_word(self):
        self.check("t", ["a", "b"], [[3, 1], [1, 2], [3, 1], [2, 2], [1, 5]])
        self.check("(pick (less b 2) t)", ["a", "b"], [[3, 1], [3, 1]])
        self.check("(cols b t)", ["b"], [[1], [2], [1], [2], [5]])
        self.check("(pair v (first 2 u))", ["e", "c", "d"], [[0, 2, 7], [0, 1, 1], [2, 2, 7], [2, 1, 1]])
        self.check("(join b c t u)", ["a", "b", "c", "d"], [
            [3, 1, 1, 1], [1, 2, 2, 7], [1, 2, 2, 7], [3, 1, 1, 1], [2, 2, 2, 7], [2, 2, 2, 7], [1, 5, 5, 2],
        ])
        self.check("(group a b m s t)", ["a", "m", "s"], [[3, 2, 2], [1, 2, 7], [2, 1, 2]])
        self.check("(sort a t)", ["a", "b"], [[1, 2], [1, 5], [2, 2], [3, 1], [3, 1]])
        self.check("(first 2 t)", ["a", "b"], [[3, 1], [1, 2]])
        self.check("(both v v)", ["e"], [[0], [2], [0], [2]])

    def test_no_rows(self):
        for line in ("none", "(pick (same a b) none)", "(cols b none)", "(pair none u)", "(pair u none)",
                     "(join a c none u)", "(group a b m s none)", "(sort a none)", "(first 3 none)", "(first 0 t)",
                     "(both none none)", "(pick (and (less 1 0) (same a c)) (sort b (pair t u)))"):
            self.assertEqual(self.check_plain(read(line))[1], [])

    def test_each_turning(self):
        self.check("(pick (and (less a 3) (less b 5)) t)", ["a", "b"], [[1, 2], [2, 2]])
        self.check("(pick (less b 2) (sort a (cols b a t)))", ["b", "a"], [[1, 3], [1, 3]])
        self.check("(pick (less a 2) (both t (sort b t)))", ["a", "b"], [[1, 2], [1, 5], [1, 2], [1, 5]])
        self.check("(pick (less d 2) (pair v u))", ["e", "c", "d"], [[0, 1, 1], [2, 1, 1]])
        self.check("(pick (same c a) (pair t u))", ["a", "b", "c", "d"],
                   [[1, 2, 1, 1], [2, 2, 2, 7], [2, 2, 2, 7], [1, 5, 1, 1]])
        self.check("(pick (less b 3) (pick (less c b) (pair t u)))", ["a", "b", "c", "d"], [[1, 2, 1, 1], [2, 2, 1, 1]])
        self.check("(cols b (cols b a t))", ["b"], [[1], [2], [1], [2], [5]])
        self.check("(sort b (sort b t))", ["a", "b"], [[3, 1], [3, 1], [1, 2], [2, 2], [1, 5]])
        self.check("(first 2 (first 1 (cols b t)))", ["b"], [[1]])

    def test_it_is_the_answer_to_the_last_of_the_turnings(self):
        for number in range(100):
            question = making.made_question(number, 1 + number % 10)
            last = turnings(making.TABLES, question)[-1]
            self.assertEqual(clever_answer(making.TABLES, question), plain_answer(making.TABLES, last))


class Made(CleverTest):
    def test_it_is_the_plain_answer(self):
        for number in range(600):
            question = making.made_question(number, 1 + number % 13)
            with self.subTest(number=number):
                self.assertEqual(self.check_plain(question, making.TABLES), reference.answer(making.TABLES, question))

    def test_it_is_the_plain_answer_to_deep_ones(self):
        for number in range(80):
            question = making.made_question(number, 49, making.SLIM)
            with self.subTest(number=number):
                self.check_plain(question, making.TABLES)

    def test_where_no_table_has_rows(self):
        tables = [(name, heads, []) for name, heads, rows in making.TABLES]
        for number in range(100):
            question = making.made_question(number, 1 + number % 13)
            with self.subTest(number=number):
                self.assertEqual(self.check_plain(question, tables)[1], [])

    # Most questions of the fixed rule have few rows: here each table has some more.
    def test_over_tables_with_more_rows(self):
        tables = [
            (name, heads, [[(k * step + shift) % 4 - 1 for shift in range(len(heads))] for k in range(6 + step)])
            for step, (name, heads, rows) in enumerate(making.TABLES, start=3)
        ]
        for number in range(200):
            question = making.made_question(number, 1 + number % 7)
            with self.subTest(number=number):
                self.check_plain(question, tables)


class Bounds(CleverTest):
    def test_a_hundred_conditions_one_within_the_other_and_beyond(self):
        rows = [[k % 17, k % 13] for k in range(200)]
        tables = [("t", ["a", "b"], rows), ("u", ["c", "d"], rows[:9])]
        for depth in (100, 250):
            left = right = ("less", "a", "c")
            for k in range(depth - 1):
                other = (("less", "a", 4 + k), ("less", -k, "d"), ("not", ("same", "b", "c")))[k % 3]
                left = ("and", left, other)
                right = ("and", other, right)
            for condition in (left, right):
                answer = self.check_plain(("pick", condition, read("(sort b (pair t u))")), tables)
                self.assertGreater(len(answer[1]), 0)

    def test_many_picks_with_deep_conditions(self):
        question = ("table", "t")
        for k in range(24):
            condition = ("less", "a", 4)
            for n in range(99):
                condition = ("and", ("less", "b", n + 3 + k), condition)
            question = ("pick", condition, ("sort", "ab"[k % 2], question))
        self.assertEqual(self.check_plain(question)[1], [[3, 1], [3, 1], [1, 2], [2, 2]])

    def test_somewhat_beyond(self):
        question = ("table", "t")
        for k in range(200):
            question = (
                ("both", question, ("table", "none")),
                ("pick", ("and", ("less", "a", k + 4), ("less", "b", k + 7)), question),
                ("sort", "ab"[k % 2], question),
                ("cols", ("a", "b"), ("pair", question, ("cols", ("e",), ("first", 1, ("table", "v"))))),
                ("first", k + 5, question),
            )[k % 5]
        self.assertEqual(len(self.check_plain(question)[1]), 5)

    # Plainly there would be more rows to make than can be made.
    def test_less_work_than_plainly(self):
        names = "abcdefgh"
        tables = [(name, [name, name * 2], [[k, 199 - k] for k in range(200)]) for name in names]
        question = ("table", "a")
        condition = ("less", "a", 50)
        for name, other in zip(names, names[1:]):
            question = ("pair", question, ("table", other))
            condition = ("and", ("same", other, name * 2), condition)
        self.assertEqual(
            self.asked(("pick", condition, question), tables),
            ([head for name in names for head in (name, name * 2)],
             [[k, 199 - k, 199 - k, k] * 4 for k in range(50)]),
        )


if __name__ == "__main__":
    unittest.main()
