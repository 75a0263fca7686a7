import unittest

from sheetask.errors import AskError, NoColumn, NoQuestion, NoTable, NotAlike, TwoColumns
from sheetask.notes import shown
from sheetask.reading import read

T = ("table", "t")
U = ("table", "u")
FIGURES = "1234567890" * 10
HUGE = int(FIGURES)
WORDS = (
    "table", "pick", "cols", "pair", "join", "group", "sort", "first", "both", "less", "same", "not", "and", "or",
)

ONE_OF_EACH = (
    ("table", "t"),
    ("pick", ("less", "a", 3), T),
    ("pick", ("same", "a", "b"), T),
    ("pick", ("not", ("less", "a", 3)), T),
    ("pick", ("and", ("less", "a", 3), ("same", "b", 1)), T),
    ("pick", ("or", ("less", "a", 3), ("same", "b", 1)), T),
    ("cols", ("a",), T),
    ("cols", ("b", "a", "cc"), T),
    ("pair", T, U),
    ("join", "a", "b", T, U),
    ("group", "a", "b", "m", "s", T),
    ("sort", "a", T),
    ("first", 10, T),
    ("both", T, U),
)


def kinds(value):
    if type(value) is tuple:
        return tuple(kinds(part) for part in value)
    return type(value)


# What point 5 and point 4 tell of questions and conditions, put as a check.
def is_name(value):
    return type(value) is str and value != "" and all("a" <= sign <= "z" for sign in value)


def is_side(value):
    return is_name(value) or type(value) is int


def is_condition(value):
    if type(value) is not tuple or not value:
        return False
    word, parts = value[0], value[1:]
    if word in ("less", "same"):
        return len(parts) == 2 and all(map(is_side, parts))
    return len(parts) == {"not": 1, "and": 2, "or": 2}.get(word) and all(map(is_condition, parts))


def is_size(value):
    return type(value) is int and value >= 0


def is_names(value):
    return type(value) is tuple and len(value) > 0 and all(map(is_name, value))


CHECKS = {
    "table": lambda: (is_name,),
    "pick": lambda: (is_condition, is_question),
    "cols": lambda: (is_names, is_question),
    "pair": lambda: (is_question, is_question),
    "join": lambda: (is_name, is_name, is_question, is_question),
    "group": lambda: (is_name, is_name, is_name, is_name, is_question),
    "sort": lambda: (is_name, is_question),
    "first": lambda: (is_size, is_question),
    "both": lambda: (is_question, is_question),
}


def is_question(value):
    if type(value) is not tuple or not value or value[0] not in CHECKS:
        return False
    checks = CHECKS[value[0]]()
    return len(value) == len(checks) + 1 and all(check(part) for check, part in zip(checks, value[1:]))


class ReadingTest(unittest.TestCase):
    def check(self, line, question):
        got = read(line)
        self.assertEqual(got, question)
        self.assertEqual(kinds(got), kinds(question))

    def back(self, question):
        self.check(shown(question), question)

    def back_with(self, condition):
        self.back(("pick", condition, T))

    def refused(self, line):
        with self.assertRaises(NoQuestion, msg=repr(line)) as caught:
            read(line)
        self.assertIsInstance(caught.exception, AskError)
        self.assertNotIsInstance(caught.exception, (NoTable, NoColumn, TwoColumns, NotAlike))

    def all_refused(self, *lines):
        for line in lines:
            with self.subTest(line=line):
                self.refused(line)


class Questions(ReadingTest):
    def test_the_example_of_point_seven(self):
        self.check(
            "(pick (less a -3) (cols b a t))",
            ("pick", ("less", "a", -3), ("cols", ("b", "a"), ("table", "t"))),
        )

    def test_lines_of_each_question(self):
        self.check("t", ("table", "t"))
        self.check("longname", ("table", "longname"))
        self.check("abcdefghijklmnopqrstuvwxyz", ("table", "abcdefghijklmnopqrstuvwxyz"))
        self.check("(pick (same a b) t)", ("pick", ("same", "a", "b"), T))
        self.check("(cols a t)", ("cols", ("a",), T))
        self.check("(cols c a bb t)", ("cols", ("c", "a", "bb"), T))
        self.check("(pair t u)", ("pair", T, U))
        self.check("(join a b t u)", ("join", "a", "b", T, U))
        self.check("(group by of many total t)", ("group", "by", "of", "many", "total", T))
        self.check("(sort a t)", ("sort", "a", T))
        self.check("(first 12 t)", ("first", 12, T))
        self.check("(both t u)", ("both", T, U))

    def test_lines_of_each_condition(self):
        self.check("(pick (less a b) t)", ("pick", ("less", "a", "b"), T))
        self.check("(pick (same 1 -2) t)", ("pick", ("same", 1, -2), T))
        self.check("(pick (not (less 0 a)) t)", ("pick", ("not", ("less", 0, "a")), T))
        self.check("(pick (and (less a b) (same c 1)) t)", ("pick", ("and", ("less", "a", "b"), ("same", "c", 1)), T))
        self.check("(pick (or (same c 1) (less a b)) t)", ("pick", ("or", ("same", "c", 1), ("less", "a", "b")), T))

    def test_each_is_read_as_it_was_written(self):
        for question in ONE_OF_EACH:
            with self.subTest(question=question):
                self.back(question)

    def test_each_over_each(self):
        for question in ONE_OF_EACH:
            for over in (
                ("pick", ("not", ("same", "a", "b")), question),
                ("cols", ("a",), question),
                ("cols", ("a", "b"), question),
                ("pair", question, U),
                ("pair", U, question),
                ("join", "a", "b", question, U),
                ("join", "a", "b", U, question),
                ("group", "a", "a", "m", "s", question),
                ("sort", "b", question),
                ("first", 0, question),
                ("both", question, U),
                ("both", U, question),
                ("both", question, question),
            ):
                with self.subTest(question=over):
                    self.back(over)

    def test_each_condition_within_each(self):
        plain = (("less", "a", 1), ("same", -1, "b"))
        inner = plain + (("not", plain[0]), ("and", plain[0], plain[1]), ("or", plain[1], plain[0]))
        for c in inner:
            self.back_with(("not", c))
            for d in inner:
                with self.subTest(c=c, d=d):
                    self.back_with(("and", c, d))
                    self.back_with(("or", c, d))

    def test_whether_the_names_are_there_plays_no_part(self):
        self.back(("both", ("cols", ("a", "a"), T), ("table", "nowhere")))
        self.back(("group", "a", "a", "a", "a", T))
        self.back(("pair", T, T))
        self.back(("join", "a", "a", T, T))

    def test_all_of_them_in_one(self):
        self.back(("first", 10, ("sort", "s", ("group", "a", "b", "m", "s", ("both", (
            "pick", ("not", ("less", "a", 0)), ("cols", ("a", "b"), ("pair", T, U))), (
            "join", "a", "c", U, T))))))


class Names(ReadingTest):
    def test_the_example_of_point_eight(self):
        self.check("(sort sort pick)", ("sort", "sort", ("table", "pick")))

    def test_words_wherever_a_name_may_stand(self):
        for word in WORDS:
            table = ("table", word)
            with self.subTest(word=word):
                self.check(word, table)
                self.back(("pick", ("less", word, 1), table))
                self.back(("pick", ("less", 1, word), T))
                self.back(("pick", ("same", word, word), table))
                self.back(("cols", (word,), T))
                self.back(("cols", (word, "a"), table))
                self.back(("cols", ("a", word), T))
                self.back(("cols", (word, word, word), table))
                self.back(("pair", table, T))
                self.back(("pair", T, table))
                self.back(("join", word, "b", T, U))
                self.back(("join", "a", word, T, U))
                self.back(("join", "a", "b", table, U))
                self.back(("join", "a", "b", T, table))
                self.back(("group", word, "b", "c", "d", T))
                self.back(("group", "a", word, "c", "d", T))
                self.back(("group", "a", "b", word, "d", T))
                self.back(("group", "a", "b", "c", word, T))
                self.back(("group", "a", "b", "c", "d", table))
                self.back(("sort", word, T))
                self.back(("sort", word, table))
                self.back(("first", 1, table))
                self.back(("both", table, T))
                self.back(("both", T, table))

    def test_names_of_cols_that_look_like_a_question_or_a_condition(self):
        self.back(("cols", ("table", "t"), T))
        self.back(("cols", ("less", "a", "b"), T))
        self.back(("cols", ("sort", "a", "t"), ("table", "cols")))
        self.check("(cols cols cols)", ("cols", ("cols",), ("table", "cols")))

    def test_cols_of_many_names(self):
        self.back(("cols", tuple("abcdefghijklmnopqrstuvwxyz" * 4), T))

    def test_a_long_name(self):
        self.back(("sort", "ab" * 500, ("table", "z" * 1000)))


class Numbers(ReadingTest):
    def test_nought(self):
        self.check("(first 0 t)", ("first", 0, T))
        self.check("(pick (less 0 0) t)", ("pick", ("less", 0, 0), T))

    def test_figures(self):
        for number in (1, 2, 3, 4, 5, 6, 7, 8, 9, 10, 11, 90, 100, 101, 1000, 1234567890):
            with self.subTest(number=number):
                self.back(("first", number, T))
                self.back_with(("less", number, -number))
                self.back_with(("same", -number, number))

    def test_below_nought(self):
        self.check("(pick (less -1 -10) t)", ("pick", ("less", -1, -10), T))

    def test_a_hundred_figures(self):
        self.check("(first " + FIGURES + " t)", ("first", HUGE, T))
        self.check("(pick (less -" + FIGURES + " " + FIGURES + ") t)", ("pick", ("less", -HUGE, HUGE), T))
        self.back(("first", 10 ** 100 - 1, T))
        self.back_with(("same", 10 ** 99, -10 ** 99))

    def test_nothing_is_refused_for_more_figures(self):
        self.back(("first", 10 ** 100, T))
        self.back_with(("less", -10 ** 150, 10 ** 300 + 7))
        self.assertEqual(read("(first 1" + "0" * 6000 + " t)"), ("first", 10 ** 6000, T))


class Deep(ReadingTest):
    def deep_condition(self, depth):
        condition = ("less", "a", -1)
        for k in range(depth - 1):
            condition = (
                ("not", condition),
                ("and", condition, ("same", "b", k)),
                ("or", ("same", -k, "b"), condition),
            )[k % 3]
        return condition

    def deep_question(self, questions, conditions):
        condition = self.deep_condition(conditions)
        question = ("pick", condition, T)
        for k in range(questions - 2):
            question = (
                ("sort", "a", question),
                ("both", question, U),
                ("pick", condition, question),
                ("join", "a", "b", U, question),
                ("cols", ("a", "b"), question),
                ("group", "a", "b", "c", "d", question),
                ("first", k, question),
                ("pair", U, question),
            )[k % 8]
        return question

    def test_fifty_questions_and_a_hundred_conditions_deep(self):
        self.back(self.deep_question(50, 100))

    def test_the_deepest_condition_in_the_deepest_question(self):
        question = ("pick", self.deep_condition(100), T)
        for k in range(48):
            question = ("first", k, question)
        self.back(question)

    def test_somewhat_beyond(self):
        self.back(self.deep_question(51, 101))
        self.back(self.deep_question(100, 200))

    def test_wrong_lines_of_any_depth(self):
        many = 20000
        self.refused("(" * many)
        self.refused(")" * many)
        self.refused("(not " * many)
        self.refused("(not " * many + "a" + ")" * many)
        self.refused("(not " * many + "(less a b)" + ")" * many)
        self.refused("(pick " * many + "t" + ")" * many)
        self.refused("(first 1 " * many + "t" + ")" * (many - 1))
        self.refused("(first 1 " * many + "t" + ")" * (many + 1))
        self.refused("(sort " + "(first 1 " * many + "t" + ")" * many + " t)")

    def test_a_deep_line_with_one_sign_too_few(self):
        line = shown(self.deep_question(50, 100))
        self.refused(line[:-1])
        self.refused(line[1:])
        self.refused(line + ")")
        self.refused("(" + line)


class Refused(ReadingTest):
    def test_the_lines_of_point_eight(self):
        self.all_refused(
            "()", "(pick t)", "(cols t)", "(first -1 t)", "(sort  a t)", "( sort a t)", "(sort a t) ", "(sort A t)",
            "(first 01 t)", "t u", "",
        )

    def test_something_put_on(self):
        for question in ONE_OF_EACH:
            line = shown(question)
            self.all_refused(
                " " + line, line + " ", "(" + line, line + "(", ")" + line, line + ")", "(" + line + ")",
                line + " " + line, line + "\n", "\n" + line, line + "\t", "\t" + line, line + "\n" + line,
                line + "\r", line + "\0", line + ";", line + " ()", "() " + line,
            )
            if question[0] != "table":
                self.refused(line + line)

    def test_something_gone_or_changed(self):
        for question in ONE_OF_EACH:
            line = shown(question)
            self.refused(line.upper())
            if question[0] != "table":
                self.all_refused(
                    line[:-1], line[1:], line[1:-1], line.replace(" ", "  "), line.replace(" ", "\t"),
                    line.replace(" ", "\n"), line.replace(" ", ""), line.replace("(", "( "), line.replace(")", " )"),
                    line.replace("(", "(("), line.replace(")", "))"), line.replace("(", "[").replace(")", "]"),
                    line.replace(" ", ","), line.capitalize().swapcase(),
                )

    def test_each_blank_by_itself(self):
        for question in ONE_OF_EACH:
            line = shown(question)
            for k, sign in enumerate(line):
                if sign == " ":
                    self.all_refused(*[line[:k] + other + line[k + 1:] for other in ("  ", "\t", "\n", "\r", "_")])

    def test_signs_that_are_none_of_a_line(self):
        for sign in map(chr, range(128)):
            if sign not in "abcdefghijklmnopqrstuvwxyz":
                self.all_refused(sign, "t" + sign, sign + "t", "(sort a" + sign + " t)", "(sort " + sign + "a t)")

    def test_signs_that_are_none_of_a_number(self):
        for sign in map(chr, range(128)):
            if sign not in "0123456789":
                self.all_refused("(first 1" + sign + " t)", "(pick (less a 1" + sign + "1) t)")
                if sign != "-":
                    self.all_refused("(first " + sign + "1 t)", "(pick (same " + sign + "1 a) t)")

    def test_wrong_numbers(self):
        for number in (
            "-0", "+1", "+0", "00", "01", "-01", "-00", "007", "1_0", "_1", "-", "--1", "1-", "1-1", "- 1", "1.0", "1.",
            "1e3", "0x1", "0b1", "1a", "a1", "1,0", "1 0", "", " ", "-a", "1L", "True", "None", "(1)", "(1", "1)",
            "'1'",
        ):
            self.all_refused(
                "(first " + number + " t)",
                "(pick (less " + number + " a) t)",
                "(pick (less a " + number + ") t)",
                "(pick (same " + number + " a) t)",
                "(pick (same a " + number + ") t)",
            )

    def test_below_nought_where_none_may_stand(self):
        self.all_refused("(first -1 t)", "(first -0 t)", "(first -10 t)", "(first -" + FIGURES + " t)")

    def test_a_number_where_a_name_must_stand(self):
        for number in ("0", "1", "-1", FIGURES):
            self.all_refused(
                "(cols " + number + " t)",
                "(cols a " + number + " t)",
                "(cols " + number + " a t)",
                "(cols a " + number + ")",
                "(join " + number + " b t u)",
                "(join a " + number + " t u)",
                "(join a b " + number + " u)",
                "(join a b t " + number + ")",
                "(group " + number + " b c d t)",
                "(group a " + number + " c d t)",
                "(group a b " + number + " d t)",
                "(group a b c " + number + " t)",
                "(group a b c d " + number + ")",
                "(sort " + number + " t)",
                "(sort a " + number + ")",
                "(first 1 " + number + ")",
                "(pair " + number + " t)",
                "(pair t " + number + ")",
                "(both " + number + " t)",
                "(both t " + number + ")",
                "(pick (less a b) " + number + ")",
            )

    def test_a_name_where_a_number_must_stand(self):
        self.all_refused("(first a t)", "(first t)", "(first first t)", "(first t t)")

    def test_a_text_where_a_condition_must_stand(self):
        for text in ("a", "t", "1", "-1", "less"):
            self.all_refused(
                "(pick " + text + " t)",
                "(pick (not " + text + ") t)",
                "(pick (and " + text + " (less a b)) t)",
                "(pick (and (less a b) " + text + ") t)",
                "(pick (or " + text + " (less a b)) t)",
                "(pick (or (less a b) " + text + ") t)",
            )

    def test_too_few_and_too_many_parts(self):
        self.all_refused(
            "(pick)", "(pick (less a b))", "(pick (less a b) t u)", "(pick (less a b) (less a b) t)",
            "(cols)", "(cols t)", "(cols (sort a t))",
            "(pair)", "(pair t)", "(pair t u v)",
            "(join)", "(join a b)", "(join a t u)", "(join t u)", "(join a b t)", "(join a b c t u)",
            "(join a b t u v)",
            "(group)", "(group a b c t)", "(group a b c d)", "(group a b c d e t)", "(group a b c d t u)",
            "(sort)", "(sort t)", "(sort a)", "(sort a b t)", "(sort a t u)",
            "(first)", "(first 1)", "(first 1 2 t)", "(first 1 t u)",
            "(both)", "(both t)", "(both t u v)",
        )
        for part in (
            "(less)", "(less a)", "(less a b c)", "(less 1 2 3)", "(same)", "(same a)", "(same a b c)",
            "(not)", "(not (less a b) (less a b))",
            "(and)", "(and (less a b))", "(and (less a b) (less a b) (less a b))",
            "(or)", "(or (less a b))", "(or (less a b) (less a b) (less a b))",
        ):
            self.refused("(pick " + part + " t)")

    def test_a_word_that_is_none(self):
        self.all_refused(
            "(picks (less a b) t)", "(pic (less a b) t)", "(select a t)", "(t)", "(t u)", "(a t)", "(more a t)",
            "(sorted a t)", "(Sort a t)", "(SORT a t)", "(1 a t)", "(-1 t)", "((sort) a t)", "((sort a t))",
            "(pick (more a b) t)", "(pick (equal a b) t)", "(pick (LESS a b) t)",
            "(pick (xor (less a b) (less a b)) t)",
            "(pick () t)", "(pick (a) t)", "(cols () t)", "(sort () t)", "(sort a ())", "(pair () ())",
            "(question t)", "(condition t)", "(name t)", "(side a b)", "(size 1 t)",
        )

    def test_the_table_written_out(self):
        self.all_refused(
            "(table t)", "(table)", "(table table)", "(table t u)", "(sort a (table t))", "(pair (table t) u)",
            "(pick (less a b) (table t))", "(cols a (table t))",
        )

    def test_a_condition_where_a_question_must_stand(self):
        for part in (
            "(less a b)", "(same a 1)", "(not (less a b))", "(and (less a b) (less a b))", "(or (less a b) (less a b))",
        ):
            self.all_refused(
                part,
                "(pick " + part + " " + part + ")",
                "(cols a " + part + ")",
                "(pair " + part + " t)",
                "(pair t " + part + ")",
                "(join a b " + part + " t)",
                "(join a b t " + part + ")",
                "(group a b c d " + part + ")",
                "(sort a " + part + ")",
                "(first 1 " + part + ")",
                "(both " + part + " t)",
                "(both t " + part + ")",
            )

    def test_a_question_where_a_condition_or_a_text_must_stand(self):
        for question in ONE_OF_EACH[1:]:
            part = shown(question)
            self.all_refused(
                "(pick " + part + " t)",
                "(pick (not " + part + ") t)",
                "(pick (and " + part + " (less a b)) t)",
                "(pick (or (less a b) " + part + ") t)",
                "(pick (less " + part + " a) t)",
                "(pick (same a " + part + ") t)",
                "(cols " + part + " t)",
                "(cols a " + part + " t)",
                "(sort " + part + " t)",
                "(first " + part + " t)",
                "(join " + part + " b t u)",
                "(join a " + part + " t u)",
                "(group " + part + " b c d t)",
                "(group a " + part + " c d t)",
                "(group a b " + part + " d t)",
                "(group a b c " + part + " t)",
            )

    def test_a_condition_where_a_text_must_stand(self):
        self.all_refused(
            "(sort (less a b) t)", "(first (less a b) t)", "(cols (less a b) t)", "(pick (less (less a b) a) t)",
            "(pick (same a (not (less a b))) t)", "(join (less a b) a t u)", "(group a b (less a b) d t)",
        )

    def test_a_number_alone(self):
        self.all_refused("0", "1", "-1", "12", FIGURES, "-" + FIGURES)

    def test_brackets_and_blanks_alone(self):
        self.all_refused("(", ")", "((", "))", ")(", "(())", " ", "  ", "( )", "() ()", "\n", "\t", "( ", " )")


# A line that is read must be the very line of what it is read to, and that must be a question: so no other is read.
class EveryOtherLine(ReadingTest):
    SIGNS = "at0-1 ()A\t\n+_z"

    def check_line(self, line):
        try:
            question = read(line)
        except NoQuestion as refusal:
            self.assertNotIsInstance(refusal, (NoTable, NoColumn, TwoColumns, NotAlike))
            return False
        self.assertTrue(is_question(question), (line, question))
        self.assertEqual(shown(question), line)
        return True

    def test_all_short_lines(self):
        lines = [""]
        for length in range(5):
            for line in lines:
                self.assertEqual(self.check_line(line), line != "" and set(line) <= set("atz"), line)
            lines = [line + sign for line in lines for sign in self.SIGNS]

    # Over the name t and the number 1, all that can be written with the pieces below in a row of five, and more.
    def some_questions(self):
        conditions = [(word, a, b) for word in ("less", "same") for a in ("t", 1) for b in ("t", 1)]
        conditions += [("not", c) for c in conditions]
        found = [T]
        for depth in range(3):
            found = [T] + [
                over for q in found for over in [("sort", "t", q), ("first", 1, q), ("pair", q, T), ("pair", T, q)]
                + [("cols", ("t",) * count, q) for count in (1, 2, 3)] + [("pick", c, q) for c in conditions]
            ]
        return found

    def test_all_rows_of_some_pieces(self):
        pieces = ("(sort", "(cols", "(first", "(pick", "(less", "t", "1", "t)", "1)", "t))", "(not", "(pair")
        lines = set(map(shown, self.some_questions()))
        wanted = {line for line in lines if len(line.split(" ")) <= 5 and set(line.split(" ")) <= set(pieces)}
        rows = [[]]
        seen = set()
        for length in range(5):
            rows = [row + [piece] for row in rows for piece in pieces]
            seen.update(line for line in map(" ".join, rows) if self.check_line(line))
        self.assertEqual(seen, wanted)

    def test_one_sign_changed_gone_or_put_in(self):
        mixed = ("sort", "sort", ("first", 0, ("pick", ("less", -10, 0), ("cols", ("a",), T))))
        for question in ONE_OF_EACH + (mixed,):
            line = shown(question)
            for k in range(len(line) + 1):
                self.check_line(line[:k] + line[k + 1:])
                for sign in self.SIGNS:
                    self.check_line(line[:k] + sign + line[k:])
                    self.check_line(line[:k] + sign + line[k + 1:])

    def test_two_neighbours_in_the_other_order(self):
        for question in ONE_OF_EACH:
            line = shown(question)
            for k in range(len(line) - 1):
                self.check_line(line[:k] + line[k + 1] + line[k] + line[k + 2:])


if __name__ == "__main__":
    unittest.main()
