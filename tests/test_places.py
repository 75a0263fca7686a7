import unittest

from sheetask.places import Place, built_up, inner_first, straight_within
from sheetask.reading import read


class Places(unittest.TestCase):
    def check(self, line, wanted):
        self.assertEqual(inner_first(read(line)), [read(place) for place in wanted])

    def test_a_table_has_none_within(self):
        self.assertEqual(straight_within(("table", "t")), [])
        self.check("t", ["t"])

    def test_the_questions_straight_within(self):
        for line, wanted in (
            ("(pick (less a b) (sort a t))", ["(sort a t)"]),
            ("(cols a b t)", ["t"]),
            ("(group a b m s t)", ["t"]),
            ("(sort t u)", ["u"]),
            ("(first 1 t)", ["t"]),
            ("(pair t (sort a u))", ["t", "(sort a u)"]),
            ("(join t u v w)", ["v", "w"]),
            ("(both t t)", ["t", "t"]),
        ):
            with self.subTest(line=line):
                self.assertEqual(straight_within(read(line)), [read(place) for place in wanted])

    def test_the_inner_ones_first_and_the_first_part_ahead_of_the_second(self):
        self.check("(sort a (first 1 t))", ["t", "(first 1 t)", "(sort a (first 1 t))"])
        self.check(
            "(pair (sort a t) (both u (sort b v)))",
            ["t", "(sort a t)", "u", "v", "(sort b v)", "(both u (sort b v))", "(pair (sort a t) (both u (sort b v)))"],
        )

    def test_names_of_cols_and_conditions_are_no_places(self):
        self.check("(cols table t (pick (not (less a b)) u))", [
            "u", "(pick (not (less a b)) u)", "(cols table t (pick (not (less a b)) u))",
        ])

    def test_built_up_from_the_inner_ones(self):
        def work(question, within):
            return question[0] + str(within).replace("'", "")

        self.assertEqual(built_up(read("t"), work), "table[]")
        self.assertEqual(
            built_up(read("(pair (sort a t) (both u (first 1 (group a b m s v))))"), work),
            "pair[sort[table[]], both[table[], first[group[table[]]]]]",
        )
        self.assertEqual(built_up(read("(join a b t (pair u v))"), lambda question, within: within or question[1]),
                         ["t", ["u", "v"]])

    def test_a_place_knows_its_question(self):
        table = Place(("table", "t"), ["a"], [])
        self.assertEqual(table.question, ("table", "t"))
        other = Place(("table", "u"), ["b"], [])
        join = Place(("join", "a", "b"), ["a", "b"], [table, other])
        self.assertEqual(join.question, ("join", "a", "b", ("table", "t"), ("table", "u")))
        self.assertEqual(Place(("cols", ("a",)), ["a"], [join]).question, ("cols", ("a",), join.question))


if __name__ == "__main__":
    unittest.main()
