"""The heads of a question's answer, and the refusals of questions."""

from sheetask.conditions import columns_of
from sheetask.errors import NoColumn, NoTable, NotAlike, TwoColumns
from sheetask.places import built_up


def heads_of_table(tables, name):
    for table in tables:
        if table[0] == name:
            return list(table[1])
    raise NoTable(f"there is no table {name}")


def check_columns(names, heads):
    for name in names:
        if name not in heads:
            raise NoColumn(f"there is no column {name}")


def each_once(heads):
    if len(set(heads)) != len(heads):
        raise TwoColumns("a column would be there twice")
    return heads


# For the words over one question: the heads, where those of that question are known.
def heads_over_one(question, heads):
    word = question[0]
    if word == "pick":
        check_columns(columns_of(question[1]), heads)
    elif word == "sort":
        check_columns([question[1]], heads)
    elif word == "cols":
        check_columns(question[1], heads)
        return each_once(list(question[1]))
    elif word == "group":
        check_columns([question[1], question[2]], heads)
        return each_once([question[1], question[3], question[4]])
    return heads


# For the words over two questions: the heads, where those of both are known.
def heads_over_two(question, heads, others):
    if question[0] == "both":
        if heads != others:
            raise NotAlike("the two parts have not the same heads")
        return heads
    if question[0] == "join":
        check_columns([question[1]], heads)
        check_columns([question[2]], others)
    return each_once(heads + others)


# The heads of a question, where those of the questions straight within it are known.
def heads_at(tables, question, within):
    if len(within) == 0:
        return heads_of_table(tables, question[1])
    if len(within) == 1:
        return heads_over_one(question, within[0])
    return heads_over_two(question, within[0], within[1])


# The work is done at the inner questions first, so the first refusal met is the one that is asked for.
def heads_of(tables, question):
    return built_up(question, lambda place, within: heads_at(tables, place, within))
