"""Questions answered plainly, as they stand."""

from sheetask.conditions import holds
from sheetask.heads import heads_at, heads_of
from sheetask.places import built_up
from sheetask.rows import grouped, in_order, joined


def rows_of_table(tables, name):
    return [table[2] for table in tables if table[0] == name][0]


def numbers_at(row, spots):
    return [row[spot] for spot in spots]


def paired(rows, others):
    found = []
    for row in rows:
        found.extend([row + other for other in others])
    return found


# For the words over one question, which has these heads and rows.
def rows_over_one(question, heads, rows):
    word = question[0]
    if word == "pick":
        return [row for row in rows if holds(question[1], heads, row)]
    if word == "cols":
        spots = [heads.index(name) for name in question[1]]
        return [numbers_at(row, spots) for row in rows]
    if word == "group":
        return grouped(rows, heads.index(question[1]), heads.index(question[2]))
    if word == "sort":
        return in_order(rows, heads.index(question[1]))
    return rows[:question[1]]


# For the words over two questions, which have these answers.
def rows_over_two(question, first, second):
    if question[0] == "both":
        return first[1] + second[1]
    if question[0] == "pair":
        return paired(first[1], second[1])
    return joined(first[1], second[1], first[0].index(question[1]), second[0].index(question[2]))


def rows_at(tables, question, within):
    if len(within) == 0:
        return rows_of_table(tables, question[1])
    if len(within) == 1:
        return rows_over_one(question, within[0][0], within[0][1])
    return rows_over_two(question, within[0], within[1])


# The answer to a question, where those to the questions straight within it are known.
def answer_at(tables, question, within):
    heads = heads_at(tables, question, [answer[0] for answer in within])
    return (heads, rows_at(tables, question, within))


def plain_answer(tables, question):
    # What is to be refused is refused ahead of any work on rows, of which there may be many.
    heads_of(tables, question)
    return built_up(question, lambda place, within: answer_at(tables, place, within))
