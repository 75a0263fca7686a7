"""Questions answered cleverly: turned first, until no turning can be done."""

from sheetask.plain import plain_answer
from sheetask.turning import last_turning


def clever_answer(tables, question):
    return plain_answer(tables, last_turning(tables, question))
