"""Conditions: whether one holds for a row, and which columns it names."""

COMPARISONS = ("less", "same")


def number_of(side, heads, row):
    if isinstance(side, str):
        return row[heads.index(side)]
    return side


def compared(comparison, heads, row):
    first = number_of(comparison[1], heads, row)
    second = number_of(comparison[2], heads, row)
    if comparison[0] == "less":
        return first < second
    return first == second


# The list of the conditions above stands in the place of recursion, so that no depth is too great.
def holds(condition, heads, row):
    above = []
    part = condition
    answer = False
    while part is not None:
        while part[0] not in COMPARISONS:
            above.append(part)
            part = part[1]
        answer = compared(part, heads, row)
        part = None
        while above and part is None:
            over = above.pop()
            if over[0] == "not":
                answer = not answer
            elif answer == (over[0] == "and"):
                # The first part has left it undecided: the second one's answer is that of the whole.
                part = over[2]
    return answer


def columns_of(condition):
    names = {}
    waiting = [condition]
    while waiting:
        part = waiting.pop()
        # The word at the front may be a name as well, so only what stands behind it is looked at.
        for inner in part[1:]:
            if isinstance(inner, tuple):
                waiting.append(inner)
            elif isinstance(inner, str):
                names[inner] = True
    return sorted(names)
