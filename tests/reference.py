"""What the document says of questions, told once more and with recursion, to hold the program against."""


def true_for(condition, heads, row):
    word, *parts = condition
    if word == "not":
        return not true_for(parts[0], heads, row)
    if word == "and":
        return true_for(parts[0], heads, row) and true_for(parts[1], heads, row)
    if word == "or":
        return true_for(parts[0], heads, row) or true_for(parts[1], heads, row)
    left, right = (dict(zip(heads, row))[side] if isinstance(side, str) else side for side in parts)
    return left < right if word == "less" else left == right


def named(condition):
    if condition[0] in ("less", "same"):
        return {side for side in condition[1:] if isinstance(side, str)}
    return set().union(*map(named, condition[1:]))


def heads(tables, question):
    word = question[0]
    if word == "table":
        return {name: heads for name, heads, rows in tables}[question[1]]
    if word == "cols":
        return list(question[1])
    if word == "group":
        return [question[1], question[3], question[4]]
    if word in ("pair", "join"):
        return heads(tables, question[-2]) + heads(tables, question[-1])
    return heads(tables, question[2] if word != "both" else question[1])


def rows(tables, question):
    word = question[0]
    if word == "table":
        return {name: rows for name, heads, rows in tables}[question[1]]
    if word in ("pair", "join"):
        q, r = question[-2:]
        both = [row + other for row in rows(tables, q) for other in rows(tables, r)]
        if word == "pair":
            return both
        spot = heads(tables, q).index(question[1])
        place = len(heads(tables, q)) + heads(tables, r).index(question[2])
        return [row for row in both if row[spot] == row[place]]
    if word == "both":
        return rows(tables, question[1]) + rows(tables, question[2])
    inner, names = rows(tables, question[-1]), heads(tables, question[-1])
    if word == "pick":
        return [row for row in inner if true_for(question[1], names, row)]
    if word == "cols":
        return [[dict(zip(names, row))[name] for name in question[1]] for row in inner]
    if word == "first":
        return [row for k, row in enumerate(inner) if k < question[1]]
    spot = names.index(question[1])
    if word == "sort":
        return [row for number in sorted({row[spot] for row in inner}) for row in inner if row[spot] == number]
    of = names.index(question[2])
    numbers = list(dict.fromkeys(row[spot] for row in inner))
    groups = [[row for row in inner if row[spot] == number] for number in numbers]
    return [[group[0][spot], len(group), sum(row[of] for row in group)] for group in groups]


def answer(tables, question):
    return (heads(tables, question), rows(tables, question))


def pick_over_no_pick(tables, c, inner):
    """The turnings of a pick that are told ahead of that of a pick over a pick."""
    word = inner[0]
    if c[0] == "and":
        return [("pick", c[1], ("pick", c[2], inner))]
    if word in ("sort", "cols"):
        return [(word, inner[1], ("pick", c, inner[2]))]
    if word == "both":
        return [("both", ("pick", c, inner[1]), ("pick", c, inner[2]))]
    if word not in ("pair", "join"):
        return []
    *ahead, q, r = inner
    if named(c) <= set(heads(tables, q)):
        return [(*ahead, ("pick", c, q), r)]
    if named(c) <= set(heads(tables, r)):
        return [(*ahead, q, ("pick", c, r))]
    if word == "pair" and c[0] == "same":
        for a, b in (c[1:], c[:0:-1]):
            if a in heads(tables, q) and b in heads(tables, r):
                return [("join", a, b, q, r)]
    return []


def pick_over_pick(tables, c, inner):
    between, beneath = [], inner
    while beneath[0] == "pick":
        between.append(beneath[1])
        beneath = beneath[2]
    taken = [d for d in between if pick_over_no_pick(tables, d, beneath)]
    if pick_over_no_pick(tables, c, beneath) and not taken:
        return [("pick", inner[1], ("pick", c, inner[2]))]
    return []


def turned_here(tables, question):
    word, inner = question[0], question[-1]
    if word == "pick" and (question[1][0] == "and" or inner[0] != "pick"):
        return pick_over_no_pick(tables, question[1], inner)
    if word == "pick":
        return pick_over_pick(tables, question[1], inner)
    if word == "cols" and inner[0] == "cols":
        return [("cols", question[1], inner[2])]
    if word == "sort" and inner[0] == "sort" and inner[1] == question[1]:
        return [("sort", question[1], inner[2])]
    if word == "first" and inner[0] == "first":
        return [("first", min(question[1], inner[1]), inner[2])]
    if word == "first" and inner[0] == "cols":
        return [("cols", inner[1], ("first", question[1], inner[2]))]
    return []


def turned_anywhere(tables, question):
    """Every question that one turning at one place makes of the question."""
    found = turned_here(tables, question)
    if question[0] == "table":
        return found
    if question[0] in ("pair", "join", "both"):
        *ahead, q, r = question
        found += [(*ahead, other, r) for other in turned_anywhere(tables, q)]
        return found + [(*ahead, q, other) for other in turned_anywhere(tables, r)]
    *ahead, q = question
    return found + [(*ahead, other) for other in turned_anywhere(tables, q)]
