"""Questions written as lines."""


# The names of a cols are a tuple as questions are, and may look like one: only their place tells them apart.
def parts_of(part):
    if part[0] == "cols":
        return list(part[1]) + [part[2]]
    return list(part[1:])


def pieces_of(part):
    if part[0] == "table":
        return [part[1]]
    pieces = ["(", part[0]]
    for inner in parts_of(part):
        pieces.append(" ")
        pieces.append(inner)
    pieces.append(")")
    return pieces


# The list of what is still to be written stands in the place of recursion, so that no depth is too great.
def shown(question):
    written = []
    waiting = [question]
    while waiting:
        part = waiting.pop()
        if isinstance(part, tuple):
            waiting.extend(list(reversed(pieces_of(part))))
        else:
            written.append(str(part))
    return "".join(written)
