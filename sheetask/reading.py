"""Lines read as questions."""

from sheetask.errors import NoQuestion

LETTERS = "abcdefghijklmnopqrstuvwxyz"
FIGURES = "0123456789"

# The forms of the parts behind each word. A cols stands apart, since it may have any number of names.
QUESTIONS = {
    "pick": ("condition", "question"),
    "pair": ("question", "question"),
    "join": ("name", "name", "question", "question"),
    "group": ("name", "name", "name", "name", "question"),
    "sort": ("name", "question"),
    "first": ("size", "question"),
    "both": ("question", "question"),
}
CONDITIONS = {
    "less": ("side", "side"),
    "same": ("side", "side"),
    "not": ("condition",),
    "and": ("condition", "condition"),
    "or": ("condition", "condition"),
}


def is_name(text):
    return text != "" and text.strip(LETTERS) == ""


def is_number(text):
    figures = text[1:] if text.startswith("-") else text
    if figures == "" or figures.strip(FIGURES) != "":
        return False
    return text == "0" or figures[0] != "0"


# Figure by figure, since Python's own reading of a number fails beyond some thousand figures.
def number_from(text):
    number = 0
    for figure in text.lstrip("-"):
        number = number * 10 + FIGURES.index(figure)
    return -number if text.startswith("-") else number


def form_of(part):
    return "condition" if part[0] in CONDITIONS else "question"


# The form alone tells what a text means: where a question must stand, a name is that of a table.
def taken(form, part):
    if isinstance(part, tuple):
        if form == form_of(part):
            return part
    elif is_name(part):
        if form == "question":
            return ("table", part)
        if form in ("name", "side"):
            return part
    elif is_number(part):
        if form == "side" or (form == "size" and not part.startswith("-")):
            return number_from(part)
    raise NoQuestion(f"there is something else where a {form} must stand")


def forms_behind(word, count):
    if word == "cols":
        return ("name",) * max(count - 1, 1) + ("question",)
    if word in QUESTIONS:
        return QUESTIONS[word]
    if word in CONDITIONS:
        return CONDITIONS[word]
    raise NoQuestion(f"{word!r} is no word of a question or a condition")


def made(word, parts):
    forms = forms_behind(word, len(parts))
    if len(parts) != len(forms):
        raise NoQuestion(f"{word!r} has too few or too many parts")
    kept = [taken(form, part) for form, part in zip(forms, parts)]
    if word == "cols":
        return ("cols", tuple(kept[:-1]), kept[-1])
    return tuple([word] + kept)


# Each bracket at the end of a piece closes the innermost of what is still above it, with the part as its last one.
def closed(above, piece):
    part = piece.rstrip(")")
    brackets = len(piece) - len(part)
    if brackets > len(above):
        raise NoQuestion("a bracket closes nothing")
    while brackets > 0:
        over = above.pop()
        part = made(over[0], over[1:] + [part])
        brackets = brackets - 1
    return part


# Between two blanks there is a bracket and its word, or a name or number and the brackets that it closes. The list
# of what isn't closed yet stands in the place of recursion, so that no depth is too great.
def read(line):
    above = []
    pieces = line.split(" ")
    for piece in pieces[:-1]:
        if piece.startswith("("):
            above.append([piece[1:]])
        else:
            part = closed(above, piece)
            if not above:
                raise NoQuestion("there is more behind the end")
            above[-1].append(part)
    part = closed(above, pieces[-1])
    if above:
        raise NoQuestion("a bracket is not closed")
    return taken("question", part)
