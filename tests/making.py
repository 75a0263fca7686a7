"""Questions made by a fixed rule: one for each number."""

TABLES = [
    ("t", ["a", "b"], [[1, 2], [0, 1], [1, 2], [2, 0], [-1, 1]]),
    ("u", ["c", "d"], [[2, 1], [1, 1], [0, -1], [1, 1]]),
    ("v", ["e"], [[1], [0], [1]]),
    ("w", ["a", "b"], [[2, 2], [1, 2]]),
    ("z", ["f", "g"], [[0, 1], [2, 2], [1, 0]]),
]
HEADS = {name: heads for name, heads, rows in TABLES}


class Choices:
    """The digits of a number, which tell what is chosen."""

    def __init__(self, number):
        # No chance is in it: a power of a prime, whose digits look mixed enough.
        self.number = 10007 ** (number + 60) // 997
        self.given = 0

    def among(self, things):
        self.given += 1
        if self.number == 0:
            return things[self.given % len(things)]
        self.number, digit = divmod(self.number, len(things))
        return things[digit]

    def below(self, count):
        return self.among(range(count))


def made_comparison(choices, heads):
    """Mostly one that holds for many rows."""
    one, number = choices.among(heads), choices.below(3)
    other = choices.among([name for name in heads if name != one] or [number])
    return choices.among((
        ("less", one, number + 1), ("less", -number, one), ("not", ("same", one, number)), ("same", one, other),
        ("not", ("less", one, other)), ("less", -number, 1), ("not", ("same", other, one)),
    ))


def made_condition(choices, heads, depth):
    word = choices.among(("none", "and", "or", "not")) if depth > 0 else "none"
    if word == "none":
        return made_comparison(choices, heads)
    if word == "not":
        return (word, ("not", made_condition(choices, heads, depth - 1)))
    return (word, made_condition(choices, heads, depth - 1), made_condition(choices, heads, depth - 1))


def some_of(choices, heads):
    names = [name for name in heads if choices.below(3)] or [choices.among(heads)]
    turn = choices.below(len(names))
    return tuple(names[turn:] + names[:turn])


def over_one(choices, word, question, heads):
    """The question with the word over it, and its heads."""
    if word == "cols":
        names = some_of(choices, heads)
        return (word, names, question), list(names)
    if word == "group":
        by, of = choices.among(heads), choices.among(heads)
        many, total = [name for name in ("m", "s", "k", "l") if name != by][choices.below(2):][:2]
        return (word, by, of, many, total, question), [by, many, total]
    part = {
        "pick": lambda: made_condition(choices, heads, choices.below(4)),
        "sort": lambda: choices.among(heads),
        "first": lambda: choices.among((3, 5, 4, 7, 2, 9, 1, 6, 30, 0, 8)),
    }[word]()
    return (word, part, question), heads


def over_two(choices, word, question, heads):
    """The same for the words over two: the other one is made of a table, or for a both of the question itself."""
    if word == "both":
        other = over_one(choices, choices.among(("pick", "sort", "first")), question, heads)[0]
        return choices.among(((word, question, other), (word, other, question), (word, question, question))), heads
    name = choices.among([name for name in "tuvz" if not set(HEADS[name]) & set(heads)] or [None])
    if name is None:
        return ("sort", heads[0], question), heads
    word_over = choices.among(("pick", "sort", "first"))
    other, others = over_one(choices, word_over, ("table", name), HEADS[name])
    if choices.below(2):
        question, heads, other, others = other, others, question, heads
    ahead = (word,) if word == "pair" else (word, choices.among(heads), choices.among(others))
    return (*ahead, question, other), heads + others


WORDS = ("pick", "pair", "pick", "cols", "pick", "sort", "pick", "join", "first", "pick", "both", "group", "pair")
# With these the answer can't grow, so that a question may be deep.
SLIM = ("pick", "sort", "first", "pick", "cols", "pick", "sort", "sort", "first", "first", "cols")


def made_question(number, size, words=WORDS):
    choices = Choices(number)
    name = choices.among("tuvwz")
    question, heads = ("table", name), HEADS[name]
    twofold = 0
    for step in range(size):
        word = choices.among(words)
        if word in ("pair", "join", "both"):
            twofold += 1
            # Else there would be too many rows.
            word = word if twofold <= 4 else "pick"
        over = over_two if word in ("pair", "join", "both") else over_one
        question, heads = over(choices, word, question, heads)
    return question
