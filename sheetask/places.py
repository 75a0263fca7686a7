"""The places of a question: itself and the questions within it."""

TWOFOLD = ("pair", "join", "both")


# Of every word the questions are the last parts; what stands ahead of them may look like one.
def straight_within(question):
    if question[0] == "table":
        return []
    if question[0] in TWOFOLD:
        return [question[-2], question[-1]]
    return [question[-1]]


# Each place behind those within it, and all of a first part ahead of those of a second one. The list of what is
# still to be walked stands in the place of recursion, so that no depth is too great.
def inner_first(question):
    places = []
    waiting = [question]
    while waiting:
        place = waiting.pop()
        places.append(place)
        waiting.extend(straight_within(place))
    return list(reversed(places))
