"""The places of a question: itself and the questions within it."""

TWOFOLD = ("pair", "join", "both")


# A place with what is known there: the parts of its question that are no questions, word and all; the heads of its
# answer; and the places straight within it.
class Place:
    def __init__(self, ahead, heads, within):
        self.ahead = ahead
        self.heads = heads
        self.within = within
        self.question = ahead + tuple([inner.question for inner in within])
        # Whether it has been found that no turning can be done here or at any place within.
        self.settled = False


# Of every word the questions are the last parts; what stands ahead of them may look like one.
def straight_within(question):
    if question[0] == "table":
        return []
    if question[0] in TWOFOLD:
        return [question[-2], question[-1]]
    return [question[-1]]


# Each place behind those within it, and all of a first part ahead of those of a second one. The list of what is
# still to be walked stands in the place of recursion, so that no depth is too great.
def inner_first(question):
    places = []
    waiting = [question]
    while waiting:
        place = waiting.pop()
        places.append(place)
        waiting.extend(straight_within(place))
    return list(reversed(places))


# What comes of a question, where the work at each place is told what came of the questions straight within it.
def built_up(question, work):
    done = []
    for place in inner_first(question):
        within = []
        for inner in straight_within(place):
            within.insert(0, done.pop())
        done.append(work(place, within))
    return done[0]
