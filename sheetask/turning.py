"""Questions turned, step by step, until no turning can be done."""

from sheetask.heads import heads_at
from sheetask.places import Place, built_up
from sheetask.rules import turned


def place_over(tables, question, within):
    heads = heads_at(tables, question, [inner.heads for inner in within])
    return Place(question[:len(question) - len(within)], heads, within)


# A question that is being turned: the place where the work goes on, and those above it, the outermost first, each
# with the spot within it that leads on. This list stands in the place of recursion, so that no depth is too great.
class Turner:
    def __init__(self, tables, question):
        self.place = built_up(question, lambda part, within: place_over(tables, part, within))
        self.above = []

    def go_within(self, spot):
        self.above.append((self.place, spot))
        self.place = self.place.within[spot]

    def go_back(self):
        over = self.above.pop()
        within = list(over[0].within)
        within[over[1]] = self.place
        self.place = Place(over[0].ahead, over[0].heads, within)

    # One turning at one place; whether one could be done. The inner places come first: the rules build on that, and
    # the way to them is short as long as what stands above isn't taken apart.
    def turn(self):
        while self.above or not self.place.settled:
            place = self.place
            unsettled = [spot for spot, inner in enumerate(place.within) if not inner.settled]
            if place.settled:
                self.go_back()
            elif unsettled:
                self.go_within(unsettled[0])
            else:
                other = turned(place)
                if other is not None:
                    self.place = other
                    return True
                place.settled = True
        return False

    def whole(self):
        question = self.place.question
        for over, spot in reversed(self.above):
            parts = [inner.question for inner in over.within]
            parts[spot] = question
            question = over.ahead + tuple(parts)
        return question


def turnings(tables, question):
    turner = Turner(tables, question)
    questions = [question]
    while turner.turn():
        questions.append(turner.whole())
    return questions


# The last of the turnings, where the others need not be kept.
def last_turning(tables, question):
    turner = Turner(tables, question)
    while turner.turn():
        pass
    return turner.whole()
