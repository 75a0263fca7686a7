"""The turnings, each done at its own place."""

from sheetask.conditions import columns_of
from sheetask.places import Place


def is_pick(place):
    return place.ahead[0] == "pick"


def picked(condition, place):
    return Place(("pick", condition), place.heads, [place])


def among(names, heads):
    return all([name in heads for name in names])


# For a same with a column of each part of the pair.
def joined_by(condition, pair):
    one = condition[1]
    other = condition[2]
    if one not in pair.within[0].heads:
        one = condition[2]
        other = condition[1]
    return Place(("join", one, other), pair.heads, pair.within)


def sent_to_a_part(condition, place):
    names = columns_of(condition)
    first = place.within[0]
    second = place.within[1]
    if among(names, first.heads):
        return Place(place.ahead, place.heads, [picked(condition, first), second])
    if among(names, second.heads):
        return Place(place.ahead, place.heads, [first, picked(condition, second)])
    if place.ahead[0] == "pair" and condition[0] == "same":
        return joined_by(condition, place)
    return None


# What a pick straight over the place is turned into; None where the place, being no pick, doesn't take the condition.
def sent_within(condition, place):
    if condition[0] == "and":
        return picked(condition[1], picked(condition[2], place))
    if place.ahead[0] in ("sort", "cols", "both"):
        return Place(place.ahead, place.heads, [picked(condition, inner) for inner in place.within])
    if place.ahead[0] in ("pair", "join"):
        return sent_to_a_part(condition, place)
    return None


def takes(place, condition):
    return sent_within(condition, place) is not None


# Whether a pick goes beneath the one straight within it, on its way to the first question beneath that is no pick.
# Nothing within can be turned any more, so that question takes none of the conditions of the picks between: else the
# lowest pick with such a condition could be turned.
def passes(condition, place):
    beneath = place
    while is_pick(beneath):
        beneath = beneath.within[0]
    return takes(beneath, condition)


def turned_pick(place):
    condition = place.ahead[1]
    inner = place.within[0]
    if condition[0] == "and" or not is_pick(inner):
        return sent_within(condition, inner)
    if passes(condition, inner):
        return picked(inner.ahead[1], picked(condition, inner.within[0]))
    return None


def turned_first(place):
    inner = place.within[0]
    if inner.ahead[0] == "first":
        return Place(("first", min(place.ahead[1], inner.ahead[1])), place.heads, inner.within)
    if inner.ahead[0] == "cols":
        beneath = inner.within[0]
        return Place(inner.ahead, inner.heads, [Place(place.ahead, beneath.heads, [beneath])])
    return None


# The place with one turning done there, not further within; None where none can be done. At the places within it no
# turning can be done: whoever turns goes there first.
def turned(place):
    word = place.ahead[0]
    if word == "pick":
        return turned_pick(place)
    if word == "first":
        return turned_first(place)
    if word == "cols" and place.within[0].ahead[0] == "cols":
        return Place(place.ahead, place.heads, place.within[0].within)
    if word == "sort" and place.within[0].ahead == place.ahead:
        return place.within[0]
    return None
