"""Rows joined, grouped and put in order."""


# The others are gathered by their number once, so that not every row is held against every other one.
def joined(rows, others, spot, place):
    gathered = {}
    for other in others:
        gathered.setdefault(other[place], []).append(other)
    found = []
    for row in rows:
        for other in gathered.get(row[spot], []):
            found.append(row + other)
    return found


# A dict keeps the order in which its keys came: that in which the numbers come first in the rows.
def grouped(rows, spot, place):
    many = {}
    total = {}
    for row in rows:
        number = row[spot]
        many[number] = many.get(number, 0) + 1
        total[number] = total.get(number, 0) + row[place]
    return [[number, many[number], total[number]] for number in many]


def in_order(rows, spot):
    return sorted(rows, key=lambda row: row[spot])
