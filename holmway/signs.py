"""The signs by which a list of places is known as a road or as a wall."""

from holmway.spans import beside


def is_road(row, bridges, one, other):
    if len(row) == 0 or row[0] != one or row[-1] != other:
        return False
    if len(set(row)) != len(row):
        return False
    return is_linked(row, bridges)


def is_linked(row, bridges):
    for k in range(1, len(row)):
        if row[k] not in beside(row[k - 1], bridges):
            return False
    return True


def is_shut(row, bridges, one, other):
    # Sorting the places once each shows a wrong order and a place twice alike.
    if row != sorted(set(row)):
        return False
    if one not in row or other in row:
        return False
    return is_closed(row, bridges)


def is_closed(row, bridges):
    for bridge in bridges:
        if (bridge[0] in row) != (bridge[1] in row):
            return False
    return True
