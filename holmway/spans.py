"""Bridges, and the places that they join."""

from holmway.errors import NoPlace


def check_places(places, one, other):
    if one not in places or other not in places:
        raise NoPlace("there is no such place on the map")


def beside(place, bridges):
    found = []
    for bridge in bridges:
        if bridge[0] == place:
            found.append(bridge[1])
        elif bridge[1] == place:
            found.append(bridge[0])
    # A bridge may be told more than once, and either way round.
    return sorted(set(found))


def neighbours(bridges):
    # For all places at once: to ask each place by itself walks all bridges each time.
    found = {}
    for bridge in bridges:
        found.setdefault(bridge[0], []).append(bridge[1])
        found.setdefault(bridge[1], []).append(bridge[0])
    return found


def lesser_first(one, other):
    return (min(one, other), max(one, other))


def each_once(bridges):
    return sorted(set([lesser_first(bridge[0], bridge[1]) for bridge in bridges]))
