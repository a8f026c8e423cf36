"""Bridges, and the places that they join."""


def beside(place, bridges):
    found = []
    for bridge in bridges:
        if bridge[0] == place:
            found.append(bridge[1])
        elif bridge[1] == place:
            found.append(bridge[0])
    # A bridge may be told more than once, and either way round.
    return sorted(set(found))
