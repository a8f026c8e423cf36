"""The way between two places, the groups of a map, and the detours of its bridges."""

from holmway.spans import check_places, each_once, neighbours


def way(places, bridges, one, other):
    check_places(places, one, other)
    roads = roads_from(one, neighbours(bridges))
    if other in roads:
        return ("road", roads[other])
    # No bridge leads out of all the places that a road leads to: they are a wall.
    return ("wall", sorted(roads))


def roads_from(start, near):
    # A road to each place that one leads to, in the order in which they are come to.
    roads = {start: [start]}
    row = [start]
    k = 0
    while k < len(row):
        here = row[k]
        for there in near.get(here, []):
            if there not in roads:
                roads[there] = roads[here] + [there]
                row.append(there)
        k += 1
    return roads


def groups(places, bridges):
    near = neighbours(bridges)
    grouped = {}
    found = []
    # From the least place on, so the first place of each group is its least.
    for place in sorted(places):
        if place not in grouped:
            group = list(roads_from(place, near))
            found.append(group)
            for member in group:
                grouped[member] = True
    return found


def detours(places, bridges):
    standing = each_once(bridges)
    found = []
    for bridge in standing:
        rest = [kept for kept in standing if kept != bridge]
        detour = way(places, rest, bridge[0], bridge[1])
        found.append(bridge + detour)
    return found
