"""A map on which bridges are built and pulled down."""

from holmway.errors import NoBridge, OnePlace, Stands
from holmway.spans import check_places, lesser_first


class Chart:
    def __init__(self, places):
        # A copy, so that who changes the list later changes nothing here.
        self.places = list(places)
        self.bridges = []

    def build(self, one, other):
        bridge = self.bridge_between(one, other)
        if bridge in self.bridges:
            raise Stands("the bridge stands already")
        self.bridges = sorted(self.bridges + [bridge])

    def pull(self, one, other):
        bridge = self.bridge_between(one, other)
        if bridge not in self.bridges:
            raise NoBridge("there is no such bridge")
        self.bridges = [kept for kept in self.bridges if kept != bridge]

    def bridge_between(self, one, other):
        # The refusals that build and pull share come first, as the order of refusals asks.
        check_places(self.places, one, other)
        if one == other:
            raise OnePlace("a bridge joins two different places")
        return lesser_first(one, other)
