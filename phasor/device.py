"""Devices: places, couplings, distances and paths (points 55 and 56)."""

from phasor.errors import InvalidDevice
from phasor.gates import different_below


class Device:
    """A number of places, and the couplings along which they execute CX."""

    def __init__(self, places, couplings):
        _check_positive(places)
        for pair in couplings:
            if len(pair) != 2 or not different_below(pair, places):
                raise InvalidDevice("a coupling is not a pair of different places")
        self.places = places
        self._couplings = sorted({(a, b) for a, b in couplings})
        self._neighbors = _neighbor_lists(places, self._couplings)
        self._coupled = {pair: True for pair in self._couplings}
        if len(self.distances_to(0, [])) < places:
            raise InvalidDevice("a place cannot be reached from another one")

    @property
    def couplings(self):
        """A new ascending list of the couplings."""
        return list(self._couplings)

    def linked(self, a, b):
        """Returns True if two places are linked, otherwise False."""
        return self.directed(a, b) or self.directed(b, a)

    def directed(self, a, b):
        """Returns True if (a, b) is a coupling, otherwise False."""
        return (a, b) in self._coupled

    def neighbors(self, place):
        """Returns the ascending list of the places that are linked with a place."""
        return list(self._neighbors[place])

    def distance(self, a, b):
        """Returns the distance of two places."""
        return self.distances_to(b, [])[a]

    def path(self, a, b):
        """Returns the lexicographically least of the shortest paths."""
        return self.path_past(a, b, [])

    def distances_to(self, goal, barred):
        """Returns the distance to a place for each place that reaches it past barred ones.

        The places stand in the dict by ascending distances.
        """
        found = {goal: 0}
        level = [goal]
        while len(level) > 0:
            following = []
            for place in level:
                for other in self._neighbors[place]:
                    if other not in found and other not in barred:
                        found[other] = found[place] + 1
                        following.append(other)
            level = following
        return found

    def path_past(self, a, b, barred):
        """Returns the path that is left if the barred places are not used."""
        left = self.distances_to(b, barred)
        path = [a]
        while path[-1] != b:
            wanted = left[path[-1]] - 1
            closer = [place for place in self._neighbors[path[-1]] if left.get(place, -1) == wanted]
            path.append(closer[0])
        return path


def _check_positive(number):
    if number < 1:
        raise InvalidDevice("a number of places is below 1")


def _neighbor_lists(places, couplings):
    """Returns for each place the ascending list of the places that are linked with it."""
    linked = [{} for _ in range(places)]
    for a, b in couplings:
        linked[a][b] = True
        linked[b][a] = True
    return [sorted(others) for others in linked]


def line_device(places):
    """Returns the device with the couplings (k, k + 1)."""
    return Device(places, [(k, k + 1) for k in range(places - 1)])


def grid_device(rows, columns):
    """Returns the device of a grid, in which each place is coupled to the right and down."""
    _check_positive(rows)
    _check_positive(columns)
    places = rows * columns
    right = [(k, k + 1) for k in range(places) if (k + 1) % columns != 0]
    down = [(k, k + columns) for k in range(places - columns)]
    return Device(places, right + down)
