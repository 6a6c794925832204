"""Layouts: which qubit each place of a device holds (point 57)."""

from phasor.errors import SizeMismatch


class Layout:
    """The place of each qubit and the qubit at each place."""

    def __init__(self, order):
        if sorted(order) != list(range(len(order))):
            raise SizeMismatch("the order does not contain each place exactly once")
        self._places = list(order)
        self._holders = list(order)
        for qubit, place in enumerate(order):
            self._holders[place] = qubit

    @property
    def order(self):
        """A new list of the places of the qubits."""
        return list(self._places)

    def place_of(self, qubit):
        """Returns the place of a qubit."""
        return self._places[qubit]

    def holder_of(self, place):
        """Returns the qubit at a place."""
        return self._holders[place]

    def swap(self, a, b):
        """Exchanges the qubits at two places."""
        first = self._holders[a]
        second = self._holders[b]
        self._holders[a] = second
        self._holders[b] = first
        self._places[second] = a
        self._places[first] = b

    def walk(self, path):
        """Moves a qubit from the first to the last place of a path. Returns the steps."""
        steps = []
        for a, b in zip(path, path[1:]):
            self.swap(a, b)
            steps.append(("swap", min(a, b), max(a, b)))
        return steps


def check_width(device, circuit):
    """Raises SizeMismatch if a circuit is wider than a device has places."""
    if circuit.width > device.places:
        raise SizeMismatch("the circuit is wider than the device has places")


def order_layout(device, order):
    """Returns the layout of an order of the places of a device."""
    if len(order) != device.places:
        raise SizeMismatch("the order does not have one place for each qubit")
    return Layout(order)


def first_order(device, circuit):
    """Returns an order in which qubits that meet in gates are close to each other."""
    check_width(device, circuit)
    meetings = _meetings(device.places, circuit.gates)
    qubits = list(range(device.places))
    free = list(range(device.places))
    order = list(free)
    # For each qubit that has a place, the distances of all places to it.
    distances = {}
    while len(free) > 0:
        qubit = max(qubits, key=lambda other: _ties(meetings[other], distances))
        place = min(free, key=lambda other: _drawback(device, other, meetings[qubit], distances))
        order[qubit] = place
        distances[qubit] = device.distances_to(place, [])
        qubits.remove(qubit)
        free.remove(place)
    return order


def _meetings(places, gates):
    """Returns for each qubit the numbers of its two-qubit gates with the other ones."""
    counts = [{} for _ in range(places)]
    for _, qubits in gates:
        if len(qubits) == 2:
            a, b = qubits
            counts[a][b] = counts[a].get(b, 0) + 1
            counts[b][a] = counts[b].get(a, 0) + 1
    return counts


def _ties(met, distances):
    """Returns the numbers of gates with qubits that have a place, and with all qubits."""
    return (sum([met[other] for other in met if other in distances]), sum(list(met.values())))


def _drawback(device, place, met, distances):
    """Returns a tuple that is low if a place is near to the qubits that are met."""
    total = sum([met[other] * distances[other][place] for other in met if other in distances])
    return (total, -len(device.neighbors(place)))
