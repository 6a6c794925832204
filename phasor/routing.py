"""Routes: the swaps that bring the qubits of gates together (points 58 to 61)."""

from heapq import heapify, heappop, heappush

from phasor.errors import TooLarge
from phasor.gates import moved_gates
from phasor.layout import Layout, check_width, order_layout

MAX_SEARCH_PLACES = 5


def route(device, circuit, order):
    """Returns a route with the swaps of a shortest path before each two-qubit gate."""
    layout = _start_layout(device, circuit, order)
    steps = []
    for index, gate in enumerate(circuit.gates):
        if len(gate[1]) == 2:
            first, second = gate[1]
            path = device.path(layout.place_of(first), layout.place_of(second))
            # The first qubit stops beside the place of the second one.
            steps.extend(layout.walk(path[:-1]))
        steps.append(("gate", index))
    return steps


def _start_layout(device, circuit, order):
    check_width(device, circuit)
    return order_layout(device, order)


def least_route(device, circuit, order):
    """Returns a route with the least number of swaps."""
    start = _start_layout(device, circuit, order)
    if device.places > MAX_SEARCH_PLACES:
        raise TooLarge("the device has more than 5 places")
    links = sorted({(min(pair), max(pair)) for pair in device.couplings})
    # The orders in which the gates so far can end, each with its least number of swaps.
    counts = {tuple(start.order): 0}
    origins = []
    for _, qubits in circuit.gates:
        if len(qubits) == 2:
            counts, came_from = _brought_together(links, counts, qubits)
            origins.append(came_from)
    last = min(sorted(counts), key=lambda end: counts[end])
    return _steps_to(last, circuit.gates, origins)


def _brought_together(links, counts, qubits):
    """Returns the least number of swaps to orders in which two qubits are linked.

    The second result tells for orders that a swap led to the swap and the order before.
    """
    reached = {}
    came_from = {}
    least = {order: counts[order] for order in counts}
    queue = [(counts[order], order) for order in counts]
    heapify(queue)
    while len(queue) > 0:
        count, order = heappop(queue)
        places = [order[qubit] for qubit in qubits]
        if count > least[order]:
            # A better way to this order was found meanwhile.
            continue
        if (min(places), max(places)) in links:
            # Further swaps can as well wait until the gate is executed.
            reached[order] = count
            continue
        for a, b in links:
            other = _swapped(order, a, b)
            if least.get(other, count + 2) > count + 1:
                least[other] = count + 1
                came_from[other] = (("swap", a, b), order)
                heappush(queue, (count + 1, other))
    return (reached, came_from)


def _swapped(order, a, b):
    """Returns the order after the qubits at two places are exchanged."""
    exchanged = {a: b, b: a}
    return tuple([exchanged.get(place, place) for place in order])


def _steps_to(last, gates, origins):
    """Returns the steps of the route that ends in an order."""
    order = last
    left = list(origins)
    steps = []
    for index in reversed(range(len(gates))):
        steps.append(("gate", index))
        if len(gates[index][1]) == 2:
            came_from = left.pop()
            while order in came_from:
                swap, order = came_from[order]
                steps.append(swap)
    return list(reversed(steps))


def end_order(order, steps):
    """Returns the end order of a route from an order."""
    layout = Layout(order)
    for step in steps:
        if step[0] == "swap":
            layout.swap(step[1], step[2])
    return layout.order


def placed_gates(circuit, order, steps):
    """Returns the gates on places that the steps of a route execute."""
    layout = Layout(order)
    gates = circuit.gates
    placed = []
    for step in steps:
        if step[0] == "swap":
            layout.swap(step[1], step[2])
            placed.append(("SWAP", (step[1], step[2])))
        else:
            placed.extend(moved_gates([gates[step[1]]], layout.order))
    return placed
