"""The compiler, its results and their audit (points 70 to 74)."""

from phasor.audit import audit
from phasor.cancelling import cancel
from phasor.circuit import Circuit
from phasor.gates import count_t, count_two, without_turns
from phasor.layout import Layout, check_width, first_order, order_layout
from phasor.lowering import lower
from phasor.passes import PASSES, check_passes, optimize
from phasor.reader import read_circuit
from phasor.restoring import restore_steps
from phasor.routing import MAX_SEARCH_PLACES, end_order, least_route, placed_gates, route
from phasor.timing import depth


class Compiled:
    """The result of a compilation."""

    def __init__(self, circuit, start, end, *, swaps, turns):
        self.circuit = circuit
        self.start = list(start)
        self.end = list(end)
        self.swaps = swaps
        self.turns = turns

    def report(self):
        """Returns a list of five strings with the numbers that tell the cost."""
        gates = self.circuit.gates
        numbers = (
            ("t", count_t(gates)),
            ("cx", count_two(gates)),
            ("gates", len(gates)),
            ("depth", depth(gates)),
            ("swaps", self.swaps),
        )
        return [f"{name} {number}" for name, number in numbers]


class Compiler:
    """A compiler for one device."""

    def __init__(self, device, *, passes=PASSES, rounds=2, search=False, restore=False):
        check_passes(passes)
        self._device = device
        self._passes = list(passes)
        self._rounds = rounds
        self._search = search
        self._restore = restore
        self.done = 0
        self.last = None
        self.busy = False

    def run(self, circuit, *, start=None):
        """Compiles a circuit and returns the result."""
        self.busy = True
        try:
            result = self._compiled(circuit, start)
            self.done += 1
            self.last = result
        finally:
            self.busy = False
        return result

    def run_text(self, text):
        """Compiles the circuit of a text and returns the result."""
        return self.run(read_circuit(text))

    def _compiled(self, circuit, start):
        device = self._device
        check_width(device, circuit)
        if start is not None:
            order_layout(device, start)
        optimized = optimize(circuit, passes=self._passes, rounds=self._rounds)
        order = first_order(device, optimized) if start is None else list(start)
        steps = self._route_steps(optimized, order)
        native, turns = lower(device, placed_gates(optimized, order, steps))
        gates = cancel(device.places, native)
        kept = without_turns(gates)
        return Compiled(
            Circuit(device.places, kept),
            order,
            end_order(order, steps),
            swaps=len(steps) - len(optimized),
            turns=(turns + len(gates) - len(kept)) % 8,
        )

    def _route_steps(self, circuit, order):
        """Returns the route of a circuit, with the steps that restore the order."""
        if self._search and self._device.places <= MAX_SEARCH_PLACES:
            steps = least_route(self._device, circuit, order)
        else:
            steps = route(self._device, circuit, order)
        if self._restore:
            steps = steps + restore_steps(self._device, end_order(order, steps), order)
        return steps


def audit_compiled(compiled, circuit):
    """Returns the audit of a result and the circuit that was compiled."""
    width = compiled.circuit.width
    forth = _exchanges(compiled.start)
    back = list(reversed(_exchanges(compiled.end)))
    first = Circuit(width, forth + compiled.circuit.gates + back)
    return audit(first, circuit.mapped(list(range(circuit.width)), width=width))


def _exchanges(order):
    """Returns gates SWAP that bring the value of each qubit to its place of an order."""
    layout = Layout(list(range(len(order))))
    gates = []
    for qubit, place in enumerate(order):
        here = layout.place_of(qubit)
        if here != place:
            layout.swap(here, place)
            gates.append(("SWAP", (here, place)))
    return gates
