"""Passes by their names, the cost of a circuit, and optimizing (points 53 and 54)."""

from phasor.cancelling import cancel
from phasor.circuit import Circuit
from phasor.errors import UnknownPass
from phasor.folding import fold_phases
from phasor.gates import cost_of
from phasor.layers import layer_t
from phasor.merging import merge_t
from phasor.windows import reduce_runs, reduce_sections, shorten_cliffords

PASSES = ("cancel", "fold", "runs", "rotations", "layers", "sections", "cliffords")


def check_passes(names):
    """Raises UnknownPass if one of the names is not that of a pass."""
    for name in names:
        if name not in PASSES:
            raise UnknownPass("there is no pass with the name")


def run_pass(name, circuit):
    """Returns the new circuit that a pass makes of a circuit."""
    check_passes([name])
    return Circuit(circuit.width, _passed(name, circuit.width, circuit.gates))


def _passed(name, width, gates):
    """Returns the list of gates that a pass makes of a list."""
    if name == "cancel":
        return cancel(width, gates)
    if name == "fold":
        return fold_phases(width, gates)
    if name == "runs":
        return reduce_runs(width, gates)
    if name == "rotations":
        return merge_t(width, gates)
    if name == "layers":
        return layer_t(width, gates)
    if name == "sections":
        return reduce_sections(width, gates)
    return shorten_cliffords(width, gates)


def cost(circuit):
    """Returns the numbers of T gates, of two-qubit gates and of gates other than W."""
    return cost_of(circuit.gates)


def optimize(circuit, *, passes=PASSES, rounds=2):
    """Returns a new circuit with the same operator, after rounds of passes."""
    check_passes(passes)
    current = Circuit(circuit.width, circuit.gates)
    for _ in range(rounds):
        before = cost(current)
        for name in passes:
            result = run_pass(name, current)
            if cost(result) < cost(current):
                current = result
        # Each change lowers the cost.
        if cost(current) == before:
            break
    return current
