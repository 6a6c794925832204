"""Native gates in place of all others (point 62)."""

from phasor.errors import InvalidDevice, InvalidGate
from phasor.gates import gate_fits, without_turns


def is_native(device, gate):
    """Returns True if a device has a gate, otherwise False."""
    kind, qubits = gate
    if not gate_fits(gate, device.places):
        return False
    return len(qubits) == 1 or (kind == "CX" and device.directed(qubits[0], qubits[1]))


def lower(device, gates):
    """Returns native gates and the turns that they lack."""
    for gate in gates:
        _check_gate(device, gate)
    others = without_turns(gates)
    native = []
    for gate in others:
        native.extend(_native_gates(device, gate))
    return (native, (len(gates) - len(others)) % 8)


def _check_gate(device, gate):
    qubits = gate[1]
    if not gate_fits(gate, device.places):
        raise InvalidGate("a gate does not fit the number of places")
    if len(qubits) == 2 and not device.linked(qubits[0], qubits[1]):
        raise InvalidDevice("a gate acts on places that are not linked")


def _native_gates(device, gate):
    kind, qubits = gate
    if len(qubits) == 1:
        return [gate]
    if kind == "CX":
        return _native_cx(device, qubits[0], qubits[1])
    control, target = _along_coupling(device, qubits)
    if kind == "CZ":
        turn = ("H", (target,))
        return [turn, ("CX", (control, target)), turn]
    forth = [("CX", (control, target))]
    return forth + _native_cx(device, target, control) + forth


def _along_coupling(device, qubits):
    """Returns two linked places in the direction of a coupling."""
    a, b = qubits
    if device.directed(a, b):
        return (a, b)
    return (b, a)


def _native_cx(device, control, target):
    if device.directed(control, target):
        return [("CX", (control, target))]
    turns = [("H", (control,)), ("H", (target,))]
    return turns + [("CX", (target, control))] + turns
