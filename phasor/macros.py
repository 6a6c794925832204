"""Macros: names for lists of gates on two or three qubits (point 10)."""

from phasor.errors import InvalidGate

MACROS = ("CS", "CSDG", "CCZ", "CCX", "CSWAP")

MACRO_SIZES = {"CS": 2, "CSDG": 2, "CCZ": 3, "CCX": 3, "CSWAP": 3}


def macro_fits(kind, qubits):
    """Returns True if there is a macro of the kind for these qubits."""
    if kind not in MACROS or len(qubits) != MACRO_SIZES[kind]:
        return False
    return len(set(qubits)) == len(qubits) and min(qubits) >= 0


def macro_gates(kind, qubits):
    """Returns the list of the gates of a macro."""
    if not macro_fits(kind, qubits):
        raise InvalidGate("there is no such macro for these qubits")
    if kind == "CS":
        return _controlled_s(qubits, "T", "TDG")
    if kind == "CSDG":
        return _controlled_s(qubits, "TDG", "T")
    if kind == "CCZ":
        return _ccz(qubits)
    if kind == "CCX":
        return _ccx(qubits)
    return _cswap(qubits)


def _controlled_s(qubits, forth, back):
    """Returns the gates of CS or CSDG, with the kinds of its T gates."""
    a, b = qubits
    return [(forth, (a,)), (forth, (b,)), ("CX", (a, b)), (back, (b,)), ("CX", (a, b))]


def _ccz(qubits):
    a, b, c = qubits
    return [
        ("T", (a,)), ("T", (b,)), ("T", (c,)),
        ("CX", (a, b)), ("TDG", (b,)), ("CX", (a, b)),
        ("CX", (b, c)), ("TDG", (c,)), ("CX", (a, c)), ("T", (c,)),
        ("CX", (b, c)), ("TDG", (c,)), ("CX", (a, c)),
    ]


def _ccx(qubits):
    turn = ("H", (qubits[2],))
    return [turn] + _ccz(qubits) + [turn]


def _cswap(qubits):
    exchange = ("CX", (qubits[2], qubits[1]))
    return [exchange] + _ccx(qubits) + [exchange]
