"""Gates, their inverses, rotation gates and lists of gates (points 6 to 8)."""

KINDS = ("H", "X", "Y", "Z", "S", "SDG", "T", "TDG", "CX", "CZ", "SWAP", "W")

# Kinds that do not stand here act on one qubit.
QUBIT_COUNTS = {"CX": 2, "CZ": 2, "SWAP": 2, "W": 0}

PHASE_STEPS = {"Z": 4, "S": 2, "SDG": 6, "T": 1, "TDG": 7}

# Kinds that do not stand here, W excepted, are their own inverses.
INVERSE_KINDS = {"S": "SDG", "SDG": "S", "T": "TDG", "TDG": "T"}

ROTATION_KINDS = ((), ("T",), ("S",), ("S", "T"), ("Z",), ("Z", "T"), ("SDG",), ("TDG",))


def gate_fits(gate, width):
    """Returns True if a gate fits a width, otherwise False."""
    kind, qubits = gate
    if width < 1 or kind not in KINDS:
        return False
    if len(qubits) != QUBIT_COUNTS.get(kind, 1):
        return False
    return different_below(qubits, width)


def different_below(numbers, limit):
    """Returns True if the numbers are different and in 0..limit-1."""
    for number in numbers:
        if number < 0 or number >= limit:
            return False
    return len(set(numbers)) == len(numbers)


def gate_inverse(gate):
    """Returns the inverse of a gate, a list of gates."""
    kind, qubits = gate
    if kind == "W":
        return [gate] * 7
    return [(INVERSE_KINDS.get(kind, kind), qubits)]


def inverse_list(gates):
    """Returns the inverses of the gates in reverse order."""
    inverses = []
    for gate in reversed(gates):
        inverses.extend(gate_inverse(gate))
    return inverses


def steps_of(gate):
    """Returns the steps of a phase gate, and 0 for any other gate."""
    return PHASE_STEPS.get(gate[0], 0)


def is_t(gate):
    """Returns True for a T gate, otherwise False."""
    return gate[0] == "T" or gate[0] == "TDG"


def rotation_gates(qubit, steps):
    """Returns the gates that rotate a qubit by 0 to 7 steps."""
    return [(kind, (qubit,)) for kind in ROTATION_KINDS[steps]]


def gate_text(gate):
    """Returns the line of a gate without a newline."""
    kind, qubits = gate
    return " ".join([kind] + [str(qubit) for qubit in qubits])


def count_t(gates):
    """Returns the number of T gates."""
    return len([gate for gate in gates if is_t(gate)])


def count_two(gates):
    """Returns the number of gates with two qubits."""
    return len([gate for gate in gates if len(gate[1]) == 2])


def cost_of(gates):
    """Returns the numbers of T gates, of two-qubit gates and of gates other than W."""
    return (count_t(gates), count_two(gates), len(without_turns(gates)))


def cheaper(first, second):
    """Returns the list with the lower cost, and the first one if they cost the same."""
    if cost_of(second) < cost_of(first):
        return second
    return first


def without_turns(gates):
    """Returns the gates other than W."""
    return [gate for gate in gates if gate[0] != "W"]


def collect_turns(gates):
    """Returns the other gates in their order, and the gates W modulo 8 behind them."""
    others = without_turns(gates)
    turns = (len(gates) - len(others)) % 8
    return others + [("W", ())] * turns


def moved_gates(gates, places):
    """Returns the gates with each qubit q replaced by places[q]."""
    return [(kind, tuple([places[qubit] for qubit in qubits])) for kind, qubits in gates]


def used_qubits(gates):
    """Returns the ascending list of the qubits of the gates."""
    return sorted({qubit for gate in gates for qubit in gate[1]})
