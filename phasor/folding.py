"""Folding phase gates on qubits with the same values (points 36 to 38)."""

from phasor.gates import collect_turns, rotation_gates, steps_of


class Values:
    """The value of each qubit while a list of gates is read.

    A value is a number: bit 0 is the constant, and the bits above it are the
    set of variables.
    """

    def __init__(self, width):
        self.numbers = [2 << qubit for qubit in range(width)]
        self.fresh = 2 << width

    def follow(self, gate):
        """Changes the values as a gate does."""
        kind, qubits = gate
        if kind == "H":
            self.numbers[qubits[0]] = self.fresh
            self.fresh *= 2
        elif kind == "X" or kind == "Y":
            self.numbers[qubits[0]] ^= 1
        elif kind == "CX":
            self.numbers[qubits[1]] ^= self.numbers[qubits[0]]
        elif kind == "SWAP":
            a, b = qubits
            self.numbers[a], self.numbers[b] = self.numbers[b], self.numbers[a]

    def variables_of(self, qubit):
        """Returns the set of the variables of a qubit, a number."""
        return self.numbers[qubit] >> 1

    def constant_of(self, qubit):
        """Returns the constant of a qubit."""
        return self.numbers[qubit] & 1


class Group:
    """The phase gates at which their qubits carry the same set of variables."""

    def __init__(self, first, constant):
        # The index of the first gate, and the constant of its value.
        self.first = first
        self.inverted = constant
        self.total = 0
        # What the negated gates multiply by: s steps on the inverted value
        # are s turns and -s steps on the value.
        self.turns = 0

    def add_gate(self, steps, constant):
        """Adds a gate with these steps and this constant of its value."""
        if constant != self.inverted:
            self.turns += steps
            steps = -steps
        self.total = (self.total + steps) % 8


def _groups_of(width, gates):
    """Returns the list of the groups, in the order of their first gates."""
    values = Values(width)
    groups = {}
    for index, gate in enumerate(gates):
        steps = steps_of(gate)
        if steps != 0:
            qubit = gate[1][0]
            variables = values.variables_of(qubit)
            constant = values.constant_of(qubit)
            if variables not in groups:
                groups[variables] = Group(index, constant)
            groups[variables].add_gate(steps, constant)
        values.follow(gate)
    return list(groups.values())


def phase_groups(width, gates):
    """Returns the index of the first gate and the total of each group."""
    return [(group.first, group.total) for group in _groups_of(width, gates)]


def fold_phases(width, gates):
    """Returns a list with the same operator and one rotation for each group."""
    groups = _groups_of(width, gates)
    totals = {group.first: group.total for group in groups}
    turns = sum([group.turns for group in groups])
    result = []
    for index, gate in enumerate(gates):
        if steps_of(gate) == 0:
            result.append(gate)
        elif index in totals:
            result.extend(rotation_gates(gate[1][0], totals[index]))
    return collect_turns(result + [("W", ())] * (turns % 8))
