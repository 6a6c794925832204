"""A second, plain way to compute what the program computes, for the tests.

A plain number is a tuple of four fractions (or integers) and stands for
a + b w + c w^2 + d w^3. Nothing here uses the program.
"""

from fractions import Fraction
from random import Random

P_ZERO = (0, 0, 0, 0)
P_ONE = (1, 0, 0, 0)
P_ROOT = (0, 1, 0, -1)
P_I = (0, 0, 1, 0)

CLIFFORD_KINDS = ("H", "X", "Y", "Z", "S", "SDG", "CX", "CZ", "SWAP", "W")
ALL_KINDS = ("H", "X", "Y", "Z", "S", "SDG", "T", "TDG", "CX", "CZ", "SWAP", "W")
SIZES = {"CX": 2, "CZ": 2, "SWAP": 2, "W": 0}


def p_add(x, y):
    return tuple(p + q for p, q in zip(x, y))


def p_neg(x):
    return tuple(-p for p in x)


def p_mul(x, y):
    """The product of polynomials in w, with w^4 = -1."""
    result = [0, 0, 0, 0]
    for i, p in enumerate(x):
        for j, q in enumerate(y):
            sign = -1 if i + j >= 4 else 1
            result[(i + j) % 4] += sign * p * q
    return tuple(result)


def p_power(x, count):
    result = P_ONE
    for _ in range(count):
        result = p_mul(result, x)
    return result


def p_turn(x, steps):
    """x times w^steps: w has the order 8."""
    for _ in range(steps % 8):
        x = p_mul(x, (0, 1, 0, 0))
    return x


def p_conjugate(x):
    """The conjugate of w is w^7."""
    result = P_ZERO
    for k, p in enumerate(x):
        result = p_add(result, p_mul((p, 0, 0, 0), p_power((0, 1, 0, 0), 7 * k % 8)))
    return result


def value(scaled):
    """The plain number with fractions that a scaled number stands for."""
    number, exponent = scaled
    if exponent < 0:
        return tuple(Fraction(p) for p in p_mul(number, p_power(P_ROOT, -exponent)))
    # 1 / root is root / 2.
    odd = exponent % 2
    top = p_mul(number, P_ROOT) if odd else number
    below = 2 ** ((exponent + odd) // 2)
    return tuple(Fraction(p, below) for p in top)


def is_lowest(scaled):
    """Whether the value is a scaled number in lowest form, of the right kinds."""
    if type(scaled) is not tuple or len(scaled) != 2:
        return False
    number, exponent = scaled
    if type(number) is not tuple or len(number) != 4 or type(exponent) is not int:
        return False
    if any(type(p) is not int for p in number) or exponent < 0:
        return False
    divisible = (number[0] + number[2]) % 2 == 0 and (number[1] + number[3]) % 2 == 0
    return exponent == 0 or not divisible


# A gate as a matrix over the values of its qubits (the first one is bit 0):
# its rows, and how often all cells are divided by 2.
_R = P_ROOT
_O = P_ZERO
_1 = P_ONE
_M = p_neg(P_ONE)
PLAIN_GATES = {
    "H": (((_R, _R), (_R, p_neg(_R))), 1),
    "X": (((_O, _1), (_1, _O)), 0),
    "Y": (((_O, p_neg(P_I)), (P_I, _O)), 0),
    "Z": (((_1, _O), (_O, _M)), 0),
    "S": (((_1, _O), (_O, P_I)), 0),
    "SDG": (((_1, _O), (_O, p_neg(P_I))), 0),
    "T": (((_1, _O), (_O, (0, 1, 0, 0))), 0),
    "TDG": (((_1, _O), (_O, (0, 0, 0, -1))), 0),
    "CX": (((_1, _O, _O, _O), (_O, _O, _O, _1), (_O, _O, _1, _O), (_O, _1, _O, _O)), 0),
    "CZ": (((_1, _O, _O, _O), (_O, _1, _O, _O), (_O, _O, _1, _O), (_O, _O, _O, _M)), 0),
    "SWAP": (((_1, _O, _O, _O), (_O, _O, _1, _O), (_O, _1, _O, _O), (_O, _O, _O, _1)), 0),
    "W": ((((0, 1, 0, 0),),), 0),
}


def local_index(index, qubits):
    return sum(((index >> qubit) & 1) << at for at, qubit in enumerate(qubits))


def with_local(index, qubits, local):
    for at, qubit in enumerate(qubits):
        index &= ~(1 << qubit)
        index |= ((local >> at) & 1) << qubit
    return index


def plain_apply(state, gate):
    """A state is a pair: a list of integer numbers, and the halvings of all."""
    amplitudes, halvings = state
    kind, qubits = gate
    rows, more = PLAIN_GATES[kind]
    result = []
    for index in range(len(amplitudes)):
        total = P_ZERO
        for local, cell in enumerate(rows[local_index(index, qubits)]):
            if cell != P_ZERO:
                total = p_add(total, p_mul(cell, amplitudes[with_local(index, qubits, local)]))
        result.append(total)
    return result, halvings + more


def plain_run(width, gates, index):
    """The list of the amplitudes, with fractions."""
    state = ([P_ONE if k == index else P_ZERO for k in range(2 ** width)], 0)
    for gate in gates:
        state = plain_apply(state, gate)
    amplitudes, halvings = state
    return [tuple(Fraction(p, 2 ** halvings) for p in x) for x in amplitudes]


def plain_columns(width, gates):
    return [plain_run(width, gates, index) for index in range(2 ** width)]


def turned_columns(columns, steps):
    return [[p_turn(x, steps) for x in column] for column in columns]


def plain_phase(first, second):
    """The k with first = w^k second for lists of columns, or None."""
    for k in range(8):
        if first == turned_columns(second, k):
            return k
    return None


def plain_matmul(a, b):
    """The product of lists of columns."""
    size = len(a)
    result = []
    for column in b:
        new = [P_ZERO] * size
        for k, factor in enumerate(column):
            if any(factor):
                new = [p_add(x, p_mul(factor, y)) for x, y in zip(new, a[k])]
        result.append(new)
    return result


def pauli_columns(width, pauli):
    """The operator of a Pauli operator: its columns."""
    phase, x, z = pauli
    columns = []
    for index in range(2 ** width):
        amplitude = p_turn(P_ONE, 2 * phase)
        for qubit in range(width):
            one = (index >> qubit) & 1
            has_x = (x >> qubit) & 1
            has_z = (z >> qubit) & 1
            if has_x and has_z:
                amplitude = p_mul(amplitude, p_neg(P_I) if one else P_I)
            elif has_z and one:
                amplitude = p_neg(amplitude)
        column = [P_ZERO] * 2 ** width
        column[index ^ x] = amplitude
        columns.append(column)
    return columns


def matrix_columns(matrix):
    """The columns of a matrix of the program, as plain numbers."""
    return [[value(row[j]) for row in matrix] for j in range(len(matrix[0]))]


def drawn_gates(seed, width, count, kinds=ALL_KINDS):
    """A list of gates that depends on the seed only."""
    random = Random(seed)
    fitting = [kind for kind in kinds if SIZES.get(kind, 1) <= width]
    gates = []
    for _ in range(count):
        kind = random.choice(fitting)
        gates.append((kind, tuple(random.sample(range(width), SIZES.get(kind, 1)))))
    return gates


def all_gates(width, kinds=ALL_KINDS):
    """Each kind on each of its choices of qubits."""
    gates = []
    for kind in kinds:
        size = SIZES.get(kind, 1)
        if size == 0:
            gates.append((kind, ()))
        if size == 1:
            gates.extend((kind, (a,)) for a in range(width))
        if size == 2:
            gates.extend((kind, (a, b)) for a in range(width) for b in range(width) if a != b)
    return gates


def inverse_gates(gates):
    """The inverse of a list of gates, written down once more."""
    others = {"S": "SDG", "SDG": "S", "T": "TDG", "TDG": "T"}
    result = []
    for kind, qubits in reversed(gates):
        if kind == "W":
            result.extend([("W", ())] * 7)
        else:
            result.append((others.get(kind, kind), qubits))
    return result


# The steps of the phase gates, for the sparse way below.
PLAIN_STEPS = {"Z": 4, "S": 2, "SDG": 6, "T": 1, "TDG": 7}


def sparse_turn(x, steps):
    """x times w^steps: each w moves the parts up, and the last one comes back negated."""
    for _ in range(steps % 8):
        x = (-x[3], x[0], x[1], x[2])
    return x


def sparse_step(state, gate):
    """The state after a gate, for dicts from indexes to numbers that are not 0.

    H leaves out the division by root.
    """
    kind, qubits = gate
    result = {}
    for index, x in state.items():
        bits = [(index >> qubit) & 1 for qubit in qubits]
        if kind == "H":
            low = index & ~(1 << qubits[0])
            result[low] = p_add(result.get(low, P_ZERO), x)
            high = low | (1 << qubits[0])
            result[high] = p_add(result.get(high, P_ZERO), p_neg(x) if bits[0] else x)
        elif kind == "X":
            result[index ^ (1 << qubits[0])] = x
        elif kind == "Y":
            result[index ^ (1 << qubits[0])] = sparse_turn(x, 6 if bits[0] else 2)
        elif kind == "CX":
            result[index ^ (bits[0] << qubits[1])] = x
        elif kind == "CZ":
            result[index] = sparse_turn(x, 4 * bits[0] * bits[1])
        elif kind == "SWAP":
            result[with_local(index, qubits, bits[1] + 2 * bits[0])] = x
        elif kind == "W":
            result[index] = sparse_turn(x, 1)
        else:
            result[index] = sparse_turn(x, PLAIN_STEPS[kind] * bits[0])
    return {index: x for index, x in result.items() if any(x)}


def sparse_columns(width, gates):
    """The columns of the operator, dicts from indexes to the amplitudes that are not 0."""
    roots = sum(1 for kind, _ in gates if kind == "H")
    columns = []
    for start in range(2 ** width):
        state = {start: P_ONE}
        for gate in gates:
            state = sparse_step(state, gate)
        columns.append({index: value((x, roots)) for index, x in state.items()})
    return columns


def sparse_turned(columns, steps):
    return [{k: p_turn(x, steps) for k, x in column.items()} for column in columns]


def sparse_phase(first, second):
    """The k with first = w^k second for lists of sparse columns, or None."""
    for k in range(8):
        if first == sparse_turned(second, k):
            return k
    return None


def t_count(gates):
    return sum(1 for kind, _ in gates if kind in ("T", "TDG"))


def other_than_w(gates):
    return [gate for gate in gates if gate[0] != "W"]


def plain_parity(number):
    """0 or 1, from the written bits."""
    return bin(number).count("1") % 2


def up_to_phase(columns):
    """A key that lists of columns share if and only if they are equal up to phase."""
    first = next(x for column in columns for x in column if any(x))
    # The eight turned values of a number that is not 0 are different.
    turns = min(range(8), key=lambda k: sparse_turn(first, k))
    return tuple(tuple(sparse_turn(x, turns) for x in column) for column in columns)


def pauli_step(state, pauli):
    """The state, a dict as in sparse_step, after a Pauli operator."""
    phase, x, z = pauli
    result = {}
    for index, amplitude in state.items():
        # Y is i X Z; Z changes the sign of 1.
        steps = 2 * phase + 2 * bin(x & z).count("1") + 4 * bin(index & z).count("1")
        result[index ^ x] = sparse_turn(amplitude, steps)
    return result


def rotation_step(state, axis, steps):
    """The state after twice half (1 + w^s) plus half (1 - w^s) times the axis."""
    turn = sparse_turn(P_ONE, steps)
    result = {index: p_mul(p_add(P_ONE, turn), x) for index, x in state.items()}
    for index, x in pauli_step(state, axis).items():
        more = p_mul(p_add(P_ONE, p_neg(turn)), x)
        result[index] = p_add(result.get(index, P_ZERO), more)
    return {index: x for index, x in result.items() if any(x)}


def form_columns(width, rotations, tail):
    """The sparse columns of the operator of a rotation form."""
    columns = []
    roots = 2 * len(rotations) + sum(1 for kind, _ in tail if kind == "H")
    for start in range(2 ** width):
        state = {start: P_ONE}
        for axis, steps in rotations:
            state = rotation_step(state, axis, steps)
        for gate in tail:
            state = sparse_step(state, gate)
        columns.append({index: value((x, roots)) for index, x in state.items()})
    return columns


def plain_commute(a, b):
    """Whether two Pauli operators commute: whether they differ on an even number of qubits."""
    differ = 0
    for qubit in range(max(part.bit_length() for part in a[1:] + b[1:])):
        letters = [((p[1] >> qubit) & 1, (p[2] >> qubit) & 1) for p in (a, b)]
        if (0, 0) not in letters and letters[0] != letters[1]:
            differ += 1
    return differ % 2 == 0
