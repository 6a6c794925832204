"""Pauli operators (points 16 and 17)."""

from phasor.errors import NotClifford
from phasor.gates import is_t

PHASE_TEXTS = ("+", "+i", "-", "-i")

# The letter of a qubit, by its bit of x plus 2 times its bit of z.
LETTERS = "IXZY"

# For each kind the images of I, X, Z and Y, in the order of LETTERS.
IMAGES = {
    "H": ((0, 0, 0), (0, 0, 1), (0, 1, 0), (2, 1, 1)),
    "X": ((0, 0, 0), (0, 1, 0), (2, 0, 1), (2, 1, 1)),
    "Y": ((0, 0, 0), (2, 1, 0), (2, 0, 1), (0, 1, 1)),
    "Z": ((0, 0, 0), (2, 1, 0), (0, 0, 1), (2, 1, 1)),
    "S": ((0, 0, 0), (0, 1, 1), (0, 0, 1), (2, 1, 0)),
    "SDG": ((0, 0, 0), (2, 1, 1), (0, 0, 1), (0, 1, 0)),
}


def weight(mask):
    """Returns the number of bits that are set."""
    digits = f"{mask:b}"
    return digits.count("1")


def bits_of(mask):
    """Returns the ascending list of the bits that are set."""
    return [qubit for qubit in range(mask.bit_length()) if bit_of(mask, qubit) == 1]


def bit_of(mask, qubit):
    """Returns the bit of a qubit in a mask, 0 or 1."""
    return (mask >> qubit) & 1


def pauli_mul(a, b):
    """Returns the product a b."""
    first_phase, first_x, first_z = a
    second_phase, second_x, second_z = b
    x = first_x ^ second_x
    z = first_z ^ second_z
    # With Y = i X Z, each Z of a that moves behind an X of b changes the sign.
    phase = first_phase + weight(first_x & first_z)
    phase += second_phase + weight(second_x & second_z)
    phase += 2 * weight(first_z & second_x) - weight(x & z)
    return (phase % 4, x, z)


def commutes(a, b):
    """Returns True if a b = b a, otherwise False."""
    return (weight(a[1] & b[2]) + weight(a[2] & b[1])) % 2 == 0


def letter_of(pauli, qubit):
    """Returns the letter I, X, Y or Z of a qubit."""
    return LETTERS[_letter_index(pauli, qubit)]


def _letter_index(pauli, qubit):
    return bit_of(pauli[1], qubit) + 2 * bit_of(pauli[2], qubit)


def pauli_text(width, pauli):
    """Returns the sign of a Pauli operator and one letter for each qubit."""
    letters = [letter_of(pauli, qubit) for qubit in range(width)]
    return PHASE_TEXTS[pauli[0]] + "".join(letters)


def pauli_image(gate, pauli):
    """Returns the image under the operator of a Clifford gate."""
    kind, qubits = gate
    if is_t(gate):
        raise NotClifford("the image under a T gate is not a Pauli operator")
    if kind in IMAGES:
        return _one_qubit_image(kind, qubits[0], pauli)
    if kind == "CX":
        return _cx_image(qubits[0], qubits[1], pauli)
    if kind == "CZ":
        return _cz_image(qubits[0], qubits[1], pauli)
    if kind == "SWAP":
        return _swap_image(qubits[0], qubits[1], pauli)
    return pauli


def _one_qubit_image(kind, qubit, pauli):
    phase, x, z = pauli
    bit = 1 << qubit
    change, x_bit, z_bit = IMAGES[kind][_letter_index(pauli, qubit)]
    x ^= (x & bit) ^ (x_bit << qubit)
    z ^= (z & bit) ^ (z_bit << qubit)
    return ((phase + change) % 4, x, z)


def _cx_image(control, target, pauli):
    phase, x, z = pauli
    x_control = bit_of(x, control)
    z_control = bit_of(z, control)
    x_target = bit_of(x, target)
    z_target = bit_of(z, target)
    # The sign changes for X Z and for Y Y only.
    if x_control == 1 and z_target == 1 and x_target == z_control:
        phase = (phase + 2) % 4
    return (phase, x ^ (x_control << target), z ^ (z_target << control))


def _cz_image(a, b, pauli):
    """CZ is CX between two gates H on the target."""
    inner = _cx_image(a, b, _one_qubit_image("H", b, pauli))
    return _one_qubit_image("H", b, inner)


def _swap_image(a, b, pauli):
    phase, x, z = pauli
    return (phase, _exchanged(x, a, b), _exchanged(z, a, b))


def _exchanged(mask, a, b):
    """Returns the mask with two of its bits exchanged."""
    if bit_of(mask, a) == bit_of(mask, b):
        return mask
    return mask ^ (1 << a) ^ (1 << b)


def pauli_gates(pauli):
    """Returns a list of gates X, Y, Z and W whose operator is the Pauli operator."""
    phase, x, z = pauli
    gates = []
    for qubit in range((x | z).bit_length()):
        letter = letter_of(pauli, qubit)
        if letter != "I":
            gates.append((letter, (qubit,)))
    return gates + [("W", ())] * (2 * phase)
