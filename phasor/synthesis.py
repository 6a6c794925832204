"""Gates for a tableau, and short lists of Clifford gates (points 19 and 20)."""

from phasor.circuit import Circuit
from phasor.errors import NotClifford, TooLarge
from phasor.gates import inverse_list, is_t
from phasor.matrix import phase_between
from phasor.pauli import letter_of
from phasor.simulate import run
from phasor.tableau import Tableau, tableau_of

MAX_CLIFFORD_WIDTH = 6

# For each sign of the images of X and of Z, by phases 0 and 2, the gate that
# makes both signs positive.
SIGN_KINDS = {(2, 0): "Z", (0, 2): "X", (2, 2): "Y"}


def synthesize(tableau):
    """Returns a list of Clifford gates with the tableau."""
    # The gates of the undoing lead to the identity; their inverses lead back.
    undoing = Undoing(tableau)
    for qubit in range(tableau.width):
        _undo_x(undoing, qubit)
        _undo_z(undoing, qubit)
        _undo_signs(undoing, qubit)
    return inverse_list(undoing.applied)


class Undoing:
    """A copy of a tableau, and the gates that were applied to it."""

    def __init__(self, tableau):
        self.tableau = tableau.then(Tableau(tableau.width))
        self.applied = []

    def execute(self, kind, *qubits):
        """Applies a gate to the copy."""
        self.tableau.apply((kind, qubits))
        self.applied.append((kind, qubits))

    def letter_of_x(self, at, qubit):
        """Returns the letter of a qubit in the image of X on the qubit at."""
        return letter_of(self.tableau.image_of_x(at), qubit)

    def letter_of_z(self, at, qubit):
        """Returns the letter of a qubit in the image of Z on the qubit at."""
        return letter_of(self.tableau.image_of_z(at), qubit)


def _undo_x(undoing, at):
    """Makes the image of X on the qubit X or -X there.

    The image is the identity on the qubits before, since it commutes with
    their X and Z, which are undone already.
    """
    width = undoing.tableau.width
    others = []
    for qubit in range(at, width):
        letter = undoing.letter_of_x(at, qubit)
        if letter == "Z":
            undoing.execute("H", qubit)
        if letter == "Y":
            undoing.execute("S", qubit)
        if letter != "I" and qubit != at:
            others.append(qubit)
    if undoing.letter_of_x(at, at) == "I":
        undoing.execute("CX", others[0], at)
    for qubit in others:
        undoing.execute("CX", at, qubit)


def _undo_z(undoing, at):
    """Makes the image of Z on the qubit Z or -Z there, and keeps that of X."""
    width = undoing.tableau.width
    if undoing.letter_of_z(at, at) == "Y":
        # These three gates map Y to Z or -Z and keep X.
        undoing.execute("H", at)
        undoing.execute("S", at)
        undoing.execute("H", at)
    for qubit in range(at + 1, width):
        letter = undoing.letter_of_z(at, qubit)
        if letter == "Y":
            undoing.execute("S", qubit)
        if letter == "X" or letter == "Y":
            undoing.execute("H", qubit)
        if letter != "I":
            undoing.execute("CX", qubit, at)


def _undo_signs(undoing, at):
    x_phase = undoing.tableau.image_of_x(at)[0]
    z_phase = undoing.tableau.image_of_z(at)[0]
    if (x_phase, z_phase) in SIGN_KINDS:
        undoing.execute(SIGN_KINDS[(x_phase, z_phase)], at)


def same_clifford(width, gates):
    """Returns a short list with the operator of a list of Clifford gates."""
    for gate in gates:
        if is_t(gate):
            raise NotClifford("there is a T gate")
    if width > MAX_CLIFFORD_WIDTH:
        raise TooLarge("the width is more than 6")
    result = synthesize(tableau_of(width, gates))
    # The operators are equal up to phase, so one column tells the phase.
    wanted = tuple(run(Circuit(width, gates), 0))
    found = tuple(run(Circuit(width, result), 0))
    turns = phase_between((wanted,), (found,))
    return result + [("W", ())] * turns
