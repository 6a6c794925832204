"""Tableaux: operators of Clifford gates without their phase (point 18)."""

from phasor.errors import InvalidGate, NotClifford, SizeMismatch
from phasor.gates import gate_fits, is_t
from phasor.pauli import bit_of, commutes, pauli_image, pauli_mul, weight


class Tableau:
    """The images of X and of Z on each qubit."""

    def __init__(self, width):
        if width < 1:
            raise InvalidGate("the width is below 1")
        self.width = width
        self._x_images = [(0, 1 << qubit, 0) for qubit in range(width)]
        self._z_images = [(0, 0, 1 << qubit) for qubit in range(width)]

    def image_of_x(self, qubit):
        """Returns the image of X on the qubit."""
        return self._x_images[qubit]

    def image_of_z(self, qubit):
        """Returns the image of Z on the qubit."""
        return self._z_images[qubit]

    def apply(self, gate):
        """Applies a gate behind the operator."""
        if not gate_fits(gate, self.width):
            raise InvalidGate("the gate does not fit the width")
        if is_t(gate):
            raise NotClifford("a tableau has no T gates")
        self._x_images = [pauli_image(gate, image) for image in self._x_images]
        self._z_images = [pauli_image(gate, image) for image in self._z_images]

    def apply_before(self, gate):
        """Puts a Clifford gate that fits in front of the operator."""
        # The images under the gate itself come first, then those of the operator.
        x_images = [self.image(pauli_image(gate, (0, 1 << qubit, 0))) for qubit in gate[1]]
        z_images = [self.image(pauli_image(gate, (0, 0, 1 << qubit))) for qubit in gate[1]]
        for qubit, x_image, z_image in zip(gate[1], x_images, z_images):
            self._x_images[qubit] = x_image
            self._z_images[qubit] = z_image

    def image(self, pauli):
        """Returns the image of a Pauli operator on the qubits."""
        phase, x, z = pauli
        # A factor Y is i X Z.
        result = ((phase + weight(x & z)) % 4, 0, 0)
        for qubit in range(self.width):
            if bit_of(x, qubit) == 1:
                result = pauli_mul(result, self._x_images[qubit])
            if bit_of(z, qubit) == 1:
                result = pauli_mul(result, self._z_images[qubit])
        return result

    def then(self, other):
        """Returns the new tableau that executes this one and then the other one."""
        if self.width != other.width:
            raise SizeMismatch("the tableaux differ in their width")
        result = Tableau(self.width)
        result._x_images = [other.image(image) for image in self._x_images]
        result._z_images = [other.image(image) for image in self._z_images]
        return result

    def inverse(self):
        """Returns the new tableau of the inverse operator."""
        result = Tableau(self.width)
        result._x_images = [self._source(x_on) for x_on in result._x_images]
        result._z_images = [self._source(z_on) for z_on in result._z_images]
        return result

    def _source(self, pauli):
        """Returns the Hermitian operator whose image is the given Hermitian one."""
        x = 0
        z = 0
        # An operator has X on a qubit if it does not commute with Z there, and
        # two operators commute if their images do.
        for qubit in range(self.width):
            if not commutes(pauli, self._z_images[qubit]):
                x |= 1 << qubit
            if not commutes(pauli, self._x_images[qubit]):
                z |= 1 << qubit
        image = self.image((0, x, z))
        return ((pauli[0] - image[0]) % 4, x, z)

    def same_as(self, other):
        """Returns True if the widths and all images are equal, otherwise False."""
        if self.width != other.width:
            return False
        return self._x_images == other._x_images and self._z_images == other._z_images


def tableau_of(width, gates):
    """Returns the tableau of a list of gates."""
    result = Tableau(width)
    for gate in gates:
        result.apply(gate)
    return result
