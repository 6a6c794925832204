"""Layers of commuting rotations (points 44 to 46)."""

from phasor.codes import MAX_CODE_WIDTH, reduce_polynomial
from phasor.merging import merge_rotations
from phasor.moving import MovedGates
from phasor.pauli import bits_of, commutes, letter_of, pauli_image
from phasor.polynomial import PhasePolynomial
from phasor.rotations import from_rotations, signed_rotation, to_rotations
from phasor.tableau import tableau_of


def rotation_layers(rotations):
    """Returns the list of the layers, each a list of rotations."""
    layers = []
    for rotation in rotations:
        number = _layer_number(layers, rotation[0])
        if number == len(layers):
            layers.append([])
        layers[number].append(rotation)
    return layers


def _layer_number(layers, axis):
    """Returns the layer number of an axis behind the rotations of the layers."""
    for number in range(len(layers), 0, -1):
        for other, _ in layers[number - 1]:
            if not commutes(other, axis):
                return number
    return 0


def diagonal_gates(width, axes):
    """Returns Clifford gates whose images of commuting axes have no X and no Y."""
    images = list(axes)
    gates = []
    for at in range(len(images)):
        if images[at][1] != 0:
            found = _gates_without_x(images[at])
            gates.extend(found)
            images = [_image_under(found, image) for image in images]
    return gates


def _image_under(gates, pauli):
    for gate in gates:
        pauli = pauli_image(gate, pauli)
    return pauli


def _gates_without_x(axis):
    """Returns gates under which an axis has no X and no Y, and which keep those without.

    All gates before H map products of Z to such products. The axis is X on the
    qubit then, and I or Z elsewhere, so the products that commute with it have
    no Z on the qubit, and H does not change them.
    """
    target, *others = bits_of(axis[1])
    gates = [("CX", (target, qubit)) for qubit in others]
    if letter_of(_image_under(gates, axis), target) == "Y":
        gates.append(("S", (target,)))
    return gates + [("H", (target,))]


def reduce_layers(width, rotations, tail):
    """Returns a rotation form in which each layer has the fewest odd terms."""
    if width > MAX_CODE_WIDTH:
        return merge_rotations(width, rotations, tail)
    moved = MovedGates(width)
    kept = []
    for layer in rotation_layers(rotations):
        passed = [moved.pass_before(axis, steps) for axis, steps in layer]
        kept.extend(_reduce_layer(width, passed, moved))
    return merge_rotations(width, kept, moved.before_tail(tail))


def _reduce_layer(width, layer, moved):
    """Returns the reduced rotations of a layer. Clifford gates are added to the moved ones."""
    forth = tableau_of(width, diagonal_gates(width, [axis for axis, _ in layer]))
    reduced = reduce_polynomial(_layer_polynomial(forth, layer))
    if reduced.odd_count() == len(layer):
        return layer
    back = forth.inverse()
    moved.turns += reduced.turns
    result = []
    for mask, term_steps in reduced.terms:
        rotation, turns = signed_rotation(back.image((0, 0, mask)), term_steps)
        axis, steps = rotation
        moved.turns += turns
        single = _odd_part(steps)
        if single != 0:
            result.append((axis, single))
        moved.take(axis, steps - single)
    return result


def _layer_polynomial(forth, layer):
    """Returns the phase polynomial of a layer under the diagonal gates with a tableau."""
    result = PhasePolynomial(forth.width)
    for axis, steps in layer:
        rotation, turns = signed_rotation(forth.image(axis), steps)
        result.turns = (result.turns + turns) % 8
        result.add_term(rotation[0][2], rotation[1])
    return result


def _odd_part(steps):
    """Returns the steps 1 or 7 of the rotation for odd steps, and 0 for even ones."""
    if steps % 2 == 0:
        return 0
    if steps < 4:
        return 1
    return 7


def layer_t(width, gates):
    """Returns the gates of the reduced form of the merged form of a list of gates."""
    rotations, tail = to_rotations(width, gates)
    merged, merged_tail = merge_rotations(width, rotations, tail)
    reduced, reduced_tail = reduce_layers(width, merged, merged_tail)
    return from_rotations(reduced, reduced_tail)
