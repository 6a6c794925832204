"""Passes over parts of a list: runs, stretches and sections (points 49 to 52)."""

from phasor.bloch import word_gates
from phasor.cancelling import cancel
from phasor.codes import MAX_CODE_WIDTH, reduce_polynomial
from phasor.gates import cheaper, collect_turns, count_t, moved_gates, without_turns
from phasor.network import polynomial_gates
from phasor.normalform import form_word, normal_form
from phasor.polynomial import polynomial_of
from phasor.synthesis import MAX_CLIFFORD_WIDTH, same_clifford


def reduce_runs(width, gates):
    """Returns a list in which every run has the least number of T gates."""
    words = [[] for _ in range(width)]
    result = []
    for gate in gates:
        kind, qubits = gate
        if len(qubits) == 1:
            words[qubits[0]].append(kind)
        else:
            for qubit in qubits:
                result.extend(_reduced_run(words[qubit], qubit))
                words[qubit] = []
            result.append(gate)
    for qubit in range(width):
        result.extend(_reduced_run(words[qubit], qubit))
    return collect_turns(result)


def _reduced_run(word, qubit):
    """Returns the gates of a run with this word, with the least number of T gates."""
    run = word_gates(word)
    # One T gate is never too many: the operator is not that of Clifford gates.
    if count_t(run) > 1:
        run = cheaper(run, cancel(1, word_gates(form_word(normal_form(word)))))
    return moved_gates(run, [qubit])


def shorten_cliffords(width, gates):
    """Returns a list with the same T gates in which no stretch is long."""
    return _shortened_parts(width, gates, ("T", "TDG"), _shortened_stretch)


def _shortened_parts(width, gates, borders, shorten):
    """Returns the list with each part between gates of the border kinds shortened."""
    result = []
    part = []
    for gate in gates:
        if gate[0] in borders:
            result.extend(shorten(width, part))
            result.append(gate)
            part = []
        else:
            part.append(gate)
    result.extend(shorten(width, part))
    return collect_turns(result)


def _shortened_stretch(width, stretch):
    """Returns the gates of a stretch, or others with the same operator."""
    length = len(without_turns(stretch))
    # A single gate is never the identity.
    if width > MAX_CLIFFORD_WIDTH or length < 2:
        return stretch
    found = same_clifford(width, stretch)
    if len(without_turns(found)) > length:
        return stretch
    if length > 4 * width * width + 10 * width:
        return found
    return cheaper(stretch, found)


def reduce_sections(width, gates):
    """Returns a list with the same gates H in which every section has few T gates."""
    return _shortened_parts(width, gates, ("H",), _reduced_section)


def _reduced_section(width, section):
    """Returns the gates of a section, or others with the same operator."""
    polynomial = polynomial_of(width, section)
    if width <= MAX_CODE_WIDTH:
        polynomial = reduce_polynomial(polynomial)
    return cheaper(section, polynomial_gates(polynomial))
