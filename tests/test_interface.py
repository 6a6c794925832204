"""The names and the arguments of the interface."""

import importlib
import inspect
import unittest

FUNCTIONS = {
    "ring": """ring_add(x, y) ring_sub(x, y) ring_neg(x) ring_mul(x, y) ring_conjugate(x)
        ring_bullet(x) ring_turn(x, steps) ring_times_root(x) ring_over_root(x)
        ring_abs_square(x) ring_norm(x) ring_divide(x, y)""",
    "scaled": """lowest(number, exponent) scaled_add(x, y) scaled_sub(x, y)
        scaled_mul(x, y) scaled_neg(x) scaled_conjugate(x) scaled_turn(x, steps)
        scaled_abs_square(x) phase_of(x)""",
    "matrix": """mat_identity(size) mat_mul(a, b) mat_add(a, b) mat_scale(m, x)
        mat_adjoint(m) mat_kron(a, b) mat_trace(m) is_unitary(m) phase_between(a, b)""",
    "gates": """gate_fits(gate, width) gate_inverse(gate) steps_of(gate) is_t(gate)
        rotation_gates(qubit, steps) gate_text(gate) count_t(gates) count_two(gates)
        collect_turns(gates) used_qubits(gates)""",
    "macros": "macro_gates(kind, qubits)",
    "reader": "read_circuit(text) write_circuit(circuit)",
    "simulate": """basis_state(width, index) apply_gate(state, gate) run(circuit, index)
        operator(circuit) phase_from(first, second) probability(circuit, start, end)""",
    "pauli": """weight(mask) pauli_mul(a, b) commutes(a, b) pauli_text(width, pauli)
        pauli_image(gate, pauli) pauli_gates(pauli)""",
    "tableau": "tableau_of(width, gates)",
    "synthesis": "synthesize(tableau) same_clifford(width, gates)",
    "bloch": "word_operator(word) bloch(word) bloch_exponent(word)",
    "normalform": """normal_form(word) form_word(form) matrix_form(matrix)
        least_t_of_word(word)""",
    "linear": """parity(mask) linear_of(width, gates) linear_target(rows, index)
        linear_then(first, second) linear_inverse(rows) linear_gates(rows)""",
    "polynomial": "polynomial_of(width, gates) same_operator(first, second)",
    "network": """network_masks(width, gates) parity_network(width, masks)
        polynomial_gates(polynomial)""",
    "codes": """code_words(width) nearest_word(width, word) reduce_polynomial(polynomial)
        least_t_of_polynomial(polynomial)""",
    "folding": "phase_groups(width, gates) fold_phases(width, gates)",
    "rotations": """axis_gates(axis, steps) to_rotations(width, gates)
        from_rotations(rotations, tail)""",
    "merging": "merge_rotations(width, rotations, tail) merge_t(width, gates)",
    "layers": """rotation_layers(rotations) diagonal_gates(width, axes)
        reduce_layers(width, rotations, tail) layer_t(width, gates)""",
    "cancelling": "gates_commute(first, second) cancel(width, gates)",
    "windows": """reduce_runs(width, gates) shorten_cliffords(width, gates)
        reduce_sections(width, gates)""",
    "passes": """run_pass(name, circuit) cost(circuit)
        optimize(circuit, *, passes=PASSES, rounds=2)""",
    "device": "line_device(places) grid_device(rows, columns)",
    "layout": "first_order(device, circuit)",
    "routing": """route(device, circuit, order) least_route(device, circuit, order)
        end_order(order, steps) placed_gates(circuit, order, steps)""",
    "lowering": "lower(device, gates)",
    "restoring": "restore_steps(device, order, goal)",
    "timing": "time_steps(gates) depth(gates)",
    "pathsum": "path_sum_of(circuit)",
    "audit": "audit(first, second)",
    "compiler": "audit_compiled(compiled, circuit)",
    "program": "write_program(compiled) read_program(text, device)",
}

CLASSES = {
    ("circuit", "Circuit"): """__init__(self, width, gates=()) add(self, kind, *qubits)
        then(self, other) inverse(self) mapped(self, places, *, width) count_t(self)
        __len__(self)""",
    ("tableau", "Tableau"): """__init__(self, width) image_of_x(self, qubit)
        image_of_z(self, qubit) apply(self, gate) image(self, pauli) then(self, other)
        inverse(self) same_as(self, other)""",
    ("polynomial", "PhasePolynomial"): """__init__(self, width) apply(self, gate)
        add_term(self, mask, steps) value(self, index) target(self, index)
        odd_count(self)""",
    ("device", "Device"): """__init__(self, places, couplings) linked(self, a, b)
        directed(self, a, b) neighbors(self, place) distance(self, a, b) path(self, a, b)""",
    ("layout", "Layout"): """__init__(self, order) place_of(self, qubit)
        holder_of(self, place) swap(self, a, b)""",
    ("pathsum", "PathSum"): """__init__(self, width) apply(self, gate)
        amplitude(self, start, end) diagonal(self)""",
    ("closedsum", "ClosedSum"): "value(self, index) reduce(self) constant(self)",
    ("compiler", "Compiled"): "report(self)",
    ("compiler", "Compiler"): """__init__(self, device, *, passes=PASSES, rounds=2,
        search=False, restore=False) run(self, circuit, *, start=None) run_text(self, text)""",
    ("machine", "Machine"): """__init__(self, device) load(self, program, values) step(self)
        run(self) amplitude(self, values)""",
}

PROPERTIES = {
    ("circuit", "Circuit"): ("gates",),
    ("polynomial", "PhasePolynomial"): ("terms", "rows"),
    ("device", "Device"): ("couplings",),
    ("layout", "Layout"): ("order",),
    ("program", "Program"): ("steps",),
}

PASSES = ("cancel", "fold", "runs", "rotations", "layers", "sections", "cliffords")


def heads(text):
    """The pairs of a name and its arguments."""
    for head in " ".join(text.split()).replace(") ", ")\n").split("\n"):
        name, arguments = head.split("(", 1)
        yield name, "(" + arguments.replace("PASSES", repr(PASSES))


def arguments_of(function):
    """The arguments as the interface writes them, without annotations."""
    signature = inspect.signature(function)
    plain = [
        parameter.replace(annotation=inspect.Parameter.empty)
        for parameter in signature.parameters.values()
    ]
    return str(inspect.Signature(plain))


class InterfaceTest(unittest.TestCase):
    def test_functions(self):
        for name, text in FUNCTIONS.items():
            module = importlib.import_module("phasor." + name)
            for function, arguments in heads(text):
                with self.subTest(module=name, function=function):
                    found = getattr(module, function)
                    self.assertTrue(inspect.isfunction(found))
                    self.assertEqual(found.__module__, "phasor." + name)
                    self.assertEqual(arguments_of(found), arguments)

    def test_classes(self):
        for (name, class_name), text in CLASSES.items():
            found = getattr(importlib.import_module("phasor." + name), class_name)
            self.assertEqual(found.__module__, "phasor." + name)
            for method, arguments in heads(text):
                with self.subTest(class_name=class_name, method=method):
                    self.assertIn(method, vars(found))
                    self.assertEqual(arguments_of(vars(found)[method]), arguments)

    def test_properties(self):
        for (name, class_name), names in PROPERTIES.items():
            found = getattr(importlib.import_module("phasor." + name), class_name)
            for word in names:
                with self.subTest(class_name=class_name, word=word):
                    self.assertIsInstance(vars(found)[word], property)

    def test_constants(self):
        from phasor.gates import KINDS
        from phasor.macros import MACROS
        from phasor.normalform import CLIFFORD_WORDS
        from phasor.passes import PASSES as found
        from phasor.reader import MAX_GATES
        self.assertEqual(found, PASSES)
        self.assertEqual(
            KINDS, ("H", "X", "Y", "Z", "S", "SDG", "T", "TDG", "CX", "CZ", "SWAP", "W"))
        self.assertEqual(MACROS, ("CS", "CSDG", "CCZ", "CCX", "CSWAP"))
        self.assertEqual(MAX_GATES, 5000)
        self.assertIs(type(CLIFFORD_WORDS), tuple)
        self.assertEqual(CLIFFORD_WORDS[:5], ("", "H", "S", "HS", "SH"))


if __name__ == "__main__":
    unittest.main()
