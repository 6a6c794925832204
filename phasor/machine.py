"""The machine that executes a program step by step (points 77 and 78)."""

from phasor.errors import NotReady, SizeMismatch
from phasor.scaled import scaled_turn
from phasor.sparse import SparseState


class Machine:
    """A machine for one device."""

    def __init__(self, device):
        self.time = 0
        self._places = device.places
        # The state is None until a program has been loaded.
        self._state = None
        self._groups = []
        self._end_order = []
        self._turns = 0

    def load(self, program, values):
        """Loads a program, and the values of the qubits."""
        self._check_values(values)
        self.time = 0
        self._state = SparseState(_index_at(program.start, values))
        self._groups = program.steps
        self._end_order = list(program.end)
        self._turns = program.turns

    def _check_values(self, values):
        if len(values) != self._places:
            raise SizeMismatch("there is not one value for each place")

    def _check_ready(self):
        if self._state is None:
            raise NotReady("no program has been loaded")

    def step(self):
        """Executes the next step. Returns False if there is none, otherwise True."""
        self._check_ready()
        if self.time == len(self._groups):
            return False
        for gate in self._groups[self.time]:
            self._state.apply(gate)
        self.time += 1
        return True

    def run(self):
        """Executes all steps that are left and returns their number."""
        self._check_ready()
        before = self.time
        while self.step():
            pass
        return self.time - before

    def amplitude(self, values):
        """Returns the result amplitude for the values of the qubits."""
        self._check_ready()
        self._check_values(values)
        return scaled_turn(self._state.amplitude(_index_at(self._end_order, values)), self._turns)


def _index_at(order, values):
    """Returns the index of the basis state with the value of each qubit at its place."""
    return sum([value << place for value, place in zip(values, order)])
