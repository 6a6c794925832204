"""Clifford gates that are moved behind rotations (points 39 and 42)."""

from phasor.gates import collect_turns, inverse_list
from phasor.rotations import axis_gates, signed_rotation
from phasor.tableau import Tableau


class MovedGates:
    """The gates that are moved behind all rotations that are still to come."""

    def __init__(self, width):
        self.turns = 0
        self._moved = []
        # The tableau of the inverse of the moved gates.
        self._back = Tableau(width)

    def pass_before(self, axis, steps):
        """Returns the rotation that does before the gates what this one does behind them."""
        rotation, turns = signed_rotation(self._back.image(axis), steps)
        self.turns += turns
        return rotation

    def take(self, axis, steps):
        """Puts a rotation by even steps before all moved gates."""
        taken = axis_gates(axis, steps)
        self._moved = taken + self._moved
        for gate in inverse_list(taken):
            self._back.apply(gate)

    def before_tail(self, tail):
        """Returns the moved gates and then a tail, with the gates W at the end."""
        return collect_turns(self._moved + list(tail) + [("W", ())] * (self.turns % 8))
