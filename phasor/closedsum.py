"""Closed sums: the diagonals of path sums (points 67 and 68)."""

from phasor.errors import TooLarge
from phasor.products import sum_of_turns

MAX_INNER = 12

# With more inner variables, a second order takes too much time.
MAX_RETRIED = 2000


def check_inner(count):
    """Raises TooLarge if there are more than 12 inner variables."""
    if count > MAX_INNER:
        raise TooLarge("there are more than 12 inner variables")


class ClosedSum:
    """A sum over inner variables, with the variable from which on it is reduced."""

    def __init__(self, inner_sum, middle):
        self._middle = middle
        self._take(inner_sum)

    def _take(self, inner_sum):
        self._sum = inner_sum
        self.inner = len(inner_sum.variables)
        self.broken = inner_sum.broken

    def value(self, index):
        """Returns the value for an index, a scaled number."""
        check_inner(self.inner)
        turns = self._sum.products.totals(2 * index, list(self._sum.variables))
        return sum_of_turns(turns, self._sum.roots)

    def reduce(self):
        """Applies the rules until none applies or the sum is broken."""
        reduced = self._sum.clone()
        reduced.reduce_by_growth()
        if reduced.is_open() and self.inner <= MAX_RETRIED:
            # Which variables are left depends on the order. This one leads from two
            # lists that are inverse to each other back to nothing.
            other = self._sum.clone()
            other.reduce_from(self._middle)
            if not other.is_open():
                reduced = other
        self._take(reduced)

    def constant(self):
        """Returns the turns if the value is w^turns for every index, otherwise None."""
        if self.broken or self.inner > 0 or self._sum.roots != 0:
            return None
        if not self._sum.products.only_turns():
            return None
        return self._sum.products.steps_at(0)
