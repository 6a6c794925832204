"""Closed sums: the diagonals of path sums, and their reduction (points 67 and 68)."""

from phasor.errors import TooLarge
from phasor.products import sum_of_turns, variables_of

MAX_INNER = 12


def check_inner(count):
    """Raises TooLarge if there are more than 12 inner variables."""
    if count > MAX_INNER:
        raise TooLarge("there are more than 12 inner variables")


class ClosedSum:
    """The steps of products of inputs and inner variables, and a number of roots."""

    def __init__(self, variables, products, roots):
        self.inner = len(variables)
        self.broken = False
        # The inner variables that are left, by ascending numbers.
        self._variables = {variable: True for variable in variables}
        self._products = products
        self._roots = roots

    def solve(self, equations):
        """Makes the exclusive ors that the numbers stand for 0, one after the other."""
        left = list(equations)
        while len(left) > 0 and not self.broken:
            number, *left = left
            inner = self._inner_of(number)
            if len(inner) > 0:
                last = inner[-1]
                self._replace(last, number - last)
                left = [other ^ number if other & last != 0 else other for other in left]
            elif number != 0:
                self.broken = True

    def _inner_of(self, number):
        """Returns the ascending list of the inner variables in a number."""
        return [variable for variable in variables_of(number) if variable in self._variables]

    def _replace(self, variable, number):
        """Replaces an inner variable by the exclusive or that a number stands for."""
        self._products.substitute(variable, number)
        self._forget(variable)

    def _forget(self, variable):
        del self._variables[variable]
        self.inner -= 1

    def value(self, index):
        """Returns the value for an index, a scaled number."""
        check_inner(self.inner)
        return sum_of_turns(self._products.totals(2 * index, list(self._variables)), self._roots)

    def reduce(self):
        """Applies the rules until none applies or the sum is broken."""
        # Rules that make many new products block others, so they wait.
        limit = 1
        while self._reduce_within(limit):
            limit *= 2

    def _reduce_within(self, limit):
        """Applies the rules with little growth. Returns False if no rule is left."""
        found = False
        for variable in reversed(list(self._variables)):
            partners = self._partners(variable)
            if partners is not None and not self.broken:
                found = True
                if self._growth(variable, partners) <= limit:
                    self._remove(variable, partners)
        return found and not self.broken

    def _partners(self, variable):
        """Returns the sum of the variables in products with an inner variable.

        Returns None if there is no rule for the variable.
        """
        if variable not in self._variables or self._products.steps_at(variable) % 2 == 1:
            return None
        partners = 0
        for product in self._products.around(variable):
            partner = product - variable
            if partner != 0:
                if partner & (partner - 1) != 0 or self._products.steps_at(product) != 4:
                    return None
                partners += partner
        return partners

    def _growth(self, variable, partners):
        """Returns about how many products the rule for a variable makes."""
        count = len(variables_of(partners))
        inner = self._inner_of(partners)
        if len(inner) == 0 or self._products.steps_at(variable) % 4 == 2:
            return count
        return count * len(self._products.around(inner[-1]))

    def _remove(self, variable, partners):
        """Applies the rule for an inner variable with these partners."""
        steps = self._products.steps_at(variable)
        inner = self._inner_of(partners)
        for product in self._products.around(variable):
            self._products.take_steps(product)
        self._forget(variable)
        if steps % 4 == 2:
            self._roots -= 1
            self._products.add_steps(0, 1 if steps == 2 else 7)
            self._products.add_parity(0, partners, 8 - steps)
        elif len(inner) > 0:
            self._roots -= 2
            self._replace(inner[-1], partners - inner[-1] + steps // 4)
        elif partners == 0 and steps == 0:
            self._roots -= 2
        else:
            self.broken = True

    def constant(self):
        """Returns the turns if the value is w^turns for every index, otherwise None."""
        if self.broken or self.inner > 0 or self._roots != 0:
            return None
        if not self._products.only_turns():
            return None
        return self._products.steps_at(0)
