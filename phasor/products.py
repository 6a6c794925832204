"""Sums, modulo 8, of steps times products of variables with the values 0 and 1.

A variable is a power of 2 from 2 on. The sum of some variables is a number that stands
for their product, or for their exclusive or; in an exclusive or, 1 is the constant 1.
"""

from itertools import combinations

from phasor.scaled import lowest


def variables_of(number):
    """Returns the ascending list of the variables in a number."""
    found = []
    left = number - number % 2
    while left != 0:
        variable = left & -left
        found.append(variable)
        left -= variable
    return found


class Products:
    """The steps of products of at most three variables."""

    def __init__(self):
        # The steps that are not 0. The product of no variables has the turns.
        self._steps = {}
        # For each variable the products with it.
        self._around = {}

    def steps_at(self, product):
        """Returns the steps of a product."""
        return self._steps.get(product, 0)

    def around(self, variable):
        """Returns a new list of the products with a variable."""
        return list(self._around.get(variable, ()))

    def only_turns(self):
        """Returns True if there are no terms, only turns, otherwise False."""
        return len(self._steps) == 0 or list(self._steps) == [0]

    def add_steps(self, product, steps):
        """Adds steps times a product."""
        total = (self.steps_at(product) + steps) % 8
        if total != 0 and product not in self._steps:
            for variable in variables_of(product):
                self._around.setdefault(variable, {})[product] = True
        if total != 0:
            self._steps[product] = total
        elif product in self._steps:
            self.take_steps(product)

    def take_steps(self, product):
        """Removes a product and returns its steps."""
        for variable in variables_of(product):
            del self._around[variable][product]
        return self._steps.pop(product, 0)

    def add_parity(self, product, number, steps):
        """Adds steps times a product times the exclusive or that a number stands for.

        The exclusive or of variables is their sum, minus 2 times the sum of the
        products of two, plus 4 times that of three, modulo 8.
        """
        if number % 2 == 1:
            self.add_steps(product, steps)
            steps = -steps
        variables = variables_of(number)
        self._add_groups(product, variables, 1, steps)
        self._add_groups(product, variables, 2, -2 * steps)
        self._add_groups(product, variables, 3, 4 * steps)

    def _add_groups(self, product, variables, size, steps):
        """Adds steps times the product and each product of so many of the variables."""
        if steps % 8 != 0:
            for group in combinations(variables, size):
                # A variable times itself is the variable.
                self.add_steps(product | sum(group), steps)

    def substitute(self, variable, number):
        """Replaces a variable by the exclusive or that a number without it stands for."""
        around = self.around(variable)
        for product in around:
            steps = self.take_steps(product)
            self.add_parity(product - variable, number, steps)

    def clone(self):
        """Returns new sums that are equal to these."""
        result = Products()
        for product, steps in self._steps.items():
            result.add_steps(product, steps)
        return result

    def totals(self, given, variables):
        """Returns the totals for all values of the variables, if the given ones are 1.

        All others are 0. Bit k of the index is the value of the k-th variable.
        """
        size = 1 << len(variables)
        totals = [0] * size
        bits = {variable: 1 << at for at, variable in enumerate(variables)}
        for product, steps in self._steps.items():
            left = variables_of(product - (product & given))
            inside = [bits[variable] for variable in left if variable in bits]
            if len(inside) == len(left):
                totals[sum(inside)] += steps
        # Now each product is only at the index of its variables; it counts for all
        # indexes that contain it.
        for bit in bits.values():
            for index in range(size):
                if index & bit != 0:
                    totals[index] += totals[index - bit]
        return totals


def sum_of_turns(turns, roots):
    """Returns the sum of w^turn over a list of turns, over root^roots."""
    counts = [0] * 8
    for turn in turns:
        counts[turn % 8] += 1
    # w^4 is -1.
    number = tuple([counts[k] - counts[k + 4] for k in range(4)])
    return lowest(number, roots)
