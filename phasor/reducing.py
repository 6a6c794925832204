"""Sums over inner variables, and the rules that remove these variables (points 67 and 68)."""

from heapq import heapify, heappop, heappush

from phasor.products import variables_of


class InnerSum:
    """The inner variables that are left, the steps of products, and a number of roots."""

    def __init__(self, variables, products, roots):
        # The variables are kept by ascending numbers.
        self.variables = {variable: True for variable in variables}
        self.products = products
        self.roots = roots
        self.broken = False

    def clone(self):
        """Returns a new sum that is equal to this one."""
        result = InnerSum(list(self.variables), self.products.clone(), self.roots)
        result.broken = self.broken
        return result

    def is_open(self):
        """Returns True if inner variables are left and the sum is not broken."""
        return len(self.variables) > 0 and not self.broken

    def solve(self, equations):
        """Makes the exclusive ors that the numbers stand for 0, one after the other."""
        left = list(equations)
        while len(left) > 0 and not self.broken:
            number, *left = left
            inner = self._inner_of(number)
            if len(inner) > 0:
                last = inner[-1]
                self._substitute(last, number - last)
                left = [other ^ number if other & last != 0 else other for other in left]
            elif number != 0:
                self.broken = True

    def _inner_of(self, number):
        """Returns the ascending list of the inner variables in a number."""
        return [variable for variable in variables_of(number) if variable in self.variables]

    def _substitute(self, variable, number):
        """Replaces an inner variable by the exclusive or that a number stands for."""
        self.products.substitute(variable, number)
        del self.variables[variable]

    def reduce_by_growth(self):
        """Applies the rules until none applies; those that make many products wait."""
        limit = 1
        while self._reduce_within(limit):
            limit *= 2

    def _reduce_within(self, limit):
        """Applies the rules with little growth. Returns False if no rule is left."""
        found = False
        for variable in reversed(list(self.variables)):
            partners = self._partners(variable)
            if partners is not None and not self.broken:
                found = True
                if self._growth(variable, partners) <= limit:
                    self._remove(variable, partners)
        return found and not self.broken

    def reduce_from(self, middle):
        """Applies the rules until none applies, from a variable on downward, then upward."""
        waiting = {variable: True for variable in self.variables}
        queue = [(_rank(variable, middle), variable) for variable in self.variables]
        heapify(queue)
        while len(queue) > 0 and not self.broken:
            _, variable = heappop(queue)
            waiting[variable] = False
            # Only for variables whose products changed, there may be a rule now.
            for other in self._changed_by_rule(variable):
                if not waiting[other]:
                    waiting[other] = True
                    heappush(queue, (_rank(other, middle), other))

    def _changed_by_rule(self, variable):
        """Applies the rule for a variable. Returns the inner variables with other products."""
        partners = self._partners(variable)
        if partners is None:
            return []
        return self._inner_of(self._remove(variable, partners))

    def _partners(self, variable):
        """Returns the sum of the variables in products with an inner variable.

        Returns None if there is no rule for the variable.
        """
        if variable not in self.variables or self.products.steps_at(variable) % 2 == 1:
            return None
        partners = 0
        for product in self.products.around(variable):
            partner = product - variable
            if partner != 0:
                if partner & (partner - 1) != 0 or self.products.steps_at(product) != 4:
                    return None
                partners += partner
        return partners

    def _growth(self, variable, partners):
        """Returns about how many products the rule for a variable makes."""
        count = len(variables_of(partners))
        inner = self._inner_of(partners)
        if len(inner) == 0 or self.products.steps_at(variable) % 4 == 2:
            return count
        return count * len(self.products.around(inner[-1]))

    def _remove(self, variable, partners):
        """Applies the rule for an inner variable with these partners.

        Returns the sum of the variables whose products changed.
        """
        steps = self.products.steps_at(variable)
        changed = partners
        around = self.products.around(variable)
        for product in around:
            self.products.take_steps(product)
        del self.variables[variable]
        inner = self._inner_of(partners)
        if steps % 4 == 2:
            self.roots -= 1
            self.products.add_steps(0, 1 if steps == 2 else 7)
            self.products.add_parity(0, partners, 8 - steps)
        elif len(inner) > 0:
            self.roots -= 2
            for product in self.products.around(inner[-1]):
                changed |= product
            self._substitute(inner[-1], partners - inner[-1] + steps // 4)
        elif partners == 0 and steps == 0:
            self.roots -= 2
        else:
            self.broken = True
        return changed


def _rank(variable, middle):
    """Returns the place of a variable in the order from the middle downward, then upward."""
    if variable < middle:
        return middle - variable
    return variable
