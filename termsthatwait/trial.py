"""What would be, were two values told the same."""


class Trial:
    """Variables that would have other values then, each with a term that it would be the same as.

    That term is no variable, or a variable that would stay its own value.
    """

    def __init__(self, terms, bindings):
        self.terms = terms
        self.bindings = bindings
        self.bound = mask_of(terms, list(bindings))
        self.settled = {}

    def value(self, term):
        """What would be the value of a term that is its own value now."""
        path = [term]
        while path:
            below = [part for part in self.parts(path[-1]) if part not in self.settled]
            if below:
                path.extend(below)
            else:
                self.settle(path.pop())
        return self.settled[term]

    def parts(self, term):
        """The terms whose values make a term's value; none if it stays its own."""
        if self.terms.masks[term] & self.bound == 0:
            return ()
        if term in self.bindings:
            return (self.bindings[term],)
        return self.terms.arguments[term]

    def settle(self, term):
        """Note a term's value; those of its parts are noted."""
        values = [self.settled[part] for part in self.parts(term)]
        if not values:
            self.settled[term] = term
        elif term in self.bindings:
            self.settled[term] = values[0]
        else:
            self.settled[term] = self.terms.symbol(self.terms.numbers[term], tuple(values))

    def makes_same(self, one, other):
        """Whether two terms would surely be the same."""
        first = self.bindings.get(one, one)
        second = self.bindings.get(other, other)
        if first == second:
            return True
        # Most terms differ here already, and their values need not be made.
        if not self.terms.have_one_symbol(first, second):
            return False
        return self.value(first) == self.value(second)

    def implies(self, other):
        """Whether the two values of another trial would surely be the same in this one."""
        for variable in other.bindings:
            if not self.makes_same(variable, other.bindings[variable]):
                return False
        return True

    def is_within(self, mask):
        """Whether all variables of its conditions, on both sides, are among those of a mask."""
        values = [self.value(variable) for variable in self.bindings]
        return self.bound | mask_of(self.terms, values) | mask == mask

    def conditions(self):
        """Rising, the number of each variable that would have another value, and that value."""
        return sorted([(self.terms.numbers[variable], self.value(variable)) for variable in self.bindings])


class Pair:
    """Two values, and what would be, were they told the same: None if there's no way then.

    No difference is looked at for that.
    """

    def __init__(self, terms, one, other):
        self.one = one
        self.other = other
        self.trial = trial_of(terms, one, other)

    def after(self, trial):
        """The pair of what the two values are when that trial is so."""
        # What can't be the same stays so, and then neither value is asked for any more.
        if self.trial is None:
            return self
        one = trial.value(self.one)
        other = trial.value(self.other)
        if one == self.one and other == self.other:
            return self
        return Pair(trial.terms, one, other)


def trial_of(terms, one, other):
    """What would be, were two values told the same; None if there's no way then."""
    links = {}
    if not merge(terms, links, one, other):
        return None
    bindings = {}
    for term in list(links):
        if terms.is_variable(term):
            bindings[term] = root(links, term)
    if has_loop(terms, bindings):
        return None
    return Trial(terms, bindings)


def merge(terms, links, one, other):
    """Link two terms, and all that must be the same then; False if symbols clash."""
    pairs = [(one, other)]
    while pairs:
        pair = pairs.pop()
        first = root(links, pair[0])
        second = root(links, pair[1])
        if first == second:
            continue
        if terms.have_one_symbol(first, second):
            pairs.extend(list(zip(terms.arguments[first], terms.arguments[second])))
        elif not terms.is_variable(first) and not terms.is_variable(second):
            return False
        if goes_before(terms, second, first):
            links[first] = second
        else:
            links[second] = first
    return True


def root(links, term):
    """The one term that stands for all that are linked with this one."""
    while term in links:
        above = links[term]
        # Shortening the path here keeps later searches short.
        links[term] = links.get(above, above)
        term = above
    return term


def goes_before(terms, one, other):
    """Whether of two roots the first must be the root of both."""
    # A root tells what the value is: so a symbol goes before a variable,
    # and among variables the least number.
    if not terms.is_variable(other):
        return False
    return not terms.is_variable(one) or terms.numbers[one] < terms.numbers[other]


def has_loop(terms, bindings):
    """Whether a variable would be a part of itself."""
    rest = list(bindings)
    while rest:
        mask = mask_of(terms, rest)
        # What holds none of the rest is in no loop with them.
        left = [variable for variable in rest if terms.masks[bindings[variable]] & mask != 0]
        if len(left) == len(rest):
            return True
        rest = left
    return False


def mask_of(terms, found):
    """The bits of all variables that stand in these terms."""
    mask = 0
    for term in found:
        mask = mask | terms.masks[term]
    return mask
