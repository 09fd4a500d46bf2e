"""Terms, each of them held once."""

LARGEST_SIZE = 500


class Terms:
    """Every term that was needed so far, by its place; the same term always has the same place.

    A term that is held never changes. So what is made of terms stays right
    however the store goes on, or back. The arguments of a variable are None.
    A term's mask has the bit of each variable that stands in it.
    """

    def __init__(self):
        self.known = {}
        self.numbers = []
        self.arguments = []
        self.sizes = []
        self.masks = []

    def variable(self, number):
        """The place of a variable."""
        # No symbol is below 0, so no variable is taken for a symbol.
        return self.held((-1, number), number, None, 1, 1 << number)

    def symbol(self, number, arguments):
        """The place of a symbol with a tuple of arguments."""
        size = 1
        mask = 0
        for part in arguments:
            size = size + self.sizes[part]
            mask = mask | self.masks[part]
        # Sizes may double at each step: how far one is above the largest doesn't matter.
        return self.held((number,) + arguments, number, arguments, min(size, LARGEST_SIZE + 1), mask)

    def held(self, key, number, arguments, size, mask):
        """The place of the term with this key, which is held from now on."""
        if key not in self.known:
            self.known[key] = len(self.numbers)
            self.numbers.append(number)
            self.arguments.append(arguments)
            self.sizes.append(size)
            self.masks.append(mask)
        return self.known[key]

    def is_variable(self, term):
        """Whether a term is a variable."""
        return self.arguments[term] is None

    def is_whole(self, term):
        """Whether a term has no variables."""
        return self.masks[term] == 0

    def is_too_large(self, term):
        """Whether a term's size is above the largest that is answered."""
        return self.sizes[term] > LARGEST_SIZE

    def have_one_symbol(self, one, other):
        """Whether two terms are no variables and have one symbol, with one number of arguments."""
        if self.is_variable(one) or self.is_variable(other):
            return False
        return (self.numbers[one] == self.numbers[other]
                and len(self.arguments[one]) == len(self.arguments[other]))

    def read_row(self, row, found):
        """The term of a row, with what is found for each variable in the variable's place."""
        # From the row's end on, arguments are there before their symbol is.
        made = []
        for place in range(len(row) - 2, -1, -2):
            number = row[place + 1]
            if row[place] == 0:
                made.append(found[number])
            else:
                arguments = [made.pop() for turn in range(row[place] - 1)]
                made.append(self.symbol(number, tuple(arguments)))
        return made[0]

    def row(self, term):
        """The row of a term."""
        row = []
        rest = [term]
        while rest:
            top = rest.pop()
            arguments = self.arguments[top]
            if arguments is None:
                row.append(0)
            else:
                row.append(len(arguments) + 1)
                rest.extend(list(reversed(arguments)))
            row.append(self.numbers[top])
        return row
