"""Terms as nodes, and the links between nodes that are the same."""


class Graph:
    """Every variable, and every symbol that was handed over, is a node.

    Nodes that are the same are linked, and have one root. A node's number is
    its variable's or its symbol's; the arguments of a variable are None.
    """

    def __init__(self):
        self.numbers = []
        self.arguments = []
        self.links = []

    def add_node(self, number, arguments):
        """A new node, the same as no other."""
        node = len(self.links)
        self.numbers.append(number)
        self.arguments.append(arguments)
        self.links.append(node)
        return node

    def add_row(self, row, variables):
        """The node of a row's term; variables has each variable's node."""
        # From the row's end on, arguments are there before their symbol is.
        made = []
        for place in range(len(row) - 2, -1, -2):
            number = row[place + 1]
            if row[place] == 0:
                made.append(variables[number])
            else:
                arguments = [made.pop() for turn in range(row[place] - 1)]
                made.append(self.add_node(number, tuple(arguments)))
        return made[0]

    def trial(self):
        """A graph of the same nodes whose links may change without changing these."""
        other = Graph()
        other.numbers = self.numbers
        other.arguments = self.arguments
        other.links = list(self.links)
        return other

    def root(self, node):
        """The one node that stands for all that are the same as this one."""
        links = self.links
        while links[node] != node:
            # Shortening the path here keeps later searches short.
            links[node] = links[links[node]]
            node = links[node]
        return node

    def is_free(self, node):
        """Whether the node's value is a variable."""
        return self.arguments[self.root(node)] is None

    def merge(self, first, second):
        """Make two nodes the same, and all that must be then; False if symbols clash.

        Whether a term has become a part of itself isn't looked at here.
        """
        pairs = [(first, second)]
        while pairs:
            pair = pairs.pop()
            one = self.root(pair[0])
            other = self.root(pair[1])
            if one == other:
                continue
            if self.arguments[one] is not None and self.arguments[other] is not None:
                if not self.have_one_symbol(one, other):
                    return False
                pairs.extend(list(zip(self.arguments[one], self.arguments[other])))
            self.link(one, other)
        return True

    def have_one_symbol(self, one, other):
        """Whether two nodes that are no variables have one symbol, with one number of arguments."""
        return (self.numbers[one] == self.numbers[other]
                and len(self.arguments[one]) == len(self.arguments[other]))

    def link(self, one, other):
        """Give two roots one root."""
        # A root tells what the value is: so a symbol goes before a variable,
        # and among variables the least number.
        if self.goes_before(other, one):
            self.links[one] = other
        else:
            self.links[other] = one

    def goes_before(self, one, other):
        """Whether of two roots the first must be the root of both."""
        if self.arguments[other] is not None:
            return False
        return self.arguments[one] is not None or self.numbers[one] < self.numbers[other]
