"""What the nodes of a graph stand for: which are the same, how large, whether whole."""

LARGEST_SIZE = 500


class Survey:
    """Holds as long as the graph's links tell the same; nodes may be added.

    Two nodes have the same shape just if their values are the same. A value
    may be far larger than the graph: so each shape is looked at once only.
    """

    def __init__(self, graph):
        self.graph = graph
        self.shapes = {}
        self.known = {}
        self.sizes = []
        self.wholes = []

    def shape(self, node):
        """The number of the node's shape; None if it would be a part of itself."""
        top = self.graph.root(node)
        if top not in self.shapes and not self.walk(top):
            return None
        return self.shapes[top]

    def is_too_large(self, node):
        """Whether the size of the node's value is above the largest that is answered."""
        return self.sizes[self.shape(node)] > LARGEST_SIZE

    def is_whole(self, node):
        """Whether the node's value has no variables."""
        return self.wholes[self.shape(node)]

    def are_same(self, one, other):
        """Whether two nodes have the same value."""
        return self.shape(one) == self.shape(other)

    def row(self, node):
        """The row of the node's value."""
        row = []
        rest = [node]
        while rest:
            top = self.graph.root(rest.pop())
            arguments = self.graph.arguments[top]
            if arguments is None:
                row.append(0)
            else:
                row.append(len(arguments) + 1)
                rest.extend(list(reversed(arguments)))
            row.append(self.graph.numbers[top])
        return row

    def walk(self, top):
        """Settle the shapes of a root and of all below it; False if one stands below itself."""
        path = [top]
        entered = {}
        while path:
            node = path[-1]
            if node in self.shapes:
                path.pop()
                continue
            below = self.unsettled_below(node)
            if any([part in entered for part in below]):
                return False
            if below:
                entered[node] = True
                path.extend(below)
            else:
                self.settle(node)
        return True

    def unsettled_below(self, node):
        """The roots of a root's arguments, as far as they have no shape yet."""
        arguments = self.graph.arguments[node]
        if arguments is None:
            return []
        roots = [self.graph.root(part) for part in arguments]
        return [part for part in roots if part not in self.shapes]

    def settle(self, node):
        """Give a root its shape; those of its arguments are there."""
        arguments = self.graph.arguments[node]
        number = self.graph.numbers[node]
        if arguments is None:
            parts = []
            # No symbol is below 0, so no variable has the shape of a symbol.
            key = (-1, number)
        else:
            parts = [self.shapes[self.graph.root(part)] for part in arguments]
            key = (number,) + tuple(parts)
        if key not in self.known:
            self.known[key] = len(self.sizes)
            size = 1 + sum([self.sizes[part] for part in parts])
            # Sizes may double at each step: how far one is above the largest doesn't matter.
            self.sizes.append(min(size, LARGEST_SIZE + 1))
            self.wholes.append(arguments is not None and all([self.wholes[part] for part in parts]))
        self.shapes[node] = self.known[key]
