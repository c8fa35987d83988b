"""The nodes of refutations."""


class Node:
    """The base of all nodes."""


class Leaf(Node):
    """Names a comparison first < second that cannot hold any more."""

    def __init__(self, first, second):
        self.first = first
        self.second = second

    def in_a_row(self):
        """Return the cases in a row of the tree below this node."""
        return 0

    def leaf_list(self):
        """Return the leaves of the tree below this node."""
        return [self]


class Case(Node):
    """Either first <= second, told in the branch left, or second <= first, told in right."""

    def __init__(self, first, second, left, right):
        self.first = first
        self.second = second
        self.left = left
        self.right = right

    def in_a_row(self):
        """Return the cases in a row of the tree below this node."""
        return 1 + max(self.left.in_a_row(), self.right.in_a_row())

    def leaf_list(self):
        """Return the leaves of the tree below this node."""
        return self.left.leaf_list() + self.right.leaf_list()


class Crowd(Node):
    """More words than steps: in one branch each, a word is at most the one before it."""

    def __init__(self, crowd, branches):
        self.crowd = tuple(crowd)
        self.branches = tuple(branches)

    def in_a_row(self):
        """Return the cases in a row of the tree below this node."""
        return 1 + max([branch.in_a_row() for branch in self.branches])

    def leaf_list(self):
        """Return the leaves of the tree below this node."""
        return [leaf for branch in self.branches for leaf in branch.leaf_list()]
