"""Nodes of refutations: point [48] and the cases in a row of [51]."""

import unittest

from helpers import DialCase
from unseendials.trees import Case, Crowd, Leaf, Node


class TestNodes(DialCase):

    def test_attributes(self):
        one, other = Leaf("x", "fy"), Leaf("y", "x")
        self.assertEqual((one.first, one.second), ("x", "fy"))
        case = Case("x", "y", one, other)
        self.assertEqual((case.first, case.second), ("x", "y"))
        self.assertIs(case.left, one)
        self.assertIs(case.right, other)
        crowd = Crowd(["x", "y", "z"], [case, other])
        self.assertEqual((crowd.crowd, crowd.branches), (("x", "y", "z"), (case, other)))
        for node in (one, case, crowd):
            self.assertIsInstance(node, Node)
        self.assertNotIsInstance(Node(), (Leaf, Case, Crowd))

    def test_nothing_is_checked(self):
        self.assertEqual(Leaf("", "1").first, "")
        self.assertEqual(Crowd([], []).branches, ())
        self.assertEqual(Case("?", "", None, None).first, "?")

    def test_rows_and_leaves(self):
        leaves = [Leaf("x", letter + "x") for letter in "abcdef"]
        low = Case("x", "y", leaves[0], leaves[1])
        crowd = Crowd(["x", "y", "z", "u"], [leaves[2], low, leaves[3]])
        top = Case("x", "z", leaves[4], Case("y", "z", crowd, leaves[5]))
        self.assertEqual([node.in_a_row() for node in (leaves[0], low, crowd, top)], [0, 1, 2, 4])
        told = [leaf.second[0] for leaf in top.leaf_list()]
        self.assertEqual(told, ["e", "c", "a", "b", "d", "f"])
        self.assertEqual(leaves[0].leaf_list(), [leaves[0]])
        self.assertEqual(crowd.leaf_list(), [leaves[2], leaves[0], leaves[1], leaves[3]])

    def test_lists_are_copied_and_new(self):
        crowd, branches = ["x", "y"], [Leaf("x", "y")]
        node = Crowd(crowd, branches)
        crowd.append("z")
        branches.clear()
        self.assertEqual((node.crowd, len(node.branches)), (("x", "y"), 1))
        node.leaf_list().clear()
        node.branches[0].leaf_list().clear()
        self.assertEqual(len(node.leaf_list()), 1)

    def test_deep_trees(self):
        node = Leaf("x", "y")
        for at in range(120):
            leaf = Leaf("y", "x")
            node = Case("x", "y", node, leaf) if at % 2 else Crowd(["x", "y", "z"], [leaf, node])
        self.assertEqual(node.in_a_row(), 120)
        self.assertEqual(len(node.leaf_list()), 121)


if __name__ == "__main__":
    unittest.main()
