"""Point 3: the parts of a node, and how many nodes a tree has."""

import unittest

from builders import ONE, WRAPS, level, nested, nested_to
from closuremill.trees import nodes, parts

A = ("name", "a")
B = ("num", 2)
C = ("fun", "c", ("name", "c"))

CASES = (
    (("num", 5), []),
    (("name", "x"), []),
    (("fun", "x", A), [A]),
    (("call", A, B), [A, B]),
    (("plus", A, B), [A, B]),
    (("less", A, B), [A, B]),
    (("if", A, B, C), [A, B, C]),
    (("let", "x", A, B), [A, B]),
)


class Parts(unittest.TestCase):
    def test_the_parts_of_every_kind(self):
        for tree, wanted in CASES:
            with self.subTest(word=tree[0]):
                self.assertEqual(parts(tree), wanted)
                self.assertIs(type(parts(tree)), list)

    def test_the_order_is_that_of_the_tuple(self):
        for word in ("call", "plus", "less"):
            self.assertEqual(parts((word, B, A)), [B, A])
        self.assertEqual(parts(("if", C, B, A)), [C, B, A])
        self.assertEqual(parts(("let", "x", B, A)), [B, A])

    def test_a_part_that_stands_twice_is_told_twice(self):
        self.assertEqual(parts(("if", A, A, A)), [A, A, A])

    def test_only_what_stands_straight_within(self):
        self.assertEqual(parts(("fun", "x", ("plus", A, B))), [("plus", A, B)])

    def test_each_list_is_one_of_its_own(self):
        tree = ("plus", A, B)
        parts(tree).append(C)
        self.assertEqual(parts(tree), [A, B])
        parts(("num", 5)).append(C)
        self.assertEqual(parts(("num", 5)), [])

    def test_greater_trees_and_numbers(self):
        great = nested(WRAPS["fun"][0], 20000)
        told = parts(("call", great, ("num", 10 ** 80)))
        self.assertEqual(len(told), 2)
        self.assertIs(told[0], great)
        self.assertEqual(told[1], ("num", 10 ** 80))


class Nodes(unittest.TestCase):
    def test_one_node_of_every_kind(self):
        wanted = {"num": 1, "name": 1, "fun": 2, "call": 3, "plus": 3, "less": 3, "if": 4, "let": 3}
        for word, many in wanted.items():
            fill = {"num": (1,), "name": ("x",), "fun": ("x", ONE), "let": ("x", ONE, ONE), "if": (ONE,) * 3}
            tree = (word,) + fill.get(word, (ONE, ONE))
            with self.subTest(word=word):
                self.assertEqual(nodes(tree), many)

    def test_nodes_within_nodes(self):
        self.assertEqual(nodes(("let", "x", C, ("if", A, C, ("call", C, B)))), 1 + 2 + 1 + 1 + 2 + 1 + 2 + 1)

    def test_a_part_that_stands_twice_counts_twice(self):
        self.assertEqual(nodes(nested(lambda tree: ("plus", tree, tree), 10)), 2 ** 11 - 1)

    def test_many_nodes(self):
        for name, (wrap, adds) in WRAPS.items():
            with self.subTest(wrap=name):
                self.assertEqual(nodes(nested_to(wrap, adds, 400)), 400)
                self.assertEqual(nodes(nested(wrap, 20000)), 1 + 20000 * adds)
        self.assertEqual(nodes(level(5000)), 5000)

    def test_the_count_is_a_whole_number(self):
        self.assertIs(type(nodes(ONE)), int)

    def test_great_numbers_count_as_one(self):
        self.assertEqual(nodes(("num", -10 ** 80)), 1)


if __name__ == "__main__":
    unittest.main()
