"""Point 4: the names that are free in a tree."""

import unittest

from builders import ONE, WRAPS, X, name, nested
from closuremill.trees import free

A, B, C, Y = name("a"), name("b"), name("c"), name("y")


class Free(unittest.TestCase):
    def told(self, tree, wanted):
        self.assertEqual(free(tree), wanted)
        self.assertIs(type(free(tree)), list)

    def test_a_number_and_a_name(self):
        self.told(ONE, [])
        self.told(X, ["x"])

    def test_a_function_binds_its_name_in_its_body(self):
        self.told(("fun", "x", X), [])
        self.told(("fun", "x", Y), ["y"])
        self.told(("fun", "x", ("fun", "y", ("call", X, Y))), [])
        self.told(("fun", "x", ("plus", Y, ("fun", "y", ("plus", X, Y)))), ["y"])

    def test_the_name_that_a_node_binds_is_not_free_by_that(self):
        self.told(("fun", "x", ONE), [])
        self.told(("let", "x", ONE, ONE), [])

    def test_a_let_binds_its_name_in_its_body(self):
        self.told(("let", "x", ONE, X), [])
        self.told(("let", "x", ONE, Y), ["y"])

    def test_a_let_does_not_bind_in_e(self):
        self.told(("let", "x", X, ONE), ["x"])
        self.told(("let", "x", X, X), ["x"])
        self.told(("let", "x", ("fun", "y", ("plus", X, Y)), ("plus", X, Y)), ["x", "y"])

    def test_a_let_within_a_function_that_binds_the_same_name(self):
        self.told(("fun", "x", ("let", "x", X, X)), [])
        self.told(("let", "x", ("fun", "x", X), X), [])
        self.told(("fun", "x", ("let", "y", X, ("plus", X, Y))), [])

    def test_a_binding_ends_with_its_body(self):
        for word in ("call", "plus", "less"):
            self.told((word, ("fun", "x", X), X), ["x"])
            self.told((word, ("let", "x", ONE, X), X), ["x"])
            self.told((word, X, ("fun", "x", X)), ["x"])
        self.told(("let", "y", ("let", "x", ONE, X), X), ["x"])

    def test_one_name_bound_more_than_once(self):
        inner = ("fun", "x", ("plus", ("fun", "x", X), X))
        self.told(inner, [])
        self.told(("plus", inner, X), ["x"])
        self.told(("fun", "x", ("let", "x", ("let", "x", ONE, X), ("plus", ("fun", "x", X), X))), [])

    def test_the_same_name_bound_and_free(self):
        self.told(("if", ("fun", "x", X), ("let", "x", X, X), X), ["x"])
        self.told(("plus", ("fun", "a", ("plus", A, B)), ("plus", A, ("fun", "b", B))), ["b", "a"])

    def test_each_once_in_the_order_in_which_they_come_first(self):
        self.told(("plus", B, A), ["b", "a"])
        self.told(("plus", ("less", C, A), ("call", A, ("plus", B, C))), ["c", "a", "b"])
        self.told(("if", C, B, A), ["c", "b", "a"])
        self.told(("if", A, A, A), ["a"])
        self.told(("let", "x", B, A), ["b", "a"])
        self.told(("let", "x", ("plus", X, B), ("plus", ("plus", A, X), B)), ["x", "b", "a"])
        self.told(("call", ("fun", "x", ("plus", C, X)), ("plus", X, ("plus", A, C))), ["c", "x", "a"])

    def test_where_a_name_is_bound_does_not_count_for_the_order(self):
        self.told(("plus", ("fun", "a", A), ("plus", B, A)), ["b", "a"])

    def test_deeper_names_on_the_left_come_first(self):
        tree = ("plus", ("plus", ("plus", name("d"), C), B), A)
        self.told(tree, ["d", "c", "b", "a"])

    def test_closed_trees(self):
        self.told(("call", ("fun", "x", ("call", X, X)), ("fun", "x", ("call", X, X))), [])
        self.told(("let", "a", ONE, ("let", "b", A, ("if", A, B, ("less", A, B)))), [])

    def test_all_names(self):
        signs = "qwertyuiopasdfghjklzxcvbnm"
        tree = ONE
        for sign in signs[::-1]:
            tree = ("plus", name(sign), tree)
        self.told(tree, list(signs))
        for sign in signs:
            tree = ("fun", sign, tree)
        self.told(tree, [])

    def test_each_list_is_one_of_its_own(self):
        free(X).append("y")
        self.told(X, ["x"])

    def test_some_hundred_nodes_within_one_another(self):
        for word, (wrap, _) in WRAPS.items():
            with self.subTest(wrap=word):
                self.told(nested(wrap, 130, Y), ["y"])
        self.told(nested(WRAPS["fun"][0], 399, X), [])
        self.told(("plus", nested(WRAPS["fun"][0], 396, X), X), ["x"])

    def test_greater_trees(self):
        for word, (wrap, _) in WRAPS.items():
            with self.subTest(wrap=word):
                self.told(nested(wrap, 20000, Y), ["y"])
        self.told(nested(lambda tree: ("let", "x", tree, X), 20000, Y), ["y"])
        self.told(nested(lambda tree: ("let", "x", X, tree), 20000, X), ["x"])


if __name__ == "__main__":
    unittest.main()
