"""Point 1: nothing that is handed in is changed."""

import copy
import unittest

from closuremill.errors import NoTree
from closuremill.trees import free, need_tree, nodes, parts

X = ("name", "x")
TREE = ("let", "x", ("plus", ("num", 1), X), ("if", ("call", ("fun", "y", X), X), ("less", X, X), ("num", -2)))


class Unchanged(unittest.TestCase):
    def test_a_tree_stays_as_it_was(self):
        before = copy.deepcopy(TREE)
        for deed in (need_tree, parts, nodes, free):
            with self.subTest(deed=deed.__name__):
                deed(TREE)
                self.assertEqual(TREE, before)

    def test_the_same_is_told_again(self):
        for deed in (need_tree, parts, nodes, free):
            with self.subTest(deed=deed.__name__):
                self.assertEqual(deed(TREE), deed(TREE))

    def test_what_is_refused_stays_as_it_was(self):
        for thing in (["num", 1], [], {"num": 1}, {"num"}, bytearray(b"num"), [["fun"], [X]]):
            for handed in (thing, ("fun", "x", thing), ("num", thing), (thing, 1), ("fun", thing, X)):
                with self.subTest(handed=handed):
                    before = copy.deepcopy(handed)
                    with self.assertRaises(NoTree):
                        need_tree(handed)
                    self.assertEqual(handed, before)

    def test_an_iterator_is_not_moved_on(self):
        held = iter(("num", 1))
        with self.assertRaises(NoTree):
            need_tree(held)
        with self.assertRaises(NoTree):
            need_tree(("fun", "x", held))
        self.assertEqual(list(held), ["num", 1])


if __name__ == "__main__":
    unittest.main()
