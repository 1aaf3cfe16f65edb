"""Point 1: nothing that is handed in is changed."""

import copy
import unittest

from builders import ENDLESS, ONE, SAME, X, call, choice, fun, less, let, name, num, plus
from closuremill.errors import BadMost, Dry, MillError, NoText, NoTree
from closuremill.machine import Kept, made, run, told
from closuremill.notes import read, shown
from closuremill.putting import put, step, steps, worked
from closuremill.trees import free, need_tree, nodes, parts

TREE = let("x", plus(ONE, ONE), choice(call(fun("y", less(X, name("y"))), X), less(X, X), call(fun("z", X), num(-2))))
REFUSED = (ENDLESS, plus(TREE, SAME), call(TREE, SAME), plus(TREE, X))

LOOKS = (need_tree, parts, nodes, free, step, shown)
WAYS = (worked, steps, run, made)


def all_of(kept):
    """What a Kept has, and what the Kepts have that it holds."""
    held = [all_of(thing) if isinstance(thing, Kept) else thing for thing in kept.held]
    return (kept.name, kept.body, list(kept.names), held)


class Unchanged(unittest.TestCase):
    def refused(self, error, deed, *handed):
        with self.assertRaises(error):
            deed(*handed)

    def test_a_tree_stays_as_it_was(self):
        before = copy.deepcopy(TREE)
        for deed in LOOKS:
            with self.subTest(deed=deed.__name__):
                deed(TREE)
                self.assertEqual(TREE, before)
        for way in WAYS:
            with self.subTest(way=way.__name__):
                way(TREE, 1000)
                self.assertEqual(TREE, before)
                self.refused(Dry, way, TREE, 1)
                self.assertEqual(TREE, before)

    def test_a_tree_that_is_refused_stays_as_it_was(self):
        for tree in REFUSED:
            before = copy.deepcopy(tree)
            for way in WAYS:
                self.refused(MillError, way, tree, 100)
                self.assertEqual(tree, before)

    def test_putting_in_leaves_the_tree_and_the_value(self):
        tree, value = plus(X, TREE), fun("y", TREE)
        before = copy.deepcopy((tree, value))
        self.assertEqual(put(tree, "x", value), plus(value, TREE))
        self.assertEqual((tree, value), before)

    def test_a_kept_stays_as_it_was(self):
        tree = let("a", ONE, let("f", fun("x", plus(X, name("a"))), fun("y", call(name("f"), name("a")))))
        for kept in made(tree, 1000) + [run(tree, 1000)[0]]:
            before = all_of(kept)
            told(kept)
            self.assertEqual(all_of(kept), before)

    def test_the_same_is_told_again(self):
        for deed in LOOKS:
            with self.subTest(deed=deed.__name__):
                self.assertEqual(deed(TREE), deed(TREE))
        for way in (worked, steps, run):
            with self.subTest(way=way.__name__):
                self.assertEqual(way(TREE, 1000), way(TREE, 1000))
        self.assertEqual([all_of(kept) for kept in made(TREE, 1000)], [all_of(kept) for kept in made(TREE, 1000)])
        self.assertEqual(read("(fun x (plus x -1))"), read("(fun x (plus x -1))"))

    def test_what_is_no_tree_stays_as_it_was(self):
        for thing in (["num", 1], [], {"num": 1}, {"num"}, bytearray(b"num"), [["fun"], [X]]):
            for handed in (thing, ("fun", "x", thing), ("num", thing), (thing, 1), ("fun", thing, X)):
                with self.subTest(handed=handed):
                    before = copy.deepcopy(handed)
                    self.refused(NoTree, need_tree, handed)
                    for way in WAYS:
                        self.refused(NoTree, way, handed, 5)
                    self.assertEqual(handed, before)

    def test_what_is_no_count_or_no_text_stays_as_it_was(self):
        for thing in (["1"], [], {"1": 1}, {"1"}, bytearray(b"1"), [["fun"], [X]]):
            with self.subTest(thing=thing):
                before = copy.deepcopy(thing)
                for way in WAYS:
                    self.refused(BadMost, way, TREE, thing)
                self.refused(NoText, read, thing)
                self.assertEqual(thing, before)

    def test_an_iterator_is_not_moved_on(self):
        held = iter(("num", 1))
        self.refused(NoTree, need_tree, held)
        self.refused(NoTree, need_tree, ("fun", "x", held))
        for way in WAYS:
            self.refused(NoTree, way, held, 5)
            self.refused(BadMost, way, TREE, held)
        self.refused(NoText, read, held)
        self.assertEqual(list(held), ["num", 1])


if __name__ == "__main__":
    unittest.main()
