"""Point 2: what a tree is, and how need_tree refuses what is none."""

import unittest

from builders import ONE, WORDS, WRAPS, ZERO, level, nested, nested_to, strangers
from closuremill.errors import NoTree
from closuremill.trees import need_tree, nodes

X = ("name", "x")
GOOD = {
    "num": ("num", 7),
    "name": X,
    "fun": ("fun", "x", X),
    "call": ("call", ("fun", "x", X), ONE),
    "plus": ("plus", ONE, X),
    "less": ("less", X, ONE),
    "if": ("if", X, ONE, ZERO),
    "let": ("let", "x", ONE, X),
}


class Trees(unittest.TestCase):
    def taken(self, tree):
        self.assertIs(need_tree(tree), tree)

    def refused(self, thing):
        with self.assertRaises(NoTree) as caught:
            need_tree(thing)
        self.assertIs(type(caught.exception), NoTree)

    def taken_as_part(self, tree):
        self.taken(tree)
        for wrap, _ in WRAPS.values():
            self.taken(wrap(tree))

    def refused_as_part(self, thing, how):
        with self.subTest(how=how, wrap="none"):
            self.refused(thing)
        for name, (wrap, _) in WRAPS.items():
            with self.subTest(how=how, wrap=name):
                self.refused(wrap(thing))


class Good(Trees):
    def test_every_kind_comes_back_as_it_is(self):
        self.assertEqual(tuple(GOOD), WORDS)
        for word, tree in GOOD.items():
            with self.subTest(word=word):
                self.taken(tree)

    def test_every_kind_within_every_kind(self):
        for word, tree in GOOD.items():
            with self.subTest(word=word):
                self.taken_as_part(tree)

    def test_a_tree_needs_not_be_closed_nor_come_to_anything(self):
        self.taken(("call", ONE, ("plus", ("fun", "x", X), ("name", "y"))))


class Numbers(Trees):
    def test_small_numbers(self):
        for n in (0, 1, -1, 9, 10, -10, 2 ** 31, -2 ** 31, 2 ** 63, -2 ** 64):
            with self.subTest(n=n):
                self.taken_as_part(("num", n))

    def test_sixty_figures(self):
        for n in (10 ** 59, 10 ** 60 - 1, -10 ** 59, 1 - 10 ** 60):
            with self.subTest(n=n):
                self.assertEqual(len(str(abs(n))), 60)
                self.taken_as_part(("num", n))

    def test_sixty_one_figures(self):
        for n in (10 ** 60, 10 ** 61 - 1, -10 ** 60, 1 - 10 ** 61):
            with self.subTest(n=n):
                self.assertEqual(len(str(abs(n))), 61)
                self.refused_as_part(("num", n), n)

    def test_very_many_figures(self):
        for n in (10 ** 20000, -10 ** 20000):
            self.refused_as_part(("num", n), "very many")

    def test_true_and_false_are_no_numbers(self):
        for truth in (True, False):
            self.refused_as_part(("num", truth), truth)

    def test_other_things_are_no_numbers(self):
        for name, thing in strangers().items():
            self.refused_as_part(("num", thing), name)
        for thing in ("1", "", (1,), ("num", 1)):
            self.refused_as_part(("num", thing), thing)


class Names(Trees):
    def everywhere(self, name):
        """Each place in which a name stands."""
        return (("name", name), ("fun", name, ONE), ("let", name, ONE, ONE))

    def named(self, name):
        for tree in self.everywhere(name):
            with self.subTest(tree=tree):
                self.taken(tree)

    def misnamed(self, name, how):
        for tree in self.everywhere(name):
            self.refused_as_part(tree, (how, tree[0]))

    def test_one_sign(self):
        for sign in "abcdefghijklmnopqrstuvwxyz":
            self.named(sign)

    def test_up_to_eight_signs(self):
        for many in range(1, 9):
            self.named("abcdefgh"[:many])
            self.named("z" * many)

    def test_more_than_eight_signs(self):
        for name in ("abcdefghi", "zzzzzzzzz", "a" * 100000):
            self.misnamed(name, len(name))

    def test_no_sign(self):
        self.misnamed("", "empty")

    def test_other_signs(self):
        for sign in "A Z ` { @ [ 0 9 _ - ( ) . % \x00 \t \n \xe9 \xaa \xdf \u0430 \uff41 \ud800".split(" "):
            for name in (sign, sign + "a", "a" + sign, "ab" + sign + "cd"):
                self.misnamed(name, ascii(name))
        for name in (" ", "a ", " a", "a b", "a\n"):
            self.misnamed(name, ascii(name))

    def test_the_eight_words(self):
        for word in WORDS:
            self.misnamed(word, word)

    def test_names_that_only_look_like_a_word(self):
        for word in WORDS:
            self.named(word + "s")
            self.named("a" + word)
            self.named(word[:-1])

    def test_other_things_are_no_names(self):
        for name, thing in strangers().items():
            self.misnamed(thing, name)
        for thing in (0, 1, ("a",), ("name", "a"), ()):
            self.misnamed(thing, thing)


class HowMany(Trees):
    def test_400_and_401_within_one_another(self):
        for name, (wrap, adds) in WRAPS.items():
            with self.subTest(wrap=name):
                most, more = nested_to(wrap, adds, 400), nested_to(wrap, adds, 401)
                self.assertEqual((nodes(most), nodes(more)), (400, 401))
                self.taken(most)
                self.refused(more)

    def test_400_and_401_side_by_side(self):
        most, more = level(400), level(401)
        self.assertEqual((nodes(most), nodes(more)), (400, 401))
        self.taken(most)
        self.refused(more)

    def test_a_part_counts_as_often_as_it_stands(self):
        part = level(199)
        self.taken(("plus", part, part))
        part = level(200)
        self.refused(("plus", part, part))

    def test_far_too_many_within_one_another(self):
        for name, (wrap, _) in WRAPS.items():
            with self.subTest(wrap=name):
                self.refused(nested(wrap, 100000))

    def test_far_too_many_side_by_side(self):
        self.refused(nested(lambda tree: ("plus", tree, tree), 200))
        self.refused(nested(lambda tree: ("if", tree, tree, tree), 200))


class Shapes(Trees):
    def test_a_part_too_few(self):
        for word, tree in GOOD.items():
            for many in range(1, len(tree)):
                self.refused_as_part(tree[:many], (word, many))

    def test_a_part_too_many(self):
        for word, tree in GOOD.items():
            for more in (ONE, X, 1, "x", None):
                self.refused_as_part(tree + (more,), (word, more))

    def test_no_part_at_all(self):
        self.refused_as_part((), "empty")

    def test_a_name_and_a_part_changed_about(self):
        self.refused_as_part(("fun", X, "x"), "fun")
        self.refused_as_part(("let", ONE, "x", X), "let")

    def test_no_known_word(self):
        for word in ("", "n", "nu", "nums", "Num", "NUM", " num", "num ", "lambda", "x", "times", "\ud800"):
            for rest in ((), (1,), ("x",), ("x", ONE), (ONE, ONE), (ONE, ONE, ONE), ("x", ONE, ONE)):
                self.refused_as_part((word,) + rest, (ascii(word), rest))

    def test_a_word_of_another_kind(self):
        for name, thing in strangers().items():
            for rest in ((), (1,), ("x",), ("x", ONE), (ONE, ONE), (ONE, ONE, ONE), ("x", ONE, ONE)):
                self.refused((thing,) + rest)
            self.refused_as_part((thing, 1), name)
        for thing in (0, 1, ("num",), ONE):
            self.refused_as_part((thing, 1), thing)

    def test_another_thing_for_a_tree_or_a_part(self):
        for name, thing in strangers().items():
            self.refused_as_part(thing, name)
        for thing in (0, 1, 10 ** 5000, "", "x", "num", "(num 1)", "num 1"):
            self.refused_as_part(thing, "a number or a text")

    def test_a_list_for_a_node_of_every_kind(self):
        for word, tree in GOOD.items():
            self.refused_as_part(list(tree), word)

    def test_a_list_within_itself(self):
        ring = ["fun", "x"]
        ring.append(ring)
        self.refused_as_part(ring, "ring")
        self.refused_as_part(("fun", "x", ring), "ring")

    def test_a_fault_far_within_and_far_behind(self):
        for name, (wrap, _) in WRAPS.items():
            with self.subTest(wrap=name):
                self.taken(nested(wrap, 100, ONE))
                self.refused(nested(wrap, 100, ("num", True)))
                self.refused(nested(wrap, 100, ()))


if __name__ == "__main__":
    unittest.main()
