"""Point 12: what worked, steps, run and made look at first."""

import unittest

from builders import ENDLESS, GROWING, ONE, SAME, WRAPS, X
from builders import call, choice, fun, let, level, name, nested, nested_to, num, plus, strangers
from closuremill.errors import BadMost, NoTree, NotClosed
from closuremill.machine import made, run
from closuremill.putting import steps, worked
from closuremill.trees import nodes

Y = name("y")
WAYS = (worked, steps, run, made)

NO_TREES = {
    "an empty tuple": (),
    "a list": ["num", 1],
    "a word alone": ("num",),
    "a text": "(plus 1 2)",
    "a number": 1,
    "True as a number": num(True),
    "sixty-one figures": num(10 ** 60),
    "sixty-one figures below nought": num(-10 ** 60),
    "a word as a name": fun("let", ONE),
    "a name of nine signs": fun("abcdefghi", ONE),
    "a part that is none": plus(ONE, 1),
    "a part that is none and never come to": choice(ONE, ONE, None),
    "a part that is none within a function": fun("x", plus(X, ["num", 1])),
    "401 nodes within one another": nested(WRAPS["fun"][0], 400),
    "401 nodes side by side": level(401),
    "very many nodes": nested(lambda tree: ("plus", tree, tree), 200),
}
# No trees, but for that not closed either.
NO_OPEN_TREES = {
    "a free name ahead of what is none": plus(X, 1),
    "a free name behind what is none": plus(1, X),
    "a free name and sixty-one figures": plus(X, num(10 ** 60)),
    "401 nodes and a free name": nested(WRAPS["fun"][0], 400, Y),
    "a name that is a word": name("num"),
    "a name of nine signs": plus(X, name("abcdefghi")),
}
OPEN_TREES = {
    "a name": X,
    "in a sum": plus(ONE, X),
    "in a function": fun("x", Y),
    "in a let's e": let("x", X, X),
    "behind a function that binds it": call(SAME, X),
    "in a choice that is not come to": choice(ONE, ONE, X),
    "behind what is refused": plus(call(ONE, ONE), X),
    "behind what never comes to an end": plus(ENDLESS, X),
    "in a function that is never called": let("f", fun("y", X), ONE),
    "deep within": nested(WRAPS["plus, the second"][0], 199, X),
}
NO_COUNTS = {
    "-1": -1,
    "1001": 1001,
    "far below": -10 ** 100,
    "far above": 10 ** 5000,
    "an empty text": "",
    "a text": "5",
    "a tuple": (5,),
    "a tree": num(5),
    "5.0": 5.0,
    "0.0": 0.0,
}


def no_counts():
    return {**NO_COUNTS, **strangers()}


class First(unittest.TestCase):
    def refused(self, tree, most, error, why):
        for way in WAYS:
            with self.subTest(way=way.__name__, why=why):
                with self.assertRaises(error) as caught:
                    way(tree, most)
                self.assertIs(type(caught.exception), error)

    def test_no_tree(self):
        for why, tree in {**NO_TREES, **NO_OPEN_TREES, **strangers()}.items():
            for most in (0, 1, 1000):
                self.refused(tree, most, NoTree, why)

    def test_a_tree_that_is_not_closed(self):
        for why, tree in OPEN_TREES.items():
            for most in (0, 1, 1000):
                self.refused(tree, most, NotClosed, why)

    def test_no_count(self):
        for why, most in no_counts().items():
            for tree in (ONE, SAME, plus(ONE, ONE), ENDLESS):
                self.refused(tree, most, BadMost, why)

    def test_no_count_ahead_of_what_working_out_is_refused_for(self):
        for tree in (ENDLESS, GROWING, call(ONE, ONE), plus(ONE, SAME), choice(SAME, ONE, ONE)):
            for why in ("-1", "1001", "5.0"):
                self.refused(tree, NO_COUNTS[why], BadMost, why)
            for most in (True, False, None):
                self.refused(tree, most, BadMost, most)

    def test_no_tree_and_no_count(self):
        for why, tree in {**NO_TREES, **strangers()}.items():
            for most in (-1, 1001, True, False, "5", None, 5.0):
                self.refused(tree, most, NoTree, (why, most))

    def test_not_closed_and_no_count(self):
        for why, tree in OPEN_TREES.items():
            for count, most in no_counts().items():
                self.refused(tree, most, NotClosed, (why, count))

    def test_no_tree_that_is_not_closed_and_no_count(self):
        for why, tree in NO_OPEN_TREES.items():
            for count, most in no_counts().items():
                self.refused(tree, most, NoTree, (why, count))


class Taken(unittest.TestCase):
    def test_0_and_1000_as_counts(self):
        for most in (0, 1, 500, 999, 1000):
            self.assertEqual(worked(SAME, most), (SAME, 0))
            self.assertEqual(steps(SAME, most), [SAME])
            self.assertEqual(run(ONE, most), (1, 0))
            self.assertEqual(len(made(SAME, most)), 1)

    def test_400_nodes_within_one_another_and_401(self):
        for kind, (wrap, adds) in WRAPS.items():
            with self.subTest(kind=kind):
                self.looked_at(nested_to(wrap, adds, 400), nested_to(wrap, adds, 401))

    def test_400_nodes_side_by_side_and_401(self):
        self.looked_at(fun("x", level(399)), fun("x", level(400)))

    def looked_at(self, most, more):
        """The tree of 400 nodes comes to a value, the one of 401 is refused."""
        self.assertEqual((nodes(most), nodes(more)), (400, 401))
        for way in WAYS:
            way(most, 1000)
            with self.assertRaises(NoTree):
                way(more, 1000)

    def test_the_value_of_400_nodes_within_one_another(self):
        tree = let("x", ONE, nested(WRAPS["plus, the second"][0], 198, X))
        self.assertEqual(nodes(tree), 399)
        self.assertEqual(worked(tree, 1000), (num(199), 199))
        self.assertEqual(run(tree, 1000), (199, 199))
        great = nested(WRAPS["fun"][0], 399)
        self.assertEqual(worked(great, 0), (great, 0))
        self.assertEqual(steps(great, 0), [great])
        self.assertEqual(run(great, 0)[0].body, great[2])
        self.assertEqual(made(great, 0)[0].body, great[2])


if __name__ == "__main__":
    unittest.main()
