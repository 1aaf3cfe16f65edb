"""Point 11: run and worked come to the same, and so do steps and made."""

import random
import unittest

from builders import ENDLESS, GROWING, ONE, SAME, TWICE, X, ZERO
from builders import call, choice, countdown, doubled, fun, less, let, level, name, num, plus
from closuremill.errors import MillError
from closuremill.machine import made, run, told
from closuremill.putting import step, steps, worked
from closuremill.trees import free, nodes

NAMES = ("x", "y", "f")


def small(many, names):
    """All trees of so many nodes with two numbers, these names, and no free one besides."""
    if many == 1:
        return [ZERO, ONE] + [name(x) for x in names]
    trees = [fun("x", body) for body in small(many - 1, sorted({"x", *names}))]
    for ahead in range(1, many - 1):
        behind = many - 1 - ahead
        for first in small(ahead, names):
            for second in small(behind, names):
                trees.extend([call(first, second), plus(first, second), less(first, second)])
            trees.extend([let("x", first, body) for body in small(behind, sorted({"x", *names}))])
    for ahead in range(1, many - 2):
        for middle in range(1, many - 1 - ahead):
            for first in small(ahead, names):
                for second in small(middle, names):
                    trees.extend([choice(first, second, third) for third in small(many - 1 - ahead - middle, names)])
    return trees


def grown(chance, many, names=()):
    """A closed tree of about so many nodes, more often than not one that comes to something."""
    if many <= 1:
        if names and chance.random() < 0.75:
            return name(chance.choice(names))
        return num(chance.choice((0, 1, 2, -1)))
    word = chance.choice(("fun", "call", "call", "call", "plus", "less", "if", "let", "let"))
    if word == "fun":
        return grown_function(chance, many, names)
    ahead = chance.randint(1, many - 1)
    often = {"call": 0.8, "let": 0.6}.get(word, 0)
    if chance.random() < often:
        first = grown_function(chance, ahead, names)
    else:
        first = grown(chance, ahead, names)
    if word == "let":
        x = chance.choice(NAMES)
        return let(x, first, grown(chance, many - ahead, names + (x,)))
    if word == "if":
        return choice(first, grown(chance, (many - ahead) // 2, names), grown(chance, (many - ahead) // 2, names))
    return (word, first, grown(chance, many - ahead, names))


def grown_function(chance, many, names):
    x = chance.choice(NAMES)
    return fun(x, grown(chance, many - 1, names + (x,)))


def outcome(way, tree, most):
    """What a way comes to, or the class with which it is refused."""
    try:
        return way(tree, most)
    except MillError as error:
        return type(error)


class Both(unittest.TestCase):
    def side_by_side(self, tree, most):
        """The number of deeds, or the class of the refusal."""
        told_by = {way.__name__: outcome(way, tree, most) for way in (worked, steps, run, made)}
        if isinstance(told_by["worked"], type):
            for way, refusal in told_by.items():
                self.assertIs(refusal, told_by["worked"], (way, tree, most))
            return told_by["worked"]
        value, deeds = told_by["worked"]
        self.assertEqual((told(told_by["run"][0]), told_by["run"][1]), (value, deeds), (tree, most))
        self.assertEqual(free(value), [])
        self.assertEqual(len(told_by["steps"]), deeds + 1)
        self.assertEqual((told_by["steps"][0], told_by["steps"][-1]), (tree, value))
        return deeds

    def through(self, tree):
        """Side by side with enough deeds, and with one fewer."""
        told_by = self.side_by_side(tree, 60)
        if isinstance(told_by, int):
            self.assertEqual(self.side_by_side(tree, told_by), told_by)
            if told_by > 0:
                self.assertEqual(self.side_by_side(tree, told_by - 1).__name__, "Dry")
        return told_by

    def refused_and_one_fewer(self, tree):
        """The deeds that lead to a refusal other than Dry, and Dry with one fewer."""
        most = 0
        while outcome(worked, tree, most).__name__ == "Dry":
            self.side_by_side(tree, most)
            most += 1
        self.side_by_side(tree, most)

    def test_all_small_trees(self):
        ends = set()
        for many in range(1, 6):
            for tree in small(many, []):
                told_by = self.through(tree)
                ends.add(told_by)
                if isinstance(told_by, type) and told_by.__name__ != "Dry":
                    self.refused_and_one_fewer(tree)
        self.assertEqual({end.__name__ for end in ends if isinstance(end, type)}, {"NoNumber", "NoFunction"})
        self.assertEqual({end for end in ends if isinstance(end, int)}, {0, 1, 2})

    def test_many_greater_trees(self):
        chance = random.Random(3)
        ends = {}
        for _ in range(3000):
            tree = grown(chance, chance.randint(1, 60))
            told_by = self.through(tree)
            ends[told_by] = ends.get(told_by, 0) + 1
            for most in range(4):
                self.side_by_side(tree, most)
        self.assertLessEqual({"NoNumber", "NoFunction"}, {end.__name__ for end in ends if isinstance(end, type)})
        self.assertGreater(max(end for end in ends if isinstance(end, int)), 5)

    def test_each_step_behind_the_other(self):
        chance = random.Random(4)
        for _ in range(1000):
            tree = grown(chance, chance.randint(1, 40))
            way = outcome(steps, tree, 60)
            if isinstance(way, list):
                self.assertEqual([step(one) for one in way], way[1:] + [None])

    def test_trees_with_a_meaning(self):
        for tree in (ENDLESS, GROWING, countdown(5), countdown(13), level(127), doubled(6, ONE), doubled(6, SAME),
                     call(TWICE, SAME), let("x", SAME, call(call(X, X), call(X, ONE)))):
            self.through(tree)
        self.assertEqual(self.side_by_side(countdown(249), 1000), 1000)
        self.assertEqual(self.side_by_side(countdown(249), 999).__name__, "Dry")
        self.assertEqual(self.side_by_side(ENDLESS, 1000).__name__, "Dry")
        self.assertEqual(self.side_by_side(doubled(9, ONE), 1000), 10)

    def test_the_greatest_trees(self):
        chance = random.Random(6)
        for _ in range(40):
            tree = grown(chance, 300)
            if nodes(tree) <= 400:
                self.through(tree)


if __name__ == "__main__":
    unittest.main()
