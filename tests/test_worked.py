"""Points 6 and 7: deed behind deed until there is a value, and all trees on the way."""

import unittest

from builders import ENDLESS, GROWING, ONE, SAME, TWICE, WRAPS, X, ZERO
from builders import call, choice, countdown, doubled, fun, less, let, level, name, nested, nested_to, num, plus
from closuremill.errors import Dry, NoFunction, NoNumber
from closuremill.putting import step, steps, worked
from closuremill.trees import nodes

A, B, Y = name("a"), name("b"), name("y")
TWO, THREE, FOUR = num(2), num(3), num(4)
ADD = fun("a", fun("b", plus(A, B)))

# All trees on the way, from the one handed in to the value.
WAYS = (
    (ZERO,),
    (num(-7),),
    (SAME,),
    (fun("x", plus(ONE, SAME)),),
    (plus(ONE, TWO), THREE),
    (less(ONE, TWO), num(-1)),
    (call(SAME, TWO), TWO),
    (choice(ZERO, call(ONE, ONE), TWO), TWO),
    (choice(num(-1), TWO, call(ONE, ONE)), TWO),
    (let("x", ONE, ONE), ONE),
    (let("x", ONE, fun("y", X)), fun("y", ONE)),
    (plus(plus(ONE, ONE), plus(ONE, TWO)), plus(TWO, plus(ONE, TWO)), plus(TWO, THREE), num(5)),
    (let("x", plus(ONE, TWO), plus(X, X)), let("x", THREE, plus(X, X)), plus(THREE, THREE), num(6)),
    (choice(less(ONE, ONE), ONE, plus(ONE, ONE)), choice(ZERO, ONE, plus(ONE, ONE)), plus(ONE, ONE), TWO),
    (
        call(call(ADD, ONE), plus(ONE, TWO)),
        call(fun("b", plus(ONE, B)), plus(ONE, TWO)),
        call(fun("b", plus(ONE, B)), THREE),
        plus(ONE, THREE),
        FOUR,
    ),
    (
        let("x", ONE, let("x", plus(X, X), fun("y", call(X, Y)))),
        let("x", plus(ONE, ONE), fun("y", call(X, Y))),
        let("x", TWO, fun("y", call(X, Y))),
        fun("y", call(TWO, Y)),
    ),
    (
        let("x", fun("y", plus(Y, Y)), plus(call(X, ONE), call(X, TWO))),
        plus(call(fun("y", plus(Y, Y)), ONE), call(fun("y", plus(Y, Y)), TWO)),
        plus(plus(ONE, ONE), call(fun("y", plus(Y, Y)), TWO)),
        plus(TWO, call(fun("y", plus(Y, Y)), TWO)),
        plus(TWO, plus(TWO, TWO)),
        plus(TWO, FOUR),
        num(6),
    ),
    (
        call(TWICE, SAME),
        call(SAME, SAME),
        SAME,
    ),
    (
        let("x", SAME, let("y", fun("a", call(X, A)), fun("b", call(Y, call(X, B))))),
        let("y", fun("a", call(SAME, A)), fun("b", call(Y, call(SAME, B)))),
        fun("b", call(fun("a", call(SAME, A)), call(SAME, B))),
    ),
    (
        call(call(fun("a", fun("b", A)), fun("x", X)), fun("y", Y)),
        call(fun("b", fun("x", X)), fun("y", Y)),
        fun("x", X),
    ),
)


class Working(unittest.TestCase):
    def refused(self, tree, most, error):
        for way in (worked, steps):
            with self.subTest(way=way.__name__, tree=tree, most=most):
                with self.assertRaises(error) as caught:
                    way(tree, most)
                self.assertIs(type(caught.exception), error)

    def told(self, tree, most, value, deeds):
        with self.subTest(tree=tree, most=most):
            told = worked(tree, most)
            self.assertEqual(told, (value, deeds))
            self.assertEqual([type(part) for part in told], [tuple, int])
            self.assertIs(type(told), tuple)


class Ways(Working):
    def test_the_value_and_how_many_deeds_led_there(self):
        for way in WAYS:
            self.told(way[0], 1000, way[-1], len(way) - 1)

    def test_all_trees_on_the_way(self):
        for way in WAYS:
            with self.subTest(tree=way[0]):
                told = steps(way[0], 1000)
                self.assertEqual(told, list(way))
                self.assertIs(type(told), list)

    def test_each_step_is_the_next_tree(self):
        for way in WAYS:
            for tree, behind in zip(way, way[1:] + (None,)):
                with self.subTest(tree=tree):
                    self.assertEqual(step(tree), behind)

    def test_with_just_as_many_deeds_as_it_takes(self):
        for way in WAYS:
            deeds = len(way) - 1
            self.told(way[0], deeds, way[-1], deeds)
            self.assertEqual(steps(way[0], deeds), list(way))

    def test_with_fewer_deeds(self):
        for way in WAYS:
            for most in range(len(way) - 1):
                self.refused(way[0], most, Dry)

    def test_each_list_is_one_of_its_own(self):
        tree = plus(ONE, ONE)
        steps(tree, 5).append(X)
        self.assertEqual(steps(tree, 5), [tree, TWO])


class Counts(Working):
    def test_no_deed_for_a_value(self):
        for value in (ZERO, ONE, num(-5), num(10 ** 60 - 1), SAME, TWICE, fun("x", ENDLESS)):
            self.told(value, 0, value, 0)
            self.assertEqual(steps(value, 0), [value])

    def test_no_deed_for_what_is_no_value(self):
        for tree in (plus(ONE, ONE), less(ONE, ONE), call(SAME, ONE), choice(ONE, ONE, ONE), let("x", ONE, ONE)):
            self.refused(tree, 0, Dry)

    def test_a_tree_that_never_comes_to_an_end(self):
        for tree in (ENDLESS, GROWING, plus(ENDLESS, ONE), let("x", ENDLESS, ONE), choice(ENDLESS, ONE, ONE)):
            for most in (0, 1, 2, 3, 10, 100, 999, 1000):
                self.refused(tree, most, Dry)

    def test_a_tree_that_would_not_end_but_is_not_come_to(self):
        self.told(choice(ONE, ONE, ENDLESS), 1, ONE, 1)
        self.told(call(fun("x", ONE), fun("y", ENDLESS)), 1, ONE, 1)

    def test_a_thousand_deeds(self):
        tree = countdown(249)
        self.told(tree, 1000, num(7), 1000)
        self.refused(tree, 999, Dry)
        self.assertEqual(len(steps(tree, 1000)), 1001)
        self.refused(countdown(250), 1000, Dry)

    def test_whether_a_deed_is_left_comes_ahead_of_what_it_is_refused_for(self):
        for tree, error in (
            (plus(ONE, SAME), NoNumber), (plus(SAME, ONE), NoNumber), (less(SAME, SAME), NoNumber),
            (less(ONE, SAME), NoNumber), (choice(SAME, ONE, ONE), NoNumber),
            (call(ONE, ONE), NoFunction), (call(ZERO, SAME), NoFunction),
        ):
            self.refused(tree, 0, Dry)
            for most in (1, 2, 1000):
                self.refused(tree, most, error)

    def test_a_refused_deed_behind_others(self):
        tree = plus(plus(ONE, ONE), call(call(SAME, ONE), TWO))
        for most, error in ((0, Dry), (1, Dry), (2, Dry), (3, NoFunction), (4, NoFunction)):
            self.refused(tree, most, error)
        tree = let("x", SAME, choice(call(X, X), ONE, ONE))
        for most, error in ((0, Dry), (1, Dry), (2, Dry), (3, NoNumber), (1000, NoNumber)):
            self.refused(tree, most, error)

    def test_what_comes_first_is_refused(self):
        self.refused(call(ONE, plus(ONE, SAME)), 1000, NoNumber)
        self.refused(plus(SAME, call(ONE, ONE)), 1000, NoFunction)
        self.refused(call(ONE, ENDLESS), 1000, Dry)
        self.refused(plus(SAME, ENDLESS), 1000, Dry)
        self.refused(choice(SAME, ENDLESS, ENDLESS), 1000, NoNumber)


class Great(Working):
    def test_deeds_deep_within(self):
        for kind, value in (("plus, the first", num(199)), ("plus, the second", num(199)),
                            ("less, the first", num(-199)), ("less, the second", ONE)):
            with self.subTest(kind=kind):
                tree = nested(WRAPS[kind][0], 199)
                self.told(tree, 199, value, 199)
                self.assertEqual(len(steps(tree, 199)), 200)
                self.refused(tree, 198, Dry)
        tree = nested_to(WRAPS["let, the body"][0], 2, 399)
        self.told(tree, 1000, ZERO, 199)

    def test_deeds_side_by_side(self):
        self.assertEqual(worked(level(255), 127), (num(128), 127))
        self.refused(level(255), 126, Dry)

    def test_numbers_of_more_than_sixty_figures_on_the_way(self):
        great = num(10 ** 60 - 1)
        self.told(plus(great, great), 1, num(2 * 10 ** 60 - 2), 1)
        self.told(less(less(ZERO, great), great), 2, num(2 - 2 * 10 ** 60), 2)
        self.told(less(plus(great, great), great), 2, great, 2)
        tree = X
        for _ in range(98):
            tree = let("x", plus(X, X), tree)
        self.told(let("x", great, tree), 1000, num(2 ** 98 * (10 ** 60 - 1)), 197)

    def test_a_tree_that_grows_above_400_nodes(self):
        tree = doubled(10, ONE)
        value, deeds = worked(tree, 1000)
        self.assertEqual(deeds, 11)
        self.assertEqual(value[0], "fun")
        self.assertEqual(nodes(value), 6 * 2 ** 10 - 5)
        self.assertEqual(nodes(steps(tree, 1000)[-1]), 6 * 2 ** 10 - 5)
        self.assertEqual(worked(doubled(10, fun("x", SAME)), 11)[0], steps(doubled(10, fun("x", SAME)), 11)[-1])

    def test_the_steps_of_a_tree_that_grows(self):
        way = steps(let("f", countdown(3)[2], plus(ONE, call(call(name("f"), name("f")), num(3)))), 1000)
        self.assertEqual(way[-1], num(8))
        for tree, behind in zip(way, way[1:]):
            self.assertEqual(step(tree), behind)


if __name__ == "__main__":
    unittest.main()
