"""Point 5: putting a closed tree in for a name."""

import unittest

from builders import ONE, SAME, WORDS, WRAPS, X, call, choice, flat, fun, let, level, name, nested, num, plus
from closuremill.putting import put
from closuremill.trees import free, nodes

A, B, Y = name("a"), name("b"), name("y")
FIVE = num(5)


class Put(unittest.TestCase):
    def told(self, tree, wanted, value=FIVE):
        self.assertEqual(put(tree, "x", value), wanted)

    def test_a_number_stays_as_it_is(self):
        for n in (0, 1, -5, 10 ** 59):
            self.told(num(n), num(n))

    def test_a_name(self):
        self.told(X, FIVE)
        self.told(Y, Y)
        self.assertEqual(put(Y, "y", SAME), SAME)

    def test_a_name_is_put_in_for_as_a_whole(self):
        for other in ("xx", "ax", "xa", "xxxxxxxx"):
            self.told(name(other), name(other))
        self.assertEqual(put(plus(X, name("xx")), "xx", FIVE), plus(X, FIVE))

    def test_each_part_of_every_kind(self):
        for kind, (wrap, _) in WRAPS.items():
            with self.subTest(kind=kind):
                self.assertEqual(put(wrap(Y), "y", FIVE), wrap(FIVE))
                self.assertEqual(put(wrap(plus(A, Y)), "y", SAME), wrap(plus(A, SAME)))

    def test_every_place_at_once(self):
        self.told(plus(X, call(X, plus(Y, X))), plus(FIVE, call(FIVE, plus(Y, FIVE))))
        self.told(choice(X, X, X), choice(FIVE, FIVE, FIVE))
        self.told(let("y", X, X), let("y", FIVE, FIVE))
        self.told(fun("y", fun("a", X)), fun("y", fun("a", FIVE)))

    def test_a_function_that_binds_the_name(self):
        self.told(fun("x", X), fun("x", X))
        self.told(fun("x", fun("y", plus(X, Y))), fun("x", fun("y", plus(X, Y))))
        self.told(fun("y", fun("x", X)), fun("y", fun("x", X)))

    def test_a_let_that_binds_the_name(self):
        self.told(let("x", ONE, X), let("x", ONE, X))
        self.told(let("x", X, X), let("x", FIVE, X))
        self.told(let("x", plus(X, fun("x", X)), plus(X, Y)), let("x", plus(FIVE, fun("x", X)), plus(X, Y)))
        self.told(let("x", let("x", X, X), X), let("x", let("x", FIVE, X), X))
        self.told(let("y", X, let("x", X, X)), let("y", FIVE, let("x", FIVE, X)))

    def test_the_same_name_free_and_bound(self):
        self.told(plus(X, fun("x", X)), plus(FIVE, fun("x", X)))
        self.told(plus(fun("x", X), X), plus(fun("x", X), FIVE))
        self.told(plus(let("x", ONE, X), X), plus(let("x", ONE, X), FIVE))
        self.told(call(fun("x", call(X, fun("x", X))), X), call(fun("x", call(X, fun("x", X))), FIVE))
        self.told(fun("y", call(fun("x", X), X)), fun("y", call(fun("x", X), FIVE)))
        self.told(choice(X, fun("x", X), let("x", X, X)), choice(FIVE, fun("x", X), let("x", FIVE, X)))

    def test_the_names_that_a_node_binds_stay_as_they_are(self):
        self.assertEqual(put(fun("y", X), "y", FIVE), fun("y", X))
        self.assertEqual(put(let("y", Y, X), "y", FIVE), let("y", FIVE, X))

    def test_a_name_that_is_not_free(self):
        for tree in (ONE, Y, SAME, let("x", Y, X), call(SAME, plus(Y, ONE)), choice(A, B, Y)):
            with self.subTest(tree=tree):
                self.told(tree, tree)

    def test_the_value_is_put_in_as_it_is(self):
        for value in (SAME, fun("y", Y), fun("x", fun("y", call(X, Y))), let("x", ONE, X), plus(ONE, ONE)):
            with self.subTest(value=value):
                self.told(X, value, value)
                self.told(plus(X, Y), plus(value, Y), value)
                self.told(fun("y", call(Y, X)), fun("y", call(Y, value)), value)
                self.told(let("y", X, plus(Y, X)), let("y", value, plus(Y, value)), value)

    def test_a_name_like_a_word_with_more_signs(self):
        for word in WORDS:
            more = word + "x"
            self.assertEqual(put(plus(name(more), X), more, FIVE), plus(FIVE, X))

    def test_the_other_free_names_stay_free(self):
        tree = plus(A, fun("b", plus(X, plus(B, Y))))
        self.assertEqual(free(put(tree, "x", SAME)), ["a", "y"])

    def test_no_deed_is_done(self):
        self.told(plus(X, ONE), plus(FIVE, ONE))
        self.told(call(fun("y", Y), X), call(fun("y", Y), FIVE))


class Greater(unittest.TestCase):
    """put looks at nothing ahead."""

    def test_some_hundred_nodes_within_one_another(self):
        for kind, (wrap, _) in WRAPS.items():
            for many in (130, 300, 600):
                with self.subTest(kind=kind, many=many):
                    told = put(nested(wrap, many, Y), "y", SAME)
                    self.assertEqual(flat(told), flat(nested(wrap, many, SAME)))

    def test_some_thousand_nodes_within_one_another(self):
        for kind, (wrap, _) in WRAPS.items():
            with self.subTest(kind=kind):
                told = put(nested(wrap, 5000, Y), "y", SAME)
                self.assertEqual(flat(told), flat(nested(wrap, 5000, SAME)))

    def test_bound_far_within_and_far_without(self):
        tree = nested(WRAPS["plus, the first"][0], 300, fun("x", nested(WRAPS["less, the second"][0], 300, X)))
        self.assertEqual(flat(put(tree, "x", num(5))), flat(tree))
        self.assertEqual(flat(put(plus(tree, X), "x", num(5))), flat(plus(tree, num(5))))

    def test_lets_of_the_same_name_within_one_another(self):
        told = put(nested(lambda tree: let("x", tree, X), 600, X), "x", FIVE)
        self.assertEqual(flat(told), flat(nested(lambda tree: let("x", tree, X), 600, FIVE)))
        told = put(nested(lambda tree: let("x", X, tree), 600, X), "x", FIVE)
        self.assertEqual(flat(told), flat(let("x", FIVE, nested(lambda tree: let("x", X, tree), 599, X))))

    def test_many_nodes_side_by_side(self):
        tree = level(3000)
        told = put(plus(tree, call(X, tree)), "x", FIVE)
        self.assertEqual(told, plus(tree, call(FIVE, tree)))

    def test_a_great_value(self):
        value = nested(WRAPS["fun"][0], 600)
        told = put(plus(X, fun("y", X)), "x", value)
        self.assertEqual(flat(told), flat(plus(value, fun("y", value))))
        self.assertEqual(nodes(told), 2 * 601 + 2)

    def test_numbers_of_more_than_sixty_figures(self):
        for n in (10 ** 60, -10 ** 60, 10 ** 80 + 7):
            self.assertEqual(put(plus(X, num(n)), "x", FIVE), plus(FIVE, num(n)))
            self.assertEqual(put(plus(X, ONE), "x", num(n)), plus(num(n), ONE))


if __name__ == "__main__":
    unittest.main()
