"""Points 8 to 10: the machine, what its functions keep, and the trees of its values."""

import unittest

from builders import ENDLESS, GROWING, ONE, SAME, TWICE, WRAPS, X, ZERO
from builders import call, choice, countdown, doubled, fun, less, let, level, name, nested, num, plus
from closuremill.errors import Dry, NoFunction, NoNumber
from closuremill.machine import Kept, made, run, told
from closuremill.putting import worked
from closuremill.trees import free, nodes

A, B, C, F, G, N, Y = [name(sign) for sign in "abcfgny"]
TWO, THREE = num(2), num(3)


def plain(value):
    """A machine's value, each Kept as a tuple of what it has."""
    if isinstance(value, Kept):
        return (value.name, value.body, value.names, [plain(held) for held in value.held])
    return value


class Runs(unittest.TestCase):
    def comes_to(self, tree, value, deeds=None):
        with self.subTest(tree=tree):
            ran = run(tree, 1000)
            self.assertIs(type(ran), tuple)
            self.assertEqual(len(ran), 2)
            self.assertEqual(plain(ran[0]), value)
            self.assertIn(type(ran[0]), (int, Kept))
            self.assertIs(type(ran[1]), int)
            if deeds is not None:
                self.assertEqual(ran[1], deeds)

    def makes(self, tree, wanted):
        with self.subTest(tree=tree):
            kepts = made(tree, 1000)
            self.assertIs(type(kepts), list)
            self.assertEqual([type(kept) for kept in kepts], [Kept] * len(kepts))
            self.assertEqual([plain(kept) for kept in kepts], wanted)

    def refused(self, tree, most, error):
        for way in (run, made):
            with self.subTest(way=way.__name__, tree=tree, most=most):
                with self.assertRaises(error) as caught:
                    way(tree, most)
                self.assertIs(type(caught.exception), error)


class Deeds(Runs):
    def test_a_number(self):
        for n in (0, 1, -1, 10 ** 60 - 1):
            self.comes_to(num(n), n, 0)

    def test_a_function(self):
        self.comes_to(SAME, ("x", X, [], []), 0)
        self.comes_to(fun("x", plus(SAME, call(ONE, ONE))), ("x", plus(SAME, call(ONE, ONE)), [], []), 0)

    def test_a_sum_and_a_difference(self):
        self.comes_to(plus(ONE, TWO), 3, 1)
        self.comes_to(less(ONE, THREE), -2, 1)
        self.comes_to(less(plus(ONE, TWO), less(TWO, ONE)), 2, 3)

    def test_a_call(self):
        self.comes_to(call(SAME, TWO), 2, 1)
        self.comes_to(call(fun("x", plus(X, X)), plus(ONE, TWO)), 6, 3)
        self.comes_to(call(call(fun("a", fun("b", less(A, B))), num(7)), num(4)), 3, 3)

    def test_a_choice(self):
        for n in (1, -1, 5, -10 ** 59):
            self.comes_to(choice(num(n), TWO, call(ONE, ONE)), 2, 1)
        self.comes_to(choice(ZERO, call(ONE, ONE), THREE), 3, 1)
        self.comes_to(choice(less(ONE, ONE), ENDLESS, plus(ONE, ONE)), 2, 3)

    def test_a_let(self):
        self.comes_to(let("x", TWO, plus(X, X)), 4, 2)
        self.comes_to(let("x", plus(ONE, ONE), ONE), 1, 2)

    def test_a_thousand_deeds(self):
        self.comes_to(countdown(249), 7, 1000)
        self.assertEqual(run(countdown(249), 1000), (7, 1000))
        self.refused(countdown(249), 999, Dry)
        self.refused(countdown(250), 1000, Dry)

    def test_just_as_many_deeds_and_one_fewer(self):
        for tree, deeds in ((plus(ONE, TWO), 1), (let("x", ONE, plus(X, X)), 2), (countdown(3), 16)):
            self.assertEqual(run(tree, deeds), run(tree, 1000))
            self.assertEqual(len(made(tree, deeds)), len(made(tree, 1000)))
            self.refused(tree, deeds - 1, Dry)

    def test_no_deed(self):
        self.assertEqual(run(ONE, 0), (1, 0))
        self.assertEqual([plain(kept) for kept in made(SAME, 0)], [("x", X, [], [])])
        for tree in (plus(ONE, ONE), choice(ONE, ONE, ONE), let("x", ONE, ONE), call(SAME, ONE)):
            self.refused(tree, 0, Dry)

    def test_a_tree_that_never_comes_to_an_end(self):
        for tree in (ENDLESS, GROWING):
            for most in (0, 1, 2, 999, 1000):
                self.refused(tree, most, Dry)

    def test_refusals(self):
        for tree, error in (
            (plus(SAME, ONE), NoNumber), (plus(ONE, SAME), NoNumber), (less(SAME, ONE), NoNumber),
            (less(ONE, SAME), NoNumber), (choice(SAME, ONE, ONE), NoNumber), (call(ONE, SAME), NoFunction),
            (call(ZERO, ONE), NoFunction),
        ):
            self.refused(tree, 0, Dry)
            self.refused(tree, 1, error)
            self.refused(tree, 1000, error)

    def test_what_comes_first_is_refused(self):
        self.refused(call(ONE, plus(ONE, SAME)), 1000, NoNumber)
        self.refused(plus(SAME, call(ONE, ONE)), 1000, NoFunction)
        self.refused(plus(call(ONE, ONE), plus(ONE, SAME)), 1000, NoFunction)
        self.refused(less(plus(ONE, SAME), call(ONE, ONE)), 1000, NoNumber)
        self.refused(call(ONE, ENDLESS), 1000, Dry)

    def test_deeds_deep_within(self):
        for kind, value in (("plus, the first", 199), ("less, the second", 1)):
            self.comes_to(nested(WRAPS[kind][0], 199), value, 199)
        self.assertEqual(run(level(255), 127), (128, 127))

    def test_numbers_of_more_than_sixty_figures(self):
        great = 10 ** 60 - 1
        self.comes_to(plus(num(great), num(great)), 2 * great, 1)
        self.comes_to(let("x", num(-great), less(X, let("x", plus(X, X), less(ZERO, X)))), -3 * great)


class Environments(Runs):
    def test_the_innermost_of_one_name_counts(self):
        self.comes_to(let("x", ONE, let("x", TWO, X)), 2)
        self.comes_to(let("x", ONE, call(SAME, TWO)), 2)
        self.comes_to(call(fun("x", let("x", plus(X, X), plus(X, X))), ONE), 4)

    def test_a_let_does_not_reach_beyond_its_body(self):
        self.comes_to(let("x", ONE, plus(let("x", TWO, X), X)), 3)
        self.comes_to(let("x", ONE, let("x", plus(X, TWO), X)), 3)
        self.comes_to(let("x", ONE, let("y", let("x", TWO, X), less(X, Y))), -1)

    def test_a_call_does_not_reach_beyond_its_body(self):
        self.comes_to(let("x", ONE, plus(call(SAME, TWO), X)), 3)
        self.comes_to(call(fun("x", plus(call(SAME, TWO), X)), ONE), 3)

    def test_a_call_works_out_the_body_where_the_function_was_made(self):
        made_under_one = fun("y", A)
        self.comes_to(let("a", ONE, let("f", made_under_one, let("a", TWO, call(F, ZERO)))), 1)
        self.comes_to(let("a", ONE, let("f", made_under_one, plus(let("a", TWO, call(F, ZERO)), A))), 2)
        self.comes_to(let("a", ONE, let("f", made_under_one, call(fun("a", call(F, A)), TWO))), 1)
        self.comes_to(let("a", ONE, call(fun("f", let("a", TWO, call(F, A))), fun("b", less(A, B)))), -1)

    def test_a_function_whose_own_name_is_round_it(self):
        self.comes_to(let("x", ONE, let("f", fun("x", plus(X, X)), call(F, num(5)))), 10)
        self.comes_to(call(fun("x", call(fun("x", plus(X, ONE)), plus(X, X))), TWO), 5)
        self.makes(let("x", ONE, SAME), [("x", X, [], [])])
        self.makes(let("x", ONE, let("y", TWO, fun("x", plus(Y, X)))), [("x", plus(Y, X), ["y"], [2])])

    def test_names_of_each_call_of_one_function(self):
        tree = let("f", fun("a", fun("b", less(A, B))), let("g", call(F, num(10)), let("n", call(F, num(20)),
                   plus(call(G, ONE), call(N, TWO)))))
        self.comes_to(tree, 27)


class WhatIsKept(Runs):
    def test_a_closed_function_holds_nothing(self):
        for tree in (SAME, TWICE, fun("x", ONE), fun("x", fun("y", plus(X, Y))), fun("x", let("y", X, Y))):
            wanted = (tree[1], tree[2], [], [])
            self.comes_to(tree, wanted)
            self.comes_to(let("a", ONE, let("y", TWO, tree)), wanted)

    def test_the_free_names_and_what_they_stand_for(self):
        self.comes_to(let("a", ONE, fun("x", A)), ("x", A, ["a"], [1]))
        self.comes_to(let("a", plus(ONE, TWO), fun("x", plus(X, A))), ("x", plus(X, A), ["a"], [3]))
        self.comes_to(call(fun("a", fun("x", A)), num(-4)), ("x", A, ["a"], [-4]))

    def test_in_the_order_in_which_the_names_come_first(self):
        for body, names in (
            (plus(A, plus(B, C)), ["a", "b", "c"]),
            (plus(C, plus(B, A)), ["c", "b", "a"]),
            (plus(plus(B, C), plus(C, B)), ["b", "c"]),
            (plus(fun("a", plus(A, C)), plus(B, A)), ["c", "b", "a"]),
            (let("b", plus(C, B), plus(B, A)), ["c", "b", "a"]),
        ):
            worth = {"a": 1, "b": 2, "c": 3}
            held = [worth[name] for name in names]
            for order in ("abc", "cba", "bca"):
                tree = fun("x", body)
                for sign in order:
                    tree = let(sign, num(worth[sign]), tree)
                self.comes_to(tree, ("x", body, names, held))

    def test_no_name_that_is_not_free_in_the_function(self):
        tree = let("a", ONE, let("b", TWO, let("c", THREE, fun("x", plus(B, X)))))
        self.comes_to(tree, ("x", plus(B, X), ["b"], [2]))
        tree = let("a", ONE, let("b", TWO, fun("x", let("a", B, fun("b", plus(A, B))))))
        self.comes_to(tree, ("x", let("a", B, fun("b", plus(A, B))), ["b"], [2]))
        tree = call(fun("a", call(fun("b", fun("x", B)), A)), ONE)
        self.comes_to(tree, ("x", B, ["b"], [1]))

    def test_a_name_bound_again_within(self):
        tree = let("a", ONE, let("a", TWO, fun("x", A)))
        self.comes_to(tree, ("x", A, ["a"], [2]))
        tree = let("a", ONE, plus(let("a", TWO, call(fun("x", A), ZERO)), call(fun("y", A), ZERO)))
        self.makes(tree, [("x", A, ["a"], [2]), ("y", A, ["a"], [1])])
        body = plus(A, fun("a", A))
        self.comes_to(let("a", ONE, fun("x", body)), ("x", body, ["a"], [1]))

    def test_the_body_stands_as_in_the_function(self):
        body = plus(A, call(fun("y", plus(A, Y)), plus(ONE, ONE)))
        for tree in (let("a", ONE, fun("x", body)), call(fun("a", fun("x", body)), ONE)):
            kept = run(tree, 1000)[0]
            self.assertEqual((kept.name, kept.body), ("x", body))

    def test_a_kept_that_holds_kepts_that_hold_kepts(self):
        tree = let("f", fun("a", A), let("g", fun("b", call(F, B)), let("n", fun("c", call(G, call(F, C))),
                   fun("x", call(N, call(G, X))))))
        f = ("a", A, [], [])
        g = ("b", call(F, B), ["f"], [f])
        n = ("c", call(G, call(F, C)), ["g", "f"], [g, f])
        self.makes(tree, [f, g, n, ("x", call(N, call(G, X)), ["n", "g"], [n, g])])
        kept = run(tree, 1000)[0]
        self.assertIs(kept.held[0].held[0], kept.held[1])
        self.assertIs(kept.held[0].held[1], kept.held[1].held[0])

    def test_a_function_of_functions_of_functions(self):
        inmost = fun("c", plus(A, plus(B, C)))
        middle = fun("b", inmost)
        outer = fun("a", middle)
        self.makes(call(call(call(outer, ONE), TWO), THREE), [
            ("a", middle, [], []),
            ("b", inmost, ["a"], [1]),
            ("c", inmost[2], ["a", "b"], [1, 2]),
        ])
        self.comes_to(call(call(call(outer, ONE), TWO), THREE), 6, 5)

    def test_each_kept_has_its_attributes_and_lists_of_its_own(self):
        for kept in made(let("a", ONE, call(fun("x", A), fun("y", A))), 1000):
            self.assertEqual((type(kept.name), type(kept.body)), (str, tuple))
            self.assertEqual((type(kept.names), type(kept.held)), (list, list))
        first, second = made(let("a", ONE, call(fun("x", ONE), call(fun("y", fun("x", A)), ZERO))), 1000)[-2:]
        self.assertIsNot(first.names, second.names)
        self.assertIsNot(first.held, second.held)


class Made(Runs):
    def test_a_tree_without_a_function(self):
        for tree in (ONE, plus(ONE, TWO), let("x", ONE, plus(X, X)), choice(ONE, ONE, ONE)):
            self.makes(tree, [])

    def test_the_first_part_and_then_the_second(self):
        f, g = fun("a", ONE), fun("b", TWO)
        self.makes(call(f, g), [("a", ONE, [], []), ("b", TWO, [], [])])
        self.makes(call(g, f), [("b", TWO, [], []), ("a", ONE, [], [])])
        self.makes(plus(call(f, ONE), call(g, ONE)), [("a", ONE, [], []), ("b", TWO, [], [])])
        self.makes(let("x", f, call(g, X)), [("a", ONE, [], []), ("b", TWO, [], [])])
        self.makes(choice(call(f, ONE), g, f), [("a", ONE, [], []), ("b", TWO, [], [])])

    def test_a_function_that_is_not_come_to(self):
        same = ("x", X, [], [])
        self.makes(choice(ONE, TWO, SAME), [])
        self.makes(choice(ZERO, SAME, TWO), [])
        self.makes(fun("x", SAME), [("x", SAME, [], [])])
        self.makes(call(fun("y", ONE), SAME), [("y", ONE, [], []), same])
        self.makes(call(fun("y", fun("x", X)), ONE), [("y", SAME, [], []), same])

    def test_a_function_with_which_the_run_goes_on_no_further(self):
        self.makes(let("f", SAME, ONE), [("x", X, [], [])])
        self.makes(let("f", SAME, let("f", TWICE, ONE)), [("x", X, [], []), ("x", TWICE[2], [], [])])
        self.makes(call(fun("x", ONE), let("a", TWO, fun("y", A))), [("x", ONE, [], []), ("y", A, ["a"], [2])])

    def test_a_function_is_made_as_often_as_it_is_come_to(self):
        tree = let("f", fun("a", call(fun("b", plus(A, B)), A)), plus(call(F, ONE), call(F, TWO)))
        self.makes(tree, [
            ("a", call(fun("b", plus(A, B)), A), [], []),
            ("b", plus(A, B), ["a"], [1]),
            ("b", plus(A, B), ["a"], [2]),
        ])
        kepts = made(countdown(20), 1000)
        self.assertEqual([kept.name for kept in kepts], ["f"] + ["n"] * 21)
        for kept in kepts[1:]:
            self.assertEqual(kept.names, ["f"])
            self.assertIs(kept.held[0], kepts[0])

    def test_a_name_makes_nothing(self):
        self.makes(let("f", SAME, let("g", F, call(F, G))), [("x", X, [], [])])

    def test_kepts_made_twice_are_two(self):
        first, second = made(call(SAME, SAME), 1000)
        self.assertIsNot(first, second)
        self.assertNotEqual(first, second)
        tree = let("f", fun("a", SAME), call(call(F, ONE), call(F, ONE)))
        kepts = made(tree, 1000)
        self.assertEqual(len(kepts), 3)
        self.assertIsNot(kepts[1], kepts[2])
        self.assertIsNot(kepts[1].names, kepts[2].names)
        self.assertIsNot(kepts[1].held, kepts[2].held)

    def test_each_run_makes_its_own(self):
        self.assertIsNot(run(SAME, 0)[0], run(SAME, 0)[0])
        self.assertIsNot(made(SAME, 0)[0], made(SAME, 0)[0])
        made(SAME, 0).append(ONE)
        self.assertEqual(len(made(SAME, 0)), 1)

    def test_a_whole_run(self):
        self.refused(let("f", SAME, call(ONE, F)), 1000, NoFunction)
        self.refused(let("f", SAME, plus(F, F)), 1, Dry)


class Told(Runs):
    def told(self, tree, wanted):
        with self.subTest(tree=tree):
            self.assertEqual(told(run(tree, 1000)[0]), wanted)

    def test_a_number(self):
        for n in (0, 1, -1, 10 ** 59, -10 ** 80):
            self.assertEqual(told(n), ("num", n))

    def test_a_kept_that_holds_nothing(self):
        for tree in (SAME, TWICE, fun("x", ENDLESS), fun("x", let("y", X, plus(X, Y)))):
            self.told(tree, tree)

    def test_a_kept_that_holds_numbers(self):
        self.told(let("a", ONE, fun("x", A)), fun("x", ONE))
        tree = let("a", num(-1), let("b", TWO, fun("x", plus(A, less(B, plus(X, A))))))
        self.told(tree, fun("x", plus(num(-1), less(TWO, plus(X, num(-1))))))

    def test_a_name_that_is_bound_again_within(self):
        self.told(let("a", ONE, fun("x", plus(A, fun("a", A)))), fun("x", plus(ONE, fun("a", A))))
        self.told(let("a", ONE, fun("x", let("a", plus(A, X), A))), fun("x", let("a", plus(ONE, X), A)))
        self.told(let("a", ONE, fun("a", A)), fun("a", A))

    def test_a_kept_that_holds_kepts(self):
        tree = let("a", ONE, let("f", fun("x", plus(X, A)), let("g", fun("y", call(F, call(F, Y))),
                   fun("b", call(G, call(F, plus(A, B)))))))
        f = fun("x", plus(X, ONE))
        g = fun("y", call(f, call(f, Y)))
        self.told(tree, fun("b", call(g, call(f, plus(ONE, B)))))

    def test_names_of_what_is_put_in_mean_nothing_else_where_they_are_put(self):
        self.told(let("f", fun("y", Y), fun("y", call(F, Y))), fun("y", call(fun("y", Y), Y)))
        self.told(let("a", ONE, let("b", fun("x", A), let("a", TWO, fun("x", plus(A, call(B, X)))))),
                  fun("x", plus(TWO, call(fun("x", ONE), X))))

    def test_all_that_is_told_is_closed(self):
        for kept in made(let("a", ONE, let("f", fun("x", plus(X, A)), call(fun("y", fun("b", call(F, Y))), A))), 1000):
            self.assertEqual(free(told(kept)), [])

    def test_kepts_within_one_another(self):
        tree = name("f")
        for _ in range(60):
            tree = let("f", fun("x", F), tree)
        told_tree = told(run(let("f", ZERO, tree), 1000)[0])
        self.assertEqual(told_tree, nested(WRAPS["fun"][0], 60))

    def test_a_chain_of_kepts_that_a_run_made_long(self):
        again = call(call(F, F), less(N, ONE))
        body = fun("n", choice(N, let("a", again, fun("x", A)), ZERO))
        value, deeds = run(let("f", fun("f", body), call(call(F, F), num(150))), 1000)
        self.assertEqual(deeds, 1 + 150 * 5 + 3)
        self.assertEqual(told(value), worked(let("f", fun("f", body), call(call(F, F), num(150))), 1000)[0])
        self.assertEqual(nodes(told(value)), 151)

    def test_a_tree_that_grows_above_400_nodes(self):
        value, deeds = run(doubled(10, SAME), 1000)
        self.assertEqual(deeds, 11)
        self.assertEqual(told(value), worked(doubled(10, SAME), 1000)[0])


if __name__ == "__main__":
    unittest.main()
