"""Point 13: the text that a tree is written by."""

import unittest

from builders import ONE, SAME, WORDS, WRAPS, X, ZERO
from builders import call, choice, fun, less, let, level, name, nested, num, plus
from closuremill.notes import read, shown

Y = name("y")


class Shown(unittest.TestCase):
    def told(self, tree, wanted):
        self.assertEqual(shown(tree), wanted)
        self.assertIs(type(shown(tree)), str)

    def test_a_number_by_its_figures(self):
        for n, wanted in ((0, "0"), (1, "1"), (9, "9"), (10, "10"), (100, "100"), (1234567890, "1234567890")):
            self.told(num(n), wanted)

    def test_a_number_below_nought(self):
        for n, wanted in ((-1, "-1"), (-10, "-10"), (-907, "-907")):
            self.told(num(n), wanted)

    def test_a_name_by_itself(self):
        for x in ("x", "y", "abcdefgh", "nums", "lets"):
            self.told(name(x), x)

    def test_each_kind_of_node(self):
        self.told(fun("x", X), "(fun x x)")
        self.told(fun("name", ONE), "(fun name 1)")
        self.told(call(X, Y), "(call x y)")
        self.told(plus(X, ONE), "(plus x 1)")
        self.told(less(ONE, num(-1)), "(less 1 -1)")
        self.told(choice(X, ONE, ZERO), "(if x 1 0)")
        self.told(let("x", ONE, X), "(let x 1 x)")

    def test_nodes_within_nodes(self):
        self.told(let("x", plus(ONE, num(-2)), call(fun("y", Y), X)), "(let x (plus 1 -2) (call (fun y y) x))")
        self.told(fun("x", fun("y", fun("z", X))), "(fun x (fun y (fun z x)))")
        self.told(plus(plus(ONE, X), plus(Y, ZERO)), "(plus (plus 1 x) (plus y 0))")
        self.told(choice(plus(X, X), less(X, X), call(X, X)), "(if (plus x x) (less x x) (call x x))")
        self.told(let("a", SAME, let("b", SAME, ONE)), "(let a (fun x x) (let b (fun x x) 1))")

    def test_the_parts_in_their_order(self):
        self.told(choice(num(1), num(2), num(3)), "(if 1 2 3)")
        self.told(choice(num(3), num(1), num(2)), "(if 3 1 2)")
        self.told(less(num(2), num(1)), "(less 2 1)")
        self.told(let("c", name("b"), name("a")), "(let c b a)")

    def test_numbers_of_sixty_figures_and_more(self):
        for many in (18, 19, 20, 59, 60, 61, 62, 119, 120, 121, 200):
            mixed = int("1234567890" * 20) // 10 ** (200 - many)
            for n in (10 ** (many - 1), 10 ** many - 1, 7 * 10 ** (many - 1) + 1, mixed):
                self.told(num(n), str(n))
                self.told(num(-n), "-" + str(n))
        self.told(num(10 ** 60), "1" + "0" * 60)
        self.told(num(1 - 10 ** 60), "-" + "9" * 60)

    def test_numbers_of_many_thousand_figures(self):
        self.told(num(10 ** 6000 + 1), "1" + "0" * 5999 + "1")
        self.told(plus(ONE, num(-10 ** 6000)), "(plus 1 -1" + "0" * 6000 + ")")

    def test_more_than_400_nodes_within_one_another(self):
        ahead = {
            "fun": ("(fun x ", ")"), "call, the function": ("(call ", " 1)"), "call, the value": ("(call 1 ", ")"),
            "plus, the first": ("(plus ", " 1)"), "plus, the second": ("(plus 1 ", ")"),
            "less, the first": ("(less ", " 1)"), "less, the second": ("(less 1 ", ")"),
            "if, the choice": ("(if ", " 1 1)"), "if, the first": ("(if 1 ", " 1)"),
            "if, the second": ("(if 1 1 ", ")"), "let, e": ("(let x ", " 1)"), "let, the body": ("(let x 1 ", ")"),
        }
        self.assertEqual(list(ahead), list(WRAPS))
        for kind, (before, behind) in ahead.items():
            for many in (1, 2, 130, 600, 5000):
                with self.subTest(kind=kind, many=many):
                    self.told(nested(WRAPS[kind][0], many, Y), before * many + "y" + behind * many)

    def test_many_nodes_side_by_side(self):
        text = shown(level(2 ** 12 - 1))
        self.assertEqual((text.count("(plus "), text.count("1")), (2 ** 11 - 1, 2 ** 11))

    def test_what_is_shown_can_be_read(self):
        for tree in (ONE, num(-5), X, SAME, call(SAME, ONE), let("x", plus(ONE, num(-2)), call(fun("y", Y), X)),
                     choice(X, less(Y, ZERO), fun("z", name("z"))), level(400), num(10 ** 60 - 1)):
            self.assertEqual(read(shown(tree)), tree)

    def test_all_words_are_used(self):
        trees = (fun("x", X), call(X, X), plus(X, X), less(X, X), choice(X, X, X), let("x", X, X))
        texts = [shown(tree) for tree in trees]
        self.assertEqual([text[1:].split(" ")[0] for text in texts], list(WORDS[2:]))


if __name__ == "__main__":
    unittest.main()
