"""Point 14: the tree that a text writes."""

import unittest

from builders import ONE, SAME, WORDS, WRAPS, X, ZERO
from builders import call, choice, fun, less, let, level, name, nested, nested_to, num, plus, strangers
from closuremill.errors import NoText
from closuremill.notes import read, shown
from closuremill.trees import nodes

Y = name("y")


class Texts(unittest.TestCase):
    def told(self, text, wanted):
        with self.subTest(text=text):
            self.assertEqual(read(text), wanted)

    def refused(self, text, why=None):
        with self.subTest(text=ascii(text)[:100] if why is None else why):
            with self.assertRaises(NoText) as caught:
                read(text)
            self.assertIs(type(caught.exception), NoText)


class Good(Texts):
    def test_a_number(self):
        for n in (0, 1, 9, 10, 100, 907, 1234567890, -1, -9, -10, -1000):
            self.told(str(n), num(n))

    def test_a_name(self):
        for x in ("x", "z", "ab", "abcdefgh", "nums", "i", "le"):
            self.told(x, name(x))

    def test_each_kind_of_node(self):
        self.told("(fun x x)", fun("x", X))
        self.told("(call x y)", call(X, Y))
        self.told("(plus x 1)", plus(X, ONE))
        self.told("(less 1 -1)", less(ONE, num(-1)))
        self.told("(if x 1 0)", choice(X, ONE, ZERO))
        self.told("(let x 1 x)", let("x", ONE, X))

    def test_nodes_within_nodes(self):
        self.told("(let x (plus 1 -2) (call (fun y y) x))", let("x", plus(ONE, num(-2)), call(fun("y", Y), X)))
        self.told("(if (plus x x) (less x x) (call x x))", choice(plus(X, X), less(X, X), call(X, X)))
        self.told("(fun x (fun y (fun z x)))", fun("x", fun("y", fun("z", X))))

    def test_it_needs_not_be_closed_nor_come_to_anything(self):
        self.told("(call 1 (plus x (fun y z)))", call(ONE, plus(X, fun("y", name("z")))))

    def test_the_kinds_of_what_is_read(self):
        tree = read("(let x 5 x)")
        self.assertIs(type(tree), tuple)
        self.assertEqual([type(part) for part in tree], [str, str, tuple, tuple])
        self.assertEqual([type(part) for part in tree[2]], [str, int])
        self.assertEqual([type(part) for part in tree[3]], [str, str])


class Blanks(Texts):
    def test_blanks_ahead_and_behind(self):
        for text in (" 1", "1 ", "  1  ", " " * 1000 + "1", "1" + " " * 1000):
            self.told(text, ONE)
        for text in (" x", "x ", "   x    "):
            self.told(text, X)
        for text in (" (fun x x)", "(fun x x) ", "   (fun x x)   "):
            self.told(text, SAME)

    def test_blanks_between(self):
        for text in ("(fun  x x)", "(fun x   x)", "( fun x x )", "(  fun   x    x   )", "(fun x x  )"):
            self.told(text, SAME)
        self.told("( plus ( less 1 x ) ( call x y ) )", plus(less(ONE, X), call(X, Y)))
        self.told("(plus" + " " * 1000 + "1" + " " * 1000 + "x)", plus(ONE, X))

    def test_none_beside_brackets(self):
        self.told("(plus(less 1 x)(call x y))", plus(less(ONE, X), call(X, Y)))
        self.told("(let x(plus 1 -2)(call(fun y y)x))", let("x", plus(ONE, num(-2)), call(fun("y", Y), X)))
        self.told("(plus(plus 1 2)3)", plus(plus(ONE, num(2)), num(3)))
        self.told("(if(if 1 2 3)(if 1 2 3)(if 1 2 3))", choice(*[choice(ONE, num(2), num(3))] * 3))

    def test_none_between_words(self):
        for text in ("(funx x)", "(fun xx)", "(plus 12)", "(plus1 2)", "(plus 1-2)", "(plus x1)", "(plus 1x)"):
            self.refused(text)

    def test_other_signs_are_no_blanks(self):
        for blank in ("\t", "\n", "\r", "\x0b", "\x0c", "\x1f", "\x85", "\xa0", "\u2003", "\u2028", "\u3000", "\ufeff",
                      "\x00", "_", ",", ";", "."):
            for text in ("%s1", "1%s", "%sx", "x%s", "%s(fun x x)", "(fun x x)%s", "(%sfun x x)", "(fun%sx x)",
                         "(fun %s x x)", "(fun x%sx)", "(fun x x%s)", "(fun x %s x)", "(plus 1%s2)",
                         "(plus 1 %s(fun x x))"):
                self.refused(text.replace("%s", blank))


class Numbers(Texts):
    def test_sixty_figures(self):
        for n in (10 ** 59, 10 ** 60 - 1, -10 ** 59, 1 - 10 ** 60, int("1234567890" * 6)):
            self.told(str(n), num(n))
            self.told("(plus %d x)" % n, plus(num(n), X))

    def test_sixty_one_figures(self):
        for n in (10 ** 60, 10 ** 61 - 1, -10 ** 60, 1 - 10 ** 61):
            self.refused(str(n))
            self.refused("(plus %d x)" % n)
            self.refused("(plus x %d)" % n)
            self.assertEqual(shown(num(n)), str(n))

    def test_very_many_figures(self):
        for many in (100, 1000, 4300, 4301, 5000, 100000):
            for text in ("1" * many, "-" + "9" * many, "0" * many, "(plus 1 " + "7" * many + ")"):
                self.refused(text, (text[:9], many))

    def test_a_nought_ahead(self):
        for text in ("00", "01", "007", "-01", "-007", "0" * 60, "0" + "1" * 59, "000000000"):
            self.refused(text)
            self.refused("(plus 1 %s)" % text)

    def test_no_nought_below_nought(self):
        for text in ("-0", "-00", "(plus -0 1)", "(less 1 -0)"):
            self.refused(text)
        self.told("0", ZERO)
        self.told("(plus 0 0)", plus(ZERO, ZERO))

    def test_signs(self):
        for text in ("-", "--", "--1", "-1-", "1-", "- 1", "+", "+1", "+0", "-+1", "+-1", "1-1", "-x", "1+1"):
            self.refused(text)
            self.refused("(plus 1 %s)" % text)

    def test_a_minus_of_another_kind(self):
        for minus in ("\u2212", "\u2013", "\u2010", "\u2011", "\uff0d", "\xad", "~"):
            self.refused(minus + "1")

    def test_figures_that_are_not_0_to_9(self):
        for figure in ("\u0661", "\u06f1", "\u0967", "\uff11", "\xb2", "\xb9", "\xbd", "\u2160", "\u2460", "\U0001d7cf",
                       "\u4e00"):
            for text in (figure, "1" + figure, figure + "1", "-" + figure, figure * 3):
                self.refused(text)
                self.refused("(plus %s 1)" % text)

    def test_what_python_takes_for_a_number(self):
        for text in ("1_000", "0x1", "0b1", "0o1", "1.0", "1.", ".5", "1e3", "1j", "1l", "a1", "1a"):
            self.refused(text)
            self.refused("(plus 1 %s)" % text)
        self.told("inf", name("inf"))
        self.told("nan", name("nan"))


class Names(Texts):
    def test_more_than_eight_signs(self):
        for x in ("abcdefghi", "zzzzzzzzz", "a" * 100000):
            self.refused(x, len(x))
            self.refused("(fun %s 1)" % x, len(x))
            self.refused("(let %s 1 1)" % x, len(x))

    def test_signs_of_any_other_kind(self):
        plain = "A Z 0 9 _ ' \" ! ? * / \\ [ ] { } < > = . , ; : # @"
        for sign in (plain + " \xe9 \xdf \u0430 \u03b1 \uff41 \xaa \ud800").split(" "):
            for x in ("a" + sign, sign + "a", "ab" + sign + "cd"):
                self.refused(x)
                self.refused("(fun %s 1)" % x)
                self.refused("(let %s 1 1)" % x)
                self.refused("(plus 1 %s)" % x)

    def test_a_word_in_the_place_of_a_name(self):
        for word in WORDS:
            self.refused(word)
            self.refused("(fun %s 1)" % word)
            self.refused("(let %s 1 1)" % word)
            self.refused("(plus %s 1)" % word)
            self.refused("(plus 1 %s)" % word)
            self.refused("(fun x %s)" % word)
            self.told("(fun %ss %ss)" % (word, word), fun(word + "s", name(word + "s")))

    def test_no_name_where_one_has_to_stand(self):
        for text in ("(fun 1 x)", "(fun -1 x)", "(let 0 1 x)", "(fun (fun x x) x)", "(let (fun x x) 1 x)", "(fun () x)",
                     "(fun (x) x)", "(fun x)", "(let x 1)", "(let 1 x)"):
            self.refused(text)


class Shapes(Texts):
    def test_nothing(self):
        for text in ("", " ", "  ", " " * 100000):
            self.refused(text, len(text))

    def test_brackets_alone(self):
        for text in ("()", "( )", "(())", "()()", "(", ")", ")(", "((", "))", "(()", "())"):
            self.refused(text)

    def test_a_bracket_too_many(self):
        for text in ("(fun x x))", "1)", "x)", ")1", ")(fun x x)", "(plus (plus 1 2)) 3)", "(plus 1 2)) ",
                     "(fun x x) )"):
            self.refused(text)

    def test_a_bracket_too_few(self):
        for text in ("(fun x x", "((fun x x)", "(1", "(x", "(plus (plus 1 2 3)", "(plus 1 (plus 2 3)", "fun x x)"):
            self.refused(text)

    def test_brackets_that_are_not_needed(self):
        for text in ("(1)", "(x)", "((fun x x))", "(fun x (x))", "(plus (1) 2)", "(fun x (1))", "((plus) 1 2)"):
            self.refused(text)

    def test_brackets_that_are_missing(self):
        for text in ("fun x x", "plus 1 2", "(plus 1 plus 1 2)", "(fun x fun y y)"):
            self.refused(text)

    def test_brackets_of_another_kind(self):
        for text in ("[fun x x]", "{fun x x}", "<fun x x>", "(fun x x]", "\uff08fun x x\uff09"):
            self.refused(text)

    def test_two_trees_side_by_side(self):
        for text in ("1 1", "x y", "1 x", "(fun x x)(fun x x)", "(fun x x) (fun x x)", "1 (fun x x)", "(fun x x) 1",
                     "(fun x x)1", "x(fun x x)", "()1"):
            self.refused(text)

    def test_a_part_too_few_and_too_many(self):
        for word, many in (("call", 2), ("plus", 2), ("less", 2), ("if", 3), ("fun x", 1), ("let x", 2)):
            for count in range(6):
                text = "(" + word + " 1" * count + ")"
                if count == many:
                    self.assertEqual(shown(read(text)), text)
                else:
                    self.refused(text)

    def test_numbers_and_names_have_no_brackets(self):
        for text in ("(num 1)", "(name x)", "(num x)", "(name 1)", "(num)", "(name)", "(num (num 1))",
                     "(name (name x))", "(plus (num 1) (name x))", "(num 1 1)"):
            self.refused(text)

    def test_no_known_word(self):
        for text in ("(times 1 2)", "(PLUS 1 2)", "(Plus 1 2)", "(pluss 1 2)", "(plu 1 2)", "(x 1)", "(x y)", "(1 2)",
                     "(1 2 3)", "((fun x x) 1)", "(- 1 2)", "(+ 1 2)", "(lambda x x)", "((plus) 1 2)", "((fun) x x)"):
            self.refused(text)

    def test_a_word_in_another_place(self):
        for text in ("(1 plus 2)", "(x fun x)", "(1 2 plus)"):
            self.refused(text)


class Great(Texts):
    def test_400_nodes_and_401(self):
        for kind, (wrap, adds) in WRAPS.items():
            most, more = nested_to(wrap, adds, 400), nested_to(wrap, adds, 401)
            self.assertEqual((nodes(most), nodes(more)), (400, 401))
            self.assertEqual(read(shown(most)), most, kind)
            self.refused(shown(more), kind)
        self.assertEqual(read(shown(level(400))), level(400))
        self.refused(shown(level(401)), "level")

    def test_some_hundred_brackets_within_one_another(self):
        for many in (100, 199, 300, 399):
            text = "(fun x " * many + "x" + ")" * many
            self.assertEqual(read(text), nested(WRAPS["fun"][0], many, X))
            self.refused(text + ")", many)
            self.refused("(" + text, many)
            self.refused(text[:-1], many)
            self.refused(text[:-1] + " x)", many)
            self.refused("(" * many + "x" + ")" * many, many)

    def test_very_many_brackets(self):
        many = 100000
        for text in ("(" * many, ")" * many, "(" * many + ")" * many, "()" * many, "( " * many, "(fun x " * many,
                     "(fun x " * many + "x" + ")" * many, "(plus 1 " * many + "1" + ")" * many, "(" * many + "1",
                     "(plus " * many + "1" + " 1)" * many, "x" + ")" * many, "1 " * many, "(fun x x) " * many):
            self.refused(text, text[:9])

    def test_very_long_words(self):
        for text in ("a" * 100000, "(" + "plus" * 100000 + " 1 1)", "-" * 100000, "(fun x " + "x" * 100000 + ")"):
            self.refused(text, text[:9])


class NoTexts(Texts):
    def test_things_that_are_no_texts(self):
        for why, thing in strangers().items():
            self.refused(thing, why)

    def test_things_that_only_tell_of_a_tree(self):
        for thing in (0, 1, -1, 10 ** 5000, ONE, X, SAME, ("1",), ["1"], ["(", "fun", "x", "x", ")"], {"1": 1}, b"1",
                      b"(fun x x)", bytearray(b"1"), 1.0, True, None):
            self.refused(thing, type(thing).__name__)


if __name__ == "__main__":
    unittest.main()
