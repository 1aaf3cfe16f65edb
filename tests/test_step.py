"""Points 6 and 7: the one deed that comes next."""

import unittest

from builders import AHEAD, ENDLESS, ONE, SAME, TWICE, WRAPS, X, ZERO
from builders import call, choice, flat, fun, less, let, name, nested, num, plus
from closuremill.errors import NoFunction, NoNumber, NotClosed
from closuremill.putting import step

Y = name("y")
TWO, THREE = num(2), num(3)

# A node that isn't a value yet, what one deed makes of it, and nodes that are refused.
SUM = plus(ONE, TWO)
BAD_SUM = plus(ONE, SAME)
BAD_CALL = call(ONE, TWO)


class Steps(unittest.TestCase):
    def told(self, tree, wanted):
        with self.subTest(tree=tree):
            self.assertEqual(step(tree), wanted)

    def refused(self, tree, error):
        with self.subTest(tree=tree):
            with self.assertRaises(error) as caught:
                step(tree)
            self.assertIs(type(caught.exception), error)


class Values(Steps):
    def test_a_number_is_a_value(self):
        for n in (0, 1, -1, 10 ** 59, 10 ** 80):
            self.assertIsNone(step(num(n)))

    def test_a_function_is_a_value_whatever_stands_within(self):
        for body in (ONE, X, Y, SAME, SUM, BAD_SUM, BAD_CALL, ENDLESS, call(SAME, ONE), let("y", SUM, Y)):
            with self.subTest(body=body):
                self.assertIsNone(step(fun("x", body)))

    def test_nothing_within_a_function_is_worked_out(self):
        held = fun("z", plus(ONE, ONE))
        self.told(call(SAME, held), held)
        self.told(plus(call(SAME, TWO), call(held, ONE)), plus(TWO, call(held, ONE)))
        self.told(let("y", held, call(Y, ONE)), call(held, ONE))
        self.told(call(fun("x", plus(X, SUM)), ONE), plus(ONE, SUM))


class Deeds(Steps):
    def test_a_sum(self):
        self.told(plus(ONE, TWO), THREE)
        self.told(plus(ONE, num(-5)), num(-4))
        self.told(plus(ZERO, ZERO), ZERO)

    def test_a_difference_is_the_first_less_the_second(self):
        self.told(less(THREE, ONE), TWO)
        self.told(less(ONE, THREE), num(-2))
        self.told(less(ONE, num(-2)), THREE)
        self.told(less(TWO, TWO), ZERO)

    def test_a_call(self):
        self.told(call(SAME, TWO), TWO)
        self.told(call(fun("x", ONE), TWO), ONE)
        self.told(call(fun("x", plus(X, X)), TWO), plus(TWO, TWO))
        self.told(call(SAME, SAME), SAME)
        self.told(call(fun("x", fun("y", call(X, Y))), SAME), fun("y", call(SAME, Y)))
        self.told(ENDLESS, ENDLESS)

    def test_a_call_of_a_function_that_binds_its_name_again(self):
        self.told(call(fun("x", fun("x", X)), ONE), fun("x", X))
        self.told(call(fun("x", let("x", X, X)), ONE), let("x", ONE, X))
        self.told(call(fun("x", let("x", plus(X, X), plus(X, X))), ONE), let("x", plus(ONE, ONE), plus(X, X)))
        self.told(call(fun("x", call(fun("x", X), X)), ONE), call(fun("x", X), ONE))

    def test_a_choice(self):
        self.told(choice(ONE, TWO, THREE), TWO)
        self.told(choice(ZERO, TWO, THREE), THREE)

    def test_a_choice_above_and_below_nought(self):
        for n in (1, 2, 10 ** 59, 10 ** 80, -1, -2, -10 ** 59):
            self.told(choice(num(n), TWO, THREE), TWO)

    def test_a_choice_leaves_its_other_parts_as_they_are(self):
        for part in (SUM, BAD_SUM, BAD_CALL, ENDLESS, Y, SAME):
            self.told(choice(ONE, part, BAD_SUM), part)
            self.told(choice(ZERO, BAD_SUM, part), part)
            self.told(choice(SUM, part, part), choice(THREE, part, part))

    def test_a_let(self):
        self.told(let("x", ONE, X), ONE)
        self.told(let("x", ONE, plus(X, X)), plus(ONE, ONE))
        self.told(let("x", ONE, TWO), TWO)
        self.told(let("x", SAME, call(X, X)), call(SAME, SAME))
        self.told(let("x", ONE, Y), Y)

    def test_a_let_of_a_name_that_is_bound_again(self):
        self.told(let("x", ONE, let("x", X, X)), let("x", ONE, X))
        self.told(let("x", ONE, plus(X, fun("x", X))), plus(ONE, fun("x", X)))

    def test_a_let_leaves_its_body_alone_until_e_is_a_value(self):
        for body in (SUM, BAD_SUM, BAD_CALL, X, ENDLESS):
            self.told(let("x", SUM, body), let("x", THREE, body))

    def test_the_first_part_and_then_the_second(self):
        for make in (call, plus, less):
            self.told(make(SUM, SUM), make(THREE, SUM))
            self.told(make(SAME, SUM), make(SAME, THREE))
            self.told(make(call(SAME, SAME), SUM), make(SAME, SUM))
            self.told(make(ONE, SUM), make(ONE, THREE))

    def test_one_deed_alone(self):
        self.told(plus(plus(ONE, ONE), plus(ONE, ONE)), plus(TWO, plus(ONE, ONE)))
        self.told(choice(choice(ZERO, ZERO, ONE), SUM, SUM), choice(ONE, SUM, SUM))
        self.told(call(call(fun("x", SAME), ONE), SUM), call(SAME, SUM))

    def test_a_deed_within_every_kind(self):
        for kind in AHEAD:
            wrap = WRAPS[kind][0]
            self.told(wrap(SUM), wrap(THREE))
            self.told(wrap(wrap(SUM)), wrap(wrap(THREE)))
        self.told(call(SAME, SUM), call(SAME, THREE))


class Refused(Steps):
    def test_a_function_in_a_sum_or_a_difference(self):
        for make in (plus, less):
            self.refused(make(SAME, ONE), NoNumber)
            self.refused(make(ONE, SAME), NoNumber)
            self.refused(make(SAME, SAME), NoNumber)

    def test_a_function_as_the_first_part_of_a_choice(self):
        self.refused(choice(SAME, ONE, TWO), NoNumber)
        self.refused(choice(fun("x", ZERO), BAD_CALL, BAD_CALL), NoNumber)

    def test_a_number_that_is_called(self):
        self.refused(call(ONE, TWO), NoFunction)
        self.refused(call(ZERO, SAME), NoFunction)

    def test_a_function_as_a_part_is_refused_only_where_a_number_is_needed(self):
        self.told(choice(ONE, SAME, TWO), SAME)
        self.told(let("x", SAME, X), SAME)
        self.told(call(SAME, TWICE), TWICE)

    def test_what_comes_first_is_refused(self):
        self.refused(call(ONE, BAD_SUM), NoNumber)
        self.refused(call(ONE, call(TWO, THREE)), NoFunction)
        self.refused(call(ONE, Y), NotClosed)
        self.refused(plus(SAME, BAD_CALL), NoFunction)
        self.refused(less(SAME, Y), NotClosed)
        self.refused(plus(BAD_CALL, BAD_SUM), NoFunction)
        self.refused(plus(BAD_SUM, BAD_CALL), NoNumber)
        self.refused(choice(BAD_CALL, ONE, BAD_SUM), NoFunction)
        self.refused(let("x", BAD_CALL, BAD_SUM), NoFunction)

    def test_parts_are_worked_out_ahead_of_the_refusal(self):
        self.told(call(ONE, SUM), call(ONE, THREE))
        self.told(plus(SAME, SUM), plus(SAME, THREE))
        self.told(less(SAME, ENDLESS), less(SAME, ENDLESS))

    def test_a_free_name_that_is_come_to(self):
        for tree in (X, plus(X, ONE), plus(ONE, X), less(X, ONE), less(SAME, X), call(X, ONE), call(SAME, X),
                     choice(X, ONE, ONE), let("x", X, ONE), plus(plus(ONE, X), SUM), plus(X, BAD_CALL)):
            self.refused(tree, NotClosed)

    def test_a_free_name_that_is_not_come_to(self):
        self.told(plus(SUM, Y), plus(THREE, Y))
        self.told(choice(ONE, TWO, Y), TWO)
        self.told(choice(ONE, Y, TWO), Y)
        self.told(let("x", ONE, plus(X, Y)), plus(ONE, Y))
        self.told(call(fun("x", Y), ONE), Y)
        self.told(call(SAME, fun("x", Y)), fun("x", Y))

    def test_refused_deep_within(self):
        for tree, error in ((BAD_SUM, NoNumber), (BAD_CALL, NoFunction), (Y, NotClosed)):
            for kind in AHEAD:
                self.refused(nested(WRAPS[kind][0], 90, tree), error)


class Greater(unittest.TestCase):
    """step looks at nothing ahead."""

    def test_a_deed_deep_within(self):
        for kind in AHEAD:
            for many in (130, 600, 5000):
                with self.subTest(kind=kind, many=many):
                    wrap = WRAPS[kind][0]
                    told = step(nested(wrap, many, SUM))
                    self.assertEqual(flat(told), flat(nested(wrap, many, THREE)))

    def test_a_call_with_a_great_body(self):
        wrap = WRAPS["plus, the second"][0]
        told = step(call(fun("x", nested(wrap, 600, X)), TWICE))
        self.assertEqual(flat(told), flat(nested(wrap, 600, TWICE)))

    def test_a_great_function_is_a_value(self):
        self.assertIsNone(step(nested(WRAPS["fun"][0], 5000, SUM)))

    def test_numbers_of_more_than_sixty_figures(self):
        great = 10 ** 60
        self.assertEqual(step(plus(num(great), num(-1))), num(great - 1))
        self.assertEqual(step(plus(num(great - 1), ONE)), num(great))
        self.assertEqual(step(less(num(-great), num(great))), num(-2 * great))
        self.assertEqual(step(plus(num(10 ** 80), num(10 ** 80))), num(2 * 10 ** 80))


if __name__ == "__main__":
    unittest.main()
