"""What both ways of working a tree out share."""

from closuremill.errors import BadMost, Dry, NotClosed
from closuremill.trees import free, need_tree

MOST_DEEDS = 1000

# Where in the tuple the parts stand that have to be values ahead of the node's own deed. Numbers and
# functions are values themselves.
AHEAD = {"name": (), "call": (1, 2), "plus": (1, 2), "less": (1, 2), "if": (1,), "let": (2,)}


def need_start(tree, most):
    """Refuse what is no tree, then a tree that is not closed, then a count of deeds that is none."""
    need_tree(tree)
    if len(free(tree)) > 0:
        raise NotClosed("a name is free in this tree")
    if type(most) is not int or not 0 <= most <= MOST_DEEDS:
        raise BadMost("the most deeds are a whole number from 0 to 1000")


def need_deed(done, most):
    """Refuse one more deed with Dry where none is left."""
    if done >= most:
        raise Dry("there is no value behind the most deeds")


def reckoned(word, first, second):
    """Tell what the sum or the difference of two numbers is."""
    return first + second if word == "plus" else first - second
