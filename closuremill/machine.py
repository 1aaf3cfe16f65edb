"""Working a tree out by a machine that puts nothing in, but keeps what is round each function.

Nothing here calls itself: calls may be nested deeper than Python's own can be.
"""

from closuremill.deeds import AHEAD, need_deed, need_start, reckoned
from closuremill.errors import NoFunction, NoNumber
from closuremill.putting import put_all
from closuremill.trees import free


class Kept:
    """A function with what its free names stand for."""

    def __init__(self, name, body, names, held):
        self.name = name
        self.body = body
        self.names = names
        self.held = held


class Machine:
    """A run: what waits to be worked out or done, and the values that wait for their deed.

    An environment is a dict of names and values. It is never changed, so that several may share it.
    """

    def __init__(self, most):
        self.most = most
        self.deeds = 0
        self.kepts = []
        self.found = []
        self.waiting = []

    def work_out(self, tree):
        """Work a closed tree out to its value."""
        self._look_later(tree, {})
        while self.waiting:
            node, around, ready = self.waiting.pop()
            if ready:
                need_deed(self.deeds, self.most)
                self._do_deed(node, around)
                self.deeds += 1
            else:
                self._look(node, around)
        return self.found.pop()

    def _look_later(self, node, around):
        self.waiting.append((node, around, False))

    def _look(self, node, around):
        """Find a value, or put off the node's deed until its parts are values."""
        word = node[0]
        if word == "num":
            self.found.append(node[1])
        elif word == "name":
            self.found.append(around[node[1]])
        elif word == "fun":
            self._keep(node, around)
        else:
            self.waiting.append((node, around, True))
            for at in AHEAD[word][::-1]:
                self._look_later(node[at], around)

    def _keep(self, node, around):
        names = free(node)
        kept = Kept(node[1], node[2], names, [around[name] for name in names])
        self.kepts.append(kept)
        self.found.append(kept)

    def _do_deed(self, node, around):
        """Do the deed of a node whose parts have been found, the last of them last."""
        word = node[0]
        last = self.found.pop()
        if word == "call":
            self._do_call(self.found.pop(), last)
        elif word == "let":
            self._look_later(node[3], {**around, node[1]: last})
        elif word == "if":
            self._look_later(node[3 if _number(last) == 0 else 2], around)
        else:
            self.found.append(reckoned(word, _number(self.found.pop()), _number(last)))

    def _do_call(self, kept, value):
        if not isinstance(kept, Kept):
            raise NoFunction("a number is called")
        around = dict(zip(kept.names, kept.held))
        around[kept.name] = value
        self._look_later(kept.body, around)


def run(tree, most):
    """Tell the value of a tree and how many deeds led there."""
    need_start(tree, most)
    machine = Machine(most)
    value = machine.work_out(tree)
    return value, machine.deeds


def made(tree, most):
    """List all Kepts that are made in a whole run, in the order in which they are made."""
    need_start(tree, most)
    machine = Machine(most)
    machine.work_out(tree)
    return machine.kepts


def told(value):
    """Tell the tree of a machine's value."""
    if not isinstance(value, Kept):
        return ("num", value)
    # Each Kept is told once: one that is held twice, by one that is held twice in its turn, soon stands
    # in more places than could ever be told one by one.
    trees = {}
    waiting = [value]
    while waiting:
        kept = waiting[-1]
        missing = [thing for thing in kept.held if isinstance(thing, Kept) and thing not in trees]
        if len(missing) > 0:
            waiting.extend(missing)
        else:
            trees[kept] = _told_alone(kept, trees)
            waiting.pop()
    return trees[value]


def _told_alone(kept, trees):
    """Tell the tree of a Kept; those of the Kepts that it holds are known."""
    held = [trees[thing] if isinstance(thing, Kept) else ("num", thing) for thing in kept.held]
    return put_all(("fun", kept.name, kept.body), dict(zip(kept.names, held)))


def _number(value):
    """Tell the number that a value is; refuse a function with NoNumber."""
    if isinstance(value, Kept):
        raise NoNumber("a function stands where a number is needed")
    return value
