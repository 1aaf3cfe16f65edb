"""Working a tree out by putting values in for names, deed by deed.

Nothing here calls itself: a tree may be nested deeper than calls can be.
"""

from closuremill.deeds import AHEAD, need_deed, need_start, reckoned
from closuremill.errors import NoFunction, NoNumber, NotClosed
from closuremill.trees import STARTS, parts

VALUES = ("num", "fun")


class Work:
    """A tree that is being worked out: the node that is being looked at, and the nodes round it.

    Each node stands here twice. full is the node itself. short is the same node, but each function that
    was put in stands there as a name that is a number. A function put in twice, into one that is put in
    twice in its turn, soon has more nodes than could ever be walked: so only short nodes are walked.
    fulls and shorts hold what each such number stands for.
    """

    def __init__(self, tree):
        self.full = tree
        self.short = tree
        self.around = []
        self.fulls = {}
        self.shorts = {}

    def seek(self):
        """Go to the node whose deed comes next, and tell whether there is one."""
        while len(self.around) > 0 or self.full[0] not in VALUES:
            if self.full[0] in VALUES:
                self._leave()
            else:
                at = _place_ahead(self.full)
                if at is None:
                    return True
                self._enter(at)
        return False

    def do_deed(self):
        """Do the deed of the node that seek went to."""
        word = self.full[0]
        if word == "name":
            raise NotClosed("a name has to be worked out")
        if word == "call":
            self._do_call()
        elif word == "let":
            self._put_in(self.short[1], self.short[3])
        elif word == "if":
            self._do_choice()
        else:
            self._do_reckoning()

    def whole(self):
        """Tell the whole tree as it stands now."""
        tree = self.full
        for full, _, at in self.around[::-1]:
            tree = _with_part(full, at, tree)
        return tree

    def _enter(self, at):
        self.around.append((self.full, self.short, at))
        self.full = self.full[at]
        self.short = self.short[at]

    def _leave(self):
        full, short, at = self.around.pop()
        self.full = _with_part(full, at, self.full)
        self.short = _with_part(short, at, self.short)

    def _do_call(self):
        if self.full[1][0] == "num":
            raise NoFunction("a number is called")
        function = self.short[1]
        if function[0] == "name":
            function = self.shorts[function[1]]
        self._put_in(function[1], function[2])

    def _do_choice(self):
        at = 3 if _number(self.full[1]) == 0 else 2
        self.full = self.full[at]
        self.short = self.short[at]

    def _do_reckoning(self):
        word, first, second = self.full
        self.full = ("num", reckoned(word, _number(first), _number(second)))
        self.short = self.full

    def _put_in(self, name, body):
        """Go on with a short body and, put in for the name, the value that stands in place 2."""
        self.short = put(body, name, self._short_value(self.full[2], self.short[2]))
        self.full = put_all(self.short, self.fulls)

    def _short_value(self, full, short):
        """Tell how a value is put into a short body: a function by a number, which is no name of a tree."""
        if short[0] != "fun":
            return short
        number = len(self.fulls)
        self.fulls[number] = full
        self.shorts[number] = short
        return ("name", number)


def put(tree, name, value):
    """Put a value, a closed tree, into a tree in the place of a name, wherever that is free."""
    return put_all(tree, {name: value})


def put_all(tree, values):
    """Put a value in for each name that stands in the dict; no value is looked into."""
    done = []
    waiting = [(tree, values, False)]
    while waiting:
        node, here, ready = waiting.pop()
        if ready:
            # Its parts are the last that were done, and the node takes their place.
            start = STARTS[node[0]]
            many = len(node) - start
            done[-many:] = [node[:start] + tuple(done[-many:])]
        elif node[0] == "name":
            done.append(here.get(node[1], node))
        elif node[0] == "num" or len(here) == 0:
            done.append(node)
        else:
            waiting.append((node, here, True))
            waiting.extend(_putting(node, here)[::-1])
    return done[0]


def step(tree):
    """Tell the tree behind the one deed that comes next, or None for a value."""
    work = Work(tree)
    if not work.seek():
        return None
    work.do_deed()
    return work.whole()


def worked(tree, most):
    """Tell the value of a tree and how many deeds led there."""
    need_start(tree, most)
    work = Work(tree)
    deeds = 0
    while work.seek():
        need_deed(deeds, most)
        work.do_deed()
        deeds += 1
    return work.full, deeds


def steps(tree, most):
    """List all trees on the way, from the one handed in to the value."""
    need_start(tree, most)
    work = Work(tree)
    trees = [tree]
    while work.seek():
        need_deed(len(trees) - 1, most)
        work.do_deed()
        trees.append(work.whole())
    return trees


def _putting(node, here):
    """List the parts of a node, each with what has to be put in there."""
    todo = [(part, here, False) for part in parts(node)]
    if (node[0] == "fun" or node[0] == "let") and node[1] in here:
        # The body stands last in both; what stands ahead of it, a let's e, is not bound.
        loose = {name: here[name] for name in here if name != node[1]}
        todo[-1] = (node[-1], loose, False)
    return todo


def _place_ahead(node):
    """Tell the place of the part that has to be worked out next, or None where no part has to be."""
    for at in AHEAD[node[0]]:
        if node[at][0] not in VALUES:
            return at
    return None


def _with_part(node, at, part):
    """Tell a node with another part in one place."""
    return node[:at] + (part,) + node[at + 1:]


def _number(value):
    """Tell the number that a value is; refuse a function with NoNumber."""
    if value[0] != "num":
        raise NoNumber("a function stands where a number is needed")
    return value[1]
