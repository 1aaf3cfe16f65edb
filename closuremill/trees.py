"""Trees of numbers and functions: which tuples are one, their parts and their free names.

Nothing here calls itself: a tree may be nested deeper than calls can be.
"""

from closuremill.errors import NoTree

MOST_NODES = 400
MOST_SIGNS = 8
TOO_GREAT = 10 ** 60
SIGNS = "abcdefghijklmnopqrstuvwxyz"

# How long the tuple of each word is, and where in it the parts begin.
LENGTHS = {"num": 2, "name": 2, "fun": 3, "call": 3, "plus": 3, "less": 3, "if": 4, "let": 4}
STARTS = {"num": 2, "name": 2, "fun": 2, "call": 1, "plus": 1, "less": 1, "if": 1, "let": 2}

# What free has yet to do: look at a tree, or begin or end the binding of a name.
LOOK = 0
BIND = 1
LOOSE = 2


def need_tree(tree):
    """Hand the tree back; refuse with NoTree whatever is none."""
    count = 0
    waiting = [tree]
    while waiting:
        node = waiting.pop()
        count += 1
        # Counted while walking: a small tuple can stand for more nodes than could ever be walked.
        if count > MOST_NODES:
            raise NoTree("a tree has at most 400 nodes")
        if not _is_node(node):
            raise NoTree("this is no tree")
        waiting.extend(parts(node))
    return tree


def parts(tree):
    """List the trees straight within a node, in the order in which they stand."""
    return list(tree[STARTS[tree[0]]:])


def nodes(tree):
    """Count the nodes of a tree."""
    count = 0
    waiting = [tree]
    while waiting:
        node = waiting.pop()
        count += 1
        waiting.extend(parts(node))
    return count


def free(tree):
    """List the names that are free in a tree, each once, in the order in which they come first."""
    found = {}
    bound = {}
    waiting = [(LOOK, tree)]
    while waiting:
        deed, at = waiting.pop()
        if deed == BIND:
            # Counted: one name may be bound again within its own binding.
            bound[at] = bound.get(at, 0) + 1
        elif deed == LOOSE:
            bound[at] = bound[at] - 1
        elif at[0] != "name":
            waiting.extend(_reading(at)[::-1])
        elif bound.get(at[1], 0) == 0:
            found[at[1]] = True
    return list(found)


def _reading(node):
    """List what free has to do for a node that is no name, first things first."""
    looks = [(LOOK, part) for part in parts(node)]
    if node[0] != "fun" and node[0] != "let":
        return looks
    # The body stands last in both; what stands ahead of it, a let's e, is not bound.
    name = node[1]
    return looks[:-1] + [(BIND, name), looks[-1], (LOOSE, name)]


def _is_node(node):
    """Tell whether this is a node, whatever stands in the places of its parts."""
    # Kinds are compared by themselves: an object of another kind may answer anything it is asked.
    if type(node) is not tuple or len(node) == 0:
        return False
    word = node[0]
    if type(word) is not str or word not in LENGTHS:
        return False
    if len(node) != LENGTHS[word]:
        return False
    if word == "num":
        return _is_number(node[1])
    if word == "name" or word == "fun" or word == "let":
        return _is_name(node[1])
    return True


def _is_number(n):
    """Tell whether this is a whole number of at most sixty figures; True and False are none."""
    return type(n) is int and -TOO_GREAT < n < TOO_GREAT


def _is_name(x):
    """Tell whether this is a name: one to eight signs a to z, and none of the eight words."""
    if type(x) is not str or not 1 <= len(x) <= MOST_SIGNS:
        return False
    return x not in LENGTHS and all([sign in SIGNS for sign in x])
