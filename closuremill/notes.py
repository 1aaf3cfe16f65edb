"""Trees as texts.

Nothing here calls itself: a tree, and the brackets of a text, may be nested deeper than calls can be.
"""

from closuremill.errors import NoText, NoTree
from closuremill.trees import TOO_GREAT, need_tree, parts

FIGURES = "0123456789"
MOST_FIGURES = 60


def shown(tree):
    """Write a tree."""
    written = []
    waiting = [tree]
    while waiting:
        piece = waiting.pop()
        if type(piece) is str:
            written.append(piece)
        elif piece[0] == "num":
            written.append(_figures(piece[1]))
        elif piece[0] == "name":
            written.append(piece[1])
        else:
            written.append("(" + _head(piece))
            waiting.append(")")
            for part in parts(piece)[::-1]:
                waiting.extend([part, " "])
    return "".join(written)


def read(line):
    """Tell the tree that a text writes; refuse with NoText what is no text or writes no single tree."""
    if type(line) is not str:
        raise NoText("this is no text")
    # What stands between two brackets is gathered as it comes; need_tree alone tells what is a tree.
    around = []
    items = []
    for word in line.replace("(", " ( ").replace(")", " ) ").split(" "):
        if word == "(":
            around.append(items)
            items = []
        elif word == ")":
            if len(around) == 0:
                raise NoText("a bracket is closed that was not opened")
            node = _node(items)
            items = around.pop()
            items.append(node)
        elif word != "":
            items.append(word)
    if len(around) > 0 or len(items) != 1:
        raise NoText("this writes no single tree")
    try:
        return need_tree(_part(items[0]))
    except NoTree:
        raise NoText("this writes no tree") from None


def _head(node):
    """Write what stands ahead of the parts of a node in brackets."""
    if node[0] == "fun" or node[0] == "let":
        return node[0] + " " + node[1]
    return node[0]


def _figures(n):
    """Write a number by its figures."""
    # In pieces, since str refuses a number of some thousand figures, which a greater tree may have.
    written = []
    rest = abs(n)
    while rest >= TOO_GREAT:
        rest, piece = divmod(rest, TOO_GREAT)
        written.append(str(piece).zfill(MOST_FIGURES))
    written.append(str(rest))
    if n < 0:
        written.append("-")
    return "".join(written[::-1])


def _node(items):
    """Join what stood between two brackets to a tuple, which may yet be no node."""
    if len(items) == 0:
        return ()
    # The word and the name that a node binds stay texts; a number or a name there is no tree.
    start = 2 if items[0] == "fun" or items[0] == "let" else 1
    return tuple(items[:start] + [_part(item) for item in items[start:]])


def _part(item):
    """Tell the tree that a word writes; what stood in brackets is joined already."""
    if type(item) is not str:
        return item
    if _is_number(item):
        return ("num", int(item))
    return ("name", item)


def _is_number(word):
    """Tell whether a word is a number of at most sixty figures."""
    figures = word.removeprefix("-")
    if word == "0":
        return True
    # The length comes first: int refuses some thousand figures with an error of its own.
    if not 1 <= len(figures) <= MOST_FIGURES or figures[0] == "0":
        return False
    return all([figure in FIGURES for figure in figures])
