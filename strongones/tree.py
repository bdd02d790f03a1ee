"""The tree that claims stand on: its nodes, how leaves are read, and what comes of a dispute."""

LEAF = 0
ALL_OF = 1
SOME_OF = 2

MOST_NODES = 20
MOST_CHILDREN = 4

# Hundredths, and what three reads make of them, are whole numbers of millionths:
# so all that is compared can be compared without fractions.
WHOLE = 1000000


class Node:
    """A leaf, or an all-of or some-of with its children; so and wrong are a leaf's alone."""

    def __init__(self, kind, so, wrong, children):
        self.kind = kind
        self.so = so
        self.wrong = wrong
        self.children = children
        self.price = 1
        self.thrice = False


def new_leaf(so, wrong):
    """A leaf, read once, that is misread wrong hundredths of the time."""
    return Node(LEAF, so, wrong, [])


def new_branch(kind, children):
    """An all-of or some-of node; its children are copied."""
    return Node(kind, 0, 0, list(children))


def is_child(nodes, i):
    """Whether node i is another one's child."""
    return any([i in node.children for node in nodes])


def may_be_children(nodes, row):
    """Whether a new node may have the nodes of this row as its children."""
    if len(row) < 1 or len(row) > MOST_CHILDREN:
        return False
    if len(set(row)) != len(row):
        return False
    return all([i < len(nodes) and not is_child(nodes, i) for i in row])


def cost_of_all(nodes):
    """What all leaves cost that are read thrice."""
    return sum([node.price for node in nodes if node.thrice])


def misread_of(leaf):
    """How often a leaf is misread, as it's read now, in millionths."""
    wrong = leaf.wrong
    if leaf.thrice:
        return 300 * wrong * wrong - 2 * wrong * wrong * wrong
    return 10000 * wrong


def truths(nodes):
    """Of each node whether it's true."""
    found = []
    # Children always stand ahead of their parent, so one walk is enough.
    for node in nodes:
        below = [found[i] for i in node.children]
        if node.kind == LEAF:
            found.append(node.so == 1)
        elif node.kind == ALL_OF:
            found.append(all(below))
        else:
            found.append(any(below))
    return found


def held_of_leaf(leaf):
    """How often a leaf is held for true, in millionths."""
    if leaf.so == 1:
        return WHOLE - misread_of(leaf)
    return misread_of(leaf)


def all_held(nodes):
    """Of each node how often it's held for true, in millionths."""
    found = []
    for node in nodes:
        below = [found[i] for i in node.children]
        if node.kind == LEAF:
            found.append(held_of_leaf(node))
        elif node.kind == ALL_OF:
            found.append(min(below))
        else:
            found.append(max(below))
    return found


def right_of(nodes, i):
    """How often who's right about node i wins, in millionths."""
    held = all_held(nodes)[i]
    if truths(nodes)[i]:
        return held
    return WHOLE - held


def end_of(nodes, i):
    """The leaf at which a hearing about node i ends."""
    held = all_held(nodes)
    at = i
    while nodes[at].kind != LEAF:
        # A node is held just as often as the child that's best for who picks,
        # so the first child that's held so often is the one that's picked.
        best = held[at]
        at = [child for child in nodes[at].children if held[child] == best][0]
    return at


def fraction(part, whole):
    """Part by whole as two numbers with nothing in common."""
    common = whole
    rest = part
    while rest > 0:
        left = common % rest
        common = rest
        rest = left
    return [part // common, whole // common]
