"""The tree that claims stand on: its nodes, how leaves are read, and what comes of a dispute."""

LEAF = 0
ALL_OF = 1
SOME_OF = 2

MOST_NODES = 20
MOST_IN_ROW = 4

# Hundredths, and what three reads make of them, are whole numbers of millionths:
# so all that is compared can be compared without fractions.
WHOLE = 1000000
HUNDREDTH = 10000


class Node:
    """A leaf, or an all-of or some-of with its children; so and wrong are a leaf's alone."""

    def __init__(self, kind, so, wrong, children):
        self.kind = kind
        self.so = so
        self.wrong = wrong
        self.children = children
        self.price = 1
        self.thrice = False


def new_leaf(so, wrong):
    """A leaf, read once, that is misread wrong hundredths of the time."""
    return Node(LEAF, so, wrong, [])


def new_branch(kind, children):
    """An all-of or some-of node; its children are copied."""
    return Node(kind, 0, 0, list(children))


def copy_read(node, thrice):
    """Another node just as this one, but read thrice or once as told."""
    fresh = Node(node.kind, node.so, node.wrong, list(node.children))
    fresh.price = node.price
    fresh.thrice = thrice
    return fresh


def copies_read_by(nodes, reads):
    """The same tree once more, but its leaves read by these reads."""
    return [copy_read(node, thrice) for node, thrice in zip(nodes, reads)]


def copies_of(nodes):
    """The same tree once more: what is done to it leaves the first as it is."""
    return [copy_read(node, node.thrice) for node in nodes]


def are_nodes(nodes, row):
    """Whether this row is 1 to 4 different nodes that there are."""
    if len(row) < 1 or len(row) > MOST_IN_ROW:
        return False
    if len(set(row)) != len(row):
        return False
    return all([i < len(nodes) for i in row])


def is_child(nodes, i):
    """Whether node i is another one's child."""
    return any([i in node.children for node in nodes])


def may_be_children(nodes, row):
    """Whether a new node may have the nodes of this row as its children."""
    return are_nodes(nodes, row) and not any([is_child(nodes, i) for i in row])


def reads_now(nodes):
    """Of each node whether it's read thrice now."""
    return [node.thrice for node in nodes]


def cost_of_all(nodes):
    """What all leaves cost that are read thrice."""
    return sum([node.price for node in nodes if node.thrice])


def misread_of(leaf, thrice):
    """How often a leaf is misread, read thrice or once, in millionths."""
    wrong = leaf.wrong
    if thrice:
        return 300 * wrong * wrong - 2 * wrong * wrong * wrong
    return HUNDREDTH * wrong


def truths(nodes):
    """Of each node whether it's true."""
    found = []
    # Children always stand ahead of their parent, so one walk is enough.
    for node in nodes:
        below = [found[i] for i in node.children]
        if node.kind == LEAF:
            found.append(node.so == 1)
        elif node.kind == ALL_OF:
            found.append(all(below))
        else:
            found.append(any(below))
    return found


def held_of_leaf(leaf, thrice):
    """How often a leaf is held for true, read thrice or once, in millionths."""
    if leaf.so == 1:
        return WHOLE - misread_of(leaf, thrice)
    return misread_of(leaf, thrice)


def all_held(nodes, reads):
    """Of each node how often it's held for true, leaves being read by these reads, in millionths."""
    found = []
    for node, thrice in zip(nodes, reads):
        if node.kind == LEAF:
            found.append(held_of_leaf(node, thrice))
        elif node.kind == ALL_OF:
            found.append(min([found[i] for i in node.children]))
        else:
            found.append(max([found[i] for i in node.children]))
    return found


def right_wins(true, held):
    """How often who's right wins about what is true or not and is held so often, in millionths."""
    if true:
        return held
    return WHOLE - held


def right_of(nodes, i):
    """How often who's right about node i wins, as leaves are read now, in millionths."""
    return right_wins(truths(nodes)[i], all_held(nodes, reads_now(nodes))[i])


def end_of(nodes, i):
    """The leaf at which a hearing about node i ends."""
    held = all_held(nodes, reads_now(nodes))
    at = i
    while nodes[at].kind != LEAF:
        # A node is held just as often as the child that's best for who picks,
        # so the first child that's held so often is the one that's picked.
        best = held[at]
        at = [child for child in nodes[at].children if held[child] == best][0]
    return at


def fraction(part, whole):
    """Part by whole as two numbers with nothing in common."""
    common = whole
    rest = part
    while rest > 0:
        left = common % rest
        common = rest
        rest = left
    return [part // common, whole // common]
