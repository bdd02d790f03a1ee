"""Looks bought: which leaves of some claims to read thrice, and what to stake on a claim."""

from strongones.tree import HUNDREDTH, LEAF, WHOLE, all_held, right_wins, truths

MOST_STAKE = 100


def leaves_of(nodes, claims):
    """The leaves of all these claims, each once."""
    below = [i in claims for i in range(len(nodes))]
    # Children always stand ahead of their parent, so one walk from the last on is enough.
    for i in range(len(nodes) - 1, -1, -1):
        if below[i]:
            for child in nodes[i].children:
                below[child] = True
    return [i for i in range(len(nodes)) if below[i] and nodes[i].kind == LEAF]


def sets_of(nodes, leaves):
    """All sets of these leaves, the cheapest first: what each costs, how many leaves, its number."""
    found = [(0, 0, 0)]
    counts_for = 1
    for i, node in enumerate(nodes):
        if i in leaves:
            found = found + [(cost + node.price, size + 1, number + counts_for) for cost, size, number in found]
        counts_for = counts_for * 2
    return sorted(found)


def reads_of(number, many):
    """Of each of so many nodes whether it's in the set of this number."""
    reads = []
    rest = number
    while len(reads) < many:
        reads.append(rest % 2 == 1)
        rest = rest // 2
    return reads


def cheapest_set(nodes, claims, t):
    """The cheapest set of the claims' leaves that brings them to t: what it costs, and its number; or None."""
    true = truths(nodes)
    for cost, size, number in sets_of(nodes, leaves_of(nodes, claims)):
        held = all_held(nodes, reads_of(number, len(nodes)))
        if all([right_wins(true[i], held[i]) >= t * HUNDREDTH for i in claims]):
            return (cost, number)
    return None


def are_fair(right, g, a, b):
    """Whether these stakes are fair, who's right winning right millionths of the time."""
    wrong = WHOLE - right
    if wrong * g >= right * a or right * g <= wrong * a:
        return False
    return right * a > wrong * b and wrong * a < right * b


def least_stakes(right, g):
    """The least a, and the least b with it, that are fair; or None."""
    for a in range(MOST_STAKE + 1):
        for b in range(MOST_STAKE + 1):
            if are_fair(right, g, a, b):
                return (a, b)
    return None
