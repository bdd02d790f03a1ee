"""Hearings: what comes of one, and what many of them come to."""

from strongones.tree import WHOLE, end_of, misread_of, right_of, truths

MOST_LUCK = 1000


class Hearing:
    """A hearing as it was: its node, its leaf, 1 or 0, its cost, how often it goes wrong in millionths."""

    def __init__(self, node, leaf, held, cost, wrong):
        self.node = node
        self.leaf = leaf
        self.held = held
        self.cost = cost
        self.wrong = wrong


def is_luck(a, b):
    """Whether a by b may be told as luck."""
    return b >= 1 and b <= MOST_LUCK and a < b


def hold_hearing(nodes, i, a, b):
    """The hearing about node i by luck a by b, as things stand now."""
    end = end_of(nodes, i)
    leaf = nodes[end]
    held = leaf.so
    if a * WHOLE < misread_of(leaf, leaf.thrice) * b:
        held = 1 - leaf.so
    cost = leaf.price if leaf.thrice else 0
    return Hearing(i, end, held, cost, WHOLE - right_of(nodes, i))


def well_held(nodes, log):
    """In how many hearings the node that has that number now was held for what it is now."""
    true = truths(nodes)
    there = [hearing for hearing in log if hearing.node < len(nodes)]
    return len([hearing for hearing in there if true[hearing.node] == (hearing.held == 1)])


def cost_of_hearings(log):
    """What all hearings cost."""
    return sum([hearing.cost for hearing in log])


def wrong_together(log):
    """How often all hearings go wrong together, as things stood at each, in millionths."""
    return sum([hearing.wrong for hearing in log])
