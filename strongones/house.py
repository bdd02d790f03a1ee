"""The house of hearings: calls told as one list of whole numbers, and its answers as one."""

from strongones.tree import ALL_OF, LEAF, MOST_NODES, SOME_OF, WHOLE
from strongones.tree import cost_of_all, end_of, fraction, may_be_children, misread_of
from strongones.tree import new_branch, new_leaf, right_of, truths

NO_SUCH = -2
NOTHING_THERE = -6
NOT_BEGUN = -11
SO_ALREADY = -17
NOT_AS_TOLD = -22
FULL = -28
NO_FIT = -33

MOST_AT_ONCE = 10000
MOST_HUNDREDTHS = 100
MOST_PRICE = 100

BEGIN = 0

# By a call's number: how many plain numbers it has, ahead of its row if it has one.
# All calls of the interface stand here, since ahead of a begin each is answered.
PLAIN_NUMBERS = (1, 2, 0, 0, 0, 1, 1, 2, 1, 1, 1, 1, 1, 1, 1, 1, 2, 1, 1, 1, 3, 3, 1, 0, 0, 1, 2)
WITH_A_ROW = (2, 3, 14, 15)

# The calls that have a node as their first number: of each -2 is the first refusal.
ABOUT_A_NODE = (5, 6, 7, 8, 9, 10, 11, 12, 13)


class House:
    """What is kept from one call to the next."""

    def __init__(self):
        self.begun = False
        self.purse = 0
        self.nodes = []


def begin(house, args):
    """begin (m)"""
    if args[0] > MOST_AT_ONCE:
        return [NOT_AS_TOLD]
    house.begun = True
    house.purse = args[0]
    house.nodes = []
    return [0]


def put_node(house, node):
    """One more node, if there's room: its number."""
    if len(house.nodes) == MOST_NODES:
        return [FULL]
    house.nodes.append(node)
    return [len(house.nodes) - 1]


def put_leaf(house, args):
    """leaf (so, w)"""
    if args[0] > 1 or args[1] > MOST_HUNDREDTHS:
        return [NOT_AS_TOLD]
    return put_node(house, new_leaf(args[0], args[1]))


def put_branch(house, kind, row):
    """One more node that has the row as its children."""
    if not may_be_children(house.nodes, row):
        return [NOT_AS_TOLD]
    return put_node(house, new_branch(kind, row))


def put_all_of(house, args):
    """all (row)"""
    return put_branch(house, ALL_OF, args)


def put_some_of(house, args):
    """some (row)"""
    return put_branch(house, SOME_OF, args)


def pop_node(house, args):
    """pop ()"""
    if len(house.nodes) == 0:
        return [NOTHING_THERE]
    house.nodes.pop()
    return [len(house.nodes)]


def tell_node(house, args):
    """nodeis (i)"""
    node = house.nodes[args[0]]
    if node.kind == LEAF:
        return [LEAF, node.so, node.wrong]
    return [node.kind] + node.children


def flip_leaf(house, args):
    """flip (i)"""
    node = house.nodes[args[0]]
    if node.kind != LEAF:
        return [NO_FIT]
    node.so = 1 - node.so
    return [node.so]


def set_price(house, args):
    """price (i, p)"""
    node = house.nodes[args[0]]
    if args[1] < 1 or args[1] > MOST_PRICE:
        return [NOT_AS_TOLD]
    before = node.price
    node.price = args[1]
    return [before]


def read_thrice(house, args):
    """thrice (i)"""
    node = house.nodes[args[0]]
    if node.kind != LEAF:
        return [NO_FIT]
    if node.thrice:
        return [SO_ALREADY]
    node.thrice = True
    return [cost_of_all(house.nodes)]


def read_once(house, args):
    """once (i)"""
    node = house.nodes[args[0]]
    if not node.thrice:
        return [NOTHING_THERE]
    node.thrice = False
    return [cost_of_all(house.nodes)]


def tell_misread(house, args):
    """misread (i)"""
    node = house.nodes[args[0]]
    if node.kind != LEAF:
        return [NO_FIT]
    return [0] + fraction(misread_of(node), WHOLE)


def tell_truth(house, args):
    """true (i)"""
    return [1 if truths(house.nodes)[args[0]] else 0]


def tell_right(house, args):
    """right (i)"""
    return [0] + fraction(right_of(house.nodes, args[0]), WHOLE)


def tell_end(house, args):
    """ends (i)"""
    return [end_of(house.nodes, args[0])]


# By a call's number: who answers it.
ANSWERED_BY = (
    begin, put_leaf, put_all_of, put_some_of, pop_node, tell_node, flip_leaf, set_price,
    read_thrice, read_once, tell_misread, tell_truth, tell_right, tell_end,
)


def split_calls(calls):
    """The calls one by one: of each its number, then its plain numbers and its row in one list."""
    found = []
    place = 0
    while place < len(calls):
        number = calls[place]
        row_at = place + 1 + PLAIN_NUMBERS[number]
        args = calls[place + 1:row_at]
        place = row_at
        if number in WITH_A_ROW:
            place = row_at + 1 + calls[row_at]
            args = args + calls[row_at + 1:place]
        found.append((number, args))
    return found


def answer_to(house, number, args):
    """What is answered to one call: its numbers, or a refusal alone."""
    if number != BEGIN and not house.begun:
        return [NOT_BEGUN]
    if number >= len(ANSWERED_BY):
        raise NotImplementedError(f"call {number} is not built yet")
    if number in ABOUT_A_NODE and args[0] >= len(house.nodes):
        return [NO_SUCH]
    return ANSWERED_BY[number](house, args)


def answers(calls):
    """The answers to all calls on one new house, each with how many numbers it has ahead of it."""
    house = House()
    told = []
    for number, args in split_calls(calls):
        answer = answer_to(house, number, args)
        told.append(len(answer))
        told.extend(answer)
    return told
