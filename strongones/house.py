"""The house of hearings: calls told as one list of whole numbers, and its answers as one."""

from strongones.hearings import cost_of_hearings, hold_hearing, is_luck, well_held, wrong_together
from strongones.looks import cheapest_set, leaves_of, least_stakes, reads_of
from strongones.tree import ALL_OF, HUNDREDTH, LEAF, MOST_NODES, SOME_OF, WHOLE
from strongones.tree import are_nodes, copies_of, copies_read_by, cost_of_all, end_of, fraction, may_be_children
from strongones.tree import misread_of, new_branch, new_leaf, right_of, truths

NO_SUCH = -2
NOTHING_THERE = -6
NOT_BEGUN = -11
SO_ALREADY = -17
TOO_LITTLE = -19
NOT_AS_TOLD = -22
FULL = -28
NOT_KEPT = -30
NO_FIT = -33

MOST_AT_ONCE = 10000
MOST_IN_PURSE = 100000
MOST_HUNDREDTHS = 100
MOST_PRICE = 100
MOST_LEAVES = 10
MOST_PROMISES = 4
MOST_HEARINGS = 20
MOST_GAIN = 1000

BEGIN = 0

# By a call's number: how many plain numbers it has, ahead of its row if it has one.
PLAIN_NUMBERS = (1, 2, 0, 0, 0, 1, 1, 2, 1, 1, 1, 1, 1, 1, 1, 1, 2, 1, 1, 1, 3, 3, 1, 0, 0, 1, 2)
WITH_A_ROW = (2, 3, 14, 15)

# The calls that have a node as their first number: of each -2 is the first refusal.
ABOUT_A_NODE = (5, 6, 7, 8, 9, 10, 11, 12, 13, 16, 19, 20, 21, 26)


class House:
    """What is kept from one call to the next."""

    def __init__(self):
        self.begun = False
        self.purse = 0
        self.nodes = []
        self.promises = []
        self.log = []


def begin(house, args):
    """begin (m)"""
    if args[0] > MOST_AT_ONCE:
        return [NOT_AS_TOLD]
    house.begun = True
    house.purse = args[0]
    house.nodes = []
    house.promises = []
    house.log = []
    return [0]


def is_kept(nodes, i, t):
    """Whether who's right about node i wins t hundredths of the time at least."""
    return i < len(nodes) and right_of(nodes, i) >= t * HUNDREDTH


def change(house, after, answer):
    """The tree becomes the one told, if each promise is kept there."""
    if not all([is_kept(after, i, t) for i, t in house.promises]):
        return [NOT_KEPT]
    house.nodes = after
    return [answer]


def put_node(house, node):
    """One more node, if there's room: its number."""
    if len(house.nodes) == MOST_NODES:
        return [FULL]
    house.nodes.append(node)
    return [len(house.nodes) - 1]


def put_leaf(house, args):
    """leaf (so, w)"""
    if args[0] > 1 or args[1] > MOST_HUNDREDTHS:
        return [NOT_AS_TOLD]
    return put_node(house, new_leaf(args[0], args[1]))


def put_branch(house, kind, row):
    """One more node that has the row as its children."""
    if not may_be_children(house.nodes, row):
        return [NOT_AS_TOLD]
    return put_node(house, new_branch(kind, row))


def put_all_of(house, args):
    """all (row)"""
    return put_branch(house, ALL_OF, args)


def put_some_of(house, args):
    """some (row)"""
    return put_branch(house, SOME_OF, args)


def pop_node(house, args):
    """pop ()"""
    if len(house.nodes) == 0:
        return [NOTHING_THERE]
    after = house.nodes[:-1]
    return change(house, after, len(after))


def tell_node(house, args):
    """nodeis (i)"""
    node = house.nodes[args[0]]
    if node.kind == LEAF:
        return [LEAF, node.so, node.wrong]
    return [node.kind] + node.children


def flip_leaf(house, args):
    """flip (i)"""
    after = copies_of(house.nodes)
    node = after[args[0]]
    if node.kind != LEAF:
        return [NO_FIT]
    node.so = 1 - node.so
    return change(house, after, node.so)


def set_price(house, args):
    """price (i, p)"""
    node = house.nodes[args[0]]
    if args[1] < 1 or args[1] > MOST_PRICE:
        return [NOT_AS_TOLD]
    before = node.price
    node.price = args[1]
    return [before]


def read_thrice(house, args):
    """thrice (i)"""
    after = copies_of(house.nodes)
    node = after[args[0]]
    if node.kind != LEAF:
        return [NO_FIT]
    if node.thrice:
        return [SO_ALREADY]
    node.thrice = True
    return change(house, after, cost_of_all(after))


def read_once(house, args):
    """once (i)"""
    after = copies_of(house.nodes)
    node = after[args[0]]
    if not node.thrice:
        return [NOTHING_THERE]
    node.thrice = False
    return change(house, after, cost_of_all(after))


def tell_misread(house, args):
    """misread (i)"""
    node = house.nodes[args[0]]
    if node.kind != LEAF:
        return [NO_FIT]
    return [0] + fraction(misread_of(node, node.thrice), WHOLE)


def tell_truth(house, args):
    """true (i)"""
    return [1 if truths(house.nodes)[args[0]] else 0]


def tell_right(house, args):
    """right (i)"""
    return [0] + fraction(right_of(house.nodes, args[0]), WHOLE)


def tell_end(house, args):
    """ends (i)"""
    return [end_of(house.nodes, args[0])]


def refusal_of_claims(nodes, args):
    """Why t and a row of claims are refused, before any set is looked at; or None."""
    if args[0] > MOST_HUNDREDTHS or not are_nodes(nodes, args[1:]):
        return NOT_AS_TOLD
    if len(leaves_of(nodes, args[1:])) > MOST_LEAVES:
        return FULL
    return None


def tell_cheapest(house, args):
    """cheapest (t, row)"""
    refusal = refusal_of_claims(house.nodes, args)
    if refusal is not None:
        return [refusal]
    found = cheapest_set(house.nodes, args[1:], args[0])
    if found is None:
        return [NO_FIT]
    return list(found)


def buy_looks(house, args):
    """buy (t, row)"""
    cheapest = tell_cheapest(house, args)
    if cheapest[0] < 0:
        return cheapest
    after = copies_read_by(house.nodes, reads_of(cheapest[1], len(house.nodes)))
    return change(house, after, cheapest[0])


def put_promise(house, args):
    """promise (i, t)"""
    promise = (args[0], args[1])
    if args[1] > MOST_HUNDREDTHS:
        return [NOT_AS_TOLD]
    if promise in house.promises:
        return [SO_ALREADY]
    if not is_kept(house.nodes, args[0], args[1]):
        return [NOT_KEPT]
    if len(house.promises) == MOST_PROMISES:
        return [FULL]
    house.promises.append(promise)
    return [len(house.promises) - 1]


def take_back_promise(house, args):
    """unpromise (k)"""
    if args[0] >= len(house.promises):
        return [NO_SUCH]
    house.promises.pop(args[0])
    return [len(house.promises)]


def tell_promise(house, args):
    """promiseis (k)"""
    if args[0] >= len(house.promises):
        return [NO_SUCH]
    return list(house.promises[args[0]])


def tell_tightest(house, args):
    """tightest (i)"""
    return [right_of(house.nodes, args[0]) // HUNDREDTH]


def hear(house, args):
    """hear (i, a, b)"""
    if not is_luck(args[1], args[2]):
        return [NOT_AS_TOLD]
    if len(house.log) == MOST_HEARINGS:
        return [FULL]
    hearing = hold_hearing(house.nodes, args[0], args[1], args[2])
    if house.purse < hearing.cost:
        return [TOO_LITTLE]
    house.purse = house.purse - hearing.cost
    house.log.append(hearing)
    return [hearing.held, hearing.leaf, hearing.cost]


def tell_hearing_ahead(house, args):
    """ifhear (i, a, b)"""
    if not is_luck(args[1], args[2]):
        return [NOT_AS_TOLD]
    hearing = hold_hearing(house.nodes, args[0], args[1], args[2])
    return [hearing.held, hearing.leaf, hearing.cost]


def tell_entry(house, args):
    """entry (k)"""
    if args[0] >= len(house.log):
        return [NO_SUCH]
    hearing = house.log[args[0]]
    return [hearing.node, hearing.leaf, hearing.held, hearing.cost] + fraction(hearing.wrong, WHOLE)


def tell_tally(house, args):
    """tally ()"""
    return [len(house.log), well_held(house.nodes, house.log), house.purse, cost_of_hearings(house.log)]


def tell_owed(house, args):
    """owed ()"""
    return [len(house.log)] + fraction(wrong_together(house.log), WHOLE)


def pay_in(house, args):
    """pay (m)"""
    if args[0] > MOST_AT_ONCE or house.purse + args[0] > MOST_IN_PURSE:
        return [NOT_AS_TOLD]
    house.purse = house.purse + args[0]
    return [house.purse]


def tell_stakes(house, args):
    """stakes (i, g)"""
    if args[1] > MOST_GAIN:
        return [NOT_AS_TOLD]
    found = least_stakes(right_of(house.nodes, args[0]), args[1])
    if found is None:
        return [NO_FIT]
    return list(found)


# By a call's number: who answers it.
ANSWERED_BY = (
    begin, put_leaf, put_all_of, put_some_of, pop_node, tell_node, flip_leaf, set_price,
    read_thrice, read_once, tell_misread, tell_truth, tell_right, tell_end,
    tell_cheapest, buy_looks, put_promise, take_back_promise, tell_promise, tell_tightest, hear,
    tell_hearing_ahead, tell_entry, tell_tally, tell_owed, pay_in, tell_stakes,
)


def split_calls(calls):
    """The calls one by one: of each its number, then its plain numbers and its row in one list."""
    found = []
    place = 0
    while place < len(calls):
        number = calls[place]
        row_at = place + 1 + PLAIN_NUMBERS[number]
        args = calls[place + 1:row_at]
        place = row_at
        if number in WITH_A_ROW:
            place = row_at + 1 + calls[row_at]
            args = args + calls[row_at + 1:place]
        found.append((number, args))
    return found


def answer_to(house, number, args):
    """What is answered to one call: its numbers, or a refusal alone."""
    if number != BEGIN and not house.begun:
        return [NOT_BEGUN]
    if number in ABOUT_A_NODE and args[0] >= len(house.nodes):
        return [NO_SUCH]
    return ANSWERED_BY[number](house, args)


def answers(calls):
    """The answers to all calls on one new house, each with how many numbers it has ahead of it."""
    house = House()
    told = []
    for number, args in split_calls(calls):
        answer = answer_to(house, number, args)
        told.append(len(answer))
        told.extend(answer)
    return told
