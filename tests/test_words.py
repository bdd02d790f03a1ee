"""Long lists of calls, held against a second house that is written plainly from the document's words."""

import copy
import itertools
import random
import unittest
from fractions import Fraction

from telling import BIG, ask


class PlainHouse:
    """The same house once more, with fractions and with children walked from above."""

    def __init__(self):
        self.nodes = None

    def answer(self, name, *told):
        """A change is made first, and taken back where a promise isn't kept behind it."""
        if name not in ("pop", "flip", "thrice", "once", "buy"):
            return self.answer_unbound(name, *told)
        before = copy.deepcopy(self.nodes)
        found = self.answer_unbound(name, *told)
        if found[0] >= 0 and not all(self.kept(i, t) for i, t in self.promises):
            self.nodes = before
            return [-30]
        return found

    def answer_unbound(self, name, *told):
        if name == "begin":
            return self.begin(told[0])
        if self.nodes is None:
            return [-11]
        if name in ("leaf", "all_of", "some_of"):
            return self.put(name, told)
        if name == "pop":
            return self.drop_last()
        if name in ("cheapest", "buy", "unpromise", "promiseis", "entry", "tally", "owed", "pay"):
            return getattr(self, name)(*told)
        if told[0] not in range(len(self.nodes)):
            return [-2]
        return getattr(self, name)(*told)

    def begin(self, m):
        if m > 10000:
            return [-22]
        self.nodes, self.promises, self.log, self.purse = [], [], [], m
        return [0]

    def drop_last(self):
        if not self.nodes:
            return [-6]
        self.nodes = self.nodes[:-1]
        return [len(self.nodes)]

    def put(self, name, told):
        if name == "leaf":
            good = told[0] in (0, 1) and told[1] <= 100
            node = {"so": told[0] == 1, "w": told[1]}
        else:
            taken = [child for node in self.nodes for child in node.get("children", [])]
            free = [i for i in range(len(self.nodes)) if i not in taken]
            row = told[0]
            good = 1 <= len(row) <= 4 and sorted(row) == sorted(set(row) & set(free))
            node = {"kind": name, "children": tuple(row)}
        if not good:
            return [-22]
        if len(self.nodes) >= 20:
            return [-28]
        self.nodes.append({**node, "price": 1, "reads": 1})
        return [len(self.nodes) - 1]

    def nodeis(self, i):
        node = self.nodes[i]
        if "w" in node:
            return [0, int(node["so"]), node["w"]]
        return [{"all_of": 1, "some_of": 2}[node["kind"]], *node["children"]]

    def flip(self, i):
        node = self.nodes[i]
        if "w" not in node:
            return [-33]
        node["so"] = not node["so"]
        return [int(node["so"])]

    def price(self, i, p):
        if p not in range(1, 101):
            return [-22]
        before, self.nodes[i]["price"] = self.nodes[i]["price"], p
        return [before]

    def cost(self):
        return [sum(node["price"] for node in self.nodes if node["reads"] == 3)]

    def thrice(self, i):
        node = self.nodes[i]
        if "w" not in node:
            return [-33]
        if node["reads"] == 3:
            return [-17]
        node["reads"] = 3
        return self.cost()

    def once(self, i):
        if self.nodes[i]["reads"] != 3:
            return [-6]
        self.nodes[i]["reads"] = 1
        return self.cost()

    def often_misread(self, i):
        p = Fraction(self.nodes[i]["w"], 100)
        return p if self.nodes[i]["reads"] == 1 else 3 * p * p - 2 * p * p * p

    def misread(self, i):
        if "w" not in self.nodes[i]:
            return [-33]
        return [0, *self.often_misread(i).as_integer_ratio()]

    def truth(self, i):
        node = self.nodes[i]
        if "w" in node:
            return node["so"]
        return {"all_of": all, "some_of": any}[node["kind"]](self.truth(child) for child in node["children"])

    def dispute(self, i):
        """How often node i is held for true, and the leaf where it ends."""
        node = self.nodes[i]
        if "w" in node:
            return (1 - self.often_misread(i) if node["so"] else self.often_misread(i)), i
        # Python's min and max give the first of like ones.
        best = {"all_of": min, "some_of": max}[node["kind"]]
        return best([self.dispute(child) for child in node["children"]], key=lambda pair: pair[0])

    def is_true(self, i):
        return [int(self.truth(i))]

    def wins(self, i):
        """How often who's right about node i wins."""
        held = self.dispute(i)[0]
        return held if self.truth(i) else 1 - held

    def right(self, i):
        return [0, *self.wins(i).as_integer_ratio()]

    def ends(self, i):
        return [self.dispute(i)[1]]

    def leaves_below(self, i):
        if "w" in self.nodes[i]:
            return {i}
        return set().union(*[self.leaves_below(child) for child in self.nodes[i]["children"]])

    def read(self, chosen):
        for i, node in enumerate(self.nodes):
            node["reads"] = 3 if i in chosen else 1

    def brought(self, t, row, chosen):
        reads = [node["reads"] for node in self.nodes]
        self.read(chosen)
        good = all(100 * self.wins(i) >= t for i in row)
        for node, before in zip(self.nodes, reads):
            node["reads"] = before
        return good

    def cheapest_leaves(self, t, row):
        """The cheapest set as leaves; or a refusal."""
        if t > 100 or len(row) not in range(1, 5) or len(set(row)) < len(row) or max(row) >= len(self.nodes):
            return -22
        leaves = sorted(set().union(*[self.leaves_below(i) for i in row]))
        if len(leaves) > 10:
            return -28
        sets = [chosen for size in range(len(leaves) + 1) for chosen in itertools.combinations(leaves, size)
                if self.brought(t, row, chosen)]
        return min(sets, key=lambda chosen: (self.price_of(chosen), len(chosen), self.number_of(chosen)), default=-33)

    def price_of(self, chosen):
        return sum(self.nodes[i]["price"] for i in chosen)

    def number_of(self, chosen):
        return sum(2 ** i for i in chosen)

    def cheapest(self, t, row):
        chosen = self.cheapest_leaves(t, row)
        return [chosen] if isinstance(chosen, int) else [self.price_of(chosen), self.number_of(chosen)]

    def buy(self, t, row):
        chosen = self.cheapest_leaves(t, row)
        if isinstance(chosen, int):
            return [chosen]
        self.read(chosen)
        return [self.price_of(chosen)]

    def kept(self, i, t):
        return i < len(self.nodes) and self.wins(i) >= Fraction(t, 100)

    def promise(self, i, t):
        if t > 100:
            return [-22]
        if [i, t] in self.promises:
            return [-17]
        if not self.kept(i, t):
            return [-30]
        if len(self.promises) >= 4:
            return [-28]
        self.promises.append([i, t])
        return [self.promises.index([i, t])]

    def unpromise(self, k):
        if k not in range(len(self.promises)):
            return [-2]
        self.promises = self.promises[:k] + self.promises[k + 1:]
        return [len(self.promises)]

    def promiseis(self, k):
        return list(self.promises[k]) if k in range(len(self.promises)) else [-2]

    def tightest(self, i):
        return [max(t for t in range(101) if self.kept(i, t))]

    def ifhear(self, i, a, b):
        if b not in range(1, 1001) or a >= b:
            return [-22]
        end = self.ends(i)[0]
        misread = Fraction(a, b) < self.often_misread(end)
        leaf = self.nodes[end]
        return [int(leaf["so"] != misread), end, leaf["price"] if leaf["reads"] == 3 else 0]

    def hear(self, i, a, b):
        found = self.ifhear(i, a, b)
        if found[0] < 0:
            return found
        if len(self.log) >= 20:
            return [-28]
        if found[2] > self.purse:
            return [-19]
        self.purse -= found[2]
        self.log.append((i, found[1], found[0], found[2], 1 - self.wins(i)))
        return found

    def entry(self, k):
        if k not in range(len(self.log)):
            return [-2]
        return [*self.log[k][:4], *self.log[k][4].as_integer_ratio()]

    def tally(self):
        good = [one for one in self.log if one[0] < len(self.nodes) and int(self.truth(one[0])) == one[2]]
        return [len(self.log), len(good), self.purse, sum(one[3] for one in self.log)]

    def owed(self):
        return [len(self.log), *sum((one[4] for one in self.log), Fraction(0)).as_integer_ratio()]

    def pay(self, m):
        if m > 10000 or self.purse + m > 100000:
            return [-22]
        self.purse += m
        return [self.purse]

    def stakes(self, i, g):
        if g > 1000:
            return [-22]
        r = self.wins(i)
        for a in range(101):
            by_lie, by_truth = (1 - r) * g - r * a, r * g - (1 - r) * a
            if by_lie < 0 < by_truth:
                for b in range(101):
                    if (1 - r) * a - r * b < 0 < r * a - (1 - r) * b:
                        return [a, b]
        return [-33]


def any_number(luck, below):
    return luck.choice((0, 1, below, below + 1, BIG)) if luck.random() < 0.1 else luck.randint(0, below)


def any_node(luck, house):
    count = len(house.nodes or [])
    return luck.randint(0, max(count - 1, 0)) if luck.random() < 0.95 else luck.choice((count, BIG))


def any_row(luck, house):
    count = len(house.nodes or [])
    taken = [child for node in house.nodes or [] for child in node.get("children", [])]
    free = [i for i in range(count) if i not in taken]
    if luck.random() < 0.8 and free:
        return luck.sample(free, min(len(free), luck.randint(1, 4)))
    return [luck.randint(0, count) for i in range(luck.randint(0, 6))]


def any_claims(luck, house):
    count = len(house.nodes or [])
    if luck.random() < 0.9 and count:
        return luck.sample(range(count), min(count, luck.randint(1, 4)))
    return any_row(luck, house)


def any_t(luck, house, row):
    """Often just as much as who's right wins by now, or nearly."""
    if house.nodes and luck.random() < 0.7 and row and max(row) < len(house.nodes):
        return max(0, int(100 * min(house.wins(i) for i in row)) + luck.choice((-3, 0, 0, 1, 5)))
    return any_number(luck, 100)


def any_luck(luck):
    b = any_number(luck, 1000) if luck.random() < 0.2 else luck.choice((1, 10, 20, 100))
    return (luck.randint(0, max(b - 1, 0)) if luck.random() < 0.95 else b, b)


def any_call(luck, house, moods):
    name = luck.choices(list(moods), list(moods.values()))[0]
    if name in ("pop", "tally", "owed"):
        return (name,)
    if name in ("begin", "pay"):
        return (name, 10000 if luck.random() < 0.5 else any_number(luck, 10000))
    if name == "leaf":
        w = any_number(luck, 100) if luck.random() < 0.5 else luck.choice((10, 20, 50, 60, 80, 90))
        return (name, any_number(luck, 1), w)
    if name in ("all_of", "some_of"):
        return (name, any_row(luck, house))
    if name in ("cheapest", "buy"):
        row = any_claims(luck, house)
        return (name, any_t(luck, house, row), row)
    if name in ("unpromise", "promiseis", "entry"):
        return (name, any_number(luck, 20 if name == "entry" else 4))
    i = any_node(luck, house)
    if name == "promise":
        return (name, i, luck.choice(house.promises)[1] if house.nodes and house.promises and luck.random() < 0.2
                else any_t(luck, house, [i]))
    if name in ("hear", "ifhear"):
        return (name, i, *any_luck(luck))
    return (name, i) + {"price": (any_number(luck, 100),), "stakes": (any_number(luck, 1000),)}.get(name, ())


# How often each call is made; and by which of these more often, in lists of one mood or another.
PLAIN_MOOD = {
    "begin": 1, "leaf": 25, "all_of": 8, "some_of": 8, "pop": 5, "nodeis": 2, "flip": 6, "price": 5, "thrice": 8,
    "once": 5, "misread": 2, "is_true": 2, "right": 2, "ends": 3, "cheapest": 3, "buy": 4, "promise": 10, "unpromise": 2,
    "promiseis": 3, "tightest": 3, "hear": 8, "ifhear": 4, "entry": 4, "tally": 4, "owed": 3, "pay": 3, "stakes": 4,
}
MOODS = ({}, {}, {"hear": 150, "begin": 0}, {"pay": 150, "begin": 0}, {"promise": 60, "begin": 0},
         {"leaf": 60, "all_of": 20, "begin": 0, "pop": 1}, {"leaf": 40, "thrice": 40, "hear": 40, "pay": 0})


REFUSALS = {
    "begin": (-22,), "leaf": (-22, -28), "all_of": (-22, -28), "some_of": (-22, -28), "pop": (-6, -30), "nodeis": (-2,),
    "flip": (-2, -33, -30), "price": (-2, -22), "thrice": (-2, -33, -17, -30), "once": (-2, -6, -30),
    "misread": (-2, -33), "is_true": (-2,), "right": (-2,), "ends": (-2,), "cheapest": (-22, -28, -33),
    "buy": (-22, -28, -33, -30), "promise": (-2, -22, -17, -30, -28), "unpromise": (-2,), "promiseis": (-2,),
    "tightest": (-2,), "hear": (-2, -22, -28, -19), "ifhear": (-2, -22), "entry": (-2,), "tally": (), "owed": (),
    "pay": (-22,), "stakes": (-2, -22, -33),
}


class AgainstThePlainHouse(unittest.TestCase):
    def test_long_lists(self):
        met = {}
        for seed in range(1400):
            luck = random.Random(seed)
            house = PlainHouse()
            mood = {**PLAIN_MOOD, **MOODS[seed % len(MOODS)]}
            calls = [] if luck.random() < 0.1 else [("begin", luck.choice((0, 5, 100)))]
            due = [house.answer(*call) for call in calls]
            while len(calls) < 60:
                calls.append(any_call(luck, house, mood))
                due.append(house.answer(*calls[-1]))
                met[(calls[-1][0], min(due[-1][0], 0))] = True
            self.assertEqual(ask(*calls), due, calls)
        # The lists are worth something only if they meet each refusal of each call, and no other.
        for call, refusals in REFUSALS.items():
            ahead = () if call == "begin" else (-11,)
            self.assertEqual({refusal for name, refusal in met if name == call}, {0, *ahead, *refusals}, call)


def any_tree(luck, ways):
    """Calls for up to twenty nodes, each leaf misread in one of these ways, some read thrice."""
    house = PlainHouse()
    calls = [("begin", 0)]
    house.answer("begin", 0)
    size = luck.randint(3, 16)
    while len(house.nodes) < size:
        if luck.random() < 0.6:
            call = ("leaf", luck.randint(0, 1), luck.choice(ways))
        else:
            call = (luck.choice(("all_of", "some_of")), any_row(luck, house))
        if house.answer(*call)[0] >= 0:
            calls.append(call)
    leaves = [i for i, node in enumerate(house.nodes) if "w" in node]
    calls += [("thrice", i) for i in leaves if luck.random() < 0.3]
    return calls, leaves, size


class WhatHolds(unittest.TestCase):
    def each_tree(self, ways, *names):
        """Of many trees: their leaves, and of each of these calls the answers about all nodes."""
        for seed in range(300):
            calls, leaves, size = any_tree(random.Random(seed), ways)
            yield leaves, [ask(*calls, *[(name, i) for i in range(size)])[len(calls):] for name in names]

    def test_if_no_leaf_is_misread_who_is_right_always_wins(self):
        for leaves, (right,) in self.each_tree((0,), "right"):
            self.assertEqual(right, [[0, 1, 1]] * len(right))

    def test_a_claim_is_held_as_often_as_the_leaf_where_it_ends(self):
        for leaves, (right, true, ends) in self.each_tree(range(101), "right", "is_true", "ends"):
            held = [Fraction(r[1], r[2]) if t[0] else 1 - Fraction(r[1], r[2]) for r, t in zip(right, true)]
            for i, end in enumerate(ends):
                self.assertIn(end[0], leaves)
                self.assertEqual(held[i], held[end[0]])

    def test_who_is_right_wins_as_often_as_the_worst_leaf_is_read_right(self):
        for leaves, (right, misread) in self.each_tree(range(51), "right", "misread"):
            worst = max([Fraction(*misread[i][1:]) for i in leaves], default=0)
            self.assertGreaterEqual(min(Fraction(*r[1:]) for r in right), 1 - worst)

    def test_the_tightest_could_be_promised_and_nothing_more(self):
        for leaves, (right, tightest) in self.each_tree(range(101), "right", "tightest"):
            for told, most in zip(right, tightest):
                self.assertLessEqual(Fraction(most[0], 100), Fraction(*told[1:]))
                self.assertGreater(Fraction(most[0] + 1, 100), Fraction(*told[1:]))

    def test_with_all_leaves_read_thrice_who_is_right_wins_as_often_as_the_worst_leaf_is_read_right(self):
        for seed in range(100):
            calls, leaves, size = any_tree(random.Random(seed), range(51))
            calls = [call for call in calls if call[0] != "thrice"] + [("thrice", i) for i in leaves]
            found = ask(*calls, *[("misread", i) for i in leaves], ("right", size - 1))[len(calls):]
            worst = max([Fraction(*told[1:]) for told in found[:-1]], default=0)
            self.assertGreaterEqual(Fraction(*found[-1][1:]), 1 - worst)

    def test_every_promise_is_kept_at_every_moment(self):
        mood = {**PLAIN_MOOD, "begin": 0, "promise": 30, "flip": 20, "buy": 10}
        for seed in range(200):
            luck = random.Random(seed)
            house = PlainHouse()
            calls = [("begin", 0)]
            house.answer(*calls[0])
            while len(calls) < 50:
                calls.append(any_call(luck, house, mood))
                house.answer(*calls[-1])
            for length in (20, 30, 40, 50):
                promises = ask(*calls[:length], *[("promiseis", k) for k in range(4)])[length:]
                for told in promises:
                    if told != [-2]:
                        self.assertGreaterEqual(ask(*calls[:length], ("tightest", told[0]))[-1], [told[1]])

    def test_a_hearing_is_put_down_as_it_was_and_the_purse_has_so_much_less(self):
        for seed in range(200):
            luck = random.Random(seed)
            calls, leaves, size = any_tree(luck, range(101))
            calls += [("pay", 500), ("price", luck.choice(leaves or [0]), 40)]
            i, a, b = luck.randrange(size), luck.randint(0, 19), 20
            ahead, wrong, before, heard, entry, after, owed = ask(
                *calls, ("ifhear", i, a, b), ("right", i), ("tally",), ("hear", i, a, b), ("entry", 0), ("tally",),
                ("owed",))[len(calls):]
            self.assertEqual(ahead, heard)
            self.assertEqual(entry[:4], [i, heard[1], heard[0], heard[2]])
            self.assertEqual(Fraction(*entry[4:]), 1 - Fraction(*wrong[1:]))
            self.assertEqual(owed, [1, *entry[4:]])
            self.assertEqual((after[0], after[2], after[3]), (1, before[2] - heard[2], heard[2]))

    def test_of_all_lucks_a_hearing_goes_wrong_by_at_most_as_many_as_told_and_one(self):
        for seed in range(200):
            luck = random.Random(seed)
            calls, leaves, size = any_tree(luck, range(101))
            i, b = size - 1, luck.randint(1, 25)
            found = ask(*calls, ("is_true", i), ("right", i), *[("ifhear", i, a, b) for a in range(b)])[len(calls):]
            wrong = len([told for told in found[2:] if told[0] != found[0][0]])
            self.assertLessEqual(wrong, (1 - Fraction(*found[1][1:])) * b + 1)

    def test_fractions_have_nothing_in_common(self):
        for leaves, (right, misread) in self.each_tree(range(101), "right", "misread"):
            for told in right + [misread[i] for i in leaves]:
                self.assertEqual(told, [0, *Fraction(told[1], told[2]).as_integer_ratio()])
                self.assertGreaterEqual(told[2], 1)


if __name__ == "__main__":
    unittest.main()
