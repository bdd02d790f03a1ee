"""Long lists of calls, held against a second house that is written plainly from the document's words."""

import random
import unittest
from fractions import Fraction

from telling import BIG, ask


class PlainHouse:
    """The same house once more, with fractions and with children walked from above."""

    def __init__(self):
        self.nodes = None

    def answer(self, name, *told):
        if name == "begin":
            return self.begin(told[0])
        if self.nodes is None:
            return [-11]
        if name in ("leaf", "all_of", "some_of"):
            return self.put(name, told)
        if name == "pop":
            return self.drop_last()
        if told[0] not in range(len(self.nodes)):
            return [-2]
        return getattr(self, name)(*told)

    def begin(self, m):
        if m > 10000:
            return [-22]
        self.nodes = []
        return [0]

    def drop_last(self):
        if not self.nodes:
            return [-6]
        self.nodes = self.nodes[:-1]
        return [len(self.nodes)]

    def put(self, name, told):
        if name == "leaf":
            good = told[0] in (0, 1) and told[1] <= 100
            node = {"so": told[0] == 1, "w": told[1]}
        else:
            taken = [child for node in self.nodes for child in node.get("children", [])]
            free = [i for i in range(len(self.nodes)) if i not in taken]
            row = told[0]
            good = 1 <= len(row) <= 4 and sorted(row) == sorted(set(row) & set(free))
            node = {"kind": name, "children": tuple(row)}
        if not good:
            return [-22]
        if len(self.nodes) >= 20:
            return [-28]
        self.nodes.append({**node, "price": 1, "reads": 1})
        return [len(self.nodes) - 1]

    def nodeis(self, i):
        node = self.nodes[i]
        if "w" in node:
            return [0, int(node["so"]), node["w"]]
        return [{"all_of": 1, "some_of": 2}[node["kind"]], *node["children"]]

    def flip(self, i):
        node = self.nodes[i]
        if "w" not in node:
            return [-33]
        node["so"] = not node["so"]
        return [int(node["so"])]

    def price(self, i, p):
        if p not in range(1, 101):
            return [-22]
        before, self.nodes[i]["price"] = self.nodes[i]["price"], p
        return [before]

    def cost(self):
        return [sum(node["price"] for node in self.nodes if node["reads"] == 3)]

    def thrice(self, i):
        node = self.nodes[i]
        if "w" not in node:
            return [-33]
        if node["reads"] == 3:
            return [-17]
        node["reads"] = 3
        return self.cost()

    def once(self, i):
        if self.nodes[i]["reads"] != 3:
            return [-6]
        self.nodes[i]["reads"] = 1
        return self.cost()

    def often_misread(self, i):
        p = Fraction(self.nodes[i]["w"], 100)
        return p if self.nodes[i]["reads"] == 1 else 3 * p * p - 2 * p * p * p

    def misread(self, i):
        if "w" not in self.nodes[i]:
            return [-33]
        return [0, *self.often_misread(i).as_integer_ratio()]

    def truth(self, i):
        node = self.nodes[i]
        if "w" in node:
            return node["so"]
        return {"all_of": all, "some_of": any}[node["kind"]](self.truth(child) for child in node["children"])

    def dispute(self, i):
        """How often node i is held for true, and the leaf where it ends."""
        node = self.nodes[i]
        if "w" in node:
            return (1 - self.often_misread(i) if node["so"] else self.often_misread(i)), i
        # Python's min and max give the first of like ones.
        best = {"all_of": min, "some_of": max}[node["kind"]]
        return best([self.dispute(child) for child in node["children"]], key=lambda pair: pair[0])

    def is_true(self, i):
        return [int(self.truth(i))]

    def right(self, i):
        held = self.dispute(i)[0]
        return [0, *(held if self.truth(i) else 1 - held).as_integer_ratio()]

    def ends(self, i):
        return [self.dispute(i)[1]]


ASKED = ("nodeis", "flip", "thrice", "thrice", "once", "misread", "is_true", "right", "right", "ends", "ends")


def any_number(luck, below):
    return luck.choice((0, 1, below, below + 1, BIG)) if luck.random() < 0.1 else luck.randint(0, below)


def any_row(luck, house):
    count = len(house.nodes or [])
    taken = [child for node in house.nodes or [] for child in node.get("children", [])]
    free = [i for i in range(count) if i not in taken]
    if luck.random() < 0.8 and free:
        return luck.sample(free, min(len(free), luck.randint(1, 4)))
    return [luck.randint(0, count) for i in range(luck.randint(0, 6))]


def any_call(luck, house):
    count = len(house.nodes or [])
    chance = luck.random()
    if chance < 0.02:
        return ("begin", any_number(luck, 10000))
    if chance < 0.25:
        w = any_number(luck, 100) if luck.random() < 0.5 else luck.choice((10, 20, 50, 80, 90))
        return ("leaf", any_number(luck, 1), w)
    if chance < 0.40:
        return (luck.choice(("all_of", "some_of")), any_row(luck, house))
    if chance < 0.45:
        return ("pop",)
    i = luck.randint(0, max(count - 1, 0)) if luck.random() < 0.95 else luck.choice((count, BIG))
    if chance < 0.52:
        return ("price", i, any_number(luck, 100))
    return (luck.choice(ASKED), i)


class AgainstThePlainHouse(unittest.TestCase):
    def test_long_lists(self):
        met = {}
        for seed in range(1500):
            luck = random.Random(seed)
            house = PlainHouse()
            calls = [] if luck.random() < 0.1 else [("begin", 0)]
            due = [house.answer(*call) for call in calls]
            while len(calls) < 60:
                calls.append(any_call(luck, house))
                due.append(house.answer(*calls[-1]))
                met[(calls[-1][0], min(due[-1][0], 0))] = True
            self.assertEqual(ask(*calls), due, calls)
        # The lists are worth something only if they meet each refusal of each call.
        for call, refusals in {"begin": (0, -22), "leaf": (0, -11, -22, -28), "all_of": (0, -11, -22, -28),
                               "some_of": (0, -11, -22, -28), "pop": (0, -11, -6), "nodeis": (0, -11, -2),
                               "flip": (0, -11, -2, -33), "price": (0, -11, -2, -22),
                               "thrice": (0, -11, -2, -33, -17), "once": (0, -11, -2, -6),
                               "misread": (0, -11, -2, -33), "is_true": (0, -11, -2), "right": (0, -11, -2),
                               "ends": (0, -11, -2)}.items():
            for refusal in refusals:
                self.assertIn((call, refusal), met)


def any_tree(luck, ways):
    """Calls for up to twenty nodes, each leaf misread in one of these ways, some read thrice."""
    house = PlainHouse()
    calls = [("begin", 0)]
    house.answer("begin", 0)
    size = luck.randint(3, 16)
    while len(house.nodes) < size:
        if luck.random() < 0.6:
            call = ("leaf", luck.randint(0, 1), luck.choice(ways))
        else:
            call = (luck.choice(("all_of", "some_of")), any_row(luck, house))
        if house.answer(*call)[0] >= 0:
            calls.append(call)
    leaves = [i for i, node in enumerate(house.nodes) if "w" in node]
    calls += [("thrice", i) for i in leaves if luck.random() < 0.3]
    return calls, leaves, size


class WhatHolds(unittest.TestCase):
    def each_tree(self, ways, *names):
        """Of many trees: their leaves, and of each of these calls the answers about all nodes."""
        for seed in range(300):
            calls, leaves, size = any_tree(random.Random(seed), ways)
            yield leaves, [ask(*calls, *[(name, i) for i in range(size)])[len(calls):] for name in names]

    def test_if_no_leaf_is_misread_who_is_right_always_wins(self):
        for leaves, (right,) in self.each_tree((0,), "right"):
            self.assertEqual(right, [[0, 1, 1]] * len(right))

    def test_a_claim_is_held_as_often_as_the_leaf_where_it_ends(self):
        for leaves, (right, true, ends) in self.each_tree(range(101), "right", "is_true", "ends"):
            held = [Fraction(r[1], r[2]) if t[0] else 1 - Fraction(r[1], r[2]) for r, t in zip(right, true)]
            for i, end in enumerate(ends):
                self.assertIn(end[0], leaves)
                self.assertEqual(held[i], held[end[0]])

    def test_who_is_right_wins_as_often_as_the_worst_leaf_is_read_right(self):
        for leaves, (right, misread) in self.each_tree(range(51), "right", "misread"):
            worst = max([Fraction(*misread[i][1:]) for i in leaves], default=0)
            self.assertGreaterEqual(min(Fraction(*r[1:]) for r in right), 1 - worst)

    def test_fractions_have_nothing_in_common(self):
        for leaves, (right, misread) in self.each_tree(range(101), "right", "misread"):
            for told in right + [misread[i] for i in leaves]:
                self.assertEqual(told, [0, *Fraction(told[1], told[2]).as_integer_ratio()])
                self.assertGreaterEqual(told[2], 1)


if __name__ == "__main__":
    unittest.main()
