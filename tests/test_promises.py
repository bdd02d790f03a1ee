"""Promises: promise, unpromise, promiseis, tightest, and that no change breaks one (-30)."""

import unittest

from telling import BIG, ask, behind

# Nodes 0 to 2 are leaves, 3 is all of 0 and 1, 4 is some of 3 and 2; who's right wins 90, 80, 70, 80, 70.
SETTING = [("leaf", 1, 10), ("leaf", 0, 20), ("leaf", 1, 30), ("all_of", [0, 1]), ("some_of", [3, 2])]
FOUR = [("promise", 0, 10), ("promise", 1, 20), ("promise", 2, 30), ("promise", 3, 40)]


class Promise(unittest.TestCase):
    def test_is_numbered_behind_those_there_are(self):
        found = behind(SETTING, *FOUR, *[("promiseis", k) for k in range(4)])
        self.assertEqual(found, [[0], [1], [2], [3], [0, 10], [1, 20], [2, 30], [3, 40]])

    def test_just_so_and_just_not(self):
        for i, most in enumerate((90, 80, 70, 80, 70)):
            found = behind(SETTING, ("promise", i, most + 1), ("promise", i, most), ("promise", i, most - 1),
                           ("promiseis", 0), ("promiseis", 1), ("promiseis", 2))
            self.assertEqual(found, [[-30], [0], [1], [i, most], [i, most - 1], [-2]])

    def test_between_hundredths(self):
        # Read thrice leaf 0 is read right 972 thousandths of the time.
        found = behind(SETTING, ("thrice", 0), ("promise", 0, 98), ("promise", 0, 97))
        self.assertEqual(found, [[1], [-30], [0]])

    def test_of_0_and_of_100(self):
        setting = [("leaf", 1, 100), ("leaf", 0, 0), ("leaf", 1, 1)]
        found = behind(setting, ("promise", 0, 1), ("promise", 0, 0), ("promise", 1, 100), ("promise", 2, 100),
                       ("promise", 2, 0), ("promise", 1, 0))
        self.assertEqual(found, [[-30], [0], [1], [-30], [2], [3]])

    def test_refuses_no_such_node(self):
        self.assertEqual(behind([], ("promise", 0, 0), ("promise", BIG, BIG)), [[-2], [-2]])
        self.assertEqual(behind(SETTING, ("promise", 5, 0), ("promise", BIG, 0), ("promiseis", 0)), [[-2]] * 3)

    def test_refuses_more_than_a_hundred_hundredths(self):
        self.assertEqual(behind([("leaf", 1, 0)], ("promise", 0, 101), ("promise", 0, BIG), ("promiseis", 0)),
                         [[-22], [-22], [-2]])

    def test_refuses_just_that_again(self):
        found = behind(SETTING, ("promise", 0, 50), ("promise", 0, 50), ("promise", 0, 51), ("promise", 1, 50),
                       ("promise", 0, 51), ("promise", 0, 50), ("promiseis", 3))
        self.assertEqual(found, [[0], [-17], [1], [2], [-17], [-17], [-2]])

    def test_taken_back_it_may_be_promised_again(self):
        found = behind(SETTING, ("promise", 0, 50), ("unpromise", 0), ("promise", 0, 50), ("promise", 0, 50))
        self.assertEqual(found, [[0], [0], [0], [-17]])

    def test_four_and_a_fifth(self):
        found = behind(SETTING, *FOUR, ("promise", 4, 50), ("promise", 0, 0), ("promiseis", 3), ("promiseis", 4),
                       ("unpromise", 0), ("promise", 4, 50), ("promise", 4, 51))
        self.assertEqual(found[4:], [[-28], [-28], [3, 40], [-2], [3], [3], [-28]])

    def test_order_of_refusals(self):
        # no such node, then not as told, then promised already, then not so now, then no room
        found = behind(SETTING, *FOUR, ("promise", 5, 101), ("promise", 5, 10), ("promise", 4, 101),
                       ("promise", 0, 101), ("promise", 0, 10), ("promise", 3, 40), ("promise", 4, 71),
                       ("promise", 4, 70))
        self.assertEqual(found[4:], [[-2], [-2], [-22], [-22], [-17], [-17], [-30], [-28]])

    def test_nothing_is_promised_that_is_not_so_though_it_was(self):
        found = behind(SETTING, ("thrice", 0), ("promise", 0, 97), ("unpromise", 0), ("once", 0), ("promise", 0, 97))
        self.assertEqual(found, [[1], [0], [0], [0], [-30]])


class Unpromise(unittest.TestCase):
    def test_those_behind_are_numbered_one_less(self):
        found = behind(SETTING + FOUR, ("unpromise", 1), ("promiseis", 0), ("promiseis", 1), ("promiseis", 2),
                       ("promiseis", 3), ("unpromise", 0), ("promiseis", 0), ("promiseis", 1), ("promiseis", 2))
        self.assertEqual(found, [[3], [0, 10], [2, 30], [3, 40], [-2], [2], [2, 30], [3, 40], [-2]])

    def test_the_last_one(self):
        found = behind(SETTING + FOUR, ("unpromise", 3), ("unpromise", 3), ("promiseis", 2), ("promise", 4, 7),
                       ("promiseis", 3))
        self.assertEqual(found, [[3], [-2], [2, 30], [3], [4, 7]])

    def test_refuses_no_such_promise(self):
        self.assertEqual(behind(SETTING, ("unpromise", 0), ("unpromise", BIG)), [[-2], [-2]])
        self.assertEqual(behind(SETTING + FOUR, ("unpromise", 4), ("unpromise", BIG), ("promiseis", 3)),
                         [[-2], [-2], [3, 40]])

    def test_all_of_them(self):
        found = behind(SETTING + FOUR, *[("unpromise", 0)] * 5, ("promiseis", 0))
        self.assertEqual(found, [[3], [2], [1], [0], [-2], [-2]])

    def test_what_is_taken_back_binds_no_more(self):
        found = behind(SETTING, ("promise", 4, 0), ("pop",), ("unpromise", 0), ("pop",))
        self.assertEqual(found, [[0], [-30], [0], [4]])

    def test_the_others_bind_still(self):
        found = behind(SETTING, ("promise", 0, 5), ("promise", 4, 0), ("unpromise", 0), ("pop",), ("promiseis", 0))
        self.assertEqual(found, [[0], [1], [1], [-30], [4, 0]])


class Promiseis(unittest.TestCase):
    def test_refuses_no_such_promise(self):
        self.assertEqual(behind(SETTING, ("promiseis", 0), ("promiseis", BIG)), [[-2], [-2]])
        self.assertEqual(behind(SETTING + FOUR[:2], ("promiseis", 1), ("promiseis", 2), ("promiseis", 1)),
                         [[1, 20], [-2], [1, 20]])


class Tightest(unittest.TestCase):
    def test_whole_hundredths(self):
        self.assertEqual(behind(SETTING, *[("tightest", i) for i in range(5)]), [[90], [80], [70], [80], [70]])

    def test_between_hundredths_the_lesser(self):
        found = behind(SETTING, ("thrice", 0), ("tightest", 0), ("thrice", 2), ("tightest", 2), ("tightest", 4))
        self.assertEqual(found, [[1], [97], [2], [78], [78]])

    def test_0_and_100(self):
        setting = [("leaf", 1, 100), ("leaf", 0, 100), ("leaf", 0, 0), ("leaf", 1, 0), ("leaf", 1, 1), ("thrice", 4)]
        self.assertEqual(behind(setting, *[("tightest", i) for i in range(5)]), [[0], [0], [100], [100], [99]])

    def test_refuses_no_such_node(self):
        self.assertEqual(behind(SETTING, ("tightest", 5), ("tightest", BIG)), [[-2], [-2]])

    def test_could_be_promised_and_nothing_more(self):
        for w in range(101):
            for reads in ([], [("thrice", 0)]):
                setting = [("leaf", 1, w)] + reads
                t = behind(setting, ("tightest", 0))[0][0]
                found = behind(setting, ("promise", 0, t), ("promise", 0, t + 1))
                self.assertEqual(found, [[0], [-22 if t == 100 else -30]])

    def test_goes_on_as_before_where_it_is_promised(self):
        found = behind(SETTING, ("promise", 0, 90), ("tightest", 0), *FOUR[:3], ("tightest", 0), ("tightest", 4))
        self.assertEqual(found, [[0], [90], [1], [2], [3], [90], [70]])


# Of each change: what is ahead of it, the promise by which it is just allowed, the change, its answer.
# One hundredth more could be promised too, but wouldn't be kept.
CHANGES = [
    # who's right about 2 would win 60, no more 90
    ([("leaf", 1, 10), ("leaf", 0, 40), ("some_of", [0, 1])], (2, 60), ("flip", 0), [0]),
    # a leaf that's misread more than half the time is misread more often yet: 648 thousandths
    ([("leaf", 1, 60)], (0, 35), ("thrice", 0), [1]),
    ([("leaf", 0, 60), ("all_of", [0])], (1, 35), ("thrice", 0), [1]),
    ([("leaf", 1, 10), ("thrice", 0)], (0, 90), ("once", 0), [0]),
    ([("leaf", 1, 30), ("leaf", 1, 35), ("thrice", 1), ("thrice", 0), ("all_of", [0, 1])], (2, 65), ("once", 1), [1]),
    ([("leaf", 1, 10), ("leaf", 1, 30), ("thrice", 0)], (0, 90), ("buy", 75, [1]), [1]),
    ([("leaf", 1, 10), ("leaf", 1, 30), ("thrice", 0)], (0, 90), ("buy", 0, [1]), [0]),
    # the very set that brings 2 to 62 has leaf 1 misread more often
    ([("leaf", 1, 90), ("leaf", 0, 60), ("some_of", [1, 0])], (1, 35), ("buy", 62, [2]), [1]),
]


class JustKept(unittest.TestCase):
    def test_a_change_by_which_a_promise_is_just_kept(self):
        for setting, (i, t), change, answer in CHANGES:
            found = behind(setting, ("promise", i, t), change, ("tightest", i), ("promiseis", 0))
            self.assertEqual(found, [[0], answer, [t], [i, t]], change)

    def test_a_change_by_which_it_just_is_not(self):
        for setting, (i, t), change, answer in CHANGES:
            found = behind(setting, ("promise", i, t + 1), change, ("promiseis", 0), ("unpromise", 0), change)
            self.assertEqual(found, [[0], [-30], [i, t + 1], [0], answer], change)

    def test_each_promise_counts_wherever_it_stands(self):
        for setting, (i, t), change, answer in CHANGES:
            for place in range(4):
                promises = [("promise", i, s) for s in (3, 2, 1)]
                promises.insert(place, ("promise", i, t + 1))
                found = behind(setting + promises, change, ("unpromise", place), change)
                self.assertEqual(found, [[-30], [3], answer], change)

    def test_refused_all_is_as_before(self):
        for setting, (i, t), change, answer in CHANGES:
            count = len([call for call in setting if call[0] in ("leaf", "all_of", "some_of")])
            ahead = setting + [("price", 0, 3), ("hear", i, 1, 2), ("hear", 0, 0, 1), ("promise", i, 1),
                               ("promise", i, t + 1)]
            look = [(name, j) for j in range(count) for name in ("nodeis", "misread", "right", "ends", "is_true")]
            look += [("promiseis", 0), ("promiseis", 1), ("promiseis", 2), ("tally",), ("owed",), ("entry", 0),
                     ("entry", 1), ("entry", 2), ("unpromise", 0), ("unpromise", 0)]
            look += [("price", j, 1) for j in range(count)] + [("thrice", j) for j in range(count)]
            plain = ask(("begin", 500), *ahead, *look)[1 + len(ahead):]
            found = ask(("begin", 500), *ahead, change, *look)[1 + len(ahead):]
            self.assertEqual(found, [[-30]] + plain, change)


class PoppedUnderAPromise(unittest.TestCase):
    def test_a_promised_node_is_not_popped(self):
        for t in (0, 70):
            found = behind(SETTING, ("promise", 4, t), ("pop",), ("nodeis", 4), ("all_of", [4]), ("pop",), ("pop",))
            self.assertEqual(found, [[0], [-30], [2, 3, 2], [5], [5], [-30]])

    def test_one_that_is_not_promised_is(self):
        found = behind(SETTING, ("promise", 3, 80), ("pop",), ("pop",), ("nodeis", 3))
        self.assertEqual(found, [[0], [4], [-30], [1, 0, 1]])

    def test_a_leaf_below_a_promised_one(self):
        found = behind(SETTING[:1] + [("leaf", 0, 5)], ("promise", 0, 90), ("pop",), ("pop",))
        self.assertEqual(found, [[0], [1], [-30]])

    def test_refused_all_is_as_before(self):
        ahead = SETTING + [("thrice", 2), ("price", 2, 5), ("hear", 4, 1, 3), ("promise", 4, 0), ("promise", 0, 90)]
        look = [("nodeis", 4), ("right", 4), ("misread", 2), ("promiseis", 0), ("promiseis", 1), ("promiseis", 2),
                ("tally",), ("owed",), ("entry", 0), ("price", 4, 2), ("price", 2, 2), ("leaf", 1, 0), ("once", 2)]
        plain = ask(("begin", 50), *ahead, *look)[1 + len(ahead):]
        self.assertEqual(ask(("begin", 50), *ahead, ("pop",), *look)[1 + len(ahead):], [[-30]] + plain)


class LastOfAll(unittest.TestCase):
    """-30 is answered only where nothing else is due."""

    # Each promise is kept just now: 0 read once, 1 read thrice or 3 popped would break one.
    AHEAD = [("leaf", 1, 10), ("leaf", 1, 60), ("thrice", 0), ("all_of", [1]), ("leaf", 0, 50),
             ("promise", 0, 97), ("promise", 1, 40), ("promise", 3, 50)]

    def test_the_changes_are_refused_where_nothing_else_is_due(self):
        for change in (("pop",), ("thrice", 1), ("once", 0), ("buy", 0, [0])):
            self.assertEqual(behind(self.AHEAD, change), [[-30]], change)

    def test_another_refusal_comes_ahead(self):
        for change, refusal in ((("flip", 4), -2), (("flip", 2), -33), (("thrice", 4), -2), (("thrice", 2), -33),
                                (("thrice", 0), -17), (("once", 4), -2), (("once", 1), -6), (("once", 2), -6),
                                (("buy", 101, [0]), -22), (("buy", 0, []), -22), (("buy", 0, [1, 1]), -22),
                                (("buy", 98, [0]), -33)):
            self.assertEqual(behind(self.AHEAD, change), [[refusal]], change)

    def test_too_many_leaves_come_ahead(self):
        eleven = [("leaf", 1, 10)] * 11 + [("all_of", [0, 1, 2, 3]), ("all_of", [4, 5, 6, 7]), ("all_of", [8, 9, 10]),
                                           ("all_of", [11, 12, 13]), ("thrice", 0), ("promise", 0, 97)]
        self.assertEqual(behind(eleven, ("buy", 0, [14]), ("buy", 0, [12])), [[-28], [-30]])

    def test_popped_where_there_is_none(self):
        self.assertEqual(behind([("leaf", 1, 1), ("promise", 0, 99)], ("pop",), ("unpromise", 0), ("pop",), ("pop",)),
                         [[-30], [0], [0], [-6]])


class WhatBreaksNoPromise(unittest.TestCase):
    def test_a_leaf_flipped_by_itself_is_read_right_as_often(self):
        found = behind([("leaf", 1, 10)], ("promise", 0, 90), ("flip", 0), ("tightest", 0), ("flip", 0))
        self.assertEqual(found, [[0], [0], [90], [1]])

    def test_a_leaf_flipped_elsewhere(self):
        found = behind(SETTING, ("promise", 2, 70), ("promise", 0, 90), ("flip", 1), ("flip", 0), ("flip", 2))
        self.assertEqual(found, [[0], [1], [1], [0], [0]])

    def test_nodes_put_behind_prices_hearings_and_payments(self):
        setting = SETTING + [("promise", i, t) for i, t in ((0, 90), (1, 80), (2, 70), (4, 70))]
        found = behind(setting, ("leaf", 0, 100), ("all_of", [4, 5]), ("price", 0, 100), ("hear", 4, 0, 1),
                       ("pay", 5), ("thrice", 0), ("pop",), ("flip", 5))
        self.assertEqual(found, [[5], [6], [1], [0, 2, 0], [5], [100], [6], [1]])

    def test_a_begin_that_comes_again_promises_nothing(self):
        found = behind(SETTING + FOUR, ("begin", 0), ("promiseis", 0), ("unpromise", 0), ("leaf", 1, 5), ("pop",))
        self.assertEqual(found, [[0], [-2], [-2], [0], [0]])

    def test_a_begin_that_is_refused_leaves_promises(self):
        found = behind(SETTING, ("promise", 4, 0), ("begin", 10001), ("promiseis", 0), ("pop",))
        self.assertEqual(found, [[0], [-22], [4, 0], [-30]])


if __name__ == "__main__":
    unittest.main()
