"""How calls and answers are told: one list of whole numbers each."""

import unittest

from strongones.house import answers
from telling import BIG, CALLS, ask, told

LONG = told([("begin", 5), ("leaf", 1, 10), ("leaf", 0, 20), ("all_of", [1, 0]), ("thrice", 0), ("flip", 1),
             ("price", 0, 3), ("right", 2), ("ends", 2), ("pop",), ("some_of", [0, 1]), ("some_of", []),
             ("leaf", 2, 0), ("once", 0), ("nodeis", 2), ("begin", 10001), ("misread", 1), ("promise", 0, 90),
             ("promise", 1, 5), ("promiseis", 1), ("cheapest", 95, [0]), ("buy", 95, [0, 0]), ("buy", 95, [0]),
             ("hear", 2, 1, 2), ("ifhear", 2, 0, 1), ("entry", 0), ("tally",), ("owed",), ("pay", 7), ("stakes", 0, 9),
             ("tightest", 2), ("unpromise", 0), ("begin", 1), ("pop",)])


def smallest(name):
    """A call of this name with all its numbers 0 and its row empty."""
    number, plain, with_row = CALLS[name]
    return (name,) + (0,) * plain + (([],) if with_row else ())


def greatest(name):
    """A call of this name with all its numbers as great as can be and its row as long."""
    number, plain, with_row = CALLS[name]
    return (name,) + (BIG,) * plain + (([BIG] * 6,) if with_row else ())


class Telling(unittest.TestCase):
    def test_plain_numbers(self):
        calls = [0, 7, 1, 1, 10, 1, 0, 25, 2, 2, 1, 0, 5, 0, 5, 2, 12, 2, 13, 2, 11, 2, 3, 0, 4, 10, 1, 8, 0, 7, 0, 9,
                 9, 0, 6, 0]
        self.assertEqual(answers(calls), [1, 0, 1, 0, 1, 1, 1, 2, 3, 0, 1, 10, 3, 1, 1, 0, 3, 0, 3, 4, 1, 1, 1, 0,
                                          1, -22, 1, 2, 3, 0, 1, 4, 1, 1, 1, 1, 1, 0, 1, 0])

    def test_plain_numbers_of_the_calls_about_hearings(self):
        calls = [0, 7, 1, 1, 10, 1, 0, 40, 14, 95, 1, 0, 15, 95, 1, 0, 16, 0, 97, 16, 1, 60, 18, 1, 19, 0, 20, 0, 1, 2,
                 21, 1, 3, 10, 22, 0, 23, 24, 25, 9, 26, 1, 10, 17, 0, 14, 0, 0, 15, 0, 2, 0, 1]
        self.assertEqual(answers(calls), [1, 0, 1, 0, 1, 1, 2, 1, 1, 1, 1, 1, 0, 1, 1, 2, 1, 60, 1, 97, 3, 1, 0, 1,
                                          3, 1, 1, 0, 6, 0, 0, 1, 1, 7, 250, 4, 1, 1, 6, 1, 3, 1, 7, 250, 1, 15,
                                          2, 7, 5, 1, 1, 1, -22, 1, 0])

    def test_one_call_alone(self):
        self.assertEqual(answers([0, 0]), [1, 0])
        self.assertEqual(answers([4]), [1, -11])

    def test_sixty_calls(self):
        self.assertEqual(answers([0, 0] + [1, 1, 0] * 59),
                         [1, 0] + [n for i in range(20) for n in (1, i)] + [1, -28] * 39)
        self.assertEqual(answers([0, 0] + [2, 6] + [BIG] * 6 + [3, 6] + [0] * 6 + [4] * 57), [1, 0, 1, -22, 1, -22]
                         + [1, -6] * 57)

    def test_rows_of_zero_five_and_six_are_read_to_their_end(self):
        for length in (0, 5, 6):
            for name in ("all_of", "some_of"):
                found = ask(("begin", 0), (name, [4] * length), ("leaf", 1, 0), (name, [0]), ("nodeis", 1))
                self.assertEqual(found, [[0], [-22], [0], [1], [CALLS[name][0] - 1, 0]])

        for length in (0, 5, 6):
            for name in ("cheapest", "buy"):
                found = ask(("begin", 0), ("leaf", 1, 0), (name, 4, [0] * length), ("leaf", 1, 0), (name, 100, [1, 0]))
                self.assertEqual([answer[0] for answer in found], [0, 0, -22, 1, 0])

    def test_the_list_is_left_as_it_was(self):
        handed = list(LONG)
        answers(handed)
        self.assertEqual(handed, LONG)

    def test_the_same_list_is_answered_the_same_again(self):
        handed = list(LONG)
        first = answers(handed)
        answers([0, 1, 1, 1, 1])
        self.assertEqual(answers(handed), first)
        first.append(1)
        self.assertEqual(answers(handed), first[:-1])

    def test_answers_are_whole_numbers(self):
        found = answers(LONG + told([("begin", 0), ("leaf", 1, 3), ("is_true", 0), ("flip", 0), ("is_true", 0)]))
        self.assertEqual({type(number) for number in found}, {int})
        self.assertEqual(type(found), list)


class AheadOfBegin(unittest.TestCase):
    def test_every_other_call_is_refused(self):
        for make in (smallest, greatest):
            for name in CALLS:
                if name != "begin":
                    self.assertEqual(ask(make(name), make(name)), [[-11], [-11]], name)
                    self.assertEqual(ask(("begin", BIG), make(name), ("begin", 10001), make(name)),
                                     [[-22], [-11], [-22], [-11]], name)

    def test_all_in_one_list(self):
        for make in (smallest, greatest):
            calls = [make(name) for name in CALLS if name != "begin"]
            self.assertEqual(ask(*calls, ("begin", 0), ("pop",), ("leaf", 0, 0)), [[-11]] * 26 + [[0], [-6], [0]])

    def test_what_was_refused_is_not_kept(self):
        self.assertEqual(ask(("leaf", 1, 5), ("begin", 0), ("nodeis", 0), ("leaf", 1, 5)), [[-11], [0], [-2], [0]])


class EndsOfTheRange(unittest.TestCase):
    def test_the_least_numbers_where_there_is_nothing(self):
        low = ask(("begin", 0), *[smallest(name) for name in list(CALLS)[1:]])
        self.assertEqual(low, [[0], [0], [-22], [-22], [0]] + [[-2]] * 9 + [[-22], [-22]] + [[-2]] * 7
                         + [[0, 0, 0, 0], [0, 0, 1], [0], [-2]])

    def test_the_least_numbers_where_there_is_a_leaf(self):
        low = ask(("begin", 0), ("leaf", 0, 0), *[smallest(name) for name in list(CALLS)[5:]])
        self.assertEqual(low[2:], [[0, 0, 0], [1], [-22], [1], [0], [0, 0, 1], [1], [0, 1, 1], [0], [-22], [-22], [0],
                                   [0], [-2], [100], [-22], [-22], [-2], [0, 0, 0, 0], [0, 0, 1], [0], [-33]])

    def test_the_greatest_numbers(self):
        high = ask(("begin", 0), ("leaf", 1, 100), *[greatest(name) for name in CALLS])
        self.assertEqual(high[2:], [[-22], [-22], [-22], [-22], [0]] + [[-2]] * 9 + [[-22], [-22]] + [[-2]] * 7
                         + [[0, 0, 0, 0], [0, 0, 1], [-22], [-2]])

    def test_the_greatest_number_in_each_place_by_itself(self):
        """About a leaf that there is, a promise and a hearing that there are, each other number being 0 or 1."""
        setting = [("leaf", 1, 0), ("promise", 0, 100), ("hear", 0, 0, 1)]
        for call, refusal in ((("leaf", BIG, 0), -22), (("leaf", 0, BIG), -22), (("all_of", [0, BIG]), -22),
                              (("some_of", [BIG, 0]), -22), (("price", 0, BIG), -22), (("price", BIG, 1), -2),
                              (("cheapest", BIG, [0]), -22), (("cheapest", 0, [BIG]), -22), (("buy", BIG, [0]), -22),
                              (("buy", 0, [0, BIG]), -22), (("promise", 0, BIG), -22), (("promise", BIG, 0), -2),
                              (("unpromise", BIG), -2), (("promiseis", BIG), -2), (("tightest", BIG), -2),
                              (("hear", BIG, 0, 1), -2), (("hear", 0, BIG, 1), -22), (("hear", 0, 0, BIG), -22),
                              (("ifhear", BIG, 0, 1), -2), (("ifhear", 0, BIG, 1), -22), (("ifhear", 0, 0, BIG), -22),
                              (("entry", BIG), -2), (("pay", BIG), -22), (("stakes", BIG, 1), -2),
                              (("stakes", 0, BIG), -22), (("begin", BIG), -22)):
            found = ask(("begin", 3), *setting, call, ("promiseis", 0), ("promiseis", 1), ("tally",), ("nodeis", 1))
            self.assertEqual(found[4:], [[refusal], [0, 100], [-2], [1, 1, 3, 0], [-2]], call)


if __name__ == "__main__":
    unittest.main()
