import copy
import inspect
import itertools
import unittest

from pairbook.sums import summed

HUGE = 10 ** 99 + 7
HUGEST = 10 ** 100 - 1


class InterfaceTest(unittest.TestCase):
    def test_arguments(self):
        self.assertEqual(list(inspect.signature(summed).parameters), ["postings", "name"])

    def test_arguments_by_name(self):
        self.assertEqual(summed(name="b", postings=[("a", "b", 5)]), 5)

    def test_answer_is_a_whole_number(self):
        for postings in ([], [("b", "c", 1)], [("a", "b", 1)], [("b", "a", 1)], [("a", "a", 1)]):
            with self.subTest(postings=postings):
                self.assertIs(type(summed(postings, "a")), int)


class SummedTest(unittest.TestCase):
    def test_taker_has_more(self):
        self.assertEqual(summed([("a", "b", 5)], "b"), 5)

    def test_giver_has_less(self):
        self.assertEqual(summed([("a", "b", 5)], "a"), -5)

    def test_taker_less_giver(self):
        postings = [("a", "b", 5), ("b", "c", 2), ("c", "a", 40), ("b", "a", 100), ("c", "b", 1000)]
        self.assertEqual(summed(postings, "a"), 40 + 100 - 5)
        self.assertEqual(summed(postings, "b"), 5 + 1000 - 2 - 100)
        self.assertEqual(summed(postings, "c"), 2 - 40 - 1000)

    def test_the_same_posting_several_times_counts_each_time(self):
        self.assertEqual(summed([("a", "b", 5)] * 3, "b"), 15)
        self.assertEqual(summed([("a", "b", 5)] * 3, "a"), -15)

    def test_nought_where_the_account_is_in_none(self):
        self.assertEqual(summed([("a", "b", 5), ("b", "c", 2)], "x"), 0)

    def test_no_postings(self):
        self.assertEqual(summed([], "a"), 0)

    def test_posting_from_one_to_itself(self):
        self.assertEqual(summed([("a", "a", 5)], "a"), 0)
        self.assertEqual(summed([("a", "a", 5)], "b"), 0)
        self.assertEqual(summed([("a", "b", 3), ("a", "a", 5), ("b", "b", 9)], "a"), -3)
        self.assertEqual(summed([("a", "b", 3), ("a", "a", 5), ("b", "b", 9)], "b"), 3)

    def test_amounts_of_nought_and_below_count_as_they_are(self):
        postings = [("a", "b", 0), ("a", "b", -4), ("b", "a", -1)]
        self.assertEqual(summed(postings, "a"), 3)
        self.assertEqual(summed(postings, "b"), -3)

    def test_names_alike_but_for_one_sign(self):
        names = ["bank", "Bank", "bank ", " bank", "ban", "banks", "bamk", "", " ", "1", "01", "\u00e9", "e\u0301"]
        for giver, taker in itertools.permutations(names, 2):
            for name in names:
                with self.subTest(giver=giver, taker=taker, name=name):
                    expected = {giver: -7, taker: 7}.get(name, 0)
                    self.assertEqual(summed([(giver, taker, 7)], name), expected)

    def test_name_made_anew(self):
        name = "".join(["ba", "nk"])
        self.assertEqual(summed([("bank", "till", 2), ("till", "bank", 7)], name), 5)

    def test_whole_numbers_of_a_hundred_figures(self):
        self.assertEqual(len(str(HUGE)), 100)
        self.assertEqual(len(str(HUGEST)), 100)
        self.assertEqual(summed([("a", "b", HUGE), ("b", "a", HUGE - 1)], "b"), 1)
        self.assertEqual(summed([("a", "b", HUGEST), ("c", "b", HUGEST)], "b"), 2 * HUGEST)
        self.assertEqual(summed([("a", "b", HUGEST)], "a"), -HUGEST)

    def test_six_hundred_postings(self):
        postings = [("a", "b", number) for number in range(1, 401)] + [("b", "a", HUGE)] * 200
        self.assertEqual(len(postings), 600)
        self.assertEqual(summed(postings, "b"), 400 * 401 // 2 - 200 * HUGE)
        self.assertEqual(summed(postings, "a"), 200 * HUGE - 400 * 401 // 2)

    def test_somewhat_more_than_six_hundred_postings(self):
        self.assertEqual(summed([("a", "b", 10 ** 120)] * 700, "b"), 700 * 10 ** 120)

    def test_the_order_is_no_matter(self):
        postings = [("a", "b", 1), ("b", "a", 20), ("c", "a", 300), ("a", "a", 4000)]
        for turned in itertools.permutations(postings):
            self.assertEqual(summed(list(turned), "a"), 319)


class HandedInTest(unittest.TestCase):
    def test_the_postings_stay(self):
        postings = [("a", "b", 5), ("b", "a", 2), ("a", "a", 1)]
        kept = copy.deepcopy(postings)
        entries = list(postings)
        for name in ("a", "b", "x"):
            summed(postings, name)
            self.assertEqual(postings, kept)
            self.assertTrue(all(now is then for now, then in zip(postings, entries)))

    def test_the_same_call_answers_the_same_again(self):
        postings = [("a", "b", 5), ("b", "a", 2)]
        self.assertEqual([summed(postings, "b"), summed(postings, "b"), summed([], "b")], [3, 3, 0])


if __name__ == "__main__":
    unittest.main()
