import copy
import inspect
import itertools
import unittest

from pairbook.errors import BookError, NoAccount, NoAmount, OneAccount, TooDeep
from pairbook.sheet import posted, taken_back

HUGE = 10 ** 99 + 7
HUGEST = 10 ** 100 - 1


def hundred_accounts():
    return [(f"account {number}", number * 3 - 150) for number in range(100)]


def refusal_of(sheet, depth, posting):
    try:
        posted(sheet, depth, posting)
    except BookError as error:
        return type(error)
    return None


def reasons_of(sheet, depth, posting):
    """Every reason that holds, in the order in which point 4 names them."""
    giver, taker, amount = posting
    names = [name for name, _ in sheet]
    reasons = []
    if names.count(giver) == 0 or names.count(taker) == 0:
        reasons.append(NoAccount)
    if giver == taker:
        reasons.append(OneAccount)
    if amount <= 0:
        reasons.append(NoAmount)
    if any(name == giver and depth + balance < amount for name, balance in sheet):
        reasons.append(TooDeep)
    return reasons


class SheetTest(unittest.TestCase):
    def assert_is_sheet(self, sheet):
        self.assertIs(type(sheet), list)
        for pair in sheet:
            self.assertIs(type(pair), tuple)
            self.assertEqual([type(part) for part in pair], [str, int])

    def assert_refused(self, refusal, sheet, depth, posting):
        self.assertIs(refusal_of(sheet, depth, posting), refusal)


class InterfaceTest(unittest.TestCase):
    def test_arguments_of_posted(self):
        self.assertEqual(list(inspect.signature(posted).parameters), ["sheet", "depth", "posting"])

    def test_arguments_of_taken_back(self):
        self.assertEqual(list(inspect.signature(taken_back).parameters), ["sheet", "posting"])

    def test_arguments_by_name(self):
        sheet = [("a", 0), ("b", 0)]
        behind = posted(sheet=sheet, depth=5, posting=("a", "b", 5))
        self.assertEqual(behind, [("a", -5), ("b", 5)])
        self.assertEqual(taken_back(sheet=behind, posting=("a", "b", 5)), sheet)


class PostedTest(SheetTest):
    def test_giver_ahead_of_taker(self):
        sheet = [("till", 10), ("rent", 4), ("bank", -3), ("food", 0)]
        self.assertEqual(
            posted(sheet, 0, ("till", "bank", 7)),
            [("till", 3), ("rent", 4), ("bank", 4), ("food", 0)],
        )

    def test_giver_behind_taker(self):
        sheet = [("till", 10), ("rent", 4), ("bank", 9), ("food", 0)]
        self.assertEqual(
            posted(sheet, 0, ("bank", "till", 7)),
            [("till", 17), ("rent", 4), ("bank", 2), ("food", 0)],
        )

    def test_two_accounts(self):
        self.assertEqual(posted([("b", 0), ("a", 0)], 5, ("b", "a", 3)), [("b", -3), ("a", 3)])
        self.assertEqual(posted([("b", 0), ("a", 0)], 5, ("a", "b", 3)), [("b", 3), ("a", -3)])

    def test_order_is_the_sheets_own(self):
        sheet = [("z", 1), ("a", 5), ("m", 3), ("b", 2)]
        behind = posted(sheet, 0, ("m", "z", 1))
        self.assertEqual([name for name, _ in behind], ["z", "a", "m", "b"])

    def test_answer_is_a_list_of_tuples(self):
        self.assert_is_sheet(posted([("a", 1), ("b", 0), ("c", 0)], 0, ("a", "b", 1)))

    def test_hundred_accounts(self):
        for giver, taker in ((0, 99), (99, 0), (42, 43), (43, 42)):
            with self.subTest(giver=giver, taker=taker):
                sheet = hundred_accounts()
                expected = hundred_accounts()
                expected[giver] = (sheet[giver][0], sheet[giver][1] - 11)
                expected[taker] = (sheet[taker][0], sheet[taker][1] + 11)
                behind = posted(sheet, 1000, (sheet[giver][0], sheet[taker][0], 11))
                self.assert_is_sheet(behind)
                self.assertEqual(behind, expected)

    def test_more_than_a_hundred_accounts_are_not_refused(self):
        sheet = [(str(number), 0) for number in range(120)]
        behind = posted(sheet, 1, ("119", "0", 1))
        self.assertEqual(behind, [("0", 1)] + sheet[1:119] + [("119", -1)])

    def test_names_alike_but_for_one_sign(self):
        names = ["bank", "Bank", "bank ", " bank", "ban", "banks", "bamk", "", " ", "1", "01", "\u00e9", "e\u0301"]
        for giver, taker in itertools.permutations(names, 2):
            with self.subTest(giver=giver, taker=taker):
                expected = {name: 20 for name in names}
                expected[giver] = 13
                expected[taker] = 27
                behind = posted([(name, 20) for name in names], 0, (giver, taker, 7))
                self.assertEqual(behind, list(expected.items()))

    def test_a_name_that_is_only_alike_has_no_account(self):
        sheet = [("bank", 9), ("till", 9)]
        for name in ("Bank", "bank ", " bank", "ban", "banks", "bamk", ""):
            with self.subTest(name=name):
                self.assert_refused(NoAccount, sheet, 9, (name, "till", 1))
                self.assert_refused(NoAccount, sheet, 9, ("till", name, 1))

    def test_whole_numbers_of_a_hundred_figures(self):
        self.assertEqual(len(str(HUGE)), 100)
        sheet = [("a", HUGE), ("b", -HUGE), ("c", 1)]
        self.assertEqual(posted(sheet, 0, ("a", "b", HUGE - 1)), [("a", 1), ("b", -1), ("c", 1)])
        self.assertEqual(
            posted([("a", 0), ("b", 1)], HUGEST, ("a", "b", HUGEST)),
            [("a", -HUGEST), ("b", HUGEST + 1)],
        )

    def test_whole_numbers_beyond_a_hundred_figures_are_not_refused(self):
        amount = 10 ** 120 + 1
        self.assertEqual(
            posted([("a", 0), ("b", 0)], amount, ("a", "b", amount)),
            [("a", -amount), ("b", amount)],
        )

    def test_the_sum_is_as_it_was(self):
        sheet = hundred_accounts()
        behind = posted(sheet, 1000, ("account 7", "account 70", 123))
        self.assertEqual(sum(balance for _, balance in behind), sum(balance for _, balance in sheet))

    def test_blank_sheet(self):
        blank = [("a", 0), ("b", 0), ("c", 0)]
        self.assertEqual(posted(blank, 2, ("c", "a", 2)), [("a", 2), ("b", 0), ("c", -2)])


class RefusalTest(SheetTest):
    sheet = [("a", 10), ("b", 0), ("c", -10)]

    def test_giver_without_account(self):
        self.assert_refused(NoAccount, self.sheet, 10, ("x", "b", 1))

    def test_taker_without_account(self):
        self.assert_refused(NoAccount, self.sheet, 10, ("a", "x", 1))

    def test_both_without_account(self):
        self.assert_refused(NoAccount, self.sheet, 10, ("x", "y", 1))

    def test_sheet_without_accounts(self):
        self.assert_refused(NoAccount, [], 10, ("a", "b", 1))

    def test_one_account(self):
        self.assert_refused(OneAccount, self.sheet, 10, ("a", "a", 1))

    def test_one_account_with_a_name_made_anew(self):
        self.assert_refused(OneAccount, [("bank", 5), ("till", 0)], 0, ("bank", "".join(["ba", "nk"]), 1))

    def test_sheet_of_one_account(self):
        self.assert_refused(OneAccount, [("a", 10)], 10, ("a", "a", 1))

    def test_amount_of_nought(self):
        self.assert_refused(NoAmount, self.sheet, 10, ("a", "b", 0))

    def test_amount_below_nought(self):
        for amount in (-1, -2, -10, -HUGEST):
            with self.subTest(amount=amount):
                self.assert_refused(NoAmount, self.sheet, 10, ("a", "b", amount))

    def test_amount_of_one_is_let_be(self):
        self.assertEqual(posted(self.sheet, 0, ("a", "b", 1)), [("a", 9), ("b", 1), ("c", -10)])

    def test_too_deep(self):
        self.assert_refused(TooDeep, self.sheet, 10, ("b", "a", 50))

    def test_refusals_are_book_errors_and_value_errors(self):
        for refusal in (BookError, ValueError):
            with self.assertRaises(refusal):
                posted(self.sheet, 10, ("b", "a", 50))


class DepthTest(SheetTest):
    def test_just_the_depth_is_let_be_and_one_less_refused(self):
        for depth, balance in itertools.product((0, 1, 7, HUGE), (-1, 0, 1, 5, HUGE)):
            amount = balance + depth
            if amount < 1:
                continue
            with self.subTest(depth=depth, balance=balance):
                sheet = [("b", 0), ("a", balance)]
                self.assertEqual(posted(sheet, depth, ("a", "b", amount)), [("b", amount), ("a", -depth)])
                self.assert_refused(TooDeep, sheet, depth, ("a", "b", amount + 1))

    def test_depth_of_nought(self):
        sheet = [("a", 3), ("b", 0)]
        self.assertEqual(posted(sheet, 0, ("a", "b", 3)), [("a", 0), ("b", 3)])
        self.assert_refused(TooDeep, sheet, 0, ("a", "b", 4))
        self.assert_refused(TooDeep, sheet, 0, ("b", "a", 1))

    def test_giver_below_the_depth_already(self):
        self.assert_refused(TooDeep, [("a", -5), ("b", 0)], 3, ("a", "b", 1))

    def test_giver_at_the_depth_already(self):
        self.assert_refused(TooDeep, [("a", -3), ("b", 0)], 3, ("a", "b", 1))

    def test_taker_below_the_depth_is_no_reason(self):
        self.assertEqual(posted([("a", 5), ("b", -9)], 0, ("a", "b", 5)), [("a", 0), ("b", -4)])
        self.assertEqual(posted([("b", -9), ("a", 0)], 2, ("a", "b", 1)), [("b", -8), ("a", -1)])

    def test_another_account_below_the_depth_is_no_reason(self):
        sheet = [("c", -9), ("a", 5), ("b", 0), ("d", -9)]
        self.assertEqual(posted(sheet, 0, ("a", "b", 5)), [("c", -9), ("a", 0), ("b", 5), ("d", -9)])


class FirstReasonTest(SheetTest):
    sheet = [("a", 10), ("b", 0), ("c", -10)]

    def assert_first_told(self, reasons, depth, posting):
        self.assertEqual(reasons_of(self.sheet, depth, posting), reasons)
        self.assert_refused(reasons[0], self.sheet, depth, posting)

    def test_no_account_ahead_of_one_account(self):
        self.assert_first_told([NoAccount, OneAccount], 5, ("x", "x", 1))

    def test_no_account_ahead_of_no_amount(self):
        self.assert_first_told([NoAccount, NoAmount], 5, ("x", "a", 0))
        self.assert_first_told([NoAccount, NoAmount], 5, ("a", "x", -1))

    def test_no_account_ahead_of_too_deep(self):
        self.assert_first_told([NoAccount, TooDeep], 5, ("a", "x", 16))

    def test_one_account_ahead_of_no_amount(self):
        self.assert_first_told([OneAccount, NoAmount], 5, ("a", "a", 0))
        self.assert_first_told([OneAccount, NoAmount], 5, ("a", "a", -1))

    def test_one_account_ahead_of_too_deep(self):
        self.assert_first_told([OneAccount, TooDeep], 5, ("a", "a", 16))

    def test_no_amount_ahead_of_too_deep(self):
        self.assert_first_told([NoAmount, TooDeep], 5, ("c", "a", 0))
        self.assert_first_told([NoAmount, TooDeep], 5, ("c", "a", -4))

    def test_three_reasons_at_once(self):
        self.assert_first_told([NoAccount, OneAccount, NoAmount], 5, ("x", "x", 0))
        self.assert_first_told([NoAccount, NoAmount, TooDeep], 5, ("c", "x", 0))
        self.assert_first_told([OneAccount, NoAmount, TooDeep], 5, ("c", "c", 0))

    def test_every_small_posting(self):
        names = ("a", "b", "c", "x")
        for depth, giver, taker, amount in itertools.product(range(13), names, names, range(-3, 24)):
            posting = (giver, taker, amount)
            reasons = reasons_of(self.sheet, depth, posting)
            expected = reasons[0] if reasons else None
            self.assertIs(refusal_of(self.sheet, depth, posting), expected, (depth, posting))


class TakenBackTest(SheetTest):
    def test_giver_has_more_and_taker_less(self):
        sheet = [("till", 3), ("rent", 4), ("bank", 4)]
        self.assertEqual(taken_back(sheet, ("till", "bank", 7)), [("till", 10), ("rent", 4), ("bank", -3)])
        self.assertEqual(taken_back(sheet, ("bank", "till", 2)), [("till", 1), ("rent", 4), ("bank", 6)])

    def test_answer_is_a_list_of_tuples(self):
        self.assert_is_sheet(taken_back([("a", 1), ("b", 0), ("c", 0)], ("a", "b", 1)))

    def test_sheet_behind_becomes_sheet_ahead(self):
        sheet = hundred_accounts()
        for giver, taker, amount in ((0, 99, 1), (99, 0, 147), (50, 49, HUGEST), (3, 4, HUGE)):
            with self.subTest(giver=giver, taker=taker, amount=amount):
                posting = (sheet[giver][0], sheet[taker][0], amount)
                self.assertEqual(taken_back(posted(sheet, HUGEST * 2, posting), posting), sheet)

    def test_several_postings_taken_back_last_first(self):
        sheets = [[("a", 0), ("b", 0), ("c", 0)]]
        postings = [("a", "b", 5), ("b", "c", 2), ("c", "a", 1), ("b", "a", 3)]
        for posting in postings:
            sheets.append(posted(sheets[-1], 5, posting))
        sheet = sheets[-1]
        for posting, ahead in zip(reversed(postings), reversed(sheets[:-1])):
            sheet = taken_back(sheet, posting)
            self.assertEqual(sheet, ahead)

    def test_names_alike_but_for_one_sign(self):
        sheet = [("bank", 1), ("Bank", 1), ("bank ", 1), ("ban", 1)]
        self.assertEqual(
            taken_back(sheet, ("bank ", "Bank", 6)),
            [("bank", 1), ("Bank", -5), ("bank ", 7), ("ban", 1)],
        )

    def test_a_taker_below_any_depth_is_no_reason(self):
        self.assertEqual(
            taken_back([("a", 0), ("b", 0)], ("a", "b", HUGEST)),
            [("a", HUGEST), ("b", -HUGEST)],
        )

    def test_a_giver_below_any_depth_is_no_reason(self):
        self.assertEqual(taken_back([("a", -HUGEST), ("b", 0)], ("a", "b", 1)), [("a", 1 - HUGEST), ("b", -1)])

    def test_taker_that_was_below_the_depth_ahead_of_the_posting(self):
        sheet = [("a", 5), ("b", -9)]
        behind = posted(sheet, 0, ("a", "b", 5))
        self.assertEqual(taken_back(behind, ("a", "b", 5)), sheet)


class HandedInTest(SheetTest):
    def assert_left_alone(self, work, sheet, *rest):
        kept = copy.deepcopy(sheet)
        pairs = list(sheet)
        answer = work(sheet, *rest)
        self.assertEqual(sheet, kept)
        self.assertTrue(all(now is then for now, then in zip(sheet, pairs)))
        self.assertIsNot(answer, sheet)

    def test_posted_leaves_the_sheet_alone(self):
        self.assert_left_alone(posted, [("a", 5), ("b", 0), ("c", 1)], 0, ("a", "b", 5))
        self.assert_left_alone(posted, hundred_accounts(), 1000, ("account 99", "account 0", 5))

    def test_taken_back_leaves_the_sheet_alone(self):
        self.assert_left_alone(taken_back, [("a", 5), ("b", 0), ("c", 1)], ("a", "b", 5))
        self.assert_left_alone(taken_back, hundred_accounts(), ("account 99", "account 0", 5))

    def test_a_refused_posting_leaves_the_sheet_alone(self):
        postings = [("x", "b", 1), ("a", "x", 1), ("a", "a", 1), ("a", "b", 0), ("a", "b", -1), ("a", "b", 6)]
        for posting in postings:
            with self.subTest(posting=posting):
                self.assert_left_alone(refusal_of, [("a", 5), ("b", 0), ("c", 1)], 0, posting)

    def test_changing_the_answer_does_not_change_the_sheet(self):
        sheet = [("a", 5), ("b", 0)]
        posted(sheet, 0, ("a", "b", 5)).clear()
        taken_back(sheet, ("a", "b", 5)).clear()
        self.assertEqual(sheet, [("a", 5), ("b", 0)])

    def test_the_same_call_answers_the_same_again(self):
        sheet = [("a", 5), ("b", 0)]
        first = posted(sheet, 0, ("a", "b", 3))
        self.assertEqual(posted(sheet, 0, ("a", "b", 3)), first)
        self.assertIsNot(posted(sheet, 0, ("a", "b", 3)), first)


if __name__ == "__main__":
    unittest.main()
