import copy
import inspect
import itertools
import unittest

from pairbook.day import sheets, stands, told
from pairbook.sheet import posted, taken_back
from pairbook.sums import summed

HUGE = 10 ** 99 + 7
HUGEST = 10 ** 100 - 1
UNDO = ("undo",)
REDO = ("redo",)


def post(giver, taker, amount):
    return ("post", giver, taker, amount)


def hundred_names():
    return [f"account {number * 37 % 100}" for number in range(100)]


def blank(names):
    return [(name, 0) for name in names]


def sheet_by(names, postings):
    """The sheet told by the postings alone, without the program."""
    balances = dict.fromkeys(names, 0)
    for giver, taker, amount in postings:
        balances[giver] -= amount
        balances[taker] += amount
    return list(balances.items())


def refusal_text(names, depth, sheet, giver, taker, amount):
    if giver not in names or taker not in names:
        return "no account"
    if giver == taker:
        return "one account"
    if amount <= 0:
        return "no amount"
    if dict(sheet)[giver] + depth < amount:
        return "too deep"
    return "done"


def expected_day(names, depth, deeds):
    """Answers, sheets and what stands, from one line of postings and a mark upon it.

    What lies ahead of the mark stands; what lies behind it is undone, the one undone last nearest to the mark.
    """
    line, mark = [], 0
    answers, behind = [], []
    for deed in deeds:
        sheet = sheet_by(names, line[:mark])
        if deed == UNDO:
            answer = "done" if mark > 0 else "nothing"
            mark = max(mark - 1, 0)
        elif deed == REDO:
            answer = "done" if mark < len(line) else "nothing"
            mark = min(mark + 1, len(line))
        else:
            answer = refusal_text(names, depth, sheet, *deed[1:])
            if answer == "done":
                line, mark = line[:mark] + [deed[1:]], mark + 1
        answers.append(answer)
        behind.append(sheet_by(names, line[:mark]))
    return answers, behind, line[:mark]


def many_deeds(names, count, start, largest):
    """Deeds of every kind, mixed up by a fixed reckoning, so that each run has the same ones."""
    state = start
    deeds = []
    for _ in range(count):
        drawn = []
        for bound in (10, len(names), len(names), largest):
            state = (state * 6364136223846793005 + 1442695040888963407) % 2 ** 64
            drawn.append((state >> 20) * bound >> 44)
        kind, giver, taker, amount = drawn
        if kind < 2:
            deeds.append(UNDO)
        elif kind < 4:
            deeds.append(REDO)
        else:
            deeds.append(post(names[giver], names[taker], amount))
    return deeds


class DayTest(unittest.TestCase):
    def assert_same_list(self, found, expected):
        """Tells the first place that differs: unittest takes minutes to compare two long lists of sheets."""
        self.assertIs(type(found), list)
        self.assertEqual(len(found), len(expected))
        for place, (one, other) in enumerate(zip(found, expected)):
            self.assertTrue(one == other, f"at {place}: {one} is not {other}")

    def assert_day(self, names, depth, deeds, answers, behind, standing):
        self.assert_same_list(told(names, depth, deeds), answers)
        self.assert_same_list(sheets(names, depth, deeds), behind)
        self.assert_same_list(stands(names, depth, deeds), standing)

    def assert_as_expected(self, names, depth, deeds):
        self.assert_day(names, depth, deeds, *expected_day(names, depth, deeds))

    def assert_changes_nothing(self, names, depth, ahead, deed, answer):
        """The deed is refused with the answer; all that can be seen behind it is as ahead of it."""
        self.assertEqual(told(names, depth, ahead + [deed])[-1], answer)
        sheet_ahead = sheets(names, depth, ahead)[-1] if ahead else blank(names)
        self.assertEqual(sheets(names, depth, ahead + [deed])[-1], sheet_ahead)
        self.assertEqual(stands(names, depth, ahead + [deed]), stands(names, depth, ahead))
        for later in ([REDO] * 4, [UNDO] * 4, [REDO, UNDO, UNDO, REDO], [post("a", "b", 1), REDO, UNDO]):
            size = len(later)
            self.assertEqual(
                told(names, depth, ahead + [deed] + later)[-size:], told(names, depth, ahead + later)[-size:]
            )
            self.assertEqual(
                sheets(names, depth, ahead + [deed] + later)[-size:], sheets(names, depth, ahead + later)[-size:]
            )
            self.assertEqual(stands(names, depth, ahead + [deed] + later), stands(names, depth, ahead + later))


class InterfaceTest(DayTest):
    def test_arguments(self):
        for work in (told, sheets, stands):
            with self.subTest(work=work.__name__):
                self.assertEqual(list(inspect.signature(work).parameters), ["names", "depth", "deeds"])

    def test_arguments_by_name(self):
        day = {"deeds": [post("a", "b", 5)], "depth": 5, "names": ["a", "b"]}
        self.assertEqual(told(**day), ["done"])
        self.assertEqual(sheets(**day), [[("a", -5), ("b", 5)]])
        self.assertEqual(stands(**day), [("a", "b", 5)])

    def test_kinds(self):
        names = ["a", "b", "c"]
        deeds = [REDO, post("a", "b", 5), post("a", "a", 1), post("b", "c", 2), UNDO, REDO, UNDO, UNDO, UNDO, REDO]
        answers = told(names, 9, deeds)
        behind = sheets(names, 9, deeds)
        standing = stands(names, 9, deeds)
        self.assertEqual([type(answers), type(behind), type(standing)], [list, list, list])
        self.assertEqual({type(answer) for answer in answers}, {str})
        for sheet in behind:
            self.assertIs(type(sheet), list)
            for pair in sheet:
                self.assertIs(type(pair), tuple)
                self.assertEqual([type(part) for part in pair], [str, int])
        self.assertEqual(len(standing), 1)
        self.assertIs(type(standing[0]), tuple)
        self.assertEqual([type(part) for part in standing[0]], [str, str, int])

    def test_no_deeds(self):
        for names in ([], ["a"], ["a", "b"], hundred_names()):
            with self.subTest(names=len(names)):
                self.assert_day(names, 5, [], [], [], [])

    def test_one_answer_and_one_sheet_for_each_deed(self):
        deeds = [UNDO, REDO, post("a", "b", 0), post("a", "b", 1), post("x", "b", 1), post("a", "a", 1), UNDO, UNDO]
        for size in range(len(deeds) + 1):
            with self.subTest(size=size):
                self.assertEqual(len(told(["a", "b"], 3, deeds[:size])), size)
                self.assertEqual(len(sheets(["a", "b"], 3, deeds[:size])), size)

    def test_sheets_keep_the_order_of_the_names(self):
        names = ["z", "a", "m", "B", "b"]
        deeds = [UNDO, post("m", "z", 1), post("b", "a", 2), UNDO, REDO, post("a", "B", 1), post("x", "a", 1)]
        for sheet in sheets(names, 5, deeds):
            self.assertEqual([name for name, _ in sheet], names)


class NewBookTest(DayTest):
    def test_blank_sheet_behind_a_refused_first_deed(self):
        names = ["till", "bank", "rent"]
        for deed in (UNDO, REDO, post("till", "bank", 6), post("till", "x", 1)):
            with self.subTest(deed=deed):
                self.assertEqual(sheets(names, 5, [deed]), [[("till", 0), ("bank", 0), ("rent", 0)]])
                self.assertEqual(stands(names, 5, [deed]), [])

    def test_nothing_stands_and_none_is_undone(self):
        self.assertEqual(told(["a", "b"], 5, [UNDO]), ["nothing"])
        self.assertEqual(told(["a", "b"], 5, [REDO]), ["nothing"])

    def test_book_without_accounts(self):
        self.assert_day([], 5, [post("a", "b", 1), UNDO, REDO], ["no account", "nothing", "nothing"], [[], [], []], [])

    def test_book_of_one_account(self):
        deeds = [post("a", "a", 1), post("a", "b", 1), UNDO]
        self.assert_day(["a"], 5, deeds, ["one account", "no account", "nothing"], [[("a", 0)]] * 3, [])


class PostTest(DayTest):
    names = ["a", "b", "c"]

    def test_done(self):
        self.assert_day(
            self.names,
            10,
            [post("a", "b", 7), post("b", "c", 9), post("c", "a", 1)],
            ["done", "done", "done"],
            [
                [("a", -7), ("b", 7), ("c", 0)],
                [("a", -7), ("b", -2), ("c", 9)],
                [("a", -6), ("b", -2), ("c", 8)],
            ],
            [("a", "b", 7), ("b", "c", 9), ("c", "a", 1)],
        )

    def test_amount_of_one_is_done(self):
        self.assertEqual(told(self.names, 1, [post("c", "a", 1)]), ["done"])

    def test_each_refusal(self):
        cases = [
            (post("x", "b", 1), "no account"),
            (post("a", "x", 1), "no account"),
            (post("x", "y", 1), "no account"),
            (post("a", "a", 1), "one account"),
            (post("a", "b", 0), "no amount"),
            (post("a", "b", -1), "no amount"),
            (post("a", "b", -HUGEST), "no amount"),
            (post("a", "b", 11), "too deep"),
        ]
        for deed, answer in cases:
            with self.subTest(deed=deed):
                self.assert_day(self.names, 10, [deed], [answer], [blank(self.names)], [])

    def test_the_first_refusal_is_told(self):
        ahead = post("a", "b", 10)
        cases = [
            (post("x", "x", 1), "no account"),
            (post("x", "a", 0), "no account"),
            (post("a", "x", -1), "no account"),
            (post("a", "x", 99), "no account"),
            (post("x", "x", 0), "no account"),
            (post("a", "a", 0), "one account"),
            (post("a", "a", -1), "one account"),
            (post("a", "a", 99), "one account"),
            (post("a", "b", 0), "no amount"),
        ]
        for deed, answer in cases:
            with self.subTest(deed=deed):
                self.assertEqual(told(self.names, 10, [ahead, deed]), ["done", answer])

    def test_a_name_that_is_only_alike_has_no_account(self):
        for name in ("Bank", "bank ", " bank", "ban", "banks", "bamk", ""):
            with self.subTest(name=name):
                deeds = [post(name, "till", 1), post("till", name, 1)]
                self.assertEqual(told(["bank", "till"], 5, deeds), ["no account", "no account"])

    def test_names_alike_but_for_one_sign(self):
        names = ["bank", "Bank", "bank ", " bank", "ban", "", " ", "1", "01", "\u00e9", "e\u0301"]
        for giver, taker in itertools.permutations(names, 2):
            with self.subTest(giver=giver, taker=taker):
                self.assert_as_expected(names, 9, [post(giver, taker, 7), UNDO, REDO, post(taker, giver, 16)])

    def test_accounts_called_like_deeds_and_answers(self):
        names = ["post", "undo", "redo", "done", "nothing"]
        self.assert_as_expected(names, 9, [post("undo", "redo", 7), post("post", "undo", 9), UNDO, REDO, UNDO])

    def test_the_takers_balance_is_no_reason(self):
        deeds = [post("a", "b", 10), post("c", "a", 1), post("c", "b", 9)]
        self.assertEqual(told(self.names, 10, deeds), ["done", "done", "done"])

    def test_the_same_posting_twice_stands_twice(self):
        deeds = [post("a", "b", 3), post("a", "b", 3), UNDO]
        self.assertEqual(stands(self.names, 10, deeds[:2]), [("a", "b", 3), ("a", "b", 3)])
        self.assertEqual(stands(self.names, 10, deeds), [("a", "b", 3)])


class DepthTest(DayTest):
    def test_just_the_depth_is_done_and_one_less_too_deep(self):
        for depth in (1, 2, 7, HUGE, HUGEST):
            with self.subTest(depth=depth):
                self.assertEqual(told(["a", "b"], depth, [post("a", "b", depth)]), ["done"])
                self.assertEqual(sheets(["a", "b"], depth, [post("a", "b", depth)]), [[("a", -depth), ("b", depth)]])
                self.assertEqual(told(["a", "b"], depth, [post("a", "b", depth + 1)]), ["too deep"])
                self.assertEqual(told(["a", "b"], depth, [post("a", "b", depth), post("a", "b", 1)])[1], "too deep")

    def test_the_edge_in_several_steps(self):
        deeds = [post("a", "b", 4), post("a", "b", 4), post("a", "b", 3), post("a", "b", 2), post("a", "b", 1)]
        self.assertEqual(told(["a", "b"], 10, deeds), ["done", "done", "too deep", "done", "too deep"])

    def test_the_edge_from_above_nought(self):
        deeds = [post("a", "b", 5), post("b", "a", 11), post("b", "a", 10), post("b", "a", 1)]
        self.assertEqual(told(["a", "b"], 5, deeds), ["done", "too deep", "done", "too deep"])

    def test_depth_of_nought(self):
        names = ["a", "b", "c"]
        deeds = [post("a", "b", 1), post("b", "c", HUGEST), post("c", "c", 1), post("c", "a", 0), UNDO, REDO]
        answers = ["too deep", "too deep", "one account", "no amount", "nothing", "nothing"]
        self.assert_day(names, 0, deeds, answers, [blank(names)] * 6, [])

    def test_an_undo_makes_room_again(self):
        deeds = [post("a", "b", 5), post("a", "c", 1), UNDO, post("a", "c", 5), post("a", "c", 1)]
        self.assertEqual(told(["a", "b", "c"], 5, deeds), ["done", "too deep", "done", "done", "too deep"])

    def test_undo_and_redo_at_the_depth(self):
        deeds = [post("a", "b", 5), post("b", "a", 10), UNDO, UNDO, REDO, REDO]
        answers = ["done"] * 6
        behind = [
            [("a", -5), ("b", 5)],
            [("a", 5), ("b", -5)],
            [("a", -5), ("b", 5)],
            [("a", 0), ("b", 0)],
            [("a", -5), ("b", 5)],
            [("a", 5), ("b", -5)],
        ]
        self.assert_day(["a", "b"], 5, deeds, answers, behind, [("a", "b", 5), ("b", "a", 10)])


class UndoRedoTest(DayTest):
    names = ["a", "b", "c"]
    three = [post("a", "b", 1), post("b", "c", 20), post("c", "a", 300)]
    behind_three = [
        [("a", -1), ("b", 1), ("c", 0)],
        [("a", -1), ("b", -19), ("c", 20)],
        [("a", 299), ("b", -19), ("c", -280)],
    ]
    standing_three = [("a", "b", 1), ("b", "c", 20), ("c", "a", 300)]

    def test_undo_takes_back_the_last_one_that_stands(self):
        self.assert_day(
            self.names,
            500,
            self.three + [UNDO],
            ["done"] * 4,
            self.behind_three + [self.behind_three[1]],
            self.standing_three[:2],
        )

    def test_several_undos_in_a_row(self):
        self.assert_day(
            self.names,
            500,
            self.three + [UNDO] * 5,
            ["done"] * 6 + ["nothing"] * 2,
            self.behind_three + [self.behind_three[1], self.behind_three[0]] + [blank(self.names)] * 3,
            [],
        )

    def test_redo_takes_the_one_undone_last(self):
        self.assert_day(
            self.names,
            500,
            self.three + [UNDO, UNDO, REDO],
            ["done"] * 6,
            self.behind_three + [self.behind_three[1], self.behind_three[0], self.behind_three[1]],
            self.standing_three[:2],
        )

    def test_several_redos_in_a_row(self):
        self.assert_day(
            self.names,
            500,
            self.three + [UNDO] * 3 + [REDO] * 5,
            ["done"] * 9 + ["nothing"] * 2,
            self.behind_three
            + [self.behind_three[1], self.behind_three[0], blank(self.names)]
            + self.behind_three
            + [self.behind_three[2]] * 2,
            self.standing_three,
        )

    def test_in_turn(self):
        self.assert_day(
            self.names,
            500,
            self.three[:1] + [UNDO, REDO] * 3 + [UNDO],
            ["done"] * 8,
            [self.behind_three[0], blank(self.names)] * 4,
            [],
        )

    def test_undo_behind_a_redo_takes_back_what_was_redone(self):
        deeds = self.three + [UNDO, UNDO, REDO, UNDO]
        self.assertEqual(stands(self.names, 500, deeds), self.standing_three[:1])
        self.assertEqual(told(self.names, 500, deeds + [REDO, REDO, REDO])[-3:], ["done", "done", "nothing"])
        self.assertEqual(stands(self.names, 500, deeds + [REDO, REDO, REDO]), self.standing_three)

    def test_redo_without_an_undo(self):
        self.assertEqual(told(self.names, 500, self.three + [REDO]), ["done"] * 3 + ["nothing"])

    def test_a_redone_posting_stands_as_the_last_one(self):
        deeds = self.three + [UNDO, UNDO, REDO, REDO]
        for size, standing in ((4, 2), (5, 1), (6, 2), (7, 3)):
            with self.subTest(size=size):
                self.assertEqual(stands(self.names, 500, deeds[:size]), self.standing_three[:standing])

    def test_a_posting_behind_a_redo_stands_behind_what_was_redone(self):
        deeds = self.three + [UNDO, UNDO, REDO, post("a", "c", 4)]
        self.assertEqual(stands(self.names, 500, deeds), self.standing_three[:2] + [("a", "c", 4)])


class ForgottenTest(DayTest):
    names = ["a", "b", "c"]

    def test_a_posting_that_is_done_makes_what_was_undone_forgotten(self):
        deeds = [post("a", "b", 1), post("b", "c", 2), UNDO, post("c", "a", 3), REDO]
        self.assert_day(
            self.names,
            9,
            deeds,
            ["done", "done", "done", "done", "nothing"],
            [
                [("a", -1), ("b", 1), ("c", 0)],
                [("a", -1), ("b", -1), ("c", 2)],
                [("a", -1), ("b", 1), ("c", 0)],
                [("a", 2), ("b", 1), ("c", -3)],
                [("a", 2), ("b", 1), ("c", -3)],
            ],
            [("a", "b", 1), ("c", "a", 3)],
        )

    def test_all_that_was_undone_is_forgotten(self):
        three = [post("a", "b", 1), post("b", "c", 2), post("c", "a", 3)]
        deeds = three + [UNDO] * 3 + [post("b", "a", 4), REDO, REDO, UNDO, REDO, REDO]
        self.assertEqual(told(self.names, 9, deeds)[6:], ["done", "nothing", "nothing", "done", "done", "nothing"])
        self.assertEqual(stands(self.names, 9, deeds), [("b", "a", 4)])

    def test_forgotten_though_the_posting_is_the_same(self):
        deeds = [post("a", "b", 1), UNDO, post("a", "b", 1), REDO]
        self.assertEqual(told(self.names, 9, deeds), ["done", "done", "done", "nothing"])
        self.assertEqual(stands(self.names, 9, deeds), [("a", "b", 1)])

    def test_still_forgotten_behind_an_undo_of_the_posting(self):
        deeds = [post("a", "b", 1), UNDO, post("b", "c", 2), UNDO, REDO, REDO]
        self.assertEqual(told(self.names, 9, deeds), ["done"] * 5 + ["nothing"])
        self.assertEqual(stands(self.names, 9, deeds), [("b", "c", 2)])

    def test_a_posting_that_is_refused_makes_nothing_forgotten(self):
        refused = [
            (post("x", "b", 1), "no account"),
            (post("a", "x", 1), "no account"),
            (post("a", "a", 1), "one account"),
            (post("a", "b", 0), "no amount"),
            (post("a", "b", 99), "too deep"),
        ]
        for deed, answer in refused:
            with self.subTest(deed=deed):
                deeds = [post("a", "b", 1), post("b", "c", 2), UNDO, UNDO, deed, REDO, deed, REDO, REDO]
                answers = ["done"] * 4 + [answer, "done", answer, "done", "nothing"]
                self.assertEqual(told(self.names, 9, deeds), answers)
                self.assertEqual(stands(self.names, 9, deeds), [("a", "b", 1), ("b", "c", 2)])
                self.assertEqual(sheets(self.names, 9, deeds)[-1], [("a", -1), ("b", -1), ("c", 2)])


class RefusedTest(DayTest):
    names = ["a", "b", "c"]
    states = [
        [],
        [post("a", "b", 5)],
        [post("a", "b", 5), post("b", "c", 2)],
        [post("a", "b", 5), UNDO],
        [post("a", "b", 5), post("b", "c", 2), UNDO],
        [post("a", "b", 5), post("b", "c", 2), UNDO, UNDO],
        [post("a", "b", 5), post("b", "c", 2), UNDO, UNDO, REDO],
    ]

    def test_a_refused_posting_changes_nothing(self):
        refused = [
            (post("x", "b", 1), "no account"),
            (post("a", "x", 1), "no account"),
            (post("b", "b", 1), "one account"),
            (post("a", "b", 0), "no amount"),
            (post("b", "a", -3), "no amount"),
            (post("a", "b", 99), "too deep"),
        ]
        for ahead in self.states:
            for deed, answer in refused:
                with self.subTest(ahead=ahead, deed=deed):
                    self.assert_changes_nothing(self.names, 9, ahead, deed, answer)

    def test_a_refused_undo_changes_nothing(self):
        for ahead in (self.states[0], self.states[3], self.states[5]):
            with self.subTest(ahead=ahead):
                self.assert_changes_nothing(self.names, 9, ahead, UNDO, "nothing")

    def test_a_refused_redo_changes_nothing(self):
        for ahead in self.states[:3]:
            with self.subTest(ahead=ahead):
                self.assert_changes_nothing(self.names, 9, ahead, REDO, "nothing")


class BehindEveryDeedTest(DayTest):
    def assert_sound(self, names, depth, deeds):
        behind = sheets(names, depth, deeds)
        self.assertEqual(len(behind), len(deeds))
        for size, sheet in enumerate(behind, start=1):
            standing = stands(names, depth, deeds[:size])
            self.assertEqual(sum(balance for _, balance in sheet), 0)
            self.assertTrue(all(balance >= -depth for _, balance in sheet))
            self.assertEqual(sheet, [(name, summed(standing, name)) for name in names])

    def assert_undone_to_the_blank_sheet(self, names, depth, deeds):
        undone = deeds + [UNDO] * len(deeds)
        self.assertEqual(sheets(names, depth, undone)[-1], blank(names))
        self.assertEqual(stands(names, depth, undone), [])
        self.assertEqual(told(names, depth, undone + [UNDO])[-1], "nothing")

    def test_small_book(self):
        for start, depth in itertools.product(range(6), (0, 1, 5, 30)):
            with self.subTest(start=start, depth=depth):
                names = ["a", "b", "c"]
                deeds = many_deeds(names, 60, start, 20)
                self.assert_sound(names, depth, deeds)
                self.assert_undone_to_the_blank_sheet(names, depth, deeds)

    def test_hundred_accounts(self):
        deeds = many_deeds(hundred_names(), 150, 1, 100)
        self.assert_sound(hundred_names(), 120, deeds)
        self.assert_undone_to_the_blank_sheet(hundred_names(), 120, deeds)

    def test_whole_numbers_of_a_hundred_figures(self):
        names = ["a", "b", "c", "d"]
        deeds = many_deeds(names, 100, 2, HUGEST)
        self.assert_sound(names, HUGEST, deeds)
        self.assert_undone_to_the_blank_sheet(names, HUGEST, deeds)

    def test_six_hundred_deeds_and_as_many_undos(self):
        self.assert_undone_to_the_blank_sheet(["a", "b"], 50, many_deeds(["a", "b"], 600, 3, 40))

    def test_all_done_and_all_undone(self):
        names = ["a", "b"]
        deeds = [post("a", "b", number) for number in range(1, 51)]
        self.assertEqual(told(names, 2000, deeds + [UNDO] * 50), ["done"] * 100)
        self.assert_undone_to_the_blank_sheet(names, 2000, deeds)

    def test_the_book_and_the_sheets_agree(self):
        names = ["a", "b", "c"]
        deeds = [post("a", "b", 5), post("b", "c", 7), post("c", "a", 9), UNDO, UNDO, REDO]
        behind = sheets(names, 9, deeds)
        ahead = blank(names)
        for deed, sheet in zip(deeds[:3], behind):
            self.assertEqual(sheet, posted(ahead, 9, deed[1:]))
            self.assertEqual(taken_back(sheet, deed[1:]), ahead)
            ahead = sheet
        self.assertEqual(behind[3:], [behind[1], behind[0], behind[1]])


class AgainstTheLineTest(DayTest):
    """The program beside a reckoning of another build: a line of postings and a mark upon it."""

    def test_every_short_day(self):
        choices = [
            UNDO,
            REDO,
            post("a", "b", 2),
            post("b", "a", 3),
            post("b", "c", 1),
            post("c", "c", 1),
            post("a", "x", 1),
            post("c", "a", 0),
        ]
        for deeds in itertools.product(choices, repeat=4):
            self.assert_as_expected(["c", "a", "b"], 2, list(deeds))

    def test_every_day_of_two_postings_undos_and_redos(self):
        choices = [UNDO, REDO, post("a", "b", 1), post("b", "a", 2)]
        for deeds in itertools.product(choices, repeat=6):
            self.assert_as_expected(["a", "b"], 2, list(deeds))

    def test_long_days(self):
        sizes = [
            (["a", "b"], 10, 600, 9),
            (["a", "b"], 0, 600, 3),
            (["a", "b"], HUGEST, 600, HUGEST),
            (hundred_names(), 40, 600, 50),
            (hundred_names(), HUGE, 600, HUGEST),
        ]
        for start, (names, depth, count, largest) in enumerate(sizes):
            with self.subTest(names=len(names), depth=depth):
                deeds = many_deeds(names, count, start, largest)
                self.assert_as_expected(names, depth, deeds)
                if depth > 0:
                    self.assertLessEqual({"done", "nothing", "too deep"}, set(told(names, depth, deeds)))


class SizeTest(DayTest):
    def test_two_accounts_and_six_hundred_deeds(self):
        names = ["a", "b"]
        deeds = [post("a", "b", HUGEST)] * 300 + [UNDO] * 150 + [REDO] * 150
        amounts = list(range(1, 301)) + list(range(299, 149, -1)) + list(range(151, 301))
        self.assert_day(
            names,
            300 * HUGEST,
            deeds,
            ["done"] * 600,
            [[("a", -times * HUGEST), ("b", times * HUGEST)] for times in amounts],
            [("a", "b", HUGEST)] * 300,
        )

    def test_a_hundred_accounts_in_a_round(self):
        names = hundred_names()
        self.assertEqual(len(set(names)), 100)
        deeds = [post(names[number], names[(number + 1) % 100], HUGE) for number in range(100)]
        behind = sheets(names, HUGE, deeds)
        self.assertEqual(told(names, HUGE, deeds), ["done"] * 100)
        self.assertEqual(behind[0], [(names[0], -HUGE), (names[1], HUGE)] + blank(names[2:]))
        self.assertEqual(behind[98], [(names[0], -HUGE)] + blank(names[1:99]) + [(names[99], HUGE)])
        self.assertEqual(behind[99], blank(names))

    def test_somewhat_beyond_the_sizes_nothing_is_refused(self):
        names = [str(number) for number in range(120)]
        amount = 10 ** 120
        deeds = [post("119", "0", amount)] * 350 + [UNDO] * 350
        self.assertEqual(told(names, 350 * amount, deeds), ["done"] * 700)
        self.assertEqual(sheets(names, 350 * amount, deeds)[349][0], ("0", 350 * amount))
        self.assertEqual(stands(names, 350 * amount, deeds), [])


class HandedInTest(DayTest):
    deeds = [REDO, post("a", "b", 5), post("a", "b", 99), post("b", "c", 2), UNDO, UNDO, REDO, post("a", "a", 1)]

    def test_names_and_deeds_stay_as_they_were(self):
        for work in (told, sheets, stands):
            with self.subTest(work=work.__name__):
                names = ["c", "a", "b"]
                deeds = list(self.deeds)
                kept = copy.deepcopy((names, deeds))
                work(names, 9, deeds)
                self.assertEqual((names, deeds), kept)
                self.assertTrue(all(now is then for now, then in zip(deeds, self.deeds)))

    def test_changing_the_answer_does_not_change_what_was_handed_in(self):
        names = ["c", "a", "b"]
        deeds = list(self.deeds)
        for work in (told, sheets, stands):
            with self.subTest(work=work.__name__):
                work(names, 9, deeds).clear()
                self.assertEqual(names, ["c", "a", "b"])
                self.assertEqual(deeds, self.deeds)

    def test_each_sheet_is_a_list_of_its_own(self):
        told_sheets = sheets(["a", "b", "c"], 9, [UNDO] + self.deeds + [UNDO, UNDO, UNDO, REDO, REDO])
        for one, other in itertools.combinations(told_sheets, 2):
            self.assertIsNot(one, other)

    def test_sheets_are_not_changed_by_later_deeds(self):
        names = ["a", "b", "c"]
        whole = sheets(names, 9, self.deeds)
        for size in range(len(self.deeds) + 1):
            with self.subTest(size=size):
                self.assertEqual(sheets(names, 9, self.deeds[:size]), whole[:size])

    def test_changing_one_sheet_does_not_change_another(self):
        names = ["a", "b", "c"]
        kept = sheets(names, 9, self.deeds)
        for place in range(len(kept)):
            with self.subTest(place=place):
                whole = sheets(names, 9, self.deeds)
                whole[place].clear()
                self.assertEqual(whole[:place] + whole[place + 1 :], kept[:place] + kept[place + 1 :])


class TwoBooksTest(DayTest):
    def test_books_asked_one_after_the_other_do_not_know_of_each_other(self):
        names = ["a", "b"]
        first = [post("a", "b", 5), post("a", "b", 4), UNDO]
        for work in (told, sheets, stands):
            with self.subTest(work=work.__name__):
                work(names, 9, first)
                self.assert_day(names, 9, [UNDO], ["nothing"], [blank(names)], [])
                work(names, 9, first)
                self.assert_day(names, 9, [REDO], ["nothing"], [blank(names)], [])
                work(names, 9, first)
                self.assert_day(names, 9, [post("a", "b", 9)], ["done"], [[("a", -9), ("b", 9)]], [("a", "b", 9)])

    def test_each_book_has_its_own_names_and_depth(self):
        deeds = [post("a", "b", 5)]
        self.assertEqual(told(["a", "b"], 5, deeds), ["done"])
        self.assertEqual(told(["a", "c"], 5, deeds), ["no account"])
        self.assertEqual(told(["b", "a"], 4, deeds), ["too deep"])
        self.assertEqual(sheets(["b", "a"], 5, deeds), [[("b", 5), ("a", -5)]])

    def test_the_same_day_asked_again_is_answered_the_same(self):
        names = ["a", "b", "c"]
        deeds = many_deeds(names, 80, 7, 20)
        for work in (told, sheets, stands):
            with self.subTest(work=work.__name__):
                first = work(names, 15, deeds)
                kept = copy.deepcopy(first)
                again = work(names, 15, deeds)
                self.assertEqual(again, kept)
                self.assertIsNot(again, first)
                again.clear()
                self.assertEqual(first, kept)


if __name__ == "__main__":
    unittest.main()
