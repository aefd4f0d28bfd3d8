"""The book: its sheet, the postings that stand and those that are undone, the last one at the end of each list."""

from pairbook.errors import NoAccount, NoAmount, OneAccount, TooDeep
from pairbook.sheet import moved, posted, taken_back


class Book:
    def __init__(self, names, depth):
        self.depth = depth
        self.sheet = [(name, 0) for name in names]
        self.standing = []
        self.undone = []

    def post(self, posting):
        try:
            behind = posted(self.sheet, self.depth, posting)
        except NoAccount:
            return "no account"
        except OneAccount:
            return "one account"
        except NoAmount:
            return "no amount"
        except TooDeep:
            return "too deep"
        # Only from here on is anything changed: a posting that is refused makes nothing forgotten.
        self.sheet = behind
        self.standing.append(posting)
        self.undone = []
        return "done"

    def undo(self):
        if len(self.standing) == 0:
            return "nothing"
        posting = self.standing.pop()
        self.sheet = taken_back(self.sheet, posting)
        self.undone.append(posting)
        return "done"

    def redo(self):
        if len(self.undone) == 0:
            return "nothing"
        posting = self.undone.pop()
        # Moved without a look at the depth: the sheet behind it was there once already.
        self.sheet = moved(self.sheet, posting[0], posting[1], posting[2])
        self.standing.append(posting)
        return "done"

    def answer(self, deed):
        if deed[0] == "post":
            return self.post((deed[1], deed[2], deed[3]))
        if deed[0] == "undo":
            return self.undo()
        return self.redo()
