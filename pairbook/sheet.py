"""The sheet behind a posting, and the sheet ahead of one."""

from pairbook.errors import NoAccount, NoAmount, OneAccount, TooDeep


def refuse_if_wrong(sheet, depth, posting):
    giver = posting[0]
    taker = posting[1]
    amount = posting[2]
    balances = dict(sheet)
    # The order is promised: where several reasons hold, the first one here is told.
    if giver not in balances or taker not in balances:
        raise NoAccount("the giver or the taker has no account")
    if giver == taker:
        raise OneAccount("the giver and the taker are the same")
    if amount < 1:
        raise NoAmount("the amount is below one")
    if balances[giver] - amount < 0 - depth:
        raise TooDeep("the giver's balance would lie below the depth")


def balance_behind(name, balance, giver, taker, amount):
    if name == giver:
        return balance - amount
    if name == taker:
        return balance + amount
    return balance


def moved(sheet, giver, taker, amount):
    return [(name, balance_behind(name, balance, giver, taker, amount)) for name, balance in sheet]


def posted(sheet, depth, posting):
    refuse_if_wrong(sheet, depth, posting)
    return moved(sheet, posting[0], posting[1], posting[2])


def taken_back(sheet, posting):
    # Giver and taker change places, and nothing is refused: the sheet ahead was there once already.
    return moved(sheet, posting[1], posting[0], posting[2])
