"""What an account has by a list of postings."""


def summed(postings, name):
    taken = sum([amount for giver, taker, amount in postings if taker == name])
    given = sum([amount for giver, taker, amount in postings if giver == name])
    return taken - given
