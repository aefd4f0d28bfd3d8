"""A day's deeds, done one by one in a new book."""

from pairbook.book import Book


def told(names, depth, deeds):
    book = Book(names, depth)
    answers = []
    for deed in deeds:
        answers.append(book.answer(deed))
    return answers


def sheets(names, depth, deeds):
    book = Book(names, depth)
    behind = []
    for deed in deeds:
        book.answer(deed)
        # A copy each time: behind a refused deed the book still has the sheet that was told ahead of it.
        behind.append(list(book.sheet))
    return behind


def stands(names, depth, deeds):
    book = Book(names, depth)
    for deed in deeds:
        book.answer(deed)
    return book.standing
