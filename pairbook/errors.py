"""The refusals of a posting, one class for each, all under BookError."""


class BookError(ValueError):
    pass


class NoAccount(BookError):
    pass


class OneAccount(BookError):
    pass


class NoAmount(BookError):
    pass


class TooDeep(BookError):
    pass
