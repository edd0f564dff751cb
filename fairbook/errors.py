"""The refusals: each has a class of its own, and BookError stands for any of them."""


class BookError(ValueError):
    pass


# Of what is no order, or of a number that an order can't have.
class BadOrder(BookError):
    pass


# Of an order that does not rest in the book.
class NotThere(BookError):
    pass


# Of what may not be done while a call goes on, or while none does.
class NotNow(BookError):
    pass
