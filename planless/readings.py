"""Texts read item by item."""

from planless.checks import is_weight, is_within
from planless.digits import integer_in, number_in
from planless.errors import BadText


class Reading:
    """The items of a text, taken one behind another; one that cannot stand is refused."""

    def __init__(self, text):
        if not isinstance(text, str):
            raise BadText(0, 0)
        self.words = text.split(" ")
        self.at = 0

    def is_over(self):
        """Tell whether no item is left."""
        return self.at == len(self.words)

    def here(self):
        """Return the item at hand."""
        # An empty item can stand nowhere; so it does for a missing one, too.
        return "" if self.is_over() else self.words[self.at]

    def last(self):
        """Return the index of the last item, which is refused for what only the whole shows."""
        return len(self.words) - 1

    def take(self, value):
        """Go on, and return what the item at hand tells; None is for one that cannot stand."""
        if value is None:
            raise BadText(0, self.at)
        self.at += 1
        return value

    def take_word(self, words):
        """Take one of these words."""
        return self.take(self.here() if self.here() in words else None)

    def take_number(self):
        """Take a number."""
        return self.take(number_in(self.here()))

    def take_weight(self):
        """Take a number from 0 on."""
        number = number_in(self.here())
        return self.take(number if is_weight(number) else None)

    def take_within(self, least, most):
        """Take an integer from least to most."""
        number = integer_in(self.here())
        return self.take(number if is_within(number, least, most) else None)

    def check_end(self):
        """Refuse an item that is one too many."""
        if not self.is_over():
            raise BadText(0, self.at)
