"""Going through a text, piece by piece."""

from roomleft.basics import is_name
from roomleft.errors import BadText

MOST_DIGITS = 60


class Scan:
    """Goes through a text; where it does not go on as it must, BadText is raised, with the number of its line."""

    def __init__(self, text, line):
        self.text = text
        self.line = line
        self.at = 0

    def need(self, is_right):
        if not is_right:
            raise BadText(self.line)

    def has(self, piece):
        """Takes a piece if the text goes on with it, and tells whether it does."""
        if not self.text.startswith(piece, self.at):
            return False
        self.at += len(piece)
        return True

    def take(self, piece):
        self.need(self.has(piece))

    def take_all_of(self, letters):
        """Takes the letters that stand here, as long as they are some of these."""
        begin = self.at
        while self.at < len(self.text) and self.text[self.at] in letters:
            self.at += 1
        return self.text[begin:self.at]

    def take_name(self):
        name = self.take_all_of("abcdefghijklmnopqrstuvwxyz")
        self.need(is_name(name))
        return name

    def take_bits(self):
        return self.take_all_of("01")

    def take_integer(self):
        sign = "-" if self.has("-") else ""
        digits = self.take_all_of("0123456789")
        self.need(1 <= len(digits) <= MOST_DIGITS)
        self.need(digits[0] != "0" or sign + digits == "0")
        return int(sign + digits)

    def take_end(self):
        self.need(self.at == len(self.text))
