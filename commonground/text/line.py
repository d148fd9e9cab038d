"""Lines that are read word by word."""

from commonground.errors import BadText, NoSuch
from commonground.model.body import is_label
from commonground.text.words import read_integer


def number_named(model, name):
    """Return the number of the unknown with this name, or None."""
    try:
        return model.number(name)
    except NoSuch:
        return None


class Line:
    """A line of a text, and the word that is read next."""

    def __init__(self, number, text):
        self.line_number = number
        self.words = text.split(" ")
        self.at = 0

    def ended(self):
        """Return True if no word is left."""
        return self.at == len(self.words)

    def ahead(self):
        """Return the word that is read next; where it is missing it is empty, and no empty word is ever expected."""
        if self.ended():
            return ""
        return self.words[self.at]

    def take(self, meaning):
        """Go on behind the word ahead and return its meaning, None being that of a word that is not as expected."""
        if meaning is None:
            raise BadText(self.line_number, self.at)
        self.at += 1
        return meaning

    def one_of(self, expected):
        """Read a word that must be one of the expected ones."""
        word = self.ahead()
        return self.take(word if word in expected else None)

    def label(self):
        """Read a label."""
        return self.take(self.ahead() if is_label(self.ahead()) else None)

    def integer(self):
        """Read an integer."""
        return self.take(read_integer(self.ahead()))

    def integers(self):
        """Read integers up to the end of the line, as a tuple, perhaps none."""
        found = []
        while not self.ended():
            found.append(self.integer())
        return tuple(found)

    def unknown(self, model):
        """Read the name of an unknown of the model, as its number."""
        return self.take(number_named(model, self.ahead()))

    def end(self):
        """Check that the line ends here."""
        if not self.ended():
            raise BadText(self.line_number, self.at)
