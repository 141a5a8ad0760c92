"""Reading a text sign by sign, up to the first place where its grammar doesn't go on."""

from taflahead.faults import GrammarFault

# No byte is above 255, so the text's end is not mistaken for one.
END = 256


def is_digit(sign):
    """Whether the byte is one of 0 to 9."""
    return ord("0") <= sign <= ord("9")


def is_letter(sign):
    """Whether the byte is one of A to Z, a to z."""
    return ord("A") <= sign <= ord("Z") or ord("a") <= sign <= ord("z")


def leads_to(value, least, most):
    """Whether a decimal number from least to most begins with the digits of value, or is value."""
    if value == 0:
        return False
    lowest = value
    highest = value
    while lowest <= most:
        if highest >= least:
            return True
        lowest = 10 * lowest
        highest = 10 * highest + 9
    return False


class Reader:
    """A text and how many of its bytes have been read."""

    def __init__(self, text):
        self.text = text
        self.place = 0

    def sign(self):
        """The byte that comes, or END."""
        if self.place < len(self.text):
            return self.text[self.place]
        return END

    def go_on(self):
        """Count the byte that comes as read."""
        self.place += 1

    def word(self, letters):
        """Read just these letters."""
        for letter in letters:
            if self.sign() != ord(letter):
                raise GrammarFault(self.place)
            self.go_on()

    def choice(self, words):
        """Read one of the words, which blanks part and none of which begins another; which one, from 0."""
        offered = words.split(" ")
        left = offered
        size = 0
        while size < len(left[0]):
            left = [word for word in left if ord(word[size]) == self.sign()]
            if len(left) == 0:
                raise GrammarFault(self.place)
            self.go_on()
            size += 1
        return offered.index(left[0])

    def number(self, least, most):
        """Read a decimal number from least (1 or more) to most, without a 0 in front."""
        value = 0
        while is_digit(self.sign()):
            longer = 10 * value + self.sign() - ord("0")
            if not leads_to(longer, least, most):
                break
            value = longer
            self.go_on()
        if value < least:
            raise GrammarFault(self.place)
        return value

    def finish(self):
        """See that nothing is left."""
        if self.sign() != END:
            raise GrammarFault(self.place)
