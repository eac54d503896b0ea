"""What networks are computed with: words, and dual numbers."""

from asifone.words import divided, wrap


class WordRing:
    """Words."""

    def zero(self):
        """The word 0."""
        return 0

    def one(self):
        """The word 1."""
        return 1

    def still(self, word):
        """The word itself."""
        return word

    def plus(self, a, b):
        """The sum of two words."""
        return wrap(a + b)

    def minus(self, a, b):
        """The difference of two words."""
        return wrap(a - b)

    def times(self, a, b):
        """The product of two words."""
        return wrap(a * b)

    def divided(self, a, k):
        """The rounded division of a word by 2 ** k."""
        return divided(a, k)

    def positive(self, a):
        """True if the word is greater than 0."""
        return a > 0


class DualRing:
    """Dual numbers: pairs of a word and its slope."""

    def zero(self):
        """The dual number of 0."""
        return (0, 0)

    def one(self):
        """The dual number of 1."""
        return (1, 0)

    def still(self, word):
        """The dual number of a word that does not move."""
        return (word, 0)

    def plus(self, a, b):
        """The sum of two dual numbers."""
        return (wrap(a[0] + b[0]), wrap(a[1] + b[1]))

    def minus(self, a, b):
        """The difference of two dual numbers."""
        return (wrap(a[0] - b[0]), wrap(a[1] - b[1]))

    def times(self, a, b):
        """The product of two dual numbers."""
        return (wrap(a[0] * b[0]), wrap(a[0] * b[1] + a[1] * b[0]))

    def divided(self, a, k):
        """The rounded division of both words by 2 ** k."""
        return (divided(a[0], k), divided(a[1], k))

    def positive(self, a):
        """True if the word is greater than 0, whatever its slope."""
        return a[0] > 0
