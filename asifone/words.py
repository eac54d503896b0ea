"""Words: integers from -2147483648 to 2147483647, and how they are mixed."""

SIZE = 4294967296
LEAST = -2147483648
GREATEST = 2147483647


def wrap(n):
    """The word of the integer n."""
    return (n - LEAST) % SIZE + LEAST


def unsigned(n):
    """The integer n modulo 4294967296."""
    return n % SIZE


def is_word(n):
    """True if the integer n is a word."""
    return LEAST <= n <= GREATEST


def total(words):
    """The sum of a list of words."""
    return wrap(sum(words))


def shifted(n, k):
    """The word n, shifted down by k."""
    # Python refuses to shift by less than 0.
    return n >> k if k > 0 else n


def divided(n, k):
    """The rounded division of the word n by 2 ** k."""
    if k < 1:
        return n
    return shifted(wrap(n + (1 << (k - 1))), k)


def mix(a, b):
    """The mix of the words a and b."""
    start = unsigned(a) ^ unsigned(b + 2654435769)
    t = unsigned(start * 2246822507)
    s = t ^ (t >> 15)
    return wrap(s * 3266489909)


def mixed(seed, numbers):
    """The word to which a list of integers is mixed with a seed."""
    word = seed
    for number in numbers:
        word = mix(word, unsigned(number))
    return word
