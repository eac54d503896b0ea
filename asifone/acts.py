"""Acts: tuples of a kind and of what is done, with the words that they are about."""


def names_of(act):
    """The names that an act loads, makes, sends, takes, drops or saves, in order; none if it tells a loss."""
    if act[0] == "tell":
        return []
    if act[0] == "make":
        return [name for name, _ in act[1]]
    return list(act[-1])


def narrowed(act, name):
    """An act about names, with the entries of this name alone."""
    if act[0] == "make":
        return ("make", tuple([entry for entry in act[1] if entry[0] == name]))
    return act[:-1] + (tuple([one for one in act[-1] if one == name]),)


def without_repeats(names):
    """The names, each once, in the order in which they come first."""
    return list({name: True for name in names})
