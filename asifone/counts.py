"""What is counted of ranks and of plans."""

from asifone.acts import names_of
from asifone.letters import gives_of


def rank_counts(plan, rank):
    """The tuple (acts, made, letters, sent, taken, peak) of a rank."""
    acts = plan.acts_of(rank)
    letters = [act for act in acts if act[0] == "send"]
    return len(acts), _words(acts, "make"), len(letters), _words(acts, "send"), _words(acts, "recv"), _peak(acts)


def counts(plan):
    """The tuple (letters, words, peak, ranks) of a plan."""
    ranks = [rank_counts(plan, rank) for rank in range(plan.ranks)]
    letters = sum([row[2] for row in ranks])
    words = sum([row[3] for row in ranks])
    return letters, words, max([row[5] for row in ranks], default=0), ranks


def _words(acts, kind):
    """The number of words of the acts of a kind."""
    return sum([len(names_of(act)) for act in acts if act[0] == kind])


def _peak(acts):
    """The greatest number of words that are held after one of these acts of a rank; it holds none before them."""
    held = {}
    size = peak = 0
    for act in acts:
        for name in gives_of(act):
            held[name] = held.get(name, 0) + 1
            size += 1
        if act[0] == "drop":
            for name in act[1]:
                size -= held.pop(name, 0)
        peak = max(peak, size)
    return peak
