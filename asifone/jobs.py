"""Jobs: a network, an optimizer and samples."""

from asifone.limits import GREATEST_NUMBER, MOST_BATCH, MOST_RATES, MOST_SAMPLES, MOST_SHIFT
from asifone.nets import is_net
from asifone.words import is_word


class Job:
    """A job; it has copies of the lists of rates and data."""

    def __init__(self, net, seed, batch, factor, point, rates, data):
        self.net = net
        self.seed = seed
        self.batch = batch
        self.factor = factor
        self.point = point
        self.rates = list(rates)
        self.data = [(list(given), list(wanted)) for given, wanted in data]


def is_job(job):
    """True if the network is one and everything else is within its bounds."""
    if not is_net(job.net) or not is_word(job.seed) or not is_word(job.factor):
        return False
    if not 1 <= job.batch <= MOST_BATCH or not 0 <= job.point <= MOST_SHIFT:
        return False
    return _has_good_rates(job) and _has_good_data(job)


def rate_at(job, step):
    """The rate of a step: that of the last pair whose step is not later."""
    rate = 0
    for start, word in job.rates:
        if start <= step:
            rate = word
    return rate


def _has_good_rates(job):
    if len(job.rates) > MOST_RATES:
        return False
    return all([0 <= step <= GREATEST_NUMBER and is_word(word) for step, word in job.rates])


def _has_good_data(job):
    if not 1 <= len(job.data) <= MOST_SAMPLES:
        return False
    return all([
        len(given) == job.net.inputs and len(wanted) == job.net.targets
        and all([is_word(word) for word in given + wanted])
        for given, wanted in job.data
    ])
