"""The stream of samples, epoch by epoch, and the batches that are taken from it."""

from asifone.words import mixed, unsigned


def order_of(job, epoch):
    """The order in which an epoch uses the samples, a list of their numbers."""
    order = []
    for i in range(len(job.data)):
        order.insert(unsigned(mixed(job.seed, [2, epoch, i])) % (i + 1), i)
    return order


def place_of(job, epoch, sample):
    """The place of a sample in the order of an epoch."""
    return order_of(job, epoch).index(sample)


def sample_at(job, spot):
    """The number of the sample at a spot of the stream."""
    epoch, at = divmod(spot, len(job.data))
    return order_of(job, epoch)[at]


def spot_of(job, step, t):
    """The spot of sample t of the batch of a step."""
    return step * job.batch + t


def batch_of(job, step):
    """The numbers of the samples of the batch of a step."""
    return [sample_at(job, spot_of(job, step, t)) for t in range(job.batch)]


def sample_of(job, step, t):
    """The input and the target of sample t of the batch of a step."""
    return job.data[sample_at(job, spot_of(job, step, t))]


def uses(job, sample, *, step):
    """How often a sample is used before a step, and the step and the index of its first use from then on."""
    many = len(job.data)
    epoch, used = divmod(spot_of(job, step, 0), many)
    # An epoch uses each sample once: if this one has used it, the next use is in the next epoch.
    if place_of(job, epoch, sample) < used:
        epoch += 1
    first, index = divmod(epoch * many + place_of(job, epoch, sample), job.batch)
    return epoch, first, index
