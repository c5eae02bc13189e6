"""Models made from texts: counted ones and even ones."""

from sharepress.errors import NoShare
from sharepress.shares import is_sign


def counts_of(texts):
    counts = {}
    for text in texts:
        for sign in text:
            if not is_sign(sign):
                raise NoShare(f"no letter from a to z: {sign!r}")
            counts[sign] = counts.get(sign, 0) + 1
    return counts


def counted(texts):
    counts = counts_of(texts)
    if len(counts) == 0:
        raise NoShare("texts without any sign")
    end = len(texts)
    total = sum(counts.values()) + end
    # At most one sign has more than all others, so no cut changes what another is held against.
    shares = [(sign, min(counts[sign], total - counts[sign])) for sign in sorted(counts)]
    return ("known", shares, end)


def evened(signs):
    # A sign that stands again is passed over, as in a model each stands once.
    shares = [(sign, 1) for place, sign in enumerate(signs) if signs.find(sign) == place]
    return ("learnt", shares, 1)
