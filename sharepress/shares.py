"""Models: which ones there are, how their shares lie, and how they learn.

A place is a tuple (first, share, total): where a share begins, the share
itself, and what all shares come to together.
"""

from sharepress.errors import BadModel, NoShare

KINDS = ("known", "learnt")

# What stands for the end where a sign could stand too.
END = ""


def is_sign(text):
    # The length is asked too, as "ab" also lies between "a" and "z".
    return len(text) == 1 and "a" <= text <= "z"


def total_share(model):
    kind, shares, end = model
    return sum([share for sign, share in shares]) + end


def check_model(model):
    kind, shares, end = model
    if kind not in KINDS:
        raise BadModel(f"no kind of model: {kind!r}")
    if len(shares) == 0:
        raise BadModel("a model without a sign")
    check_signs(shares)
    check_shares(model)


def check_signs(shares):
    seen = {}
    for sign, share in shares:
        if not is_sign(sign):
            raise BadModel(f"no sign: {sign!r}")
        if sign in seen:
            raise BadModel(f"a sign that stands twice: {sign!r}")
        seen[sign] = True


def check_shares(model):
    kind, shares, end = model
    if end < 1:
        raise BadModel("the end has a share of less than one")
    for sign, share in shares:
        if share < 1:
            raise BadModel(f"a share of less than one: that of {sign!r}")
    total = total_share(model)
    for sign, share in shares:
        if share > total - share:
            raise BadModel(f"a share of more than all others together: that of {sign!r}")


def place_of_sign(model, sign):
    kind, shares, end = model
    first = 0
    for other, share in shares:
        if other == sign:
            return (first, share, total_share(model))
        first += share
    raise NoShare(f"the model has no share for {sign!r}")


def place_of_end(model):
    kind, shares, end = model
    total = total_share(model)
    return (total - end, end, total)


def share_at(model, point):
    kind, shares, end = model
    total = total_share(model)
    first = 0
    for sign, share in shares:
        if point < first + share:
            return (sign, (first, share, total))
        first += share
    return (END, (first, end, total))


def grown(share, others):
    return share + 1 if share + 1 <= others else share


def behind_sign(model, sign):
    kind, shares, end = model
    if kind == "known":
        return model
    total = total_share(model)
    # A new list, so that the model handed in stays as it is for the next text.
    learnt = [(other, grown(share, total - share) if other == sign else share) for other, share in shares]
    return (kind, learnt, end)
