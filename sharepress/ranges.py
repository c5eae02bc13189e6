"""Ranges of texts: tuples (low, wide, whole), never shortened."""

from sharepress.shares import behind_sign, check_model, place_of_end, place_of_sign

START = (0, 1, 1)


def narrowed(span, place):
    low, wide, whole = span
    first, share, total = place
    return (low * total + wide * first, wide * share, whole * total)


def walked(model, text):
    check_model(model)
    span = START
    now = model
    for sign in text:
        span = narrowed(span, place_of_sign(now, sign))
        now = behind_sign(now, sign)
    return (span, now)


def span_begun(model, text):
    span, now = walked(model, text)
    return span


def span_ended(model, text):
    span, now = walked(model, text)
    return narrowed(span, place_of_end(now))
