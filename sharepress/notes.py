"""Models written as lines, and read from them."""

from sharepress.errors import BadModel, NoLine
from sharepress.shares import check_model

DIGITS = "0123456789"


def line_of(word, share):
    return f"{word} {share}"


def shown(model):
    check_model(model)
    kind, shares, end = model
    return [line_of(kind, end)] + [line_of(sign, share) for sign, share in shares]


def is_number(text):
    # Asked figure by figure, as int would take signs, blanks and other alphabets' figures too.
    return text[:1] not in ("", "0") and all([figure in DIGITS for figure in text])


def pair_of(line):
    word, blank, number = line.partition(" ")
    if not is_number(number):
        raise NoLine(f"a line that is no word, one blank and a number: {line!r}")
    return (word, int(number))


def read_model(lines):
    if len(lines) == 0:
        raise NoLine("no line at all")
    kind, end = pair_of(lines[0])
    model = (kind, [pair_of(line) for line in lines[1:]], end)
    try:
        check_model(model)
    except BadModel as fault:
        raise NoLine("lines of what is no model") from fault
    return model
