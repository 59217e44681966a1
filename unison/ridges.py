"""Ridges: texts of steps up (u) and down (d), and the heights of their places."""

from unison.errors import BadRidge

EXCHANGED = {"u": "d", "d": "u"}


def is_ridge(value):
    return isinstance(value, str) and value.count("u") + value.count("d") == len(value)


# The words of a refusal never show the value: a value of any kind may be one that can't be shown.
def check_ridge(value):
    if not is_ridge(value):
        raise BadRidge("a ridge is a text of the letters u and d")


def heights(ridge):
    check_ridge(ridge)
    height = 0
    told = [height]
    for step in ridge:
        height = height + 1 if step == "u" else height - 1
        told.append(height)
    return told


def upside_down(ridge):
    check_ridge(ridge)
    return "".join([EXCHANGED[step] for step in ridge])


# Who walks the other way goes down where the ridge goes up, so the steps are exchanged too.
def about(ridge):
    return upside_down(ridge)[::-1]
