"""Webs written as texts, and texts read to webs."""

from shortring.errors import BadText
from shortring.webs import MOST, web_of


def shown(web):
    """The text of the web, as in `4: 0-1 0-3 2-3`."""
    return f"{web.many}:" + "".join([f" {low}-{high}" for low, high in web.ties()])


def read(text):
    """The web that is written as this text; BadText where there is none."""
    head, _, tail = text.partition(":")
    many = _number(head, MOST + 1)
    web = web_of(many, [_tie(word, many) for word in tail.split(" ")[1:]])
    # The parts are read loosely: only this refuses a nought ahead, ties out
    # of order or told twice, a missing colon, and signs right behind it.
    if shown(web) != text:
        raise BadText("not the text of a web")
    return web


def _tie(word, many):
    """The two points that a word such as `0-3` names, the lesser one ahead."""
    first, _, second = word.partition("-")
    low = _number(first, many)
    high = _number(second, many)
    if low >= high:
        raise BadText("a tie is written with its lesser point ahead")
    return low, high


def _number(word, beyond):
    """The whole number that is written, from 0 on and below the one told."""
    # int alone would take signs, blanks, _ and the digits of other scripts,
    # and would fail with an error of its own on thousands of digits.
    if len(word) <= len(str(MOST)) and word.isascii() and word.isdigit() and int(word) < beyond:
        return int(word)
    raise BadText("a number is missing, malformed or too great")
