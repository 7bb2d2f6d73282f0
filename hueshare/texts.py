"""Webs and fractions as texts, and webs read from texts."""

from hueshare.errors import NoText
from hueshare.webs import need_web

FIGURES = "0123456789"
MOST_FIGURES = 6
AHEAD = "places "


def is_number(word):
    if not 1 <= len(word) <= MOST_FIGURES or not all([sign in FIGURES for sign in word]):
        return False
    return word == "0" or not word.startswith("0")


def show_web(web):
    need_web(web)
    n = web[0]
    return "; ".join([f"places {n}"] + [f"{one}-{other}" for one, other in web[1]])


def show_fraction(fraction):
    a = fraction[0]
    b = fraction[1]
    return f"{a}" if b == 1 else f"{a}/{b}"


def read_number(word):
    if not is_number(word):
        raise NoText("a number is one to six figures without a 0 ahead")
    return int(word)


def read_tie(text):
    words = text.split("-")
    if len(words) != 2:
        raise NoText("a tie is two numbers with - between")
    return (read_number(words[0]), read_number(words[1]))


def read_web(text):
    parts = text.split("; ")
    if not parts[0].startswith(AHEAD):
        raise NoText("a web begins with its places")
    n = read_number(parts[0][len(AHEAD):])
    web = (n, tuple([read_tie(part) for part in parts[1:]]))
    need_web(web)
    return web
