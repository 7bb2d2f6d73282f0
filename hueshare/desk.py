"""A desk that is told rows about a web, and answers each with a text."""

from hueshare.apart import greatest_crowd
from hueshare.errors import NoRow
from hueshare.folds import fold
from hueshare.hues import fewest
from hueshare.sharing import Sharing
from hueshare.texts import is_number, read_web, show_fraction

AHEAD = "web "
QUESTIONS = ("value", "laying", "prices", "hues", "crowd", "fold")


def with_blanks(words):
    return " ".join(words) if words else "none"


def show_share(some, share):
    places = ",".join([str(place) for place in some])
    shown = show_fraction(share)
    return f"{places}:{shown}"


def is_row(word, rest):
    # Any row but one with a web.
    if not all([is_number(other) for other in rest]):
        return False
    if word in ("tie", "untie"):
        return len(rest) == 2
    return word == "put" or (not rest and (word == "drop" or word in QUESTIONS))


def answer(sharing, word):
    if word == "value":
        return show_fraction(sharing.value())
    if word == "laying":
        return with_blanks([show_share(some, share) for some, share in sharing.laying()])
    if word == "prices":
        return with_blanks([show_fraction(price) for price in sharing.prices()])
    if word == "hues":
        return str(fewest(sharing.web())[0])
    if word == "crowd":
        return with_blanks([str(place) for place in greatest_crowd(sharing.web())])
    return "yes" if fold(sharing.web())[0] == "fold" else "no"


def do_deed(sharing, word, places):
    if word == "put":
        return str(sharing.put(tuple(places)))
    if word == "tie":
        sharing.tie(places[0], places[1])
    elif word == "untie":
        sharing.untie(places[0], places[1])
    else:
        sharing.drop()
    return "ok"


class Desk:
    def __init__(self):
        self.standing = None

    def say(self, row):
        if row.startswith(AHEAD):
            self.standing = Sharing(read_web(row[len(AHEAD):]))
            return "ok"
        words = row.split(" ")
        if self.standing is None or not is_row(words[0], words[1:]):
            raise NoRow("this is no row that can be answered here")
        if words[0] in QUESTIONS:
            return answer(self.standing, words[0])
        return do_deed(self.standing, words[0], [int(word) for word in words[1:]])
