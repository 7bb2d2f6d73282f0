"""The fewest hues by shares: the least laying that is enough, and the prices that show it."""

from hueshare.apart import count_ties_in, full_apart
from hueshare.errors import NoWants
from hueshare.fractions import is_fraction, is_less, lowest, sum_of
from hueshare.webs import is_rising, is_set, is_whole, need_web

MOST_WANT = 99


class Tableau:
    # Looked for are prices of the greatest worth, each row but the last a bound on them, the last one their worth.
    # Every cell stands over one common number, so all are whole; what a turn divides by it leaves no rest.
    # A row or a column is named by the place whose price it is, or by n and more for the bound of a set.

    def __init__(self, sets, wants):
        n = len(wants)
        self.cells = [[1 if place in some else 0 for place in range(n)] + [1] for some in sets]
        self.cells.append([-want for want in wants] + [0])
        self.over = 1
        self.columns = list(range(n))
        self.rows = list(range(n, n + len(sets)))

    def next_column(self):
        # Of several the least name, in columns and rows: then no run of turns comes back to its beginning.
        worth = self.cells[-1]
        names = [name for k, name in enumerate(self.columns) if worth[k] < 0]
        return self.columns.index(min(names)) if names else None

    def is_tighter(self, column, row, other):
        one = self.cells[row][-1] * self.cells[other][column]
        two = self.cells[other][-1] * self.cells[row][column]
        return one < two or (one == two and self.rows[row] < self.rows[other])

    def next_row(self, column):
        # There is always one: each place stands in a full apart set, so no price grows without end.
        tightest = None
        for row in range(len(self.rows)):
            if self.cells[row][column] > 0 and (tightest is None or self.is_tighter(column, row, tightest)):
                tightest = row
        return tightest

    def turned(self, cells, pivots, column):
        by = pivots[column]
        fresh = [(cell * by - cells[column] * pivots[k]) // self.over for k, cell in enumerate(cells)]
        fresh[column] = -cells[column]
        return fresh

    def turn(self, row, column):
        pivots = self.cells[row]
        by = pivots[column]
        self.cells = [self.turned(cells, pivots, column) for cells in self.cells]
        self.cells[row] = pivots[:column] + [self.over] + pivots[column + 1:]
        self.over = by
        name = self.rows[row]
        self.rows[row] = self.columns[column]
        self.columns[column] = name

    def solve(self):
        column = self.next_column()
        while column is not None:
            self.turn(self.next_row(column), column)
            column = self.next_column()

    def fraction_at(self, row, column):
        return lowest(self.cells[row][column], self.over)

    def price_of(self, name):
        if name not in self.rows:
            return lowest(0, 1)
        return self.fraction_at(self.rows.index(name), -1)

    def share_of(self, name):
        if name not in self.columns:
            return lowest(0, 1)
        return self.fraction_at(-1, self.columns.index(name))


def need_wants(web, thing):
    if not isinstance(thing, tuple) or len(thing) != web[0]:
        raise NoWants("wants are a tuple of a number for each place")
    if not all([is_whole(want) and 0 <= want <= MOST_WANT for want in thing]):
        raise NoWants("a want is a whole number from 0 to 99")


def shares(web, wants):
    need_web(web)
    need_wants(web, wants)
    n = web[0]
    sets = full_apart(web)
    tableau = Tableau(sets, wants)
    tableau.solve()
    given = [(some, tableau.share_of(n + k)) for k, some in enumerate(sets)]
    laying = [share for share in given if share[1][0] > 0]
    prices = [tableau.price_of(place) for place in range(n)]
    return (tableau.fraction_at(-1, -1), laying, prices)


def value(web):
    need_web(web)
    return shares(web, (1,) * web[0])[0]


def is_share(web, thing):
    if not isinstance(thing, tuple) or len(thing) != 2:
        return False
    if not is_set(web[0], thing[0]) or not is_fraction(thing[1]):
        return False
    return count_ties_in(web, thing[0]) == 0 and thing[1][0] > 0


def is_laying(web, thing):
    if not isinstance(thing, list) or not all([is_share(web, share) for share in thing]):
        return False
    return is_rising([share[0] for share in thing])


def gets(laying, place, want):
    return not is_less(sum_of([share[1] for share in laying if place in share[0]]), (want, 1))


def is_enough(web, wants, laying, number):
    need_web(web)
    need_wants(web, wants)
    if not is_laying(web, laying):
        return False
    if not all([gets(laying, place, want) for place, want in enumerate(wants)]):
        return False
    return not is_less(number, sum_of([share[1] for share in laying]))


def outweighs(some, prices):
    return is_less((1, 1), sum_of([prices[place] for place in some]))


def are_prices(web, wants, prices, number):
    need_web(web)
    need_wants(web, wants)
    if not isinstance(prices, list) or len(prices) != web[0] or not all([is_fraction(price) for price in prices]):
        return False
    # No price is below nought: so what no full apart set outweighs, no apart set does.
    if any([outweighs(some, prices) for some in full_apart(web)]):
        return False
    worth = sum_of([(want * price[0], price[1]) for want, price in zip(wants, prices)])
    return not is_less(worth, number)
