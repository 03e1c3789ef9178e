"""A plain table for the tests to hold the program against: it sorts and goes through all rows anew.

It is written from DOC.md alone and shares no code with the package.
"""

HUGE = 10 ** 30

WIDTHS = [1, 2, 3, 4, 5, 6]

# What is no whole number; 1.0 and 0.0 are equal to one, True and False are so too.
NO_NUMBERS = [True, False, None, "", "1", "text", b"1", 0.0, 1.0, 1.5, 1j, float("nan"), [], [0], [1], (), (0,),
              (1,), {}, {1: 1}, {1}, object(), int, len]
NO_ENDS = [thing for thing in NO_NUMBERS if thing is not None]


def within(thing, low, high):
    return not (low is not None and thing < low) and not (high is not None and thing > high)


def fits(row, wish):
    for column, low, high in wish:
        if not within(row[column], low, high):
            return False
    return True


def merged(wish):
    found = []
    for column in range(6):
        spoken = [triple for triple in wish if triple[0] == column]
        if not spoken:
            continue
        low = high = None
        for _, one_low, one_high in spoken:
            if one_low is not None and (low is None or one_low > low):
                low = one_low
            if one_high is not None and (high is None or one_high < high):
                high = one_high
        found.append((column, low, high))
    return found


def in_stretch(row, order, wish):
    """Whether the row is in the stretch, by going along the order's columns as point 7 tells it."""
    ends = {column: (low, high) for column, low, high in merged(wish)}
    for column in order:
        if column not in ends:
            return True
        low, high = ends[column]
        if not within(row[column], low, high):
            return False
        if low is None or high is None or low != high:
            return True
    return True


class PlainTable:
    """Takes right things only; refuses nothing."""

    def __init__(self, width):
        self.width = width
        self.rows = []
        self.told = []
        self.many = 0

    def put(self, row):
        number = self.many
        self.many += 1
        self.rows.append((number, list(row)))
        return number

    def drop(self, number):
        self.rows = [pair for pair in self.rows if pair[0] != number]

    def change(self, number, column, value):
        for at, row in self.rows:
            if at == number:
                row[column] = value

    def row(self, number):
        [found] = [row for at, row in self.rows if at == number]
        return tuple(found)

    def numbers(self):
        return sorted(at for at, _ in self.rows)

    def tell(self, order):
        self.told.append(order)

    def forget(self, order):
        self.told.remove(order)

    def orders(self):
        return list(self.told)

    def listed(self, order):
        def place(pair):
            return [pair[1][column] for column in order], pair[0]
        return [at for at, _ in sorted(self.rows, key=place)]

    def walked(self, way, wish):
        if way is None:
            return self.numbers()
        return [at for at in self.listed(way) if in_stretch(self.row(at), way, wish)]

    def covers(self, order, wish):
        return {column for column, _, _ in wish} <= set(order)

    def costs(self, wish):
        told = [(None, len(self.rows))]
        for order in self.told:
            many = len(self.walked(order, wish))
            told.append((order, many if self.covers(order, wish) else many + many))
        return told

    def plan(self, wish):
        chosen = None
        for way, cost in self.costs(wish):
            if chosen is None or cost < chosen[1]:
                chosen = (way, cost)
        return chosen

    def ask(self, wish):
        return [at for at in self.numbers() if fits(self.row(at), wish)]


def some_number(chance):
    """A number that is often alike to others, at times a huge one."""
    if chance.random() < 0.15:
        return chance.choice([-1, 1]) * HUGE ** chance.choice([1, 2]) + chance.randrange(-1, 2)
    return chance.randrange(-3, 4)


def some_row(chance, width):
    row = [some_number(chance) for _ in range(width)]
    return chance.choice([list, tuple])(row)


def some_order(chance, width):
    return tuple(chance.sample(range(width), chance.randrange(1, width + 1)))


def some_triple(chance, width):
    column = chance.randrange(width)
    kind = chance.random()
    if kind < 0.45:
        pin = some_number(chance)
        return column, pin, pin
    low = None if kind < 0.55 else some_number(chance)
    high = None if 0.5 < kind < 0.65 else some_number(chance)
    if low is not None and high is not None and low > high and chance.random() < 0.8:
        low, high = high, low
    return column, low, high


def some_wish(chance, width):
    many = chance.choice([0, 1, 1, 2, 2, 3, 4, 6, 20])
    return [some_triple(chance, width) for _ in range(many)]
