"""Asking: whose answers would let a held try, and how many of them are enough."""

from lateno.holding import bill_behind, bits_of, edges_of, is_within, ledger_asked
from lateno.lots import least_of, others_of, with_one
from lateno.checks import all_lots, is_below, is_number, is_rising


def least_yeses(desk, ledger, one, waits, bound):
    """All least lots of places such that a yes to each of them lets the try, ascending."""
    asked = Asked(desk, ledger_asked(desk, ledger, one, waits, bound), bound)
    return least_of([lot for lot in asked.lots() if asked.is_let(lot, ())])


def broken_lots(desk, ledger, one, waits, bound):
    """All least lots of places such that a yes to all others doesn't let the try, ascending."""
    asked = Asked(desk, ledger_asked(desk, ledger, one, waits, bound), bound)
    return least_of([lot for lot in asked.lots() if not asked.is_let(asked.others(lot), ())])


def sure_asks(desk, ledger, one, waits, bound):
    """All least lots of places whose answers let the try whatever they are, ascending."""
    asked = Asked(desk, ledger_asked(desk, ledger, one, waits, bound), bound)
    return least_of([lot for lot in asked.lots() if asked.is_sure(lot)])


def asks_needed(desk, ledger, one, waits, bound):
    """How many answers are enough at worst, each next one chosen by those so far."""
    return Asked(desk, ledger_asked(desk, ledger, one, waits, bound), bound).needed((), ())


def ask_tree(desk, ledger, one, waits, bound):
    """Some tree of so many asks."""
    return _tree_behind(Asked(desk, ledger_asked(desk, ledger, one, waits, bound), bound), (), ())


def tree_asks(desk, ledger, one, waits, bound, value):
    """How many asks any value takes at worst if it is a tree that lets the try, else None."""
    return _asks_of(Asked(desk, ledger_asked(desk, ledger, one, waits, bound), bound), (), (), value)


def firm_table(desk, ledger, one, waits, bound):
    """(yeses, Nos, how many asks are needed behind them) where some are, ascending."""
    asked = Asked(desk, ledger_asked(desk, ledger, one, waits, bound), bound)
    found = []
    for told in asked.lots():
        for yeses in all_lots(told):
            nos = others_of(told, yeses)
            many = asked.needed(yeses, nos)
            if many > 0:
                found.append((yeses, nos, many))
    return tuple(sorted(found))


def firm_holds(desk, ledger, one, waits, bound, value):
    """What any value tells for no answers if it is a table each row of which holds, else None."""
    asked = Asked(desk, ledger_asked(desk, ledger, one, waits, bound), bound)
    told = _told_rows(asked, value)
    if told is None:
        return None
    for yeses, nos in told:
        if asked.is_let(yeses, nos) or not _row_holds(asked, told, yeses, nos):
            return None
    return told.get(((), ()), 0)


class Asked:
    """A held try and all answers to what waits; it keeps what it worked out."""

    def __init__(self, desk, ledger, bound):
        self.many = len(ledger[1])
        self._edges = edges_of(desk, ledger)
        self._bound = bound
        self._let = {}
        self._needed = {}

    def lots(self):
        """All lots of places."""
        return all_lots(list(range(self.many)))

    def others(self, lot):
        """The places that are not in a lot."""
        return others_of(tuple(range(self.many)), lot)

    def is_let(self, yeses, nos):
        """Whether the try is let behind these answers."""
        key = (yeses, nos)
        if key not in self._let:
            free = self.others(yeses + nos)
            self._let[key] = is_within(bill_behind(self._edges, free, bits_of(nos)), self._bound)
        return self._let[key]

    def is_sure(self, lot):
        """Whether all answers to a lot let the try."""
        for yeses in all_lots(lot):
            if not self.is_let(yeses, others_of(lot, yeses)):
                return False
        return True

    def needed(self, yeses, nos):
        """How many asks are needed at worst behind these answers."""
        key = (yeses, nos)
        if key not in self._needed:
            if self.is_let(yeses, nos):
                self._needed[key] = 0
            else:
                self._needed[key] = min([self.needed_by(yeses, nos, place) for place in self.others(yeses + nos)])
        return self._needed[key]

    def needed_by(self, yeses, nos, place):
        """How many asks are needed behind these answers if this place is asked next."""
        return 1 + max(self.needed(with_one(yeses, place), nos), self.needed(yeses, with_one(nos, place)))


def _tree_behind(asked, yeses, nos):
    """A tree of as many asks as are needed behind these answers."""
    many = asked.needed(yeses, nos)
    if many == 0:
        return ()
    places = [place for place in asked.others(yeses + nos) if asked.needed_by(yeses, nos, place) == many]
    place = places[0]
    return (place, _tree_behind(asked, with_one(yeses, place), nos), _tree_behind(asked, yeses, with_one(nos, place)))


def _asks_of(asked, yeses, nos, value):
    """As tree_asks, behind these answers."""
    if not isinstance(value, tuple):
        return None
    if not value:
        return 0 if asked.is_let(yeses, nos) else None
    if len(value) != 3 or not is_below(value[0], asked.many) or value[0] in yeses + nos:
        return None
    place = value[0]
    behind_yes = _asks_of(asked, with_one(yeses, place), nos, value[1])
    behind_no = _asks_of(asked, yeses, with_one(nos, place), value[2])
    return None if behind_yes is None or behind_no is None else 1 + max(behind_yes, behind_no)


def _told_rows(asked, value):
    """For each answers the number that any value tells for them, None if it is no such table."""
    if not isinstance(value, tuple):
        return None
    told = {}
    for row in value:
        if not _is_row_told(asked, row) or (row[0], row[1]) in told:
            return None
        told[(row[0], row[1])] = row[2]
    return told


def _is_row_told(asked, row):
    if not isinstance(row, tuple) or len(row) != 3 or not is_number(row[2]) or row[2] == 0:
        return False
    for lot in row[:2]:
        if not isinstance(lot, tuple) or not is_rising(lot, asked.many):
            return False
    return not any([place in row[0] for place in row[1]])


def _row_holds(asked, told, yeses, nos):
    """Whether each place that isn't asked has an answer behind which at least one ask less is told."""
    many = told[(yeses, nos)]
    if many == 1:
        return True
    for place in asked.others(yeses + nos):
        behind = max(told.get((with_one(yeses, place), nos), 0), told.get((yeses, with_one(nos, place)), 0))
        if behind < many - 1:
            return False
    return True
