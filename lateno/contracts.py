"""Contracts: what one house promises of the seam, looked at alone."""

from lateno.errors import InvalidContract, InvalidLots
from lateno.guards import given_lines, guard_table, right_value, value_of_price, value_rank, values_of_sorts
from lateno.houses import comes_with, join_houses, need_house
from lateno.pairs import price_table
from lateno.reach import sorts_among, what_comes
from lateno.checks import is_just, is_row, is_row_of


def contract_table(house, contract):
    """(sort, value) for all sorts of what comes under a contract, ascending."""
    need_house(house)
    told = _values_under(house, _need_contract(house, contract))
    return tuple([(sort, told[sort]) for sort in sorted(told)])


def contract_holds(house, value):
    """Whether any value is a contract for the house that its table tells again at the seam."""
    need_house(house)
    try:
        contract = _need_contract(house, value)
    except InvalidContract:
        return False
    if not is_just(value, contract):
        return False
    told = _values_under(house, contract)
    return all([told[sort] == kept for sort, kept in contract[1]])


def least_contract(house, other):
    """The least contract that both houses keep: what the joined desk's table tells at the seam."""
    joined = join_houses(house, other)
    rows = [row for row in guard_table(joined.desk, (), ()) if row[0][0] < joined.many]
    return (what_comes(joined.desk)[:joined.many], tuple(rows))


def _need_contract(house, value):
    """The contract for the house in tuples, if the value is one."""
    if not is_row_of(value, 2) or not is_row(value[1]):
        raise InvalidContract(-1)
    lots = _closed_lots_told(house, value[0])
    if lots is None:
        raise InvalidContract(-1)
    prices = price_table(house.desk)
    rows = []
    for at, sort in enumerate(sorts_among(lots)):
        row = _row_told(prices, sort, value[1][at]) if at < len(value[1]) else None
        if row is None:
            raise InvalidContract(at)
        rows.append(row)
    if len(value[1]) > len(rows):
        raise InvalidContract(len(rows))
    return (lots, tuple(rows))


def _closed_lots_told(house, value):
    """The lots of the seam in tuples, None if the value is none or they are not closed."""
    try:
        lots = comes_with(house, value)[:house.many]
    except InvalidLots:
        return None
    # what comes holds the lots themselves, so they are closed if it has no more
    return lots if [len(lot) for lot in lots] == [len(lot) for lot in value] else None


def _row_told(prices, sort, row):
    """The row in tuples, if it tells for this sort a value that is not better than its least price, else None."""
    if not is_row_of(row, 2) or not is_row(row[0]) or not is_just(tuple(row[0]), sort):
        return None
    told = right_value(row[1])
    if told is None or value_rank(told) < value_rank(value_of_price(prices[sort])):
        return None
    return (sort, told)


def _values_under(house, contract):
    """For each sort of what comes under a contract its value."""
    lots, rows = contract
    comes = comes_with(house, lots)
    prices = price_table(house.desk)
    all_sorts = sorts_among(comes)
    bases = {sort: value_of_price(prices[sort]) for sort in all_sorts}
    for sort, told in rows:
        bases[sort] = told
    return values_of_sorts(bases, given_lines(house.desk, comes, all_sorts, ()))
