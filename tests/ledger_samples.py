"""Ledgers and held tries that the tests of chapter 9 share, and their prices told again."""

import itertools

from lateno.desks import Desk
from lateno.holding import ledger_of
from samples import random_desk, random_history, random_repairs, random_try
from table_samples import play, price_again


def random_room(rng, tools=5, roles=3, prices=9):
    """A desk within the limits of [48] to [51]."""
    desk = random_desk(rng, kinds=2, states=3, tools=tools, roles=roles, fill=rng.choice([0.2, 0.4, 0.7]))
    return Desk(desk.kinds, desk.tools, random_repairs(rng, [many for _, many in desk.kinds], prices, rng.choice([0.5, 0.9, 1.0])))


def random_ledger(rng, desk, waiting=4, things=5):
    """Some ledger: behind a history, or with any worlds."""
    history = random_history(rng, desk, things, 8)
    while not history[1]:
        history = random_history(rng, desk, things, 8)
    many = rng.randint(0, min(waiting, len(history[1])))
    lot = tuple(sorted(rng.sample(range(len(history[1])), many)))
    ledger = ledger_of(desk, history, lot)
    if rng.random() < 0.3:
        worlds = [[rng.randrange(desk.kinds[kind][1]) for kind in ledger[0]] for _ in range(2 ** many)]
        if rng.random() < 0.5:
            worlds = [world if rng.random() < 0.4 else worlds[0] for world in worlds]
        ledger = (ledger[0], ledger[1], tuple(tuple(world) for world in worlds))
    return ledger


def random_held(rng, places=3):
    """(desk, ledger, one, waits, bound) with at most so many places."""
    while True:
        desk = random_room(rng)
        waits = rng.random() < 0.6
        ledger = random_ledger(rng, desk, places - 1 if waits else places, 4)
        one = random_try(rng, desk, ledger[0])
        if one is not None:
            return desk, ledger, one, waits, rng.choice([None, None, 0, 1, 2, 3, 4, 6, 9, 15, 10 ** 9])


def behind_try(desk, ledger, one, waits):
    """The ledger behind a try, told again."""
    things, waiting, worlds = ledger
    tool, members = one
    turned = []
    for world in worlds:
        led = list(world)
        for member, state in zip(members, play(desk, tool, [world[member] for member in members])[0]):
            led[member] = state
        turned.append(tuple(led))
    if not waits:
        return (things, waiting, tuple(turned))
    return (things, waiting + (one,), tuple(turned) + worlds)


def edge_again(desk, ledger, lot, place):
    things, _, worlds = ledger
    here = worlds[sum(2 ** one for one in lot)]
    there = worlds[sum(2 ** one for one in lot) + 2 ** place]
    prices = [price_again(desk, kind, x, y) for kind, x, y in zip(things, here, there)]
    return None if None in prices else sum(prices)


def order_price(desk, ledger, order, ahead=()):
    """The sum of prices of Nos in this order, behind Nos to a lot; None if one can't be put right."""
    prices = [edge_again(desk, ledger, ahead + order[:at], order[at]) for at in range(len(order))]
    return None if None in prices else sum(prices)


def bill_again(desk, ledger, places=None, ahead=()):
    """The greatest sum over all orders of all of these places, behind Nos to a lot."""
    places = range(len(ledger[1])) if places is None else places
    sums = [order_price(desk, ledger, order, ahead) for order in itertools.permutations(places)]
    return None if None in sums else max(sums)


def lots_of(places):
    return [lot for many in range(len(places) + 1) for lot in itertools.combinations(places, many)]


def least_lots_of(lots):
    return tuple(sorted(lot for lot in lots if not any(set(other) < set(lot) for other in lots)))
