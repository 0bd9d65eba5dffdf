"""Rings: rows of moves that can be gone round again and again, each time with more that is apart."""

from lateno.errors import InvalidMoves
from lateno.flows import lies_within
from lateno.forward import all_that_come, held_ahead
from lateno.nets import FIRST, history_of, led_by, need_net
from lateno.reach import row_comes


def growing_ring(desk, plan):
    """Some ring (first, round) of tuples of moves, None if there is none."""
    plan, comes = need_net(desk, plan)
    links, end = all_that_come(desk, plan, comes)
    if end is None:
        return None
    ahead = held_ahead(links, end)
    return (_moves_between(links, FIRST, ahead), _moves_between(links, ahead, end))


def growing_ring_holds(desk, plan, value):
    """Whether any value is a ring."""
    plan, comes = need_net(desk, plan)
    if not isinstance(value, tuple) or len(value) != 2:
        return False
    first, turn = value
    if not isinstance(first, tuple) or not isinstance(turn, tuple):
        return False
    try:
        done, heap = led_by(desk, plan, comes, FIRST, first)
        done_behind, heap_behind = led_by(desk, plan, comes, (done, heap), turn)
    except InvalidMoves:
        return False
    return done == done_behind and heap != heap_behind and lies_within(heap, heap_behind)


def ring_history(desk, plan, value, times):
    """Some history whose run is a ring gone round so many times, and a move for each strike that has not come."""
    plan, comes = need_net(desk, plan)
    first, turn = value
    moves = first
    for _ in range(times):
        moves = moves + turn
    done, _ = led_by(desk, plan, comes, FIRST, moves)
    for strike in range(len(plan[0])):
        if strike not in done:
            moves = moves + (_fresh_move(desk, plan, comes, strike),)
    return history_of(desk, plan, moves)


def _moves_between(links, ahead, behind):
    """The moves that lead from one standing to another on its way."""
    moves = []
    while behind != ahead:
        behind, move = links[behind]
        moves.append(move)
    return tuple(reversed(moves))


def _fresh_move(desk, plan, comes, strike):
    """A move of a strike on things of which none is apart; it can be done anywhere."""
    tool = plan[0][strike]
    befores = [before for before, _ in desk.tools[tool][2] if row_comes(desk, comes, tool, before)]
    rows = [(state,) * (len(plan[1]) + 1) for state in befores[0]]
    return (tool, tuple(rows), strike)
