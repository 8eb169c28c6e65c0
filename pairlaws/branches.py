"""Where the states of a store come from, and deeds that are done all or not at all (S9.6, S9.8)."""

from pairlaws.deeds import differences
from pairlaws.errors import NoState
from pairlaws.terms import is_number_below


def _require_states(store, numbers):
    for number in numbers:
        if not is_number_below(number, len(store)):
            raise NoState(number)


def _origins(log, number):
    """The list of the numbers of the one or two states from which a state came."""
    if number == 0:
        return []
    first, deed = log[number - 1]
    return [first, deed[1]] if deed[0] == "merge" else [first]


def _elders(log, number):
    met = {number: True}
    for later in reversed(range(number + 1)):
        if later in met:
            for origin in _origins(log, later):
                met[origin] = True
    return [earlier for earlier in range(number + 1) if earlier in met]


def elders(store, number):
    """The ascending list of the numbers of the elders of a state; number may be any value."""
    _require_states(store, [number])
    return _elders(store.log(), number)


def come_of(store, number):
    """The ascending list of the numbers of the states of which a state is an elder; number may be any value."""
    _require_states(store, [number])
    log = store.log()
    met = {number: True}
    for later in range(number + 1, len(store)):
        if any([origin in met for origin in _origins(log, later)]):
            met[later] = True
    return list(met)


def last_common(store, one, other):
    """The number of the last common elder of two states; both numbers may be any values."""
    _require_states(store, [one, other])
    log = store.log()
    others = _elders(log, other)
    return [number for number in _elders(log, one) if number in others][-1]


def line_to(store, number):
    """The list of the deeds that lead from state 0 to a state, by the first states of merges."""
    _require_states(store, [number])
    log = store.log()
    deeds = []
    at = number
    while at > 0:
        first, deed = log[at - 1]
        deeds.append(deed)
        at = first
    return deeds[::-1]


def attempt(store, action):
    """What a function tells that is called with the store; if an error leaves it, the store is as before."""
    before = store.held
    done = None
    try:
        told = action(store)
        done = True
    finally:
        if done is None:
            store.held = before
    return told


def tried(store, deeds):
    """The numbers of the states that deeds, which may be any values, make; all of them are done or none."""
    return attempt(store, lambda held: [held.do(deed) for deed in deeds])


def would(store, deeds):
    """How the views would differ after the deeds, which may be any values."""
    other = store.twin()
    tried(other, deeds)
    return differences(store.now(), other.now())
