"""
What an event makes of an open key.

Its entry is (keeper, state, joins, asked): how many joins were done, and the row of the asks answered.
"""

from underthree.askchanges import merged
from underthree.freekeys import free_ask, free_drop, free_put, free_width
from underthree.keystates import key_begun, key_put


def begun_entry(keeper):
    """The entry of a key that is just opened."""
    return (keeper, key_begun(keeper), 0, ())


def entry_behind(operation, entry, event):
    """The entry behind an event of the key that is not barred, and what is answered to it; nothing is checked."""
    keeper, state, joins, asked = entry
    if event[0] == "put":
        return _entry_with(operation, entry, event[2])
    if event[0] == "ask":
        state, answer, more = free_ask(state, operation)
        row = asked if answer is None else merged(asked, (answer[0],))
        return ((keeper, state, joins + more, row), answer)
    if event[0] == "drop":
        return ((keeper, free_drop(state), joins, asked), None)
    return ((("free", event[2]), free_width(state, event[2]), joins, asked), None)


def _entry_with(operation, entry, value):
    keeper, state, joins, asked = entry
    if keeper[0] == "free":
        return ((keeper, free_put(keeper, state, operation, value), joins, asked), ())
    state, answers, more = key_put(keeper, state, operation, value)
    row = merged(asked, tuple([ask for ask, answer in answers]))
    return ((keeper, state, joins + more, row), answers)
