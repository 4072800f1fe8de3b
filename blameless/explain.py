"""Explaining: texts that make the events of a component in a trace."""

from blameless.errors import TooLarge
from blameless.language import Component
from blameless.process import room_of
from blameless.traces import made_by

MOST_EVENTS = 1000

# The buffers: how many events are made so far, and of each event what to do and its word.
COUNTER = 0
ACTIONS = 1
EVENT_WORDS = 2

# What to do for a return and the end; for a call it is 1 more than the number of the import.
END_PROCEDURE = 0

# The locals: the word that is passed and the answers, which nothing depends on, then what to do and the word.
UNUSED = 0
ACTION = 1
EVENT_WORD = 2
LOCAL_COUNT = 3

# A `while` that makes no event and never ends.
REST = ("while", ("number", 1), ())


def explanation(interface, component, trace):
    """Return a component that explains the component with this number in a trace."""
    events = made_by(trace, component)
    if len(events) > MOST_EVENTS:
        raise TooLarge("trace")
    imports = interface.imports[component]
    procedure = (LOCAL_COUNT, (REST,))
    buffers = []
    if events:
        buffers = [[0], [action_of(event, imports) for event in events], [event[-1] for event in events]]
        procedure = (LOCAL_COUNT, (event_loop(len(events), len(imports)), REST))
    # Each frame but one waits behind a call of its own, which is one of the events.
    room = room_of(procedure) * (len(events) + 1)
    return Component(room, buffers, [procedure] * interface.exports[component])


def action_of(event, imports):
    """Return the number of what a component with these imports does to make an event."""
    if event[0] == "call":
        return 1 + imports.index((event[2], event[3]))
    return END_PROCEDURE


def event_loop(event_count, import_count):
    """Return the statement that makes the next event as long as there are more.

    It does not ask which procedure runs: in a trace, the calls and returns of a component are nested as its frames
    are, so that the next event is always one for the frame on top.
    """
    made = ("get", COUNTER, ("number", 0))
    # The index is always below the size; `mod` makes that plain for each expression by itself.
    index = ("mod", made, ("number", event_count))
    steps = [
        ("set", ACTION, ("get", ACTIONS, index)),
        ("set", EVENT_WORD, ("get", EVENT_WORDS, index)),
        ("put", COUNTER, ("number", 0), ("+", made, ("number", 1))),
        when_action(END_PROCEDURE, ("return", ("local", EVENT_WORD))),
    ]
    for number in range(import_count):
        steps.append(when_action(1 + number, ("use", UNUSED, number, ("local", EVENT_WORD))))
    return ("while", ("<", made, ("number", event_count)), tuple(steps))


def when_action(action, statement):
    return ("if", ("=", ("local", ACTION), ("number", action)), (statement,), ())
