"""Traces: which ones can come, who makes their events, and their lines."""

from blameless.errors import BadTrace
from blameless.words import number_of, split_words

# How many numbers stand behind the kind of each event.
NUMBER_COUNTS = {"call": 4, "return": 3, "end": 1}


class Turns:
    """Who is current and who waits, behind the events so far."""

    def __init__(self, interface):
        self.interface = interface
        # None behind the end: then no component makes an event.
        self.current = 0
        self.waiting = []

    def follow(self, event):
        """Go behind the next event, and return whether it can come; if not, nothing changes."""
        if event[0] == "call":
            return self.follow_call(event[1], event[2], event[3])
        if event[0] == "return":
            return self.follow_return(event[1], event[2])
        return event[0] == "end" and self.follow_end()

    def follow_call(self, caller, called, procedure):
        if caller != self.current or (called, procedure) not in self.interface.imports[caller]:
            return False
        self.waiting.append(caller)
        self.current = called
        return True

    def follow_return(self, ended, resumed):
        if ended != self.current or not self.waiting or resumed != self.waiting[-1]:
            return False
        self.current = self.waiting.pop()
        return True

    def follow_end(self):
        if self.current is None or self.waiting:
            return False
        self.current = None
        return True


def maker(interface, trace):
    """Return the component that is current after a trace, None after the end, and the list of those that wait."""
    turns = Turns(interface)
    for at, event in enumerate(trace):
        if not turns.follow(event):
            raise BadTrace(at)
    return turns.current, turns.waiting


def possible(interface, trace):
    """Return whether a trace can come."""
    turns = Turns(interface)
    for event in trace:
        if not turns.follow(event):
            return False
    return True


def made_by(trace, component):
    """Return the list of the events of a trace that a component makes."""
    return [event for event in trace if maker_of(event) == component]


def maker_of(event):
    """Return the component that makes an event."""
    if event[0] == "end":
        return 0
    return event[1]


def trace_lines(trace):
    """Return the list of the lines of a trace."""
    return [" ".join([str(part) for part in event]) for event in trace]


def read_trace(interface, lines):
    """Return the trace that lines write."""
    turns = Turns(interface)
    trace = []
    for at, line in enumerate(lines):
        event = read_event(line)
        if event is None or not turns.follow(event):
            raise BadTrace(at)
        trace.append(event)
    return trace


def read_event(line):
    """Return the event that a line writes, or None if it is the line of no event."""
    words = split_words(line)
    if not words or words[0] not in NUMBER_COUNTS:
        return None
    numbers = [number_of(word) for word in words[1:]]
    if len(numbers) != NUMBER_COUNTS[words[0]] or None in numbers:
        return None
    return (words[0], *numbers)
