"""Blame: which texts did something undefined, and texts that make the trace of a machine."""

from blameless.compiler import compile_component
from blameless.explain import explanation
from blameless.language import Component
from blameless.machine import Machine
from blameless.process import Process

# Within so many steps, a text that explains makes each of its events.
EVENT_STEPS = 30


class Verdict:
    """What blame found: the trace of the machine, who is to blame, the texts that make the trace, and their trace."""

    def __init__(self, trace, blamed, components, made):
        self.trace = trace
        self.blamed = blamed
        self.components = components
        self.made = made


def blame(interface, parts, steps, *, checked=False):
    """Return the verdict for parts, each one a Component or a Code, of which the machine does so many steps."""
    machine = Machine(interface, codes_of(interface, parts, checked))
    # A step makes at most one event: their number is no limit of its own.
    trace = machine.go(steps, steps)
    texts = []
    for number, part in enumerate(parts):
        texts.append(part if isinstance(part, Component) else explanation(interface, number, trace))
    # A text's own steps are at most those of the machine.
    limit = machine.steps + EVENT_STEPS * len(trace)
    blamed = []
    process = Process(interface, texts)
    made = process.go(limit, len(trace))
    while process.blamed is not None:
        blamed.append(process.blamed)
        texts[process.blamed] = explanation(interface, process.blamed, trace)
        process = Process(interface, texts)
        made = process.go(limit, len(trace))
    return Verdict(trace, tuple(blamed), tuple(texts), made)


def codes_of(interface, parts, checked):
    """Return the code of each part: its own, or that of the text compiled."""
    codes = []
    for exported, part in zip(interface.exports, parts):
        if isinstance(part, Component):
            codes.append(compile_component(part, exported, checked=checked))
        else:
            codes.append(part)
    return codes
