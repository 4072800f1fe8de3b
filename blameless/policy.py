"""Policies: rules about the events of a trace."""

from blameless.traces import maker_of

BEGIN = 0
BROKEN = -1


class Policy:
    """A policy: rules, each one a state, the kind of an event, the component that makes it and the next state."""

    def __init__(self, rules):
        self.rules = tuple(rules)

    def after(self, state, event):
        """Return the state after an event."""
        if state == BROKEN:
            return BROKEN
        component = maker_of(event)
        for rule in self.rules:
            if rule[0] == state and rule[1] == event[0] and rule[2] == component:
                return rule[3]
        return state


def state_after(policy, trace):
    """Return the state after a trace."""
    state = BEGIN
    for event in trace:
        state = policy.after(state, event)
    return state


def broken_at(policy, trace):
    """Return the index of the event at which a policy is broken, or None."""
    state = BEGIN
    for at, event in enumerate(trace):
        state = policy.after(state, event)
        if state == BROKEN:
            return at
    return None
