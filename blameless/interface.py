"""Interfaces: what each component exports and imports."""

from blameless.errors import BadInterface, BadText
from blameless.words import number_of, split_words

MOST_COMPONENTS = 8
MOST_EXPORTS = 8
MOST_IMPORTS = 8


class Interface:
    """The numbers of exports and the imports of all components."""

    def __init__(self, rows):
        exports = tuple([row[0] for row in rows])
        imports = tuple([pairs_of(row[1]) for row in rows])
        fault = first_fault(exports, imports)
        if fault is not None:
            raise BadInterface(fault)
        self.exports = exports
        self.imports = imports

    def __eq__(self, other):
        return isinstance(other, Interface) and self.exports == other.exports and self.imports == other.imports

    def size(self):
        """Return the number of components."""
        return len(self.exports)


def pairs_of(imports):
    return tuple([(component, procedure) for component, procedure in imports])


def first_fault(exports, imports):
    """Return the number of the first component that is not valid, or None."""
    size = len(exports)
    if size == 0:
        return 0
    # Too many components are a fault of their number, before any of them is looked at.
    if size > MOST_COMPONENTS:
        return MOST_COMPONENTS
    for component in range(size):
        if not 1 <= exports[component] <= MOST_EXPORTS:
            return component
        if not imports_fit(component, imports[component], exports):
            return component
    return None


def imports_fit(component, pairs, exports):
    """Return whether these are valid imports of the component."""
    if len(pairs) > MOST_IMPORTS or len(set(pairs)) < len(pairs):
        return False
    return all([import_fits(component, pair, exports) for pair in pairs])


def import_fits(component, pair, exports):
    other, procedure = pair
    if other == component or not 0 <= other < len(exports):
        return False
    # The number of exports is taken as given: whether it is valid is a matter of the other component.
    return 0 <= procedure < exports[other]


def interface_text(interface):
    """Return the text of an interface."""
    words = []
    for exports, pairs in zip(interface.exports, interface.imports):
        words.extend(["component", str(exports)])
        for other, procedure in pairs:
            words.extend(["import", str(other), str(procedure)])
    return " ".join(words)


def read_interface(text):
    """Return the interface that a text writes."""
    words = split_words(text)
    if not words:
        raise BadText(0)
    rows = []
    at = 0
    while at < len(words):
        if words[at] == "component":
            rows.append((number_at(words, at + 1), []))
            at += 2
        elif words[at] == "import" and rows:
            other = number_at(words, at + 1)
            procedure = number_at(words, at + 2)
            rows[-1][1].append((other, procedure))
            at += 3
        else:
            raise BadText(at)
    return Interface(rows)


def number_at(words, at):
    """Return the number that stands at an index of the words."""
    if at == len(words):
        raise BadText(at)
    number = number_of(words[at])
    if number is None:
        raise BadText(at)
    return number
