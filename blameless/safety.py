"""Safety: bounds of expressions, components that are surely defined, and folding."""

from blameless.language import Component
from blameless.parts import BLOCK_PLACES, EXPRESSION_PLACES, expressions_of, parts_of, statements_of
from blameless.words import WORD_COUNT, combine

MOST_WORD = WORD_COUNT - 1
ZERO = ("number", 0)
ONE = ("number", 1)

# The value of an operator on two equal parts, where it does not depend on them.
VALUES_OF_EQUALS = {"-": 0, "<": 0, "mod": 0, "=": 1}


def bound(expression):
    """Return a number that the value of an expression is never above."""
    kind = expression[0]
    if kind == "number":
        return expression[1]
    if kind in ("local", "get"):
        return MOST_WORD
    if kind in ("<", "="):
        return 1
    return operator_bound(kind, bound(expression[1]), bound(expression[2]))


def operator_bound(sign, left, right):
    """Return the bound of an operator on parts with these bounds."""
    if sign == "/":
        return left
    if sign == "mod":
        return max(min(left, right - 1), 0)
    if sign == "-":
        return left if right == 0 else MOST_WORD
    if sign == "+":
        return min(left + right, MOST_WORD)
    return min(left * right, MOST_WORD)


def surely_defined(component):
    """Return whether the bound of each index in a component is less than the size of its buffer."""
    for _, block in component.procedures:
        for statement in statements_of(block):
            if not statement_is_sure(statement, component.buffers):
                return False
    return True


def statement_is_sure(statement, buffers):
    """Return whether the indexes of a statement are sure, but for those in the blocks within it."""
    if statement[0] == "put" and not index_is_sure(statement[1], statement[2], buffers):
        return False
    return all([is_sure(expression, buffers) for expression in expressions_of(statement)])


def is_sure(expression, buffers):
    """Return whether the bound of each index in an expression is less than the size of its buffer."""
    if expression[0] == "get" and not index_is_sure(expression[1], expression[2], buffers):
        return False
    return all([is_sure(part, buffers) for part in parts_of(expression)])


def index_is_sure(buffer, index, buffers):
    return bound(index) < len(buffers[buffer])


def fold_component(component):
    """Return a component with all its expressions folded."""
    procedures = [(many, fold_block(block, component.buffers)) for many, block in component.procedures]
    return Component(component.room, component.buffers, procedures)


def fold_block(block, buffers):
    return tuple([fold_statement(statement, buffers) for statement in block])


def fold_statement(statement, buffers):
    kind = statement[0]
    parts = []
    for place, part in enumerate(statement):
        if place in EXPRESSION_PLACES[kind]:
            parts.append(fold(part, buffers))
        elif place in BLOCK_PLACES.get(kind, ()):
            parts.append(fold_block(part, buffers))
        else:
            parts.append(part)
    return tuple(parts)


def fold(expression, buffers):
    """Return an expression folded."""
    kind = expression[0]
    if kind in ("number", "local"):
        return expression
    if kind == "get":
        return (kind, expression[1], fold(expression[2], buffers))
    return fold_operator(kind, fold(expression[1], buffers), fold(expression[2], buffers), buffers)


def fold_operator(sign, left, right, buffers):
    """Return an operator on two folded parts, folded: the first rule that applies is used."""
    if left[0] == "number" and right[0] == "number":
        return ("number", combine(sign, left[1], right[1]))
    if right == ZERO and sign in ("+", "-"):
        return left
    if left == ZERO and sign == "+":
        return right
    if right == ONE and sign in ("*", "/"):
        return left
    if left == ONE and sign == "*":
        return right
    # What is left out from here on must not be undefined.
    if sign == "*" and ZERO in (left, right) and is_sure(left, buffers) and is_sure(right, buffers):
        return ZERO
    if left == right and sign in VALUES_OF_EQUALS and is_sure(left, buffers):
        return ("number", VALUES_OF_EQUALS[sign])
    return (sign, left, right)
