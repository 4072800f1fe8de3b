"""The parts of statements and expressions."""

# Where the expressions and the blocks stand in each statement.
EXPRESSION_PLACES = {
    "set": (2,),
    "put": (2, 3),
    "call": (3,),
    "use": (3,),
    "if": (1,),
    "while": (1,),
    "return": (1,),
}
BLOCK_PLACES = {"if": (2, 3), "while": (2,)}


def statements_of(block):
    """Return the list of all statements of a block, those within others too."""
    statements = []
    for statement in block:
        statements.append(statement)
        for place in BLOCK_PLACES.get(statement[0], ()):
            statements.extend(statements_of(statement[place]))
    return statements


def expressions_of(statement):
    """Return the list of the expressions that stand directly in a statement."""
    return [statement[place] for place in EXPRESSION_PLACES[statement[0]]]


def parts_of(expression):
    """Return the list of the expressions that stand directly in an expression."""
    if expression[0] in ("number", "local"):
        return []
    if expression[0] == "get":
        return [expression[2]]
    return [expression[1], expression[2]]


def depth_of(expression):
    return 1 + max([depth_of(part) for part in parts_of(expression)], default=0)
