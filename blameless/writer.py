"""Writing the texts of components."""


def component_text(component):
    """Return the text of a component."""
    words = ["room", str(component.room), "procedures", str(len(component.procedures))]
    for buffer in component.buffers:
        words.extend(["buffer", str(len(buffer))])
        words.extend([str(word) for word in buffer])
    for local_count, block in component.procedures:
        words.extend(["procedure", str(local_count)])
        words.extend(block_words(block))
        words.append("end")
    return " ".join(words)


def block_words(block):
    """Return the list of the words of a block."""
    words = []
    for statement in block:
        words.extend(statement_words(statement))
    return words


def statement_words(statement):
    word = statement[0]
    if word == "set":
        return [word, f"l{statement[1]}"] + expression_words(statement[2])
    if word == "put":
        return [word, f"b{statement[1]}"] + expression_words(statement[2]) + expression_words(statement[3])
    if word == "call":
        return [word, f"l{statement[1]}", f"p{statement[2]}"] + expression_words(statement[3])
    if word == "use":
        return [word, f"l{statement[1]}", f"i{statement[2]}"] + expression_words(statement[3])
    if word == "if":
        return if_words(statement)
    if word == "while":
        return [word] + expression_words(statement[1]) + block_words(statement[2]) + ["end"]
    return [word] + expression_words(statement[1])


def if_words(statement):
    words = ["if"] + expression_words(statement[1]) + block_words(statement[2])
    if statement[3]:
        words = words + ["else"] + block_words(statement[3])
    return words + ["end"]


def expression_words(expression):
    word = expression[0]
    if word == "number":
        return [str(expression[1])]
    if word == "local":
        return [f"l{expression[1]}"]
    if word == "get":
        return [word, f"b{expression[1]}"] + expression_words(expression[2])
    return [word] + expression_words(expression[1]) + expression_words(expression[2])
