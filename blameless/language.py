"""Components in the small language: their data, and reading their texts."""

from blameless.errors import BadText
from blameless.words import OPERATORS, WORD_COUNT, number_of, split_words

MOST_ROOM = 20000
MOST_PROCEDURES = 8
MOST_BUFFERS = 8
MOST_BUFFER_WORDS = 1000
MOST_LOCALS = 16
EXPRESSION_DEPTH = 4
BLOCK_DEPTH = 6


class Component:
    """A component: its room, the first words of its buffers, and its procedures."""

    def __init__(self, room, buffers, procedures):
        self.room = room
        self.buffers = frozen(buffers)
        self.procedures = frozen(procedures)

    def __eq__(self, other):
        return (
            isinstance(other, Component)
            and self.room == other.room
            and self.buffers == other.buffers
            and self.procedures == other.procedures
        )


def frozen(part):
    """Return data with tuples in the place of all its lists."""
    if isinstance(part, (list, tuple)):
        return tuple([frozen(inner) for inner in part])
    return part


def read_component(text, imports):
    """Return the component that a text writes; `imports` is the number of its imports."""
    reader = Reader(split_words(text), imports)
    component = reader.take_component()
    if reader.at < len(reader.words):
        raise BadText(reader.at)
    return component


class Reader:
    """The words of a component's text, and how far they are read.

    Each method takes the words of one part and returns its data. A word is passed only when it is known to fit,
    so that `at` is its index if it does not.
    """

    def __init__(self, words, import_count):
        self.words = words
        self.at = 0
        self.import_count = import_count
        self.buffer_count = 0
        self.procedure_count = 0
        self.local_count = 0

    def next_word(self):
        """Return the next word and do not take it."""
        if self.at == len(self.words):
            raise BadText(self.at)
        return self.words[self.at]

    def take_exactly(self, word):
        if self.next_word() != word:
            raise BadText(self.at)
        self.at += 1

    def take_number(self, least, most):
        number = number_of(self.next_word())
        if number is None or not least <= number <= most:
            raise BadText(self.at)
        self.at += 1
        return number

    def take_name(self, letter, many):
        """Take a name with this letter and a number less than `many`, and return the number."""
        word = self.next_word()
        number = number_of(word[1:]) if word.startswith(letter) else None
        if number is None or number >= many:
            raise BadText(self.at)
        self.at += 1
        return number

    def take_local(self):
        return self.take_name("l", self.local_count)

    def take_component(self):
        self.take_exactly("room")
        room = self.take_number(0, MOST_ROOM)
        self.take_exactly("procedures")
        self.procedure_count = self.take_number(1, MOST_PROCEDURES)
        buffers = self.take_buffers()
        self.buffer_count = len(buffers)
        procedures = []
        for _ in range(self.procedure_count):
            procedures.append(self.take_procedure())
        return Component(room, buffers, procedures)

    def take_buffers(self):
        buffers = []
        while len(buffers) < MOST_BUFFERS and self.next_word() == "buffer":
            buffers.append(self.take_buffer())
        return buffers

    def take_buffer(self):
        self.take_exactly("buffer")
        first_words = []
        for _ in range(self.take_number(1, MOST_BUFFER_WORDS)):
            first_words.append(self.take_number(0, WORD_COUNT - 1))
        return first_words

    def take_procedure(self):
        self.take_exactly("procedure")
        self.local_count = self.take_number(1, MOST_LOCALS)
        block = self.take_block(0)
        self.take_exactly("end")
        return self.local_count, block

    def take_block(self, depth):
        """Take statements as long as they fit; `depth` is that of the `if` or `while` around them."""
        statements = []
        # A statement that does not fit is left to the caller, who wants an `end` or an `else` in its place.
        while self.statement_fits(self.next_word(), depth):
            statements.append(self.take_statement(depth))
        return tuple(statements)

    def statement_fits(self, word, depth):
        """Return whether a statement may begin with this word."""
        if word == "put":
            return self.buffer_count > 0
        if word == "use":
            return self.import_count > 0
        if word in ("if", "while"):
            return depth < BLOCK_DEPTH
        return word in ("set", "call", "return")

    def take_statement(self, depth):
        word = self.next_word()
        self.at += 1
        if word == "set":
            return word, self.take_local(), self.take_expression(EXPRESSION_DEPTH)
        if word == "put":
            buffer = self.take_name("b", self.buffer_count)
            return word, buffer, self.take_expression(EXPRESSION_DEPTH), self.take_expression(EXPRESSION_DEPTH)
        if word == "call":
            return self.take_call(word, "p", self.procedure_count)
        if word == "use":
            return self.take_call(word, "i", self.import_count)
        if word == "if":
            return self.take_if(depth + 1)
        if word == "while":
            return self.take_while(depth + 1)
        return word, self.take_expression(EXPRESSION_DEPTH)

    def take_call(self, word, letter, many):
        """Take what stands behind `call` or `use`."""
        local = self.take_local()
        number = self.take_name(letter, many)
        return word, local, number, self.take_expression(EXPRESSION_DEPTH)

    def take_if(self, depth):
        test = self.take_expression(EXPRESSION_DEPTH)
        chosen = self.take_block(depth)
        otherwise = ()
        if self.next_word() == "else":
            self.at += 1
            otherwise = self.take_block(depth)
            # An empty part is written without `else`: every component has exactly one text.
            if not otherwise:
                raise BadText(self.at)
        self.take_exactly("end")
        return "if", test, chosen, otherwise

    def take_while(self, depth):
        test = self.take_expression(EXPRESSION_DEPTH)
        repeated = self.take_block(depth)
        self.take_exactly("end")
        return "while", test, repeated

    def take_expression(self, depth):
        """Take an expression that has at most this depth."""
        word = self.next_word()
        if depth > 1 and word in OPERATORS:
            self.at += 1
            return word, self.take_expression(depth - 1), self.take_expression(depth - 1)
        if depth > 1 and word == "get" and self.buffer_count > 0:
            self.at += 1
            return word, self.take_name("b", self.buffer_count), self.take_expression(depth - 1)
        if word.startswith("l"):
            return "local", self.take_local()
        return "number", self.take_number(0, WORD_COUNT - 1)
