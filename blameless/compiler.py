"""Compiling components to codes.

The memory of a compiled component holds its data first: the cell of the top, cells for deep expressions, the
buffers, and the frames, for which there are as many words as the component has room. Its code stands behind them.

A frame holds the address at which its caller goes on, and then its locals. Frames stand one behind the other, and
the top is the address behind the last one. It is in a register while the component is current, and in its cell while
other components are: the frames of those that wait stay below it.
"""

from blameless.errors import TooLarge
from blameless.machine import CONST, FIRST_OPERATOR, HALT, JUMP, JUMPTO, JUMPZERO, LEAVE, LOAD, STORE, USE
from blameless.machine import INSTRUCTION_WORDS, Code
from blameless.parts import depth_of, expressions_of, statements_of
from blameless.process import room_of
from blameless.words import OPERATORS, WORD_COUNT

MOST_MEMORY = 60000

# The registers up to LAST_VALUE hold values of expressions; ANSWER also holds each word that is passed.
ANSWER = 0
LAST_VALUE = 4
SPARE = 5
# No instruction writes to ZERO, and it is 0 whenever the component becomes current.
ZERO = 6
TOP = 7

TOP_CELL = 0


def compile_component(component, exported, *, checked=False):
    """Return the code of a component whose first `exported` procedures are exported."""
    compiler = Compiler(component, checked)
    compiler.add_data()
    compiler.add_exits()
    for number in range(len(component.procedures)):
        compiler.add_procedure(number, number < exported)
    compiler.link_calls()
    if len(compiler.memory) > MOST_MEMORY:
        raise TooLarge("memory")
    return Code(compiler.memory, compiler.entries)


def operator_number(sign):
    """Return the number of the instruction for an operator."""
    return FIRST_OPERATOR + OPERATORS.index(sign)


def cells_needed(component):
    """Return how many cells are enough for each expression of the component."""
    depths = [0]
    for _, block in component.procedures:
        for statement in statements_of(block):
            depths.extend([depth_of(expression) for expression in expressions_of(statement)])
    return max(depths)


class Compiler:
    """The memory of a compiled component, as far as it is made."""

    def __init__(self, component, checked):
        self.component = component
        self.checked = checked
        self.memory = []
        self.entries = []
        # Addresses in the memory: of each buffer, of the first frame, and of the instructions that halt and leave.
        self.buffer_places = []
        self.first_frame = 0
        self.halt_place = 0
        self.leave_place = 0
        # The address of each procedure so far, and the pairs of a call's jump and its procedure.
        self.starts = []
        self.calls = []
        # What a frame of the procedure that is being compiled takes.
        self.taken = 0

    def here(self):
        """Return the address of the next instruction."""
        return len(self.memory)

    def emit(self, number, first, second, third):
        """Add an instruction and return the address of its last word."""
        self.memory.extend([number, first, second, third])
        return len(self.memory) - 1

    def add_data(self):
        self.memory = [0] * (TOP_CELL + 1 + cells_needed(self.component))
        for buffer in self.component.buffers:
            self.buffer_places.append(self.here())
            self.memory.extend(buffer)
        self.first_frame = self.here()
        self.memory[TOP_CELL] = self.first_frame
        self.memory.extend([0] * self.component.room)

    def add_exits(self):
        """Add what stops the machine, and what ends a procedure that another component used."""
        self.halt_place = self.here()
        self.emit(HALT, 0, 0, 0)
        self.leave_place = self.here()
        self.emit(STORE, TOP, ZERO, TOP_CELL)
        self.emit(LEAVE, ANSWER, 0, 0)

    def add_procedure(self, number, is_exported):
        procedure = self.component.procedures[number]
        self.taken = room_of(procedure)
        if is_exported:
            self.entries.append(self.here())
            self.emit(LOAD, TOP, ZERO, TOP_CELL)
            self.emit(CONST, SPARE, self.leave_place, 0)
        self.starts.append(self.here())
        self.add_beginning(procedure[0])
        self.add_block(procedure[1])
        self.emit(CONST, ANSWER, 0, 0)
        self.add_ending()

    def add_beginning(self, local_count):
        """Add what makes the frame; SPARE holds the address at which the caller goes on."""
        room = self.component.room
        # The top must be below this. That is compared, not the new top, which could be above all words.
        limit = self.first_frame + room - self.taken + 1 if self.taken <= room else 0
        self.emit(CONST, 1, limit, 0)
        self.emit(operator_number("<"), 1, TOP, 1)
        self.emit(JUMPZERO, 1, 0, self.halt_place)
        self.emit(CONST, 1, self.taken, 0)
        self.emit(operator_number("+"), TOP, TOP, 1)
        self.emit(STORE, SPARE, TOP, self.caller_offset())
        self.emit(STORE, ANSWER, TOP, self.local_offset(0))
        for local in range(1, local_count):
            self.emit(STORE, ZERO, TOP, self.local_offset(local))

    def add_ending(self):
        """Add what removes the frame and goes on in the caller, with the answer in ANSWER."""
        self.emit(LOAD, SPARE, TOP, self.caller_offset())
        self.emit(CONST, 1, self.taken, 0)
        self.emit(operator_number("-"), TOP, TOP, 1)
        self.emit(JUMPTO, SPARE, 0, 0)

    def caller_offset(self):
        """Return what must be added to the top for the address of the frame's first word."""
        return (0 - self.taken) % WORD_COUNT

    def local_offset(self, local):
        """Return what must be added to the top for the address of a local."""
        return (1 + local - self.taken) % WORD_COUNT

    def add_block(self, block):
        for statement in block:
            self.add_statement(statement)

    def add_statement(self, statement):
        kind = statement[0]
        if kind == "set":
            self.add_value(statement[2], ANSWER)
            self.emit(STORE, ANSWER, TOP, self.local_offset(statement[1]))
        elif kind == "put":
            self.add_put(statement)
        elif kind == "call":
            self.add_call(statement)
        elif kind == "use":
            self.add_use(statement)
        elif kind == "if":
            self.add_if(statement)
        elif kind == "while":
            self.add_while(statement)
        elif kind == "return":
            self.add_value(statement[1], ANSWER)
            self.add_ending()

    def add_put(self, statement):
        buffer = statement[1]
        self.add_value(statement[2], 0)
        self.add_check(0, buffer)
        self.add_value(statement[3], 1)
        self.emit(STORE, 1, 0, self.buffer_places[buffer])

    def add_call(self, statement):
        self.add_value(statement[3], ANSWER)
        # The callee goes on behind this instruction and the jump.
        self.emit(CONST, SPARE, self.here() + 2 * INSTRUCTION_WORDS, 0)
        self.calls.append((self.emit(JUMP, 0, 0, 0), statement[2]))
        self.emit(STORE, ANSWER, TOP, self.local_offset(statement[1]))

    def add_use(self, statement):
        self.add_value(statement[3], ANSWER)
        self.emit(STORE, TOP, ZERO, TOP_CELL)
        self.emit(USE, ANSWER, statement[2], 0)
        self.emit(LOAD, TOP, ZERO, TOP_CELL)
        self.emit(STORE, ANSWER, TOP, self.local_offset(statement[1]))

    def add_if(self, statement):
        self.add_value(statement[1], 0)
        over_chosen = self.emit(JUMPZERO, 0, 0, 0)
        self.add_block(statement[2])
        over_otherwise = self.emit(JUMP, 0, 0, 0)
        self.memory[over_chosen] = self.here()
        self.add_block(statement[3])
        self.memory[over_otherwise] = self.here()

    def add_while(self, statement):
        test = self.here()
        self.add_value(statement[1], 0)
        over_repeated = self.emit(JUMPZERO, 0, 0, 0)
        self.add_block(statement[2])
        self.emit(JUMP, 0, 0, test)
        self.memory[over_repeated] = self.here()

    def add_value(self, expression, goal):
        """Add what puts the value of an expression into the register `goal`, or LAST_VALUE if that is less.

        The registers below it stay as they are.
        """
        kind = expression[0]
        value = min(goal, LAST_VALUE)
        if kind == "number":
            self.emit(CONST, value, expression[1], 0)
        elif kind == "local":
            self.emit(LOAD, value, TOP, self.local_offset(expression[1]))
        elif kind == "get":
            self.add_value(expression[2], goal)
            self.add_check(value, expression[1])
            self.emit(LOAD, value, value, self.buffer_places[expression[1]])
        elif goal < LAST_VALUE:
            self.add_value(expression[1], goal)
            self.add_value(expression[2], goal + 1)
            self.emit(operator_number(kind), goal, goal, goal + 1)
        else:
            # The registers are used up: the left value waits in a cell.
            cell = TOP_CELL + 1 + goal - LAST_VALUE
            self.add_value(expression[1], goal)
            self.emit(STORE, LAST_VALUE, ZERO, cell)
            self.add_value(expression[2], goal + 1)
            self.emit(LOAD, SPARE, ZERO, cell)
            self.emit(operator_number(kind), LAST_VALUE, SPARE, LAST_VALUE)

    def add_check(self, index, buffer):
        """Add what stops the machine if the register `index` holds no index of the buffer, if there are checks."""
        if self.checked:
            self.emit(CONST, SPARE, len(self.component.buffers[buffer]), 0)
            self.emit(operator_number("<"), SPARE, index, SPARE)
            self.emit(JUMPZERO, SPARE, 0, self.halt_place)

    def link_calls(self):
        """Give the jumps of calls the addresses of their procedures."""
        for place, number in self.calls:
            self.memory[place] = self.starts[number]
