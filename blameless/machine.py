"""The machine: codes and their run."""

from blameless.words import OPERATORS, WORD_COUNT, combine

INSTRUCTION_WORDS = 4
REGISTER_COUNT = 8

# The numbers of the instructions. Those of the operators stand in the order of OPERATORS.
HALT = 0
CONST = 1
MOVE = 2
FIRST_OPERATOR = 3
LAST_OPERATOR = 9
LOAD = 10
STORE = 11
JUMP = 12
JUMPZERO = 13
JUMPTO = 14
USE = 15
LEAVE = 16


class Code:
    """The code of a component: the first words of its memory, and the address of each exported procedure."""

    def __init__(self, memory, entries):
        self.memory = tuple(memory)
        self.entries = tuple(entries)

    def __eq__(self, other):
        return isinstance(other, Code) and self.memory == other.memory and self.entries == other.entries


class Machine:
    """A machine that runs a code for each component, one step at a time."""

    def __init__(self, interface, codes):
        self.trace = []
        self.state = "running"
        self.steps = 0
        self.interface = interface
        self.entries = [code.entries for code in codes]
        self.memories = [list(code.memory) for code in codes]
        # Pairs of a component that waits and its place.
        self.waiting = []
        self.current = 0
        self.place = self.entries[0][0]
        self.registers = [0] * REGISTER_COUNT

    def step(self):
        """Do one step."""
        self.steps += 1
        memory = self.memories[self.current]
        place = self.place
        if not 0 <= place <= len(memory) - INSTRUCTION_WORDS:
            self.stop()
            return
        number, first, second, third = memory[place : place + INSTRUCTION_WORDS]
        self.place = place + INSTRUCTION_WORDS
        goal = first % REGISTER_COUNT
        if FIRST_OPERATOR <= number <= LAST_OPERATOR:
            self.operate(OPERATORS[number - FIRST_OPERATOR], goal, second, third)
        elif number == CONST:
            self.registers[goal] = second
        elif number == MOVE:
            self.registers[goal] = self.registers[second % REGISTER_COUNT]
        elif number in (LOAD, STORE):
            self.reach_memory(number, goal, self.address_of(second, third))
        elif number in (JUMP, JUMPZERO, JUMPTO):
            self.jump(number, self.registers[goal], third)
        elif number == USE:
            self.use(second, self.registers[goal])
        elif number == LEAVE:
            self.leave(self.registers[goal])
        else:
            # A halt, or the number of no instruction.
            self.stop()

    def go(self, steps, events):
        """Do at most `steps` steps while the trace has fewer than `events` events, and return a copy of it."""
        for _ in range(steps):
            if self.state != "running" or len(self.trace) >= events:
                break
            self.step()
        return list(self.trace)

    def stop(self):
        self.state = "stopped"

    def operate(self, sign, goal, second, third):
        left = self.registers[second % REGISTER_COUNT]
        right = self.registers[third % REGISTER_COUNT]
        self.registers[goal] = combine(sign, left, right)

    def address_of(self, second, third):
        """Return the address of a load or a store."""
        return (self.registers[second % REGISTER_COUNT] + third) % WORD_COUNT

    def reach_memory(self, number, goal, address):
        """Do a load or a store."""
        memory = self.memories[self.current]
        if address >= len(memory):
            self.stop()
        elif number == LOAD:
            self.registers[goal] = memory[address]
        else:
            memory[address] = self.registers[goal]

    def jump(self, number, word, third):
        """Do a jump; `word` is what its register holds."""
        if number == JUMPTO:
            self.place = word
        elif number == JUMP or word == 0:
            self.place = third

    def use(self, number, word):
        """Use an import, if the component has one with this number."""
        imports = self.interface.imports[self.current]
        if not 0 <= number < len(imports):
            self.stop()
            return
        called, procedure = imports[number]
        self.trace.append(("call", self.current, called, procedure, word))
        self.waiting.append((self.current, self.place))
        self.change(called, self.entries[called][procedure], word)

    def leave(self, word):
        """End the procedure that runs."""
        if not self.waiting:
            self.trace.append(("end", word))
            self.state = "ended"
            return
        resumed, place = self.waiting.pop()
        self.trace.append(("return", self.current, resumed, word))
        self.change(resumed, place, word)

    def change(self, component, place, word):
        """Make another component current."""
        self.current = component
        self.place = place
        self.registers = [word] + [0] * (REGISTER_COUNT - 1)
