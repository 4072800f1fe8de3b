"""The run of the texts of all components."""

from blameless.words import combine

# What a frame takes of the room beside the locals.
FRAME_EXTRA = 2

# Where the expression stands in each statement; that of the index of `put` stands before it.
WORD_PLACES = {"set": 2, "put": 3, "call": 3, "use": 3, "if": 1, "while": 1, "return": 1}


class Frame:
    """A procedure that has begun and not ended."""

    def __init__(self, component, procedure, word, target):
        self.component = component
        self.local_words = [word] + [0] * (procedure[0] - 1)
        self.taken = room_of(procedure)
        # The local of the caller that takes the answer.
        self.target = target
        # The blocks that run, each within the one before it, and the index of the next statement in each.
        self.blocks = [procedure[1]]
        self.places = [0]

    def next_statement(self):
        """Return the next statement, or None if all have run."""
        while self.blocks:
            block = self.blocks[-1]
            place = self.places[-1]
            if place < len(block):
                return block[place]
            self.blocks.pop()
            self.places.pop()
        return None

    def pass_statement(self):
        self.places[-1] += 1

    def enter(self, block):
        self.blocks.append(block)
        self.places.append(0)


def room_of(procedure):
    """Return how many words of the room a frame of the procedure takes."""
    return procedure[0] + FRAME_EXTRA


class Process:
    """A run: the texts of all components, one step at a time."""

    def __init__(self, interface, components):
        self.trace = []
        self.state = "running"
        self.blamed = None
        self.steps = 0
        self.interface = interface
        self.components = tuple(components)
        self.buffers = [[list(words) for words in component.buffers] for component in components]
        self.rooms_left = [component.room for component in components]
        self.frames = []
        # Nobody takes the answer of the first procedure.
        self.begin(0, 0, 0, None)

    def step(self):
        """Do one step."""
        self.steps += 1
        frame = self.frames[-1]
        statement = frame.next_statement()
        if statement is None:
            self.finish(0)
        else:
            self.run_statement(frame, statement)

    def go(self, steps, events):
        """Do at most `steps` steps while the trace has fewer than `events` events, and return a copy of it."""
        for _ in range(steps):
            if self.state != "running" or len(self.trace) >= events:
                break
            self.step()
        return list(self.trace)

    def begin(self, component, number, word, target):
        """Begin a procedure, if its frame has room."""
        procedure = self.components[component].procedures[number]
        if room_of(procedure) > self.rooms_left[component]:
            self.state = "full"
            return
        frame = Frame(component, procedure, word, target)
        self.rooms_left[component] -= frame.taken
        self.frames.append(frame)

    def finish(self, answer):
        """End the procedure that runs."""
        frame = self.frames.pop()
        self.rooms_left[frame.component] += frame.taken
        if not self.frames:
            self.trace.append(("end", answer))
            self.state = "ended"
            return
        caller = self.frames[-1]
        # No component imports from itself, so a caller in another component used the procedure.
        if caller.component != frame.component:
            self.trace.append(("return", frame.component, caller.component, answer))
        caller.local_words[frame.target] = answer

    def stop_undefined(self, frame):
        self.state = "undefined"
        self.blamed = frame.component

    def run_statement(self, frame, statement):
        kind = statement[0]
        word = self.value_of(frame, statement[WORD_PLACES[kind]])
        if word is None:
            self.stop_undefined(frame)
            return
        if kind == "while" and word != 0:
            # The `while` stays the next statement for when its block has run.
            frame.enter(statement[2])
            return
        frame.pass_statement()
        if kind == "set":
            frame.local_words[statement[1]] = word
        elif kind == "put":
            self.put_word(frame, statement, word)
        elif kind == "call":
            self.begin(frame.component, statement[2], word, statement[1])
        elif kind == "use":
            self.use_import(frame, statement, word)
        elif kind == "if":
            frame.enter(statement[2] if word != 0 else statement[3])
        elif kind == "return":
            self.finish(word)

    def put_word(self, frame, statement, word):
        buffer = self.buffers[frame.component][statement[1]]
        index = self.value_of(frame, statement[2])
        if is_index(index, buffer):
            buffer[index] = word
        else:
            self.stop_undefined(frame)

    def use_import(self, frame, statement, word):
        other, number = self.interface.imports[frame.component][statement[2]]
        # The call is made before it is known whether the procedure has room.
        self.trace.append(("call", frame.component, other, number, word))
        self.begin(other, number, word, statement[1])

    def value_of(self, frame, expression):
        """Return the value of an expression, or None if it is undefined."""
        kind = expression[0]
        if kind == "number":
            return expression[1]
        if kind == "local":
            return frame.local_words[expression[1]]
        if kind == "get":
            buffer = self.buffers[frame.component][expression[1]]
            index = self.value_of(frame, expression[2])
            return buffer[index] if is_index(index, buffer) else None
        left = self.value_of(frame, expression[1])
        right = self.value_of(frame, expression[2])
        if left is None or right is None:
            return None
        return combine(kind, left, right)


def is_index(index, buffer):
    """Return whether an index, or None for an undefined one, is one of the buffer."""
    return index is not None and 0 <= index < len(buffer)
