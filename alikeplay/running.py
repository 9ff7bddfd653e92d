"""The instructions of machines, carried out one by one."""

from alikeplay.whole import wrapped

READY = "ready"
ASKING = "asking"
DONE = "done"
DIVISION = "division"
DEEP = "deep"
MOST_FRAMES = 16

ONE_OPERAND = ("neg", "not", "truth")
TWO_OPERANDS = ("plus", "minus", "times", "div", "mod", "eq", "ne", "lt", "le", "gt", "ge")
VALUES = ("int", "get", "load", "put", "store", "drop")
JUMPS = ("jump", "unless", "and", "or")


def begin(code):
    """Return the machine with which a sound code begins."""
    return (0,) * code[0], ((0, 0, (), ()),), READY, None


def gone_on(code, machine, budget):
    """Let a machine of the code go on; return the machine and the event that stops it."""
    mode = machine[2]
    if mode == ASKING:
        return machine, _asking_event(machine[3])
    if mode == DONE:
        return machine, ("done",)
    if mode != READY:
        return machine, ("stopped", mode)
    play = Run(code, machine)
    for _ in range(budget):
        event = play.step()
        if event is not None:
            return play.machine(), event
    return play.machine(), ("paused",)


def _asking_event(pending):
    command, arguments = pending
    return "asks", command, arguments


def behind_answer(machine, answer):
    """Return a machine that asks with the answer laid on its stack."""
    variables, frames, _, _ = machine
    routine, place, slots, stack = frames[-1]
    frame = routine, place, slots, stack + (wrapped(answer),)
    return variables, frames[:-1] + (frame,), READY, None


class Frame:
    """A call of a routine: the place at which it goes on, its slots and its stack."""

    def __init__(self, routine, place, slots, stack):
        self.routine = routine
        self.place = place
        self.slots = list(slots)
        self.stack = list(stack)

    def pop_many(self, many):
        """Take so many integers off the stack, and return their list in the order in which they were laid."""
        begin = len(self.stack) - many
        taken = self.stack[begin:]
        self.stack = self.stack[:begin]
        return taken

    def told(self):
        """Return the frame as a tuple."""
        return self.routine, self.place, tuple(self.slots), tuple(self.stack)


class Run:
    """A machine that is ready and goes on."""

    def __init__(self, code, machine):
        self.routines = code[1]
        self.variables = list(machine[0])
        self.frames = [Frame(routine, place, slots, stack) for routine, place, slots, stack in machine[1]]
        self.mode = READY
        self.pending = None

    def machine(self):
        """Return the machine as a tuple."""
        return tuple(self.variables), tuple([frame.told() for frame in self.frames]), self.mode, self.pending

    def step(self):
        """Carry out an instruction; return the event to which it leads, or None."""
        frame = self.frames[-1]
        instruction = self.routines[frame.routine][2][frame.place]
        frame.place += 1
        word = instruction[0]
        if word in VALUES:
            self._move_value(frame, instruction)
        elif word in TWO_OPERANDS:
            return self._calculate(frame.stack, word)
        elif word in JUMPS:
            _jump(frame, word, instruction[1])
        elif word in ONE_OPERAND:
            frame.stack.append(_changed(word, frame.stack.pop()))
        elif word == "call":
            return self._call(frame, instruction[1])
        elif word == "return":
            self.frames.pop()
            self.frames[-1].stack.append(frame.stack.pop())
        else:
            return self._tell(frame, instruction)
        return None

    def _move_value(self, frame, instruction):
        word = instruction[0]
        if word == "int":
            frame.stack.append(instruction[1])
        elif word == "get":
            frame.stack.append(self.variables[instruction[1]])
        elif word == "load":
            frame.stack.append(frame.slots[instruction[1]])
        elif word == "put":
            self.variables[instruction[1]] = frame.stack.pop()
        elif word == "store":
            frame.slots[instruction[1]] = frame.stack.pop()
        else:
            frame.stack.pop()

    def _calculate(self, stack, word):
        b = stack.pop()
        a = stack.pop()
        if b == 0 and word in ("div", "mod"):
            return self._stop(DIVISION)
        stack.append(_result(word, a, b))
        return None

    def _call(self, frame, index):
        if len(self.frames) == MOST_FRAMES:
            return self._stop(DEEP)
        parameters, slots, _ = self.routines[index]
        values = frame.pop_many(parameters)
        self.frames.append(Frame(index, 0, values + [0] * (slots - parameters), ()))
        return None

    def _tell(self, frame, instruction):
        """Carry out an instruction that leads to an event."""
        if instruction[0] == "wait":
            return ("waits",)
        if instruction[0] == "end":
            self._finish(DONE)
            return ("done",)
        _, command, many = instruction
        self.mode = ASKING
        self.pending = command, tuple(frame.pop_many(many))
        return _asking_event(self.pending)

    def _stop(self, why):
        self._finish(why)
        return "stopped", why

    def _finish(self, mode):
        self.mode = mode
        self.frames = []


def _jump(frame, word, place):
    """Go on at the place, or not, as an instruction that names it does."""
    if word == "jump":
        frame.place = place
        return
    is_zero = frame.stack.pop() == 0
    if is_zero == (word == "or"):
        return
    frame.place = place
    if word != "unless":
        frame.stack.append(0 if is_zero else 1)


def _changed(word, b):
    if word == "neg":
        return wrapped(-b)
    return flag((b == 0) == (word == "not"))


def flag(holds):
    """Return what a script gets for yes or no."""
    return 1 if holds else 0


def _result(word, a, b):
    """Return what an operation with two operands lays on the stack; the second one of a division is not 0."""
    if word == "plus":
        return wrapped(a + b)
    if word == "minus":
        return wrapped(a - b)
    if word == "times":
        return wrapped(a * b)
    if word == "div":
        return wrapped(a // b)
    if word == "mod":
        return a % b
    return flag(_holds(word, a, b))


def _holds(word, a, b):
    if word == "eq":
        return a == b
    if word == "ne":
        return a != b
    if word == "lt":
        return a < b
    if word == "le":
        return a <= b
    if word == "gt":
        return a > b
    return a >= b
