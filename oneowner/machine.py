"""The machine: threads that do the steps of a program on a memory of cells."""

from oneowner.cells import Fault, word_of
from oneowner.frames import MOST_FRAMES
from oneowner.memory import Wrong
from oneowner.rooms import MachineFrame
from oneowner.threads import Call, Thread, picked
from oneowner.work import Work

# Stacks begin so far from each other, and from the heap, that they never meet.
STACK = 1099511627776


class Machine(Work):
    """
    A run of a program.

    working has the threads that neither wait nor have ended, in their order; word is how the run
    ended, None before; pars and stacks are how many pars and threads have begun.
    """

    def __init__(self, program, allocator):
        book, functions, _ = program
        Work.__init__(self, book, allocator)
        self.functions = functions
        self.outs = []
        self.word = None
        self.result = None
        self.pars = 0
        self.stacks = 0
        self.working = []

    def begin_run(self, function, inputs):
        """The first thread begins with a frame of a function."""
        edge = self.new_stack()
        call = self.new_call(function, [[word_of(value)] for value in inputs], edge, None)
        self.working = [Thread((), None, call, call.frame.edge)]

    def new_stack(self):
        """The address where the stack of a new thread begins."""
        self.stacks = self.stacks + 1
        return self.stacks * STACK

    def new_call(self, function, values, edge, target):
        """A call of a function with the values of its params, whose frame begins at an address."""
        frame = MachineFrame(self.functions[function], edge, self.layout)
        for at in range(len(values)):
            self.fill(frame, at + 1, values[at])
        return Call(frame, 0, target)

    def go_on(self, schedule, steps):
        """Does steps until the run ends, at most so many."""
        done = 0
        while self.word is None:
            if done == steps:
                self.word = "steps"
                return
            at = picked(schedule, done, len(self.working))
            done = done + 1
            thread = self.working[at]
            self.place = thread.place
            try:
                self.do_step(thread)
            except Fault as fault:
                self.fail(thread, fault.word)

    def do_step(self, thread):
        """The next statement or way of a thread."""
        call = thread.calls[-1]
        statements, way = call.frame.body[call.block]
        if call.at == len(statements):
            self.do_way(thread, call, way)
            return
        call.at = call.at + 1
        statement = statements[call.at - 1]
        if statement[0] == "call":
            self.do_call(thread, call.frame, statement)
        elif statement[0] == "show":
            self.do_show(call.frame, statement[1])
        else:
            self.do_work(call.frame, statement)

    def do_call(self, thread, frame, statement):
        """A call: a frame comes on the stack of the thread."""
        _, target, function, operands = statement
        values = self.values_of(frame, operands)
        if thread.frames_standing() == MOST_FRAMES:
            raise Fault("steps")
        call = self.new_call(function, values, thread.edge, target)
        thread.calls.append(call)
        thread.edge = call.frame.edge

    def do_show(self, frame, operand):
        """A show of a number or a truth."""
        if operand[0] != "copy":
            self.outs.append(operand[1])
            return
        kind, address, mark = self.place_of(frame, operand[1])
        self.outs.append(plain_value(kind, self.value_at(kind, address, mark)))

    def do_way(self, thread, call, way):
        """A way."""
        word = way[0]
        if word == "go":
            call.go(way[1])
        elif word == "branch":
            call.go(way[2] if self.number_of(call.frame, way[1]) else way[3])
        elif word == "switch":
            self.do_switch(call, way[1], way[2])
        elif word == "par":
            self.begin_sides(thread, call, way)
        elif word == "join":
            self.end_side(thread)
        else:
            self.do_return(thread, call)

    def do_switch(self, call, place, blocks):
        """A switch: a tag that is none is a fault."""
        _, address, mark = self.place_of(call.frame, place)
        tag, _ = self.read(address, mark)
        if tag >= len(blocks):
            raise Fault("tag")
        call.go(blocks[tag])

    def do_return(self, thread, call):
        """A return, to the local of the caller or out of the run."""
        frame = call.frame
        words = self.move_out(frame, 0)
        for local in range(len(frame.kinds)):
            self.end_room(frame, local)
        thread.calls.pop()
        thread.edge = frame.addresses[0]
        if thread.calls:
            self.fill(thread.calls[-1].frame, call.target, words)
        elif self.heap.blocks():
            self.word = "held"
        else:
            self.word = "done"
            self.result = plain_value(frame.kinds[0], words)

    def begin_sides(self, thread, call, way):
        """A thread waits, and the two sides of a par begin."""
        _, first, second, behind = way
        call.go(behind)
        self.pars = self.pars + 1
        thread.running = 2
        sides = []
        for side, block in ((0, first), (1, second)):
            place = (*thread.place, (self.pars, side))
            sides.append(Thread(place, thread, Call(call.frame, block, None), self.new_stack()))
        self.relieve(thread, sides)

    def end_side(self, thread):
        """A side of a par ends with a join; the waiting thread goes on behind the last one."""
        waiting = thread.waiting
        waiting.running = waiting.running - 1
        if waiting.fault is not None:
            self.fail(waiting, waiting.fault)
        elif waiting.running == 0:
            self.relieve(thread, [waiting])
        else:
            self.relieve(thread, [])

    def relieve(self, thread, others):
        """Other threads work instead of one."""
        at = self.working.index(thread)
        self.working[at:at + 1] = others

    def fail(self, thread, word):
        """A thread ends with a fault, and so do the threads that wait for it, as far as nothing comes ahead of it."""
        while thread.waiting is not None:
            waiting = thread.waiting
            if thread.is_second_side() and waiting.running == 2:
                waiting.fault = word
                self.end_within(thread.place)
                return
            thread = waiting
        self.word = word

    def end_within(self, place):
        """All threads end that work within a place."""
        many = len(place)
        self.working = [thread for thread in self.working if thread.place[:many] != place]


def plain_value(kind, words):
    """The number or truth that a value of a kind is."""
    number, _ = words[0]
    return number != 0 if kind[0] == "bool" else number


def run_machine(program, inputs, allocator, schedule, steps):
    """The triple (outs, word, result) of a run of the machine."""
    machine = Machine(program, allocator)
    try:
        machine.begin_run(program[2], inputs)
        machine.go_on(schedule, steps)
    except Wrong as wrong:
        return (tuple(machine.outs), wrong.word, None)
    return (tuple(machine.outs), machine.word, machine.result)
