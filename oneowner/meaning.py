"""The meaning of programs of the middle form, in which nothing is shared."""

from oneowner.frames import Frames
from oneowner.spots import Ended


class Run(Frames):
    """A run of a program by its meaning."""

    def __init__(self, program, inputs):
        _, functions, main = program
        Frames.__init__(self, functions)
        self.outs = []
        self.result = None
        self.begin_call(main, inputs, None)

    def go_on(self, steps):
        """Does steps until the run ends, at most so many."""
        done = 0
        while self.stack:
            if done == steps:
                raise Ended("steps")
            done += 1
            self.do_step(self.stack[-1])

    def do_step(self, frame):
        """The next statement or way of a frame."""
        statements, way = frame.body[frame.block]
        if frame.at == len(statements):
            self.do_way(frame, way)
        else:
            frame.at += 1
            self.do_statement(frame, statements[frame.at - 1])

    def do_statement(self, frame, statement):
        """A statement."""
        word = statement[0]
        if word == "set":
            self.do_set(frame, statement[1], statement[2])
        elif word == "open":
            self.do_opening(frame, self.move_out(frame, statement[1]), statement[2])
        elif word == "unpack":
            self.do_unpack(frame, statement)
        elif word == "push":
            value = self.value_of(frame, statement[2])
            self.spot_of(frame, statement[1]).value().append(value)
        elif word == "take":
            self.do_take(frame, statement[1], statement[2])
        elif word == "call":
            self.begin_call(statement[2], self.values_of(frame, statement[3]), statement[1])
        elif word == "show":
            self.outs.append(self.value_of(frame, statement[1]))
        else:
            # drop and end: a value that is not there may be dropped, too.
            frame.held[statement[1]] = None

    def do_set(self, frame, place, rvalue):
        """A set: the value ahead of the place; a whole local need not be there."""
        value = self.value_of_rvalue(frame, rvalue)
        local, projections = place
        if projections:
            self.spot_of(frame, place).put(value)
        else:
            frame.held[local] = value

    def do_opening(self, frame, values, targets):
        """Values go to locals, in order."""
        for target, value in zip(targets, values):
            frame.held[target] = value

    def do_unpack(self, frame, statement):
        """An unpack of a variant that must have the tag."""
        _, local, tag, targets = statement
        value = self.move_out(frame, local)
        if value[0] != tag:
            raise Ended("tag")
        self.do_opening(frame, value[1:], targets)

    def do_take(self, frame, target, place):
        """A take of the last value of a vec."""
        items = self.spot_of(frame, place).value()
        if not items:
            raise Ended("empty")
        frame.held[target] = items.pop()

    def do_way(self, frame, way):
        """A way."""
        word = way[0]
        if word == "go":
            frame.go(way[1])
        elif word == "branch":
            frame.go(way[2] if self.value_of(frame, way[1]) else way[3])
        elif word == "switch":
            frame.go(way[2][self.spot_of(frame, way[1]).value()[0]])
        elif word == "par":
            frame.pars.extend([way[3], way[2]])
            frame.go(way[1])
        elif word == "join":
            frame.go(frame.pars.pop())
        else:
            self.do_return(frame.target)

    def do_return(self, target):
        """A return, to the local of the caller or out of the run."""
        value = self.end_call()
        if self.stack:
            self.stack[-1].held[target] = value
        else:
            self.result = value


def meaning(program, inputs, steps):
    """The triple (outs, word, result) of a run."""
    run = Run(program, inputs)
    try:
        run.go_on(steps)
    except Ended as ended:
        return (tuple(run.outs), ended.word, None)
    return (tuple(run.outs), "done", run.result)
