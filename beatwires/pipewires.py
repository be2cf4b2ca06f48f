"""Pipes all of whose kinds have the same length as circuits, with registers of one bit."""

from beatwires.circuits import Circuit
from beatwires.formulachecks import check_named, parts_of
from beatwires.gatestore import GateStore
from beatwires.netsteps import placed_at
from beatwires.pipes import need_pipe
from beatwires.planerrors import BadPipe

SOURCES = ("one", "two")


def check_wiring(pipe, results):
    """Raises what is wrong with a pipe that is to be a circuit, and the formulas of the results of its kinds."""
    need_pipe(pipe)
    if len({pipe.kinds[kind][1] for kind in pipe.kinds}) > 1:
        raise BadPipe("kinds")
    if results is None:
        return
    if not isinstance(results, dict) or not all([kind in pipe.kinds for kind in results]):
        raise BadPipe("results")
    for kind in pipe.kinds:
        if kind in results:
            check_named(results[kind], read_names(pipe, kind))


def read_names(pipe, kind):
    """The list of what the result of a kind is made of: data, and the sources that the kind has."""
    return ["data"] + list(SOURCES[:pipe.kinds[kind][0]])


def formula_net(formula, nets, store):
    """The net of a formula for a dict of those of its names, put in a store."""
    if formula[0] == "name":
        return nets[formula[1]]
    if formula[0] == "bit":
        return str(formula[1])
    parts = [formula_net(part, nets, store) for part in parts_of(formula)]
    if formula[0] == "not":
        return store.denied(parts[0])
    if formula[0] == "and":
        return store.both(parts)
    if formula[0] == "or":
        return store.either(parts)
    if formula[0] == "xor":
        return store.odd(parts)
    return store.picked(parts[0], parts[1], parts[2])


def number_names(word, many):
    """The list of the names of the inputs that tell a number less than some."""
    return [f"{word}.bit{at}" for at in range((many - 1).bit_length())]


def told_nets(names, many, store):
    """The list of the nets that tell of each number less than some whether names tell it, the last one if too great."""
    told = [placed_at(names, at, store) for at in range(many - 1)]
    return told + [store.denied(store.either(told))]


class PipeWires:
    """The nets of what comes in at a tick, and the registers that are put together up to now."""

    def __init__(self, pipe, results):
        self.pipe = pipe
        self.results = {} if results is None else results
        self.store = GateStore()
        self.registers = []
        goals = number_names("goal", pipe.registers)
        kinds = number_names("kind", len(pipe.kinds))
        sources = [number_names(word, pipe.registers) for word in SOURCES]
        self.inputs = ["write", "data"] + kinds + goals + sources[0] + sources[1]
        self.kinds = dict(zip(pipe.kinds, told_nets(kinds, len(pipe.kinds), self.store)))
        self.goals = self.all_both("write", told_nets(goals, pipe.registers, self.store))
        self.sources = [told_nets(names, pipe.registers, self.store) for names in sources]

    def all_both(self, asked, nets):
        """The list of the nets that have 1 if a net and one of some nets have it."""
        return [self.store.both([asked, net]) for net in nets]

    def read(self, source, nets):
        """The net among some, one for each register, of the register that is the first or second source."""
        asked = self.sources[source]
        return self.store.either([self.store.both([asked[at], net]) for at, net in enumerate(nets)])

    def result_of(self, there):
        """The net of the result of what comes in, for the nets that are read in the place of the registers."""
        nets = {"data": "data"}
        for at, word in enumerate(SOURCES):
            nets[word] = self.read(at, there)
        told = []
        for kind in self.pipe.kinds:
            if kind in self.results:
                net = formula_net(self.results[kind], nets, self.store)
            else:
                net = self.store.odd([nets[name] for name in read_names(self.pipe, kind)])
            told.append(self.store.both([self.kinds[kind], net]))
        return self.store.either(told)

    def of_kinds(self, kinds):
        """The net that tells whether what comes in is of one of some kinds."""
        if len(kinds) == len(self.pipe.kinds):
            return "1"
        return self.store.either([self.kinds[kind] for kind in kinds])

    def put_plain(self, takes):
        """Puts in the registers of a plain machine that does what is taken; returns the net of its result."""
        names = [f"plain.{at}" for at in range(self.pipe.registers)]
        result = self.result_of(names)
        self.put_written(names, self.all_both(takes, self.goals), result)
        return result

    def put_written(self, names, goals, result):
        """Puts in registers, each of which gets a result if the net of its goal has 1."""
        for name, goal in zip(names, goals):
            self.registers.append((name, 0, self.store.picked(goal, result, name)))

    def wired(self, outputs):
        """The circuit with some outputs."""
        needed = [net for _, _, net in self.registers] + [net for _, net in outputs]
        return Circuit(tuple(self.inputs), tuple(self.registers), self.store.needed(needed), tuple(outputs))


class Stage:
    """The nets of what is under way for some ticks: of its goals, of the ways that it may have, and of its result."""

    def __init__(self, goals, ways, result):
        self.goals = goals
        self.ways = ways
        self.result = result


class PipeStages:
    """The stages of a pipe: nothing is held in them, so that results are written in the order of issue."""

    def __init__(self, wires):
        pipe = wires.pipe
        self.wires = wires
        self.store = wires.store
        self.names = [f"there.{at}" for at in range(pipe.registers)]
        self.ways = {way: [] for _, _, way in list(pipe.kinds.values()) if way is not None}
        for kind in pipe.kinds:
            if pipe.kinds[kind][2] is not None:
                self.ways[pipe.kinds[kind][2]].append(kind)
        self.stages = [self.stage(at) for at in range(1, pipe.kinds[list(pipe.kinds)[0]][1])]

    def stage(self, age):
        """The stage of what was issued so many ticks ago."""
        goals = [f"goal{age}.{at}" for at in range(self.wires.pipe.registers)]
        ways = {way: f"way{age}.{way}" for way in self.ways}
        for way in self.ways:
            # What all have needs no register.
            if self.wires.of_kinds(self.ways[way]) == "1":
                ways[way] = "1"
        return Stage(goals, ways, f"result{age}")

    def can_take(self, age):
        """The net that tells whether what was issued so many ticks ago can be taken."""
        stage = self.stages[age - 1]
        return self.store.either([stage.ways[way] for way in self.ways if way <= age])

    def there(self, at):
        """The net that is read in the place of a register: the last result that is there or can be taken."""
        told = self.names[at]
        for age in range(len(self.stages), 0, -1):
            stage = self.stages[age - 1]
            taken = self.store.both([stage.goals[at], self.can_take(age)])
            told = self.store.picked(taken, stage.result, told)
        return told

    def waits(self, at):
        """The net that tells whether the last result for a register is under way, and can't be taken."""
        told = "0"
        for age in range(len(self.stages), 0, -1):
            goal = self.stages[age - 1].goals[at]
            told = self.store.picked(goal, self.store.denied(self.can_take(age)), told)
        return told

    def takes(self):
        """The net that tells whether what comes in is not held."""
        pipe = self.wires.pipe
        if not pipe.holds:
            return "1"
        waits = [self.waits(at) for at in range(pipe.registers)]
        told = []
        for at in range(len(SOURCES)):
            asked = self.wires.of_kinds([kind for kind in pipe.kinds if pipe.kinds[kind][0] > at])
            told.append(self.store.both([asked, self.wires.read(at, waits)]))
        return self.store.denied(self.store.either(told))

    def put(self):
        """Puts in the registers of the pipe; returns the nets of whether it takes what comes in, and of its result."""
        wires = self.wires
        takes = self.takes()
        result = wires.result_of([self.there(at) for at in range(wires.pipe.registers)])
        ways = {way: wires.of_kinds(self.ways[way]) for way in self.ways}
        behind = Stage(wires.all_both(takes, wires.goals), ways, result)
        moved = []
        for stage in self.stages:
            moved.extend(list(zip(stage.goals, behind.goals)))
            moved.extend([(stage.ways[way], behind.ways[way]) for way in self.ways if stage.ways[way] != "1"])
            moved.append((stage.result, behind.result))
            behind = stage
        wires.put_written(self.names, behind.goals, behind.result)
        wires.registers.extend([(name, 0, net) for name, net in moved])
        return takes, result


def plain_circuit(pipe, results=None):
    """The circuit of a plain machine that does an instruction of a pipe at each tick."""
    check_wiring(pipe, results)
    wires = PipeWires(pipe, results)
    return wires.wired([("result", wires.put_plain("1"))])


def piped_circuit(pipe, results=None):
    """The circuit of a pipe."""
    check_wiring(pipe, results)
    wires = PipeWires(pipe, results)
    takes, result = PipeStages(wires).put()
    return wires.wired([("takes", takes), ("result", result)])


def checked_circuit(pipe, results=None):
    """The circuit of a pipe beside a plain machine that does what the pipe takes, and of whether they tell the same."""
    check_wiring(pipe, results)
    wires = PipeWires(pipe, results)
    takes, result = PipeStages(wires).put()
    unlike = wires.store.odd([result, wires.put_plain(takes)])
    return wires.wired([("takes", takes), ("same", wires.store.denied(wires.store.both([takes, unlike])))])
