"""Circuits made lean: without what is not needed, or told twice."""

from beatwires.circuitchecks import gates_in_order
from beatwires.circuits import Circuit
from beatwires.evidencerows import need_circuit
from beatwires.gatestore import GateStore


class NamedStore(GateStore):
    """Gates that get the names of those that they are made of."""

    def __init__(self):
        GateStore.__init__(self)
        self.title = ""

    def next_name(self):
        """The name of the next gate: that of the one that is looked at now, which gives one gate at most."""
        return self.title

    def gate_net(self, kind, nets):
        """The net that has the bit of a gate of a kind."""
        if kind == "not":
            return self.denied(nets[0])
        if kind == "and":
            return self.both(nets)
        if kind == "or":
            return self.either(nets)
        if kind == "xor":
            return self.odd(nets)
        return self.picked(nets[0], nets[1], nets[2])


class Leaning:
    """The nets that have the bits of those of a circuit, for all registers that were put in the place of others."""

    def __init__(self, circuit):
        self.circuit = circuit
        self.ordered = gates_in_order(circuit.gates)
        self.instead = {}
        self.store = NamedStore()
        self.nets = {}

    def settled(self, net):
        """The net in the place of an input, a register or a bit."""
        while net in self.instead:
            net = self.instead[net]
        return net

    def net_of(self, net):
        """The net in the place of a net."""
        return self.nets[net] if net in self.nets else self.settled(net)

    def work_out(self):
        """Puts the gates together anew."""
        self.store = NamedStore()
        self.nets = {}
        for name, kind, nets in self.ordered:
            self.store.title = name
            self.nets[name] = self.store.gate_net(kind, [self.net_of(net) for net in nets])

    def put_together(self):
        """Puts bits and other registers in the place of registers; tells whether there were some."""
        before = len(self.instead)
        seen = {}
        for name, start, net in self.circuit.registers:
            if name in self.instead:
                continue
            goal = self.settled(self.net_of(net))
            if goal in (name, str(start)):
                self.instead[name] = str(start)
            elif (start, goal) in seen:
                self.instead[name] = seen[start, goal]
            else:
                seen[start, goal] = name
        return len(self.instead) > before

    def lean_circuit(self):
        """The circuit of what leads to outputs."""
        gates = {gate[0]: gate for gate in self.store.gates}
        goals = {name: self.net_of(net) for name, _, net in self.circuit.registers if name not in self.instead}
        outputs = tuple([(name, self.net_of(net)) for name, net in self.circuit.outputs])
        needed = {net: True for _, net in outputs}
        waiting = list(needed)
        while waiting:
            name = waiting.pop()
            read = gates[name][2] if name in gates else [goals[name]] if name in goals else []
            for net in read:
                if net not in needed:
                    needed[net] = True
                    waiting.append(net)
        held = [(name, start, goals[name]) for name, start, _ in self.circuit.registers if name in goals]
        kept = [gates[name] for name, _, _ in self.circuit.gates if name in gates and name in needed]
        registers = tuple([told for told in held if told[0] in needed])
        return Circuit(self.circuit.inputs, registers, tuple(kept), outputs)


def lean(circuit):
    """The lean circuit that shows the same as a circuit."""
    need_circuit(circuit)
    leaning = Leaning(circuit)
    leaning.work_out()
    while leaning.put_together():
        leaning.work_out()
    return leaning.lean_circuit()
