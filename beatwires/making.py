"""Circuits made of designs."""

from beatwires.bitnumbers import bit_names
from beatwires.circuits import Circuit
from beatwires.gatestore import GateStore
from beatwires.layouts import lay_out
from beatwires.netsteps import nets_of, number_nets, picked_nets, placed_at
from beatwires.rowchecks import check_numbers


class Made:
    """A circuit made of a module, and the names of the bits of its words."""

    def __init__(self, circuit, words, ins, outs):
        self.circuit = circuit
        self.words = words
        self._ins = ins
        self._outs = outs

    def row(self, numbers):
        """The row of bits for a dict of the numbers of the inputs."""
        check_numbers(self._ins, numbers)
        bits = {}
        for name, width in self._ins:
            for at, bit_name in enumerate(bit_names(name, width)):
                bits[bit_name] = (numbers[name] >> at) & 1
        return bits

    def numbers(self, bits):
        """The dict of the numbers of the outputs for a dict of their bits."""
        told = {}
        for name, width in self._outs:
            told[name] = sum([bits[bit_name] << at for at, bit_name in enumerate(bit_names(name, width))])
        return told


class Making:
    """The nets of the words of a layout, and the gates that they need."""

    def __init__(self, layout):
        self.layout = layout
        self.store = GateStore()
        self.nets = {name: bit_names(name, width) for name, width in layout.ins}
        self.stored = {}
        for name in layout.held:
            self.nets[name] = bit_names(name, layout.held[name].width)
        for name in layout.stores:
            store = layout.stores[name]
            self.stored[name] = [bit_names(f"{name}.{at}", store.width) for at in range(store.many_words)]
        for name in layout.ordered:
            self.nets[name] = self.of_program(layout.programs[name])

    def of_program(self, program):
        """The nets of a program."""
        return nets_of(program, self.nets, self.stored, self.store)

    def bit_of(self, program):
        """The net of a program of one bit; 1 if there is none."""
        return "1" if program is None else self.of_program(program)[0]

    def becoming(self, name):
        """The nets of what a register becomes."""
        held = self.layout.held[name]
        nets = self.nets[name]
        if held.becomes is not None:
            nets = picked_nets(self.bit_of(held.when), self.of_program(held.becomes), nets, self.store)
        asked = self.store.either([self.bit_of(program) for program in held.resets])
        return picked_nets(asked, number_nets(held.first, held.width), nets, self.store)

    def written(self, name):
        """The list of the nets of what the words of a memory become."""
        words = self.stored[name]
        for place, told, when in self.layout.stores[name].writes:
            place_nets = self.of_program(place)
            told_nets = self.of_program(told)
            asked = self.bit_of(when)
            goals = [self.store.both([asked, placed_at(place_nets, at, self.store)]) for at in range(len(words))]
            words = [picked_nets(goals[at], told_nets, nets, self.store) for at, nets in enumerate(words)]
        return words

    def register_triples(self):
        """The tuple of the registers of the circuit."""
        told = []
        for name in self.layout.held:
            held = self.layout.held[name]
            told = told + register_bits(self.nets[name], held.first, self.becoming(name))
        for name in self.layout.stores:
            first = self.layout.stores[name].first
            for at, nets in enumerate(self.written(name)):
                told = told + register_bits(self.stored[name][at], first, nets)
        return tuple(told)

    def bit_words(self):
        """The dict of the names of the bits of inputs, outputs, registers and words of memories."""
        told = {name: bit_names(name, width) for name, width in self.layout.ins + self.layout.outs}
        for name in self.layout.held:
            told[name] = bit_names(name, self.layout.held[name].width)
        for name in self.layout.stores:
            for at, names in enumerate(self.stored[name]):
                told[f"{name}.{at}"] = names
        return told


def register_bits(names, start, nets):
    """The list of the registers of the bits of a word."""
    return [(name, (start >> at) & 1, nets[at]) for at, name in enumerate(names)]


def make(design, title, /, *numbers):
    """The Made of a module of a design, with numbers for its widths."""
    layout = lay_out(design, title, numbers)
    making = Making(layout)
    inputs = [bit for name, width in layout.ins for bit in bit_names(name, width)]
    registers = making.register_triples()
    outputs = []
    for name, width in layout.outs:
        for at, bit in enumerate(bit_names(name, width)):
            outputs.append((bit, making.nets[name][at]))
    needed = [told[2] for told in registers] + [net for _, net in outputs]
    circuit = Circuit(tuple(inputs), registers, making.store.needed(needed), tuple(outputs))
    return Made(circuit, making.bit_words(), layout.ins, layout.outs)
