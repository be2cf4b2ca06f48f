"""Circuits by chance, and answers about circuits by trying everything, tick by tick."""

import itertools

from beatwires.circuits import Circuit


def circuit(dice, registers, inputs, gates, outputs, head="r"):
    """A circuit by chance with so many registers, inputs, gates and outputs."""
    ins = tuple(f"i{at}" for at in range(inputs))
    names = [*ins, "0", "1", *[f"{head}{at}" for at in range(registers)]]
    told = []
    for at in range(gates):
        kind = dice.choice(["and", "or", "xor", "not", "pick"])
        many = {"not": 1, "pick": 3}.get(kind, dice.choice([2, 2, 3]))
        told.append((f"g{at}", kind, tuple(dice.choice(names) for _ in range(many))))
        names.append(f"g{at}")
    held = tuple((f"{head}{at}", dice.randint(0, 1), dice.choice(names)) for at in range(registers))
    dice.shuffle(told)
    return Circuit(ins, held, tuple(told), tuple((f"o{at}", dice.choice(names)) for at in range(outputs)))


def small(dice, least, most):
    """A circuit with so few registers that all can be tried, now and then one with many inputs, all of which are read."""
    if dice.random() < 0.8:
        return circuit(dice, dice.randint(least, most), dice.randint(0, 2), 6, 1)
    many = dice.randint(5, 6)
    one = circuit(dice, dice.randint(max(1, least), min(most, 3)), many, 6, 1)
    net = one.registers[0][2]
    gates = (("all", dice.choice(["xor", "and", "or"]), (*one.inputs, dice.choice(["r0", net]))),
             ("g", dice.choice(["pick", "pick"]), ("all", net, dice.choice(["i0", "r0", "1"]))))
    held = (one.registers[0][:2] + (dice.choice(["all", "g"]),), *one.registers[1:])
    return Circuit(one.inputs, held, one.gates + gates, one.outputs)


def all_rows(circuit):
    """All rows of a circuit."""
    return [dict(zip(circuit.inputs, bits)) for bits in itertools.product((0, 1), repeat=len(circuit.inputs))]


def all_states(circuit):
    """All states of a circuit."""
    return list(itertools.product((0, 1), repeat=len(circuit.registers)))


def state_layers(circuit):
    """The sets of states by the least number of ticks."""
    layers, found = [{circuit.starts()}], {circuit.starts()}
    while layers[-1]:
        ahead = {circuit.tick(state, row)[1] for state in layers[-1] for row in all_rows(circuit)} - found
        found |= ahead
        layers.append(ahead)
    return layers[:-1]


def unlike_after(one, other):
    """The dict from all pairs of states to the fewest rows that show an unlike output, without those that none shows."""
    rows = all_rows(one)
    firsts = {state: [one.tick(state, row) for row in rows] for state in all_states(one)}
    seconds = {state: [other.tick(state, row) for row in rows] for state in all_states(other)}
    found = {}
    pairs = [(first, second) for first in firsts for second in seconds]
    for many in range(1, len(pairs) + 2):
        new = {}
        for first, second in pairs:
            if (first, second) in found:
                continue
            for (told, to), (seen, on) in zip(firsts[first], seconds[second]):
                if many == 1 and told != seen or many > 1 and found.get((to, on)) == many - 1:
                    new[first, second] = many
                    break
        if not new:
            return found
        found.update(new)


def varied(circuit, names):
    """All states that differ from the starts in some registers at most."""
    return [tuple(bits) for bits in itertools.product(*[
        (0, 1) if name in names else (start,) for name, start, _ in circuit.registers])]


def states_of(diagram):
    """The set of tuples of bits that a diagram tells."""
    return {tuple(told[name] for name in diagram.order) for told in diagram.dicts()}


def joined(order, one, other, first, second):
    """The dict for the pair of two states."""
    bits = {f"one.{told[0]}": bit for told, bit in zip(one.registers, first)}
    bits.update({f"two.{told[0]}": bit for told, bit in zip(other.registers, second)})
    assert sorted(bits) == sorted(order)
    return bits
