"""Gates that are put together, none where a net or a bit tells the same, and equal ones once."""

from beatwires.circuitchecks import MOST_NETS


class GateStore:
    """The gates that were needed up to now, each one behind those that it reads."""

    def __init__(self):
        self.gates = []
        self._named = {}
        self._denied = {}

    def gate(self, kind, nets):
        """The net of a gate of a kind over a tuple of nets; of several gates, if they are too many for one."""
        while len(nets) > MOST_NETS:
            nets = nets[MOST_NETS:] + (self.gate(kind, nets[:MOST_NETS]),)
        key = (kind, nets)
        if key not in self._named:
            name = self.next_name()
            self._named[key] = name
            self.gates.append((name, kind, nets))
        return self._named[key]

    def next_name(self):
        """The name of the next gate."""
        # No word of a design has this sign, so no bit of one has such a name.
        return f"g_{len(self.gates)}"

    def denied(self, net):
        """The net that has the other bit."""
        if net in ("0", "1"):
            return "1" if net == "0" else "0"
        if net not in self._denied:
            other = self.gate("not", (net,))
            self._denied[net] = other
            self._denied[other] = net
        return self._denied[net]

    def both(self, nets):
        """The net that has 1 if all nets of a list have it."""
        return self.joined("and", nets, "0", "1")

    def either(self, nets):
        """The net that has 1 if one net of a list has it."""
        return self.joined("or", nets, "1", "0")

    def joined(self, kind, nets, strong, weak):
        """The net of an and or an or, by the bit that settles it and the one that may be left out."""
        told = {net: True for net in nets if net != weak}
        if strong in told or any([self._denied.get(net, "") in told for net in told]):
            return strong
        kept = sorted(told)
        if not kept:
            return weak
        return kept[0] if len(kept) == 1 else self.gate(kind, tuple(kept))

    def odd(self, nets):
        """The net that has 1 if an odd number of nets of a list has it."""
        odd = {net: False for net in nets}
        for net in nets:
            odd[net] = not odd[net]
        turned = odd.get("1", False)
        kept = [net for net in sorted(odd) if odd[net] and net not in ("0", "1")]
        if not kept:
            return "1" if turned else "0"
        if len(kept) == 1:
            return self.denied(kept[0]) if turned else kept[0]
        return self.gate("xor", tuple(kept + (["1"] if turned else [])))

    def picked(self, asked, one, other):
        """The net that has the bit of one where asked has 1, and of the other where it has 0."""
        if asked in ("0", "1"):
            return one if asked == "1" else other
        if one == other:
            return one
        if one in ("1", asked):
            return self.either([asked, other])
        if other in ("0", asked):
            return self.both([asked, one])
        if (one, other) == ("0", "1"):
            return self.denied(asked)
        return self.gate("pick", (asked, one, other))

    def needed(self, nets):
        """The tuple of the gates that some nets read, in one or more steps."""
        wanted = {net: True for net in nets}
        kept = []
        for gate in reversed(self.gates):
            if gate[0] in wanted:
                kept.append(gate)
                for net in gate[2]:
                    wanted[net] = True
        return tuple(kept[::-1])
