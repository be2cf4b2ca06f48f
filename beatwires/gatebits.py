"""The kinds of gates, and the bits that they have."""

JOINING = ("and", "or", "xor")


def gate_bit(kind, bits):
    """The bit of a gate of a kind for the list of the bits of its nets."""
    if kind == "not":
        return 1 - bits[0]
    if kind == "and":
        return min(bits)
    if kind == "or":
        return max(bits)
    if kind == "xor":
        return sum(bits) & 1
    return bits[1] if bits[0] else bits[2]
