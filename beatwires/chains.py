"""Names that read names: in which order they can be worked out, and which ones can't."""


def order_of(reads):
    """The names of a dict, each one behind those of the dict that it reads.

    Names that lie in a ring, and those that read them, are left out.
    """
    readers = {name: [] for name in reads}
    waits = {}
    ready = []
    for name in reads:
        read = sorted({other for other in reads[name] if other in reads})
        waits[name] = len(read)
        for other in read:
            readers[other].append(name)
        if not read:
            ready.append(name)
    at = 0
    while at < len(ready):
        freed = readers[ready[at]]
        for name in freed:
            waits[name] = waits[name] - 1
            if waits[name] == 0:
                ready.append(name)
        at += 1
    return ready


def ring_in(reads, ordered):
    """A ring of names outside of an order by order_of, each of which reads the next one."""
    done = {name: True for name in ordered}
    name = [one for one in reads if one not in done][0]
    places = {}
    path = []
    while name not in places:
        places[name] = len(path)
        path.append(name)
        # What is left out always reads another one that is left out.
        name = [other for other in reads[name] if other in reads and other not in done][0]
    return path[places[name]:]
