"""A search through calls: shorter runs are found first, and only what does not follow from what was found is kept."""

from heapq import heappop, heappush

from leastkeep.stairs import Stairs


class Trace:
    """A vector at a place, and the run that leads there.

    The run is that of a source, then a number, then the whole run of an inner
    trace: that of a function that is called by the number's row.
    """

    def __init__(self, place, vector, source, number, inner):
        self.place = place
        self.vector = vector
        self.source = source
        self.number = number
        self.inner = inner
        self.length = 0
        if source is not None:
            self.length = source.length + 1
        if inner is not None:
            self.length += inner.length

    def whole_run(self):
        """The numbers of the run, as a tuple."""
        found = []
        waiting = [self]
        while waiting:
            item = waiting.pop()
            if isinstance(item, Trace):
                if item.source is not None:
                    waiting.extend(item.parts_back())
            else:
                found.append(item)
        return tuple(found)

    def parts_back(self):
        """What the run of a trace with a source is made of, the last part first."""
        return [self.number, self.source] if self.inner is None else [self.inner, self.number, self.source]


class Traces:
    """Finds traces whose vectors have, at each place, the module of all vectors that were offered there."""

    def __init__(self, width):
        self.width = width
        self.offered = []
        self.queue = []
        self.kept = {}
        self.stairs = {}

    def offer(self, trace):
        """Let a trace be found once all that are shorter have been."""
        heappush(self.queue, (trace.length, len(self.offered)))
        self.offered.append(trace)

    def offer_all(self, traces):
        """Let each of a list of traces be found likewise."""
        for trace in traces:
            self.offer(trace)

    def next_found(self):
        """The shortest trace that does not follow from those that were found, or None if there is none left."""
        while self.queue:
            trace = self.offered[heappop(self.queue)[1]]
            if self._stairs_at(trace).take(trace.vector):
                self.kept.setdefault(trace.place, []).append(trace)
                return trace
        return None

    def at(self, place):
        """The list of the traces that were found at a place."""
        return list(self.kept.get(place, []))

    def _stairs_at(self, trace):
        size = len(trace.vector)
        if trace.place not in self.stairs:
            self.stairs[trace.place] = Stairs(self.width, size, size)
        return self.stairs[trace.place]
