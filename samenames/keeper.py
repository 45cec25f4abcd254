"""Values of keys that are kept as long as they are right."""

from samenames.errors import Cancelled, CyclicKey, UnknownKey


class Run:
    """One call of `ask` that goes on."""

    def __init__(self):
        self.live = True


class Keeper:
    """Keeps values of keys: inputs that are put, and others that are computed from them."""

    def __init__(self, compute):
        self._function = compute
        self._now = 0
        # How many computations may still begin, or None.
        self._left = None
        # From keys to (value, revision in which it changed).
        self._inputs = {}
        # From keys to (value, keys asked for, revision checked, revision changed).
        self._entries = {}
        # From keys to the run that brings, or brought, them up to date.
        self._runs = {}
        # The keys for which the computation that goes on has asked, in order; None outside of all.
        self._asked = None
        self._ended = []

    def put(self, key, value):
        """Make the key an input with this value."""
        self._entries.pop(key, None)
        if key in self._inputs and self._inputs[key][0] == value:
            self._inputs[key] = (value, self._inputs[key][1])
            return
        self._now += 1
        self._inputs[key] = (value, self._now)

    def drop(self, key):
        """Drop an input. Raises UnknownKey."""
        if key not in self._inputs:
            raise UnknownKey("the key is no input")
        del self._inputs[key]
        self._now += 1

    def limit(self, count):
        """Limit the computations from now on to a number, or end the limit."""
        self._left = count

    def forget(self, key):
        """Drop the entry of a key, if it has one."""
        self._entries.pop(key, None)

    def forget_all(self):
        """Drop all entries."""
        self._entries = {}

    def revision(self):
        """Return the present revision."""
        return self._now

    def computed(self):
        """Return the keys that were computed to the end since the last call, in this order."""
        ended = self._ended
        self._ended = []
        return ended

    def kept(self):
        """Return the list of the keys that have entries."""
        return list(self._entries)

    def ask(self, key):
        """Return the value of a key, brought up to date. Raises Cancelled and CyclicKey.

        What has to be brought up to date first stands on a path of its own,
        so that a long chain of kept values needs no deep calls.
        """
        if self._asked is not None:
            self._asked[key] = True
        if key in self._inputs:
            return self._inputs[key][0]
        function = self._function
        outer = self._asked
        run = Run()
        try:
            path = [self._entered(key, run)]
            while path:
                last = path[-1]
                wanted = self._wanted(last)
                if wanted is not None and wanted != last[0]:
                    path.append(self._entered(wanted, run))
                    continue
                if wanted is not None:
                    self._begin()
                    value = function(self, wanted)
                    self._end(wanted, value)
                path.pop()
                del self._runs[last[0]]
        finally:
            # Whatever stands on the path is not brought up to date any more, also after an error.
            run.live = False
            self._asked = outer
        return self._entries[key][0]

    def _entered(self, key, run):
        """Begin to bring a key up to date; return it with the number of its keys that are done."""
        if key in self._runs and self._runs[key].live:
            raise CyclicKey("a key is needed for itself")
        self._runs[key] = run
        return [key, 0]

    def _wanted(self, step):
        """Return which key to compute, if it is that of the step, or else to bring up to date first; or None."""
        key = step[0]
        if key not in self._entries:
            return key
        value, needed, checked, changed = self._entries[key]
        if checked == self._now:
            return None
        while step[1] < len(needed):
            other = needed[step[1]]
            if other not in self._inputs and not self._is_checked(other):
                return other
            if self._changed(other) > checked:
                return key
            step[1] += 1
        self._entries[key] = (value, needed, self._now, changed)
        return None

    def _is_checked(self, key):
        """Return True if the key has an entry that was checked in the present revision."""
        return key in self._entries and self._entries[key][2] == self._now

    def _changed(self, key):
        """Return the revision in which a key changed last that is an input or up to date."""
        if key in self._inputs:
            return self._inputs[key][1]
        return self._entries[key][3]

    def _begin(self):
        """Begin a computation. Raises Cancelled if none is left."""
        if self._left == 0:
            raise Cancelled("no computations are left")
        if self._left is not None:
            self._left -= 1
        self._asked = {}

    def _end(self, key, value):
        """Keep what was computed."""
        changed = self._now
        if key in self._entries and self._entries[key][0] == value:
            changed = self._entries[key][3]
        self._entries[key] = (value, tuple(self._asked), self._now, changed)
        self._ended.append(key)
