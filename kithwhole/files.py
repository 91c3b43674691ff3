"""Files that lose what was not flushed when power fails."""

BYTE = "byte"
SIZE = "size"


class File:
    """A list of bytes. Each appended byte, each truncation and each flush is a step."""

    def __init__(self):
        self._lasting = []
        self._content = []
        # For each step after the last flush a pair: a byte that is appended, or the size that is left.
        self._steps = []

    def write(self, data, steps):
        """Append bytes, at most as many as there are steps, and return how many were appended."""
        many = len(data) if steps is None else min(steps, len(data))
        for byte in data[:many]:
            self._content.append(byte)
            self._steps.append((BYTE, byte))
        return many

    def shorten(self, size, steps):
        """Truncate the file to its first bytes, if there is a step for that, and return the number of steps."""
        if steps == 0:
            return 0
        self._content = self._content[:size]
        self._steps.append((SIZE, size))
        return 1

    def flush(self, steps):
        """Make lasting what was done, if there is a step for that, and return the number of steps."""
        if steps == 0:
            return 0
        self._lasting = list(self._content)
        self._steps = []
        return 1

    def content(self):
        """Return the list of bytes, with what was not flushed."""
        return list(self._content)

    def pending(self):
        """Return the number of steps after the last flush."""
        return len(self._steps)

    def lose(self, steps):
        """Power fails: only the first steps after the last flush have arrived."""
        content = list(self._lasting)
        for word, number in self._steps[:steps]:
            if word == BYTE:
                content.append(number)
            else:
                content = content[:number]
        self._content = content
        self._lasting = list(content)
        self._steps = []
