"""What a cache holds while a program runs."""

from longestrun.right import line_of


class Held:
    """A cache, empty at first; of each set its lines, the one that was used last first."""

    def __init__(self, kind):
        self.kind = kind
        self.held = [[] for number in range(kind.sets)]

    def use(self, byte):
        """Uses the line of a byte, and tells whether it was a hit."""
        line = line_of(self.kind, byte)
        lines = self.held[line % self.kind.sets]
        hit = line in lines
        if hit:
            lines.remove(line)
        elif len(lines) == self.kind.ways:
            lines.pop()
        lines.insert(0, line)
        return hit
