"""Lines: shelves that stand one behind the other over many calls."""

from shelfrows.errors import NoNumber, Nothing
from shelfrows.shelves import check_line, let_on
from shelfrows.texts import text_of
from shelfrows.wholes import is_whole

COME = "come"
MARK = "mark"
FINISH = "finish"


class Line:
    """Shelves one behind the other, upon which numbers come call by call."""

    def __init__(self, shelves):
        check_line(shelves)
        self._shelves = shelves
        self._standing = [[] for _ in shelves]
        self._out = []
        # Each number that stands on a shelf, or came out.
        self._there = {}
        # Of each call that can be taken back its name, what came, and what was ahead of it.
        self._done = []

    def come(self, number):
        """Put a number upon the first shelf; tell what comes out."""
        if not is_whole(number) or number in self._there:
            raise NoNumber("a number that comes is a whole one that was not there")
        self._remember(COME, number)
        self._there[number] = True
        return self._let_out(self._put_on(0, [number]))

    def mark(self):
        """Empty the shelves with a mark; tell what comes out, the mark last."""
        self._remember(MARK, None)
        return self._let_out(self._emptied() + [None])

    def finish(self):
        """Empty the shelves without a mark; tell what comes out."""
        self._remember(FINISH, None)
        return self._let_out(self._emptied())

    def standing(self):
        """Tell, shelf by shelf, what stands on it, as it rises."""
        return [sorted(numbers) for numbers in self._standing]

    def out(self):
        """Tell the row that came out."""
        return tuple(self._out)

    def back(self):
        """Take back the last call; tell its name."""
        if len(self._done) == 0:
            raise Nothing("there is no call that can be taken back")
        name, number, standing, many_out = self._done.pop()
        self._standing = standing
        del self._out[many_out:]
        if name == COME:
            del self._there[number]
        return name

    def twin(self):
        """Tell a line of its own that is as this one is."""
        other = Line(self._shelves)
        other._standing = self.standing()
        other._out = list(self._out)
        other._there = dict(self._there)
        return other

    def __len__(self):
        return len([number for numbers in self._standing for number in numbers])

    def __str__(self):
        return str(text_of(self._out))

    def __eq__(self, other):
        return (
            isinstance(other, Line)
            and self._shelves == other._shelves
            and self.standing() == other.standing()
            and self._out == other._out
        )

    def _remember(self, name, number):
        self._done.append((name, number, self.standing(), len(self._out)))

    def _let_out(self, parts):
        self._out.extend(parts)
        return parts

    def _emptied(self):
        """Empty the shelves, the first one first; tell what comes out."""
        came = []
        for at, (word, _) in enumerate(self._shelves):
            came.extend(self._put_on(at + 1, let_on(self._standing[at], word, 0)))
        return came

    def _put_on(self, first, numbers):
        """Put numbers upon a shelf, and what goes on upon those behind it; tell what comes out."""
        going = numbers
        for at in range(first, len(self._shelves)):
            going = self._past_one(at, going)
        return going

    def _past_one(self, at, numbers):
        word, places = self._shelves[at]
        gone = []
        for number in numbers:
            self._standing[at].append(number)
            gone.extend(let_on(self._standing[at], word, places))
        return gone
