"""Watches: logs that grow, with marks, and with operations that can be undone."""

from sealwatch.cells import behind_step, first_cells
from sealwatch.errors import InvalidName, InvalidOperation, NoCourse, UnknownMark
from sealwatch.logs import Log
from sealwatch.plans import plan_of, step_of
from sealwatch.questions import answer
from sealwatch.tallies import state_count

LETTERS = "abcdefghijklmnopqrstuvwxyz"
LONGEST_NAME = 8


class Moment:
    """What a watch knows behind an operation; nothing of it is changed any more.

    The cells are those of the states at the end of the log; marked has the log and the cells of each mark.
    """

    def __init__(self, operation, story, cells, marked):
        self.operation = operation
        self.story = story
        self.cells = cells
        self.marked = marked


class Watch:
    """A log that grows by operations."""

    def __init__(self, house):
        story = Log(house, [])
        self.plan = plan_of(story)
        self.house = house
        # Tuples, as a trial keeps what they were.
        self.past = (Moment(None, story, first_cells(self.plan), {}),)
        self.undone = ()

    @property
    def marks(self):
        return sorted(list(self.past[-1].marked))

    @property
    def history(self):
        return [moment.operation for moment in self.past[1:]]

    def log(self):
        """The present log."""
        return self.past[-1].story

    def surely(self, sight):
        """Whether a sight is "always", "sometimes" or "never" true at the end of the log."""
        return answer(self.log(), sight)

    def add(self, row):
        """Add a row to the log; returns how many states there can be at the end then."""
        now = self.past[-1]
        story = now.story + [row]
        cells = behind_step(self.plan, step_of(self.house, row), now.cells, None)
        if len(cells) == 0:
            raise NoCourse("no course would fit the log")
        count = state_count(self.house, cells)
        self.execute(Moment(("add", row), story, cells, now.marked))
        return count

    def mark(self, name):
        """Mark the present log with a name; returns whether there was a mark with this name."""
        if not is_name(name):
            raise InvalidName("a name is one to eight letters a to z")
        now = self.past[-1]
        marked = dict(now.marked)
        marked[name] = (now.story, now.cells)
        self.execute(Moment(("mark", name), now.story, now.cells, marked))
        return name in now.marked

    def go(self, name):
        """Return to the log that was marked with a name; returns how many rows it has."""
        now = self.past[-1]
        if not is_name(name) or name not in now.marked:
            raise UnknownMark("nothing is marked with this name")
        story, cells = now.marked[name]
        self.execute(Moment(("go", name), story, cells, now.marked))
        return len(story)

    def execute(self, moment):
        """Go on to the moment behind a new operation; what was undone cannot be redone any more."""
        self.past = self.past + (moment,)
        self.undone = ()

    def undo(self):
        """Undo the last operation; returns whether there was one."""
        if len(self.past) == 1:
            return False
        self.undone = self.undone + self.past[-1:]
        self.past = self.past[:-1]
        return True

    def redo(self):
        """Execute the operation that was undone last once more; returns whether there was one."""
        if len(self.undone) == 0:
            return False
        self.past = self.past + self.undone[-1:]
        self.undone = self.undone[:-1]
        return True

    def apply_all(self, operations):
        """Execute operations, all of them or none; returns the list of their results."""
        need_operations(operations)
        with Trial(self) as trial:
            results = [result_of(self, operation) for operation in operations]
            trial.keep()
        return results

    def tried(self, operations, keep):
        """The results of operations, which stay in effect only if they are to be kept."""
        with Trial(self) as trial:
            results = self.apply_all(operations)
            if keep:
                trial.keep()
        return results

    @classmethod
    def replay(cls, house, operations):
        """A watch behind operations."""
        watch = cls(house)
        watch.apply_all(operations)
        return watch


class Saved:
    """What a trial needs at the end of a block: its watch at the beginning, and what it saved for a block around it."""

    def __init__(self, watch, kept, outer):
        self.past = watch.past
        self.undone = watch.undone
        self.kept = kept
        self.outer = outer


class Trial:
    """A block behind which a watch is as it was ahead of it, unless the trial is kept."""

    def __init__(self, watch):
        self.watch = watch
        self.kept = None
        self.saved = None

    def __enter__(self):
        self.saved = Saved(self.watch, self.kept, self.saved)
        self.kept = None
        return self

    def __exit__(self, kind, value, trace):
        watch = self.watch
        if self.kept is None:
            watch.past = self.saved.past
            watch.undone = self.saved.undone
            self.kept = self.saved.kept
        self.saved = self.saved.outer

    def keep(self):
        """Let what is done in the block stay."""
        self.kept = True


def is_name(name):
    """Whether a name is one to eight letters a to z."""
    if not isinstance(name, str) or not 1 <= len(name) <= LONGEST_NAME:
        return False
    return all([letter in LETTERS for letter in name])


def need_operations(operations):
    """Raise InvalidOperation for the first operation that is none."""
    for index, operation in enumerate(operations):
        if not is_operation(operation):
            raise InvalidOperation(index)


def is_operation(operation):
    """Whether this is a tuple of the name of an operation and as many arguments as it has."""
    if not isinstance(operation, tuple) or len(operation) == 0:
        return False
    if operation[0] in ("add", "mark", "go"):
        return len(operation) == 2
    return operation in (("undo",), ("redo",))


def result_of(watch, operation):
    """What a watch returns for an operation that it executes."""
    match operation:
        case ("add", row):
            return watch.add(row)
        case ("mark", name):
            return watch.mark(name)
        case ("go", name):
            return watch.go(name)
        case ("undo",):
            return watch.undo()
    return watch.redo()
