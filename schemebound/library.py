"""Libraries: schemes and questions under names, the changes of them, and the answers."""

from schemebound.bounds import linear_bound
from schemebound.errors import (
    InvalidQuestion, NameInUse, NothingToRedo, NothingToUndo, SchemeboundError, TooMany, UnknownName, UnknownPoint,
)
from schemebound.greatest import greatest
from schemebound.notation import tree_lines
from schemebound.questions import is_question
from schemebound.schemes import checked, kind_of, kind_table, point_count

MOST_LOTS = 20000


def require_question(asked, numbers):
    """Raise InvalidQuestion unless there are questions of this sort about so many numbers."""
    if not is_question(asked, len(numbers)):
        raise InvalidQuestion("there is no such question")


def decide_kind(tree, one, other):
    """The answer of the question for the kind of two points."""
    try:
        return ("kind", kind_of(tree, one, other))
    except UnknownPoint as unknown:
        return ("unknown", unknown.point)


def decide_greatest(tree, kinds):
    """The answer of the question for the greatest allowed lots."""
    try:
        return ("greatest", len(greatest(tree, kinds, limit=MOST_LOTS)))
    except InvalidQuestion:
        return ("refused",)
    except TooMany:
        return ("many", MOST_LOTS)


def decide_bound(tree, kinds):
    """The answer of the question for the linear bound."""
    try:
        return ("bound", *linear_bound(tree, kinds))
    except InvalidQuestion:
        return ("refused",)


def decide(asked, tree, numbers):
    """The answer of a question of this sort about a scheme and some numbers."""
    scheme = checked(tree)
    require_question(asked, numbers)
    if asked == "points":
        return ("points", point_count(scheme))
    if asked == "kind":
        return decide_kind(scheme, numbers[0], numbers[1])
    if asked == "greatest":
        return decide_greatest(scheme, numbers)
    return decide_bound(scheme, numbers)


def put(table, name, value):
    """Let a name of a table stand for a value, or for nothing if that is None."""
    if value is None:
        del table[name]
    else:
        table[name] = value


class Library:
    """Schemes and questions under names.

    Each change concerns one name of one table alone: so it is kept as this table, the name, and what the name stood
    for before and after it, None for nothing.
    """

    def __init__(self):
        self.decided = 0
        self.kept = 0
        self._schemes = {}
        self._questions = {}
        self._answers = {}
        self._done = []
        self._taken_back = []

    def _change(self, table, name, value):
        """Make a change: let a name of a table stand for a value, or for nothing if that is None."""
        self._done.append((table, name, table.get(name), value))
        self._taken_back = []
        put(table, name, value)

    def set_scheme(self, name, tree):
        """Set a scheme under a name."""
        self._change(self._schemes, name, checked(tree))

    def product(self, name, one, other):
        """Set the product of two schemes under a name."""
        first = self.scheme(one)
        second = self.scheme(other)
        self.set_scheme(name, ("product", first, second))

    def list_out(self, name, one):
        """Set the listed scheme with the table of a scheme under a name."""
        self.set_scheme(name, ("listed", kind_table(self.scheme(one))))

    def remove_scheme(self, name):
        """Remove a scheme that no question is about."""
        self.scheme(name)
        if any(question[1] == name for question in self._questions.values()):
            raise NameInUse(name)
        self._change(self._schemes, name, None)

    def ask(self, name, asked, one, numbers):
        """Ask a question under a name."""
        self.scheme(one)
        require_question(asked, numbers)
        self._change(self._questions, name, (asked, one, tuple(numbers)))

    def drop(self, name):
        """Drop a question."""
        self.question(name)
        self._change(self._questions, name, None)

    def undo(self):
        """Take back the last change that is not taken back."""
        if not self._done:
            raise NothingToUndo("there is no change to take back")
        step = self._done.pop()
        table, name, before, _ = step
        put(table, name, before)
        self._taken_back.append(step)

    def redo(self):
        """Make the change again that was taken back last."""
        if not self._taken_back:
            raise NothingToRedo("there is no change to make again")
        step = self._taken_back.pop()
        table, name, _, after = step
        put(table, name, after)
        self._done.append(step)

    def _make(self, told):
        """Make a change that is told by the name of its method and the arguments."""
        which, *values = told
        if which == "set_scheme":
            self.set_scheme(*values)
        elif which == "product":
            self.product(*values)
        elif which == "list_out":
            self.list_out(*values)
        elif which == "remove_scheme":
            self.remove_scheme(*values)
        elif which == "ask":
            self.ask(*values)
        elif which == "drop":
            self.drop(*values)
        else:
            raise InvalidQuestion("there is no such change")

    def change_all(self, changes):
        """Make several changes one after another, or none of them if one of them raises an error."""
        many = len(self._done)
        taken_back = list(self._taken_back)
        try:
            for told in changes:
                self._make(told)
        except SchemeboundError:
            while len(self._done) > many:
                self.undo()
            self._taken_back = taken_back
            raise

    def scheme_names(self):
        """The ascending list of the names of the schemes."""
        return sorted(self._schemes)

    def question_names(self):
        """The ascending list of the names of the questions."""
        return sorted(self._questions)

    def scheme(self, name):
        """The scheme of a name."""
        if name not in self._schemes:
            raise UnknownName(name)
        return self._schemes[name]

    def question(self, name):
        """The question of a name: the tuple of its sort, the name of a scheme, and the tuple of its numbers."""
        if name not in self._questions:
            raise UnknownName(name)
        return self._questions[name]

    def answer(self, name):
        """The answer of a question, computed only if no such question has been answered yet."""
        asked, one, numbers = self.question(name)
        tree = self.scheme(one)
        key = (asked, "\n".join(tree_lines(tree)), numbers)
        if key in self._answers:
            self.kept += 1
        else:
            self._answers[key] = decide(asked, tree, list(numbers))
            self.decided += 1
        return self._answers[key]

    def answers(self):
        """The list of the names and answers of all questions, in ascending order of the names."""
        return [(name, self.answer(name)) for name in self.question_names()]
