"""A fast machine that keeps its deeds."""

from touchroad.checks import check_book, check_memory_of, check_number, check_plan
from touchroad.errors import InvalidNumber, NotLet, Nothing
from touchroad.fastdeeds import after_fast, begun_stand, is_let_fast, let_deeds, plain_stand, step_of
from touchroad.values import is_integer, rebuilt


def check_from_zero(number):
    """Raise InvalidNumber for an integer below 0."""
    if not is_integer(number) or number < 0:
        raise InvalidNumber(rebuilt(number))


def struck_loads(book, stand, deed, following):
    """Return how many done loads a deed removed by striking, by the stands before and after it."""
    name, core = deed[0], deed[1]
    if name not in ("run", "drop", "in"):
        return 0
    rows, window = book[core], stand[0][core][5]
    left = following[0][core][5]
    if name == "run" and "ifzero" in [rows[entry[1]][0] for entry in window if entry[0] == deed[2]]:
        return 0
    return len([entry for entry in window[len(left):] if rows[entry[1]][0] == "load" and entry[4] is not None])


class Live:
    """A fast machine whose deeds are done by calls; it keeps the stand after each deed of its story."""

    def __init__(self, plan, book, memory):
        check_plan(plan)
        check_book(book)
        check_memory_of(plan, memory)
        self._plan = plan
        self._book = book
        self._memory = memory
        self._story = []
        self._stands = [begun_stand(plan, book, memory)]

    def __len__(self):
        return len(self._story)

    def __eq__(self, other):
        if not isinstance(other, Live):
            return False
        return self._plan == other._plan and self._book == other._book and self._stands[-1] == other._stands[-1]

    @property
    def plan(self):
        """The plan."""
        return self._plan

    @property
    def book(self):
        """The book."""
        return self._book

    @property
    def stand(self):
        """The fast stand that the deeds of the story led to."""
        return self._stands[-1]

    @property
    def story(self):
        """The tuple of the deeds that were done and not taken back."""
        return tuple(self._story)

    def deed(self, deed):
        """Do a deed; return the plain step that it is, None if it is none."""
        stand = self._stands[-1]
        if not is_let_fast(self._plan, self._book, stand, deed):
            raise NotLet(rebuilt(deed))
        self._story.append(deed)
        self._stands.append(after_fast(self._plan, self._book, stand, deed))
        return step_of(deed)

    def deeds(self):
        """Return the list of the deeds that are let."""
        return let_deeds(self._plan, self._book, self._stands[-1])

    def go(self, number, most):
        """Do so many deeds, each chosen by what is left of a number; return how many were done."""
        check_from_zero(number)
        check_from_zero(most)
        for _ in range(most):
            found = self.deeds()
            self.deed(found[number % len(found)])
            number = number // len(found)
        return most

    def back(self):
        """Take the last deed back; return it."""
        if len(self._story) == 0:
            raise Nothing(None)
        self._stands.pop()
        return self._story.pop()

    def twin(self):
        """Return a Live of its own with the same story."""
        twin = Live(self._plan, self._book, self._memory)
        twin._story.extend(self._story)
        twin._stands.extend(self._stands[1:])
        return twin

    def plain(self):
        """Return the plain stand that is seen."""
        return plain_stand(self._stands[-1])

    def steps(self):
        """Return the list of the plain steps that the deeds of the story are."""
        steps = [step_of(deed) for deed in self._story]
        return [step for step in steps if step is not None]

    def now(self, cell):
        """Return the word of a cell in the plain stand that is seen."""
        check_number(cell, 0, self._plan[0] - 1)
        return self.plain()[1][cell]

    def held(self, core, number):
        """Return the word of a register of a core in the plain stand that is seen."""
        check_number(core, 0, len(self._book) - 1)
        check_number(number, 0, 7)
        return self.plain()[0][core][1][number]

    def watch(self, cell):
        """Return the list of (index of a deed, word) for the deeds that changed the word of a cell."""
        check_number(cell, 0, self._plan[0] - 1)
        words = [plain_stand(stand)[1][cell] for stand in self._stands]
        return [(index, words[index + 1]) for index in range(len(self._story)) if words[index + 1] != words[index]]

    def taken_back(self):
        """Return how many done loads the deeds of the story removed by striking."""
        return sum([
            struck_loads(self._book, self._stands[index], deed, self._stands[index + 1])
            for index, deed in enumerate(self._story)
        ])
