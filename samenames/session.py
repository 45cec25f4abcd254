"""A session: it handles messages for a server in the order in which they come, a part at a time."""

from samenames.errors import Cancelled, InvalidEdit, UnknownFile
from samenames.server import Server

# The questions for which the offset has no effect.
WITHOUT_OFFSET = ("problems", "outline")


class Session:
    """Has a server of its own, and the messages that wait for it."""

    def __init__(self, program):
        self._server = Server(program)
        self._versions = {module: 0 for module in program}
        # The edits and questions that wait, and what is to be told.
        self._row = []
        self._news = []
        # By how much the number of computations is multiplied.
        self._factor = 1

    def receive(self, message):
        """Take a message."""
        if message[0] != "cancel":
            self._row.append(message)
            return
        left = [other for other in self._row if other[0] != "ask" or other[1] != message[1]]
        if len(left) < len(self._row):
            self._news.append(("cancelled", message[1]))
        self._row = left

    def work(self, count):
        """Work with a number of computations; return True if no message waits any more."""
        self._server.limit(count * self._factor)
        cut_off = False
        while self._row and not cut_off:
            try:
                self._news.append(self._handle(self._row[0]))
                self._row.pop(0)
            except Cancelled:
                cut_off = True
        if self._server.computations() > 0:
            self._factor = 1
        elif cut_off:
            self._factor *= 2
        return not self._row

    def told(self):
        """Return the list of what is to be told since the last call."""
        news = self._news
        self._news = []
        return news

    def program(self):
        """Return a dict with all texts."""
        return self._server.program()

    def version(self, module):
        """Return the version of a module. Raises UnknownFile."""
        if module not in self._versions:
            raise UnknownFile("there is no such module")
        return self._versions[module]

    def waiting(self):
        """Return the number of the messages that wait."""
        return len(self._row)

    def _handle(self, message):
        """Return what is to be told of an edit or a question. Raises Cancelled."""
        if message[0] == "edit":
            _, module, edit, version = message
            word = "accepted" if self._edited(module, edit, version) else "refused"
            return (word, module, version)
        _, number, question, module, offset = message
        return ("answer", number, self._answer(question, module, offset))

    def _edited(self, module, edit, version):
        """Do an edit; return False if it is not accepted."""
        if module not in self._versions or version != self._versions[module] + 1:
            return False
        try:
            self._server.edit(module, edit)
        except InvalidEdit:
            return False
        self._versions[module] = version
        return True

    def _answer(self, question, module, offset):
        """Return the answer to a question. Raises Cancelled."""
        if module not in self._versions:
            return "gone"
        if question not in WITHOUT_OFFSET and offset > len(self._server.text(module)):
            return "gone"
        match question:
            case "problems":
                return self._server.problems(module)
            case "outline":
                return self._server.outline(module)
            case "symbol":
                return self._server.symbol_at(module, offset)
            case "definition":
                return self._server.definition(module, offset)
            case "uses":
                return self._server.uses(module, offset)
            case "kind":
                return self._server.kind_at(module, offset)
            case _:
                return self._server.completions(module, offset)
