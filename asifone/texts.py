"""Job texts: reading them, and writing them again."""

from asifone.drafts import Draft
from asifone.errors import TextError
from asifone.grammar import statement_of
from asifone.statements import end, tell
from asifone.tokens import comment_of
from asifone.writing import written_line


def job_of(text):
    """The job of a text; raises TextError with the first fault."""
    lines = text.split("\n")
    draft = Draft()
    for number, line in enumerate(lines, start=1):
        draft.line = number
        tell(draft, statement_of(number, line))
    end(draft, len(lines[-1]) + 1)
    return draft.job()


def checked(text):
    """None if the text has no fault, otherwise the tuple (line, column, message) of the first one."""
    try:
        job_of(text)
    except TextError as fault:
        return (fault.line, fault.column, fault.message)
    return None


def formatted(text):
    """The written form of a text; raises TextError with the first fault of the grammar."""
    lines = [
        written_line(statement_of(number, line), comment_of(line))
        for number, line in enumerate(text.split("\n"), start=1)
    ]
    return "\n".join(lines)
