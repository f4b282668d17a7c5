"""Runs examples that are written as in the document."""


def blocks_of(text):
    """The examples of a text, each as a pair of its statements and what it shows."""
    blocks = []
    for block in text.strip("\n").split("\n\n"):
        lines = block.split("\n")
        statements = [line[4:] for line in lines if line.startswith(">>> ")]
        shown = [line for line in lines if not line.startswith(">>> ")]
        blocks.append((statements, "\n".join(shown)))
    return blocks


def outcome(statements):
    """What the last statement shows, or the error that it raises."""
    names = {}
    for statement in statements[:-1]:
        exec(statement, names)
    try:
        return repr(eval(statements[-1], names))
    except ValueError as error:
        return "raises " + error.__class__.__name__
