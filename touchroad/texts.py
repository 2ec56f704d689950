"""Values as text."""


def spaced(items):
    """Return the text of items with one space between two of them."""
    return " ".join([str(item) for item in items])


def show_memory(memory):
    """Return the words of a memory."""
    return spaced(memory)


def show_registers(registers):
    """Return the registers, or variables, that are not 0, "-" if there are none."""
    shown = [f"r{number}={word}" for number, word in enumerate(registers) if word != 0]
    return spaced(shown) if len(shown) > 0 else "-"


def show_cores(texts, memory):
    """Return the texts of cores, or hands, and behind them a memory."""
    return " ; ".join(texts) + " | " + show_memory(memory)


def show_end(end):
    """Return the registers of each core and the memory of an end."""
    return show_cores([show_registers(registers) for registers in end[0]], end[1])


def show_run(run):
    """Return the steps of a list of plain steps, "-" if there are none."""
    return ", ".join([spaced(step) for step in run]) if len(run) > 0 else "-"


def show_core(core):
    """Return the text of a core of a plain stand."""
    row, registers, stores = core
    late = spaced([f"{cell}={word}" for cell, word in stores]) if len(stores) > 0 else "-"
    return f"{row}: {show_registers(registers)} < {late}"


def show_stand(stand):
    """Return the cores and the memory of a plain stand."""
    return show_cores([show_core(core) for core in stand[0]], stand[1])


def show_part(part):
    """Return the text of (source, paper)."""
    source, paper = part
    return ("start" if source == -1 else str(source)) + " " + show_paper(paper)


def show_paper(paper):
    """Return the text of a paper."""
    name = paper[0]
    if name == "read":
        return f"read {paper[1]}(" + ", ".join([show_part(part) for part in paper[2]]) + ")"
    if name == "first":
        return spaced(paper[:3]) + "(" + show_paper(paper[3]) + ", " + show_paper(paper[4]) + ")"
    if name == "ring":
        return spaced(paper[:2] + paper[2])
    return spaced(paper)


def show_block(statements):
    """Return the text of statements inside another one."""
    return "{ " + show_statements(statements) + " }" if len(statements) > 0 else "{ }"


def show_statement(statement):
    """Return the text of a statement."""
    if statement[0] == "if":
        return spaced(statement[:2]) + " " + show_block(statement[2]) + " " + show_block(statement[3])
    if statement[0] == "again":
        return spaced(statement[:2]) + " " + show_block(statement[2])
    return spaced(statement)


def show_statements(statements):
    """Return the text of one or more statements."""
    return " ; ".join([show_statement(statement) for statement in statements])


def show_program(program):
    """Return the text of a program."""
    return " || ".join([show_statements(hand) if len(hand) > 0 else "-" for hand in program])


def show_program_end(end):
    """Return the variables of each hand and the memory of a program end."""
    return show_cores([show_registers(words) for words in end[0]], end[1])


def show_call(call):
    """Return the text of a call."""
    hand, operation, answer, invoked, returned = call
    return spaced((hand,) + operation + ("-" if answer is None else answer, invoked, returned))


def show_history(history):
    """Return the calls of a history, "-" if there are none."""
    return " ; ".join([show_call(call) for call in history]) if len(history) > 0 else "-"
