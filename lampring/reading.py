"""Reading a line: one list of whole numbers that tells calls one behind another."""


def read_calls(line):
    """The calls of the line, each a tuple of its number, its whole numbers and its lists."""
    calls = []
    at = 0
    while at < len(line):
        number = line[at]
        lists_at = at + 2 + line[at + 1]
        numbers = line[at + 2:lists_at]
        lists = read_lists(line, lists_at)
        calls.append((number, numbers, lists))
        # Before each list stands its count, and before all of them theirs.
        at = lists_at + 1 + sum([1 + len(row) for row in lists])
    return calls


def read_lists(line, at):
    """The lists whose count stands at that place."""
    lists = []
    start = at + 1
    for k in range(line[at]):
        end = start + 1 + line[start]
        lists.append(line[start + 1:end])
        start = end
    return lists
