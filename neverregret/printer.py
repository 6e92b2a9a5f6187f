"""The texts of tables, stocks, bounds, rows and logs."""

from neverregret.tables import kind_names, takers, type_names


def show_table(table):
    """Return the text of a table."""
    lines = []
    for name, lot in table.types:
        lines.append(" ".join([name + ":"] + [table.kinds[kind] for kind in lot]))
    untaken = [name for kind, name in enumerate(table.kinds) if not takers(table, kind)]
    if untaken:
        lines.append(" ".join([":"] + untaken))
    return "\n".join(lines)


def show_stock(table, stock):
    """Return the text of a stock."""
    return ", ".join([f"{name} {number}" for name, number in zip(kind_names(table), stock) if number != 0])


def show_bounds(table, bounds):
    """Return the text of bounds."""
    return ", ".join([f"{name} {bound}" for name, bound in zip(type_names(table), bounds) if bound is not None])


def show_row(table, row):
    """Return the text of a row."""
    names = type_names(table)
    words = []
    at = 0
    while at < len(row):
        end = at + 1
        while end < len(row) and row[end] == row[at]:
            end += 1
        words.append(names[row[at]] if end == at + 1 else f"{end - at} {names[row[at]]}")
        at = end
    return " ".join(words)


def show_log(table, row, serving):
    """Return the text of the log of a row and a serving."""
    names = type_names(table)
    pairs = []
    for request, kind in zip(row, serving):
        pairs.append(names[request] + " " + ("-" if kind is None else table.kinds[kind]))
    return ", ".join(pairs)
