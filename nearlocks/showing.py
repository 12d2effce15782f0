"""Plans and books as texts: words parted by one blank, rows by line feeds."""


def show_plan(plan):
    return "\n".join(group_rows(plan))


def group_rows(group):
    name, bound, members = group
    rows = [f"group {name} {bound}"]
    for member in members:
        if isinstance(member, str):
            rows.append(f"hand {member}")
        else:
            rows.extend(group_rows(member))
    rows.append("end")
    return rows


def show_book(book):
    rows = []
    for name, program in book:
        rows.append(f"program {name}")
        rows.extend([show_row(row) for row in program])
    return "\n".join(rows)


def show_row(row):
    # Only the looks of a take may be None, and a take without looks is its word alone.
    return " ".join([str(part) for part in row if part is not None])
