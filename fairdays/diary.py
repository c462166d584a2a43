"""The leaf of a diary: its days, each with the names of the rules that have it."""

from fairdays.parts import part_of


def leaf(diary, first, last):
    # All rules are made into parts ahead of the first day: a wrong one is to
    # be refused also where no day is asked for.
    parts = [part_of(pair[1]) for pair in diary]
    if last < first:
        return []
    names = [pair[0] for pair in diary]
    all_marks = [part.marks() for part in parts]
    found = []
    for day in range(first, last + 1):
        had = names_of_day(names, all_marks, day)
        if len(had) > 0:
            found.append((day, had))
    return found


def names_of_day(names, all_marks, day):
    return [name for name, marks in zip(names, all_marks) if marks[day % len(marks)]]
