"""Tuples of tuples: all choices of some members, what stands in their columns, their numbers."""


def choices(members, length):
    """The list of all tuples of so many members, ascending if members are."""
    found = [()]
    for _ in range(length):
        found = [chosen + (member,) for chosen in found for member in members]
    return found


def columns_of(rows):
    """The list of the tuples that stand in the columns of rows, which are one at least and of one length."""
    return [tuple([row[column] for row in rows]) for column in range(len(rows[0]))]


def number_of(many, values):
    """The number that the tuple of values has among all those of its length, ascending, of so many values."""
    number = 0
    for value in values:
        number = number * many + value
    return number


def are_of_one_length(rows):
    """Whether all rows are of one length."""
    return all([len(row) == len(rows[0]) for row in rows])
