"""Spaces: all solutions of some equations of a sheet, given by rows in normal form."""

from lastheld.checks import check_equation, check_equations, check_field, check_fields
from lastheld.errors import NotDetermined, NotFree, OtherSheet
from lastheld.rationals import divided, number
from lastheld.rows import normal_form, pivot_place, remainder, rows_text


def all_places(sheet):
    """The places of the fields, in the sequence of the sheet."""
    return list(range(sheet.width))


class Space:
    """A sheet and rows in normal form."""

    def __init__(self, sheet, equations=()):
        check_equations(sheet, equations)
        self.home = sheet
        self.normal = normal_form(equations, all_places(sheet))

    @classmethod
    def joined(cls, first, *others):
        """The space of all equations of spaces of one sheet."""
        equations = []
        for at, space in enumerate((first, *others)):
            if space.sheet() != first.sheet():
                raise OtherSheet(at)
            equations.extend(space.rows())
        return cls(first.sheet(), equations)

    def __eq__(self, other):
        if not isinstance(other, Space):
            return False
        return self.home == other.home and self.normal == other.normal

    def __len__(self):
        return len(self.normal)

    def __repr__(self):
        return f"Space({self.home.fields()!r}, {rows_text(self.normal)})"

    def sheet(self):
        """The sheet."""
        return self.home

    def rows(self):
        """The list of the rows in normal form."""
        return list(self.normal)

    @property
    def freedom(self):
        """The number of fields minus the number of rows."""
        return self.home.width - len(self.normal)

    def with_equations(self, *equations):
        """The space with these equations as well."""
        for equation in equations:
            check_equation(self.home, equation)
        return Space(self.home, [*self.normal, *equations])

    def follows(self, equation):
        """Whether an equation follows from the rows."""
        return self.combination(equation) is not None

    def combination(self, equation):
        """The numbers, one for each row, with which an equation is the sum of the multiplied rows, or None."""
        check_equation(self.home, equation)
        order = all_places(self.home)
        if pivot_place(remainder(equation, self.normal, order), order) is not None:
            return None
        # Each row alone has a coefficient other than 0 at its pivot, so the pivots give the numbers.
        pivots = [pivot_place(row, order) for row in self.normal]
        return [number(equation[pivot], row[pivot]) for row, pivot in zip(self.normal, pivots)]

    def zero_fields(self):
        """The list of the fields that are 0 in every solution."""
        return self.determined([])

    def other_places(self, fields):
        """The places of all fields that are not in a list."""
        return [self.home.place(field) for field in self.home.fields() if field not in fields]

    def rows_behind(self, fields):
        """The rows in normal form if the fields of a list stood behind all others."""
        others = self.other_places(fields)
        places = [place for place in all_places(self.home) if place not in others]
        return normal_form(self.normal, others + places)

    def following(self, ranked):
        """The list of the fields that are determined by those before them, in a list of all fields."""
        # If pivots are searched from the last field on, each row has its pivot at the last field that it links.
        order = [self.home.place(field) for field in ranked[::-1]]
        pivots = [pivot_place(row, order) for row in normal_form(self.normal, order)]
        return [field for field in ranked if self.home.place(field) in pivots]

    def are_free(self, fields):
        """Whether fields are free together."""
        check_fields(self.home, fields)
        if len(set(fields)) != len(fields):
            return False
        # A row that links these fields alone has a pivot behind all other places.
        others = self.other_places(fields)
        return all([pivot_place(row, others) is not None for row in self.rows_behind(fields)])

    def solved_rows(self, fields):
        """From each other field that the listed ones determine to a row that links it with them alone."""
        others = self.other_places(fields)
        solved = {}
        for row in self.rows_behind(fields):
            linked = [place for place in others if row[place] != 0]
            if len(linked) == 1:
                solved[self.home.fields()[linked[0]]] = row
        return solved

    def determined(self, fields):
        """The list of all fields that some fields determine."""
        check_fields(self.home, fields)
        solved = self.solved_rows(fields)
        return [field for field in self.home.fields() if field in fields or field in solved]

    def defining_row(self, field, fields):
        """The row by which fields that are free together determine another field; None for one of themselves."""
        check_field(self.home, field)
        check_fields(self.home, fields)
        if not self.are_free(fields):
            raise NotFree(list(fields))
        if field in fields:
            return None
        solved = self.solved_rows(fields)
        if field not in solved:
            raise NotDetermined(field)
        return solved[field]

    def row_expression(self, row, field, fields):
        """The expression of a field by others, from a row that links it with them alone."""
        own = row[self.home.place(field)]
        coefficients = {given: number(-row[self.home.place(given)], own) for given in fields}
        return {given: coefficients[given] for given in fields if coefficients[given] != 0}

    def expression(self, field, fields):
        """The expression of a field by fields that are free together."""
        row = self.defining_row(field, fields)
        if row is None:
            return {field: 1}
        return self.row_expression(row, field, fields)

    def all_expressions(self, fields):
        """From each field to its expression by fields that are free together and determine all."""
        solved = self.solved_rows(fields)
        found = {}
        for field in self.home.fields():
            found[field] = self.row_expression(solved[field], field, fields) if field in solved else {field: 1}
        return found

    def identity(self, field, fields):
        """The numbers, one for each row, with which the multiplied rows add up to a field minus its expression."""
        row = self.defining_row(field, fields)
        if row is None:
            return [0 for own_row in self.normal]
        own = row[self.home.place(field)]
        return [divided(part, own) for part in self.combination(row)]

    def components(self):
        """The list of the components."""
        # The label of a field is the place of the first field of its component.
        labels = all_places(self.home)
        for row in self.normal:
            linked = [labels[place] for place in all_places(self.home) if row[place] != 0]
            labels = [min(linked) if label in linked else label for label in labels]
        fields = self.home.fields()
        parts = []
        for first in sorted(set(labels)):
            parts.append(tuple([field for field, label in zip(fields, labels) if label == first]))
        return parts
