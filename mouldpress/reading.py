"""Reading of the one list of whole numbers in which the calls stand."""

# At the place of each call's number: how many whole numbers it has, then how many rows.
CALL_FORMS = (
    (0, 0),  # 0 create
    (2, 0),  # 1 add_machine
    (2, 0),  # 2 add_mould
    (1, 0),  # 3 remove_machine
    (1, 0),  # 4 remove_mould
    (3, 0),  # 5 set_machine
    (3, 0),  # 6 set_mould
    (2, 0),  # 7 fits
    (0, 0),  # 8 max_running
    (0, 0),  # 9 best_assignment
    (0, 0),  # 10 minimum_cover
    (0, 0),  # 11 max_deficiency
    (0, 1),  # 12 check_assignment
    (0, 2),  # 13 check_cover
    (0, 1),  # 14 neighbours
    (1, 0),  # 15 max_running_without
    (0, 0),  # 16 list_ratings
)


class Call:
    """One call: its number, its whole numbers and its rows."""

    def __init__(self, number, numbers, rows):
        self.number = number
        self.numbers = numbers
        self.rows = rows


class CallReader:
    """Goes through the list of calls from front to end, without changing it."""

    def __init__(self, calls):
        self.calls = calls
        self.position = 0

    def has_more(self):
        return self.position < len(self.calls)

    def take_number(self):
        number = self.calls[self.position]
        self.position += 1
        return number

    def take_numbers(self, how_many):
        start = self.position
        self.position += how_many
        return self.calls[start:self.position]

    def take_row(self):
        how_many = self.take_number()
        return self.take_numbers(how_many)

    def take_call(self):
        number = self.take_number()
        form = CALL_FORMS[number]
        numbers = self.take_numbers(form[0])
        rows = []
        while len(rows) < form[1]:
            rows.append(self.take_row())
        return Call(number, numbers, rows)


def read_calls(calls):
    """The calls that stand in the list, in their order."""
    reader = CallReader(calls)
    found = []
    while reader.has_more():
        found.append(reader.take_call())
    return found
