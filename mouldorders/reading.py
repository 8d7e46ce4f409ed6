"""Takes the one list of numbers that is handed in apart into calls."""

# At the place of each call's number: its name, how many single numbers it
# has, and whether a row stands behind them.
FORMS = (
    ("create", 0, False),
    ("add_mould", 3, False),
    ("remove_mould", 1, False),
    ("set_mould", 4, False),
    ("set_demand", 2, False),
    ("set_all_demand", 0, True),
    ("min_shots", 0, False),
    ("best_plan", 0, False),
    ("surplus", 0, False),
    ("check_plan", 0, True),
    ("best_prices", 1, False),
    ("check_prices", 1, True),
    ("duality_gap", 1, False),
    ("min_shots_without", 1, False),
    ("min_shots_if", 2, False),
    ("make_shots", 2, False),
    ("min_shots_with_only", 1, False),
    ("describe", 0, False),
)


class Call:
    def __init__(self, name, singles, row, end):
        self.name = name
        self.singles = singles
        self.row = row
        self.end = end


def read_calls(numbers):
    found = []
    place = 0
    while place < len(numbers):
        call = read_call(numbers, place)
        found.append(call)
        place = call.end
    return found


def read_call(numbers, place):
    form = FORMS[numbers[place]]
    behind = place + 1 + form[1]
    singles = numbers[place + 1:behind]
    if not form[2]:
        return Call(form[0], singles, [], behind)
    end = behind + 1 + numbers[behind]
    return Call(form[0], singles, numbers[behind + 1:end], end)
