"""Which moulds fit which machines, and how many can run at the same time."""


def fits(mould, machine):
    """True if the machine offers at least what the mould requires."""
    return mould[0] <= machine[0] and mould[1] <= machine[1]


def fitting_machines(mould, machines):
    """The indices of the machines that the mould fits, in ascending order."""
    return [j for j, machine in enumerate(machines) if fits(mould, machine)]


class Matching:
    """A valid assignment that grows by one mould at a time."""

    def __init__(self, moulds, machines):
        self.choices = [fitting_machines(mould, machines) for mould in moulds]
        self.mould_on = {}

    def place(self, mould, tried):
        """Place one more mould, moving others aside if needed; False if that can't be done.

        The calls within one another are at most one for each machine, as each
        machine is tried once.
        """
        for machine in self.choices[mould]:
            if machine in tried:
                continue
            tried[machine] = True
            if machine not in self.mould_on or self.place(self.mould_on[machine], tried):
                self.mould_on[machine] = mould
                return True
        return False


def count_running(moulds, machines):
    """The maximum size of a valid assignment."""
    matching = Matching(moulds, machines)
    for mould in range(len(moulds)):
        matching.place(mould, {})
    return len(matching.mould_on)
