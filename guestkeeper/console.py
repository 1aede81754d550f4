"""A guest's console in one run: what it tells the guest, and what passes there."""

OUT = 0
IN = 1


class Console:
    # A console serves one run alone: each run begins anew with the first number of told.
    def __init__(self, told):
        self.told = told
        self.asked = 0
        # Kept flat, a kind and its number by turns, as it is answered.
        self.passed = []

    def cn_out(self, number):
        self.passed.append(OUT)
        self.passed.append(number)

    def cn_in(self):
        number = 0
        if len(self.told) > 0:
            number = self.told[self.asked % len(self.told)]
        self.asked = self.asked + 1
        self.passed.append(IN)
        self.passed.append(number)
        return number
