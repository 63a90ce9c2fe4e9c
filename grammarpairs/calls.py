"""A list of calls, told by numbers, taken apart."""


class CallReader:
    """Takes calls' numbers and rows one behind another; the list itself stays as it is."""

    def __init__(self, told):
        self.told = told
        self.place = 0

    def has_more(self):
        return self.place < len(self.told)

    def take_number(self):
        taken = self.told[self.place]
        self.place += 1
        return taken

    def take_row(self):
        size = self.take_number()
        begin = self.place
        self.place = begin + size
        return self.told[begin:self.place]
