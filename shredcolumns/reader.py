"""A text that is read from its beginning to its end, sign by sign."""

from shredcolumns.refusals import WrongText

# No byte is below 0, so this is unlike every sign that is asked for.
BEHIND_THE_END = -1


class Reader:
    def __init__(self, text):
        self.text = text
        self.place = 0

    def peek(self):
        if self.place < len(self.text):
            return self.text[self.place]
        return BEHIND_THE_END

    def step(self):
        self.place += 1

    def take(self, sign):
        if self.peek() != sign:
            return False
        self.step()
        return True

    def take_all(self, signs):
        end = self.place + len(signs)
        if self.text[self.place:end] != signs:
            return False
        self.place = end
        return True

    def expect(self, sign):
        if not self.take(sign):
            raise WrongText()

    def expect_end(self):
        if self.place != len(self.text):
            raise WrongText()
