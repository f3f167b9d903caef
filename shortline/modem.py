"""The object that a line's calls are about, and what each call answers."""

from shortline.sender import Sender

DONE = 0
OUT_OF_RANGE = -2
MORE_THAN_MOST = -5

LEAST_CODES = 512
MOST_CODES = 65536
LEAST_LONGEST = 6
MOST_LONGEST = 250
MOST_OF_MOST = 16777216


# Each call gives back the list of the numbers that it answers.
class Modem:

    def __init__(self):
        self.sender = None

    def begin(self, codes, longest):
        if codes < LEAST_CODES or codes > MOST_CODES:
            return [OUT_OF_RANGE]
        if longest < LEAST_LONGEST or longest > MOST_LONGEST:
            return [OUT_OF_RANGE]
        self.sender = Sender(codes, longest)
        return [DONE]

    def put(self, most, row):
        if most > MOST_OF_MOST:
            return [OUT_OF_RANGE]
        trial = self.sender.copy()
        return self.settle(trial, trial.put(row), most)

    def flush(self, most):
        if most > MOST_OF_MOST:
            return [OUT_OF_RANGE]
        trial = self.sender.copy()
        return self.settle(trial, trial.flush(), most)

    # How many octets go is known only when they are made: they are made by a copy
    # of the sender, which takes its place unless they are too many.
    def settle(self, trial, octets, most):
        if len(octets) > most:
            return [MORE_THAN_MOST]
        self.sender = trial
        return [len(octets)] + octets
