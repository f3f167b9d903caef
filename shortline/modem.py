"""The object that a line's calls are about, and what each call answers."""

from shortline.receiver import Receiver, WrongOctets
from shortline.sender import Sender

DONE = 0
NO_SENDER_SENDS_IT = -1
OUT_OF_RANGE = -2
NOT_NOW = -3
MORE_THAN_MOST = -5

LEAST_CODES = 512
MOST_CODES = 65536
LEAST_LONGEST = 6
MOST_LONGEST = 250
MOST_OF_MOST = 16777216

TO_PLAIN = 0
TO_SHORT = 1


# Each call gives back the list of the numbers that it answers. What goes or comes, and
# whether it's refused, is known only when it is made: so it's made by a copy of the
# sender or the receiver, which takes its place unless the call is refused.
class Modem:

    def __init__(self):
        self.sender = None
        self.receiver = None

    def begin(self, codes, longest):
        if codes < LEAST_CODES or codes > MOST_CODES:
            return [OUT_OF_RANGE]
        if longest < LEAST_LONGEST or longest > MOST_LONGEST:
            return [OUT_OF_RANGE]
        self.sender = Sender(codes, longest)
        self.receiver = Receiver(codes, longest)
        return [DONE]

    def put(self, most, row):
        if most > MOST_OF_MOST:
            return [OUT_OF_RANGE]
        trial = self.sender.copy()
        return self.settle_sender(trial, trial.put(row), most)

    def flush(self, most):
        if most > MOST_OF_MOST:
            return [OUT_OF_RANGE]
        trial = self.sender.copy()
        return self.settle_sender(trial, trial.flush(), most)

    def mode(self, compressed, most):
        if most > MOST_OF_MOST or compressed > TO_SHORT:
            return [OUT_OF_RANGE]
        if self.sender.short == (compressed == TO_SHORT):
            return [NOT_NOW]
        trial = self.sender.copy()
        octets = trial.to_plain() if compressed == TO_PLAIN else trial.to_short()
        return self.settle_sender(trial, octets, most)

    def reset(self, most):
        if most > MOST_OF_MOST:
            return [OUT_OF_RANGE]
        if self.sender.short:
            return [NOT_NOW]
        trial = self.sender.copy()
        return self.settle_sender(trial, trial.reset(), most)

    def settle_sender(self, trial, octets, most):
        if len(octets) > most:
            return [MORE_THAN_MOST]
        self.sender = trial
        return [len(octets)] + octets

    def take(self, most, row):
        if most > MOST_OF_MOST:
            return [OUT_OF_RANGE]
        trial = self.receiver.copy()
        try:
            out = trial.take(row, most)
        except WrongOctets:
            return [NO_SENDER_SENDS_IT]
        if len(out) > most:
            return [MORE_THAN_MOST]
        self.receiver = trial
        return [len(out)] + out
