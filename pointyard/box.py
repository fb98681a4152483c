"""What is kept of a yard while trains are in it.

The box does what it is told: whoever calls it has seen to it that the deed is not refused,
and calls `serve` behind each one.
"""

from pointyard.yards import check_yard


class Train:
    def __init__(self, piece):
        # From the hindmost piece to that of the head.
        self.stands = [piece]
        # In the order in which the train will come to them.
        self.ahead = []

    def head(self):
        return self.stands[-1]


class Box:
    def __init__(self, yard):
        check_yard(yard)
        self.yard = yard
        self.lies = [0 if points else None for points, ways in yard]
        # A train that has left stays as None, since its number is not given again.
        self.trains = []
        # Pairs (train, way), in the order in which they asked.
        self.waits = []
        # For each piece the train that stands on it or has it set ahead, so that asking
        # whether it is free does not take longer the more trains have come.
        self.keepers = [None for entry in yard]

    def is_free(self, piece):
        return self.keepers[piece] is None

    # Asked of any whole number: one below nought would index the list from its end.
    def has_piece(self, piece):
        return piece >= 0 and piece < len(self.yard)

    def has_train(self, number):
        return number >= 0 and number < len(self.trains) and self.trains[number] is not None

    def has_way(self, number, way):
        return way >= 0 and way < len(self.ways_of(number))

    def ways_of(self, number):
        return self.yard[self.trains[number].head()][1]

    def steps_of(self, number, way):
        return self.ways_of(number)[way]

    def is_waiting(self, number):
        return number in [train for train, way in self.waits]

    def is_busy(self, number):
        return self.is_waiting(number) or len(self.trains[number].ahead) > 0

    # `claimed` has the pieces of the ways of those that wait ahead.
    def is_barred(self, steps, claimed):
        for piece, lie in steps:
            if piece in claimed or not self.is_free(piece):
                return True
        return False

    # What is done behind every deed: all that wait are looked at once, in their order.
    def serve(self):
        still = []
        claimed = {}
        for number, way in self.waits:
            steps = self.steps_of(number, way)
            if self.is_barred(steps, claimed):
                still.append((number, way))
                for piece, lie in steps:
                    claimed[piece] = True
            else:
                self.set_way(number, steps)
        self.waits = still

    def set_way(self, number, steps):
        for piece, lie in steps:
            self.trains[number].ahead.append(piece)
            self.keepers[piece] = number
            # In a sound yard a step to a piece without points has None, which that piece has too.
            self.lies[piece] = lie

    def shows_free(self, piece):
        number = self.keepers[piece]
        if number is None:
            return False
        train = self.trains[number]
        return train.head() == piece and len(train.ahead) > 0

    def signals(self):
        return [self.shows_free(piece) for piece in range(len(self.yard))]

    def come(self, piece):
        number = len(self.trains)
        self.trains.append(Train(piece))
        self.keepers[piece] = number
        return number

    def ask(self, number, way):
        self.waits.append((number, way))

    def go(self, number):
        train = self.trains[number]
        piece = train.ahead.pop(0)
        train.stands.append(piece)
        return piece

    def draw(self, number):
        piece = self.trains[number].stands.pop(0)
        self.keepers[piece] = None
        return piece

    def back(self, number):
        self.waits = [wait for wait in self.waits if wait[0] != number]
        train = self.trains[number]
        self.give_free(train.ahead)
        train.ahead = []

    def leave(self, number):
        self.give_free(self.trains[number].stands)
        self.trains[number] = None

    def turn(self, piece):
        self.lies[piece] = 1 - self.lies[piece]
        return self.lies[piece]

    def give_free(self, pieces):
        for piece in pieces:
            self.keepers[piece] = None
