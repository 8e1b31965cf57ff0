"""The desk: takes a list of calls and writes their answers."""

from sievemill.circuit import Circuit
from sievemill.reading import read_calls
from sievemill.refusals import BadArgument, NoCircuit, NoSuchClass, TooLarge


def ask(circuit, number, arguments):
    if number == 1:
        return circuit.set_breakage(arguments[0], arguments[1])
    if number == 2:
        return circuit.get_breakage(arguments[0])
    if number == 3:
        return circuit.set_feed(arguments[0])
    if number == 4:
        return circuit.load()
    if number == 5:
        return circuit.grind()
    if number == 6:
        return circuit.remove_finer(arguments[0])
    if number == 7:
        return circuit.get_amounts()
    if number == 8:
        return circuit.amount_up_to(arguments[0])
    return circuit.preview_grind(arguments[0])


class Desk:
    def __init__(self):
        self.circuit = None

    # The new circuit is kept only once it is made: a refused create leaves the old one.
    def create(self, class_count):
        self.circuit = Circuit(class_count)
        return [0]

    def carry_out(self, number, arguments):
        if number == 0:
            return self.create(arguments[0])
        if self.circuit is None:
            raise NoCircuit()
        return ask(self.circuit, number, arguments)

    def answer(self, number, arguments):
        try:
            return self.carry_out(number, arguments)
        except NoCircuit:
            return [-11]
        except NoSuchClass:
            return [-2]
        except BadArgument:
            return [-22]
        except TooLarge:
            return [-75]


def answers(calls):
    desk = Desk()
    answered = []
    for number, arguments in read_calls(calls):
        result = desk.answer(number, arguments)
        answered.append(len(result))
        answered.extend(result)
    return answered
