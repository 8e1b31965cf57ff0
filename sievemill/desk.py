"""The desk: takes a list of calls and writes their answers."""

from sievemill.circuit import Circuit
from sievemill.reading import read_calls
from sievemill.refusals import BadArgument, NoCircuit, NoSuchClass, NoSuchValue, NothingThere, TooLarge


# Two functions, since all the calls in one would make it too long.
def ask_1_to_9(circuit, number, arguments):
    if number == 1:
        return circuit.set_breakage(arguments[0], arguments[1])
    if number == 2:
        return circuit.get_breakage(arguments[0])
    if number == 3:
        return circuit.set_feed(arguments[0])
    if number == 4:
        return circuit.load()
    if number == 5:
        return circuit.grind()
    if number == 6:
        return circuit.remove_finer(arguments[0])
    if number == 7:
        return circuit.get_amounts()
    if number == 8:
        return circuit.amount_up_to(arguments[0])
    return circuit.preview_grind(arguments[0])


def ask_10_to_19(circuit, number, arguments):
    if number == 10:
        return circuit.has_steady_state(arguments[0])
    if number == 11:
        return circuit.steady_input(arguments[0])
    if number == 12:
        return circuit.steady_product(arguments[0])
    if number == 13:
        return circuit.steady_load(arguments[0])
    if number == 14:
        return circuit.load_ratio(arguments[0])
    if number == 15:
        return circuit.simulate_rounds(arguments[0], arguments[1])
    if number == 16:
        return circuit.totals()
    if number == 17:
        return circuit.passes_needed(arguments[0], arguments[1])
    if number == 18:
        return circuit.coarsest_cut(arguments[0], arguments[1])
    return circuit.get_feed()


class Desk:
    def __init__(self):
        self.circuit = None

    # The new circuit is kept only once it is made: a refused create leaves the old one.
    def create(self, class_count):
        self.circuit = Circuit(class_count)
        return [0]

    def carry_out(self, number, arguments):
        if number == 0:
            return self.create(arguments[0])
        if self.circuit is None:
            raise NoCircuit()
        if number < 10:
            return ask_1_to_9(self.circuit, number, arguments)
        return ask_10_to_19(self.circuit, number, arguments)

    def answer(self, number, arguments):
        try:
            return self.carry_out(number, arguments)
        except NoCircuit:
            return [-11]
        except NoSuchClass:
            return [-2]
        except BadArgument:
            return [-22]
        except NoSuchValue:
            return [-33]
        except NothingThere:
            return [-6]
        except TooLarge:
            return [-75]


def answers(calls):
    desk = Desk()
    answered = []
    for number, arguments in read_calls(calls):
        result = desk.answer(number, arguments)
        answered.append(len(result))
        answered.extend(result)
    return answered
