"""The town: hands at their places, played round by round, and what is heard at a place."""


def run(hands, rounds, wires=None):
    letters = []
    for turn in range(1, rounds + 1):
        # The words are left out of the order: None and tuples may stand among them.
        said = sorted(said_in(turn, hands, wires), key=lambda letter: letter[1:3])
        deliver(turn, hands, said)
        letters.extend(said)
    return letters


def said_in(turn, hands, wires):
    said = []
    for place, hand in enumerate(hands):
        for path, to, word in hand.say(turn):
            said.append((turn, path, to if wires is None else wires[place][to], word))
    return said


def deliver(turn, hands, said):
    boxes = {}
    for letter in said:
        boxes.setdefault(letter[2], []).append((letter[1], letter[3]))
    for place, hand in enumerate(hands):
        hand.hear(turn, boxes.get(place, []))


def heard(letters, place):
    return [(letter[0], letter[1], letter[3]) for letter in letters if letter[2] == place]
