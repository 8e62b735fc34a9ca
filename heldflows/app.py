"""The app at the other end of a flow (points 300 and 301)."""


def first_state(flow):
    """Returns the state of the app of a flow before it has read any byte."""
    client, number = flow
    return (37 * client + 11 * number + 5) % 256


def answered(state, data):
    """Returns the pair of the state behind the bytes and the tuple of the answers to them."""
    answers = []
    for byte in data:
        answers.append((byte + state) % 256)
        state = (5 * state + byte + 1) % 256
    return state, tuple(answers)
