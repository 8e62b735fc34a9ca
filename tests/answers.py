"""What the apps of flows answer, straight from the words of point 300."""


def answers_to(flow, data):
    """Returns what the app of the flow answers to these bytes from its first state on."""
    client, number = flow
    state = (37 * client + 11 * number + 5) % 256
    answers = ()
    for byte in data:
        answers += ((byte + state) % 256,)
        state = (5 * state + byte + 1) % 256
    return answers
