"""The agent (points 600 to 617)."""

from heldflows.forms import bucket_of
from heldflows.held import Held, held_of
from heldflows.ledger import Ledger
from heldflows.lives import FROZEN, HANDED, HELD, Lives
from heldflows.messages import is_message
from heldflows.tables import Table

CONTROLLER = ("controller",)


class Agent:
    """A birth of an agent, which holds flows and is the creator of buckets.

    Whether it is the creator of a bucket, the ledger knows; the notices to tell stand by the pairs of a flow and a
    life, so that a later one takes the place of an earlier one.
    """

    def __init__(self, agent, k):
        self._me = (agent, k)
        self._births = {agent: k}
        self._is_born = False
        self._table = Table()
        self._ledger = Ledger(self._me)
        self._lives = Lives(self._me)
        self._serial = 0
        self._orders = {}
        self._notices = {}

    def receive(self, message):
        """Takes any value; returns the list of what is sent, pairs of an address and a message."""
        if not is_message(("agent", self._me[0]), message):
            return []
        match message:
            case ("wrap", bucket, hops, packet):
                return self._take_wrap(bucket, hops, packet)
            case ("give", giver, bucket, version, receiver):
                return self._take_give(giver, bucket, version, receiver)
            case ("grant", sender, receiver, bucket, version, directory):
                return self._take_grant(sender, receiver, bucket, version, directory)
            case ("granted", _, receiver, bucket, version):
                return self._take_granted(receiver, bucket, version)
            case ("known", birth, bucket, version):
                return self._take_known(birth, bucket, version)
            case ("births", births):
                return self._take_births(births)
            case ("stop", bucket, version, births):
                return self._take_stop(bucket, version, births)
            case ("push", giver, order, many, receiver):
                return self._take_push(giver, order, many, receiver)
            case ("hand", sender, receiver, flow, life, epoch, picture):
                return self._take_hand(sender, receiver, flow, life, epoch, picture)
            case ("handed", _, receiver, flow, life, epoch):
                return self._take_handed(receiver, flow, life, epoch)
            case ("noted", receiver, flow, life, epoch):
                return self._take_noted(receiver, flow, life, epoch)
            case ("table", rows):
                return self._take_table(rows)
            case _:
                return self._take_notice(message)

    def tick(self):
        """Returns the list of what is sent at a tick, pairs of an address and a message."""
        sent = []
        if not self._is_born:
            sent.append((CONTROLLER, ("born", self._me)))
        for flow, _, known in self._lives.all_in(HELD):
            sent.extend(_to_client(flow, known.content.tick()))
        for grant in self._ledger.grants():
            sent.append(_to_agent(grant[2], grant))
        for flow, life, known in self._lives.all_in(FROZEN):
            sent.append(self._hand(flow, life, known))
        sent.extend(self._due_notices())
        for bucket, version in self._ledger.owns():
            sent.append((CONTROLLER, ("owns", self._me, bucket, version)))
        many = len(self._lives.all_in(HELD)) + len(self._lives.all_in(FROZEN))
        sent.append((CONTROLLER, ("held", self._me, many)))
        return sent

    def birth(self):
        """Returns the birth."""
        return self._me

    def lives(self):
        """Returns the list of the rows of the lives that are held."""
        return [(flow, life, known.epoch) for flow, life, known in self._lives.all_in(HELD)]

    def frozen(self):
        """Returns the list of the rows of the lives that are frozen."""
        return [(flow, life, known.epoch, known.place) for flow, life, known in self._lives.all_in(FROZEN)]

    def creates(self):
        """Returns the list of the pairs of a bucket of which it is the creator, and its version."""
        return self._ledger.creates()

    def directory(self, bucket):
        """Returns the tuple of the rows of a bucket, or None if it is not its creator."""
        return self._ledger.directory(bucket)

    def flows(self):
        """Returns the pair of the rows of the lives that are held and frozen, with what the apps have read."""
        return self._eaten_rows(HELD), self._eaten_rows(FROZEN)

    def eaten_of(self, flow, life):
        """Returns what the app of a life has read that is held or frozen, otherwise None."""
        known = self._lives.known(flow, life)
        return None if known is None else known.eaten_bytes()

    def _eaten_rows(self, status):
        return tuple([
            (flow, life, known.epoch, known.eaten_bytes()) for flow, life, known in self._lives.all_in(status)])

    def _is_dead(self, birth):
        return self._births.get(birth[0], 0) > birth[1]

    def _take_wrap(self, bucket, hops, packet):
        known = self._lives.find(HELD, packet)
        if known is not None:
            return self._serve(known.content, packet)
        known = self._lives.find(FROZEN, packet)
        if known is not None:
            return _passed_on(known.place, hops, packet)
        if self._ledger.is_creator(bucket):
            return self._look_up(bucket, hops, packet)
        known = self._lives.find(HANDED, packet)
        if known is not None and not self._is_dead(known.place):
            return _passed_on(known.place, hops, packet)
        pointer = self._live_pointer(bucket)
        return [] if pointer is None else _passed_on(pointer, hops, packet)

    def _serve(self, held, packet):
        if packet[0] != "no":
            return _to_client(held.flow(), held.take(packet))
        flow, life = packet[1:]
        self._lives.end(flow, life)
        epoch = self._lives.known(flow, life).epoch
        self._give_notice(("ended", self._me, flow, life, epoch))
        return []

    def _look_up(self, bucket, hops, packet):
        word, flow = packet[:2]
        row = self._ledger.row(bucket, flow)
        if row is not None and (word == "open" or packet[2] == row[0]):
            place = row[2]
            is_elsewhere = place != self._me and not self._is_dead(place)
            return _passed_on(place, hops, packet) if is_elsewhere else []
        if word == "open":
            return self._create(bucket, packet)
        if word == "up":
            return _to_client(flow, [("gone", flow, packet[2])])
        return []

    def _create(self, bucket, packet):
        flow = packet[1]
        self._serial += 1
        life = self._me + (self._serial,)
        held = Held(flow, life)
        self._lives.hold(held, 0)
        self._ledger.put(bucket, flow, (life, 0, self._me))
        return _to_client(flow, held.take(packet))

    def _live_pointer(self, bucket):
        """Returns the birth to which the bucket was given, if there is one that is not dead, otherwise None."""
        pointer = self._ledger.pointer(bucket)
        if pointer is None or self._is_dead(pointer):
            return None
        return pointer

    def _is_receiver(self, birth):
        return birth[0] != self._me[0] and not self._is_dead(birth)

    def _take_give(self, giver, bucket, version, receiver):
        is_mine = giver == self._me and self._ledger.is_creator(bucket)
        if is_mine and self._ledger.version(bucket) < version and self._is_receiver(receiver):
            rows = self._lives.corrected(self._ledger.directory(bucket))
            self._ledger.give(bucket, version, receiver, rows)
        return []

    def _take_grant(self, sender, receiver, bucket, version, directory):
        if receiver != self._me or (sender is not None and self._is_dead(sender)):
            return []
        # The ledger takes nothing that is not newer than what it knows.
        self._ledger.take(bucket, version, self._lives.corrected(directory))
        if sender is None:
            return []
        return [_to_agent(sender, ("granted", self._me, sender, bucket, version))]

    def _take_granted(self, receiver, bucket, version):
        if receiver == self._me:
            self._ledger.granted(bucket, version)
        return []

    def _take_known(self, birth, bucket, version):
        if birth == self._me:
            self._ledger.known(bucket, version)
        return []

    def _take_births(self, births):
        for agent, number in births:
            self._births[agent] = max(number, self._births.get(agent, 0))
        for flow, life, known in self._lives.all_in(FROZEN):
            if self._is_dead(known.place):
                self._lives.hand_on(flow, life)
        if self._me in births:
            self._is_born = True
        return []

    def _take_stop(self, bucket, version, births):
        self._take_births(births)
        if self._me not in births or not self._ledger.stop(bucket, version):
            return []
        return [(CONTROLLER, ("report", self._me, bucket, version, self._lives.rows(bucket)))]

    def _take_push(self, giver, order, many, receiver):
        if giver != self._me:
            return []
        sent = []
        if order not in self._orders and self._is_receiver(receiver):
            sent = self._freeze(many, receiver)
        # An order counts as had even if nothing could be done with it.
        self._orders[order] = True
        return sent + [(CONTROLLER, ("pushed", self._me, order))]

    def _freeze(self, many, receiver):
        sent = []
        for flow, life, _ in self._lives.all_in(HELD)[:many]:
            self._lives.freeze(flow, life, receiver)
            self._notices.pop((flow, life), None)
            sent.append(self._hand(flow, life, self._lives.known(flow, life)))
        return sent

    def _hand(self, flow, life, known):
        return _to_agent(known.place, ("hand", self._me, known.place, flow, life, known.epoch, known.content))

    def _take_hand(self, sender, receiver, flow, life, epoch, picture):
        if receiver != self._me or self._is_dead(sender):
            return []
        known = self._lives.known(flow, life)
        if known is None or known.epoch < epoch:
            self._lives.hold(held_of(flow, life, picture), epoch)
            self._give_notice(("moved", self._me, flow, life, epoch, self._me))
        return [_to_agent(sender, ("handed", self._me, sender, flow, life, epoch))]

    def _take_handed(self, receiver, flow, life, epoch):
        known = self._lives.known(flow, life)
        if receiver == self._me and known is not None and known.status == FROZEN and known.epoch == epoch:
            self._lives.hand_on(flow, life)
        return []

    def _give_notice(self, notice):
        flow, life = notice[2:4]
        # The earlier notice of the life has lost its place, also if this one does not have to be told.
        self._notices.pop((flow, life), None)
        if self._ledger.is_creator(bucket_of(flow)):
            self._ledger.note(notice)
        else:
            self._notices[(flow, life)] = notice

    def _take_notice(self, notice):
        sender, flow, life, epoch = notice[1:5]
        if self._is_dead(sender):
            return []
        bucket = bucket_of(flow)
        if self._ledger.is_creator(bucket):
            self._ledger.note(notice)
            return [_to_agent(sender, ("noted", sender, flow, life, epoch))]
        pointer = self._live_pointer(bucket)
        return [] if pointer is None else [_to_agent(pointer, notice)]

    def _take_noted(self, receiver, flow, life, epoch):
        notice = self._notices.get((flow, life))
        if receiver == self._me and notice is not None and notice[4] == epoch:
            del self._notices[(flow, life)]
        return []

    def _take_table(self, rows):
        self._table.take(rows)
        return []

    def _due_notices(self):
        sent = []
        for key in sorted(self._notices):
            notice = self._notices[key]
            bucket = bucket_of(key[0])
            if self._ledger.is_creator(bucket):
                self._give_notice(notice)
                continue
            birth = self._live_pointer(bucket) or self._table.birth(bucket)
            if birth is not None and birth != self._me:
                sent.append(_to_agent(birth, notice))
        return sent


def _to_agent(birth, message):
    return ("agent", birth[0]), message


def _to_client(flow, packets):
    return [(("client", flow[0]), packet) for packet in packets]


def _passed_on(birth, hops, packet):
    if hops == 0:
        return []
    return [_to_agent(birth, ("wrap", bucket_of(packet[1]), hops - 1, packet))]
