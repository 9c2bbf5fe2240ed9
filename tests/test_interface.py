"""The names, arguments and default values of the interface, each defined in the file that the document tells."""

import ast
import importlib
import inspect
import unittest

INTERFACE = {
    "data.keys": "is_key(data) is_value(data) is_range(start,end) key_in(key,start,end) rows_in(rows,start,end)",
    "data.deeds": "is_deed(data) apply_deed(rows,deed)",
    "data.deals": "is_deal(data) keys_of(deal) do_deal(rows,deal)",
    "data.parts": "part_of(deal,keys) keys_of_part(part) try_part(rows,part) write_rows(rows,writes) join_parts(tried)",
    "data.store": "Store(rows=None) Store.do(deal) Store.fork()",
    "packing.packs": "pack(data) unpack(octets)",
    "packing.frames": "checksum(octets) frame(payload) read_frames(octets)",
    "journal.journal": "Journal() Journal.append(payload) Journal.sync() Journal.crash(count) Journal.payloads()"
                       " Journal.image() Journal.frame_count Journal.synced_frames Journal.octet_count"
                       " Journal.synced_octets Journal.fork() read_journal(octets)",
    "bag.bag": "Bag() Bag.send(sender,receiver,body) Bag.message(number) Bag.take(number) Bag.drop(number)"
               " Bag.is_cut(number) Bag.double(number) Bag.numbers() Bag.cut(sender,receiver)"
               " Bag.heal(sender,receiver) Bag.links() Bag.fork()",
    "voting.ballots": "is_members(members,size) more_than_half(members,indexes) next_ballot(after,index)",
    "voting.acceptor": "Acceptor(promised=(0,0),accepted=None) Acceptor.hears(ballot) Acceptor.promise(ballot)"
                       " Acceptor.accept(ballot,entry) Acceptor.fork()",
    "voting.attempt": "Attempt(ballot,entry,members) Attempt.hear_promise(index,accepted) Attempt.hear_vote(index)"
                      " Attempt.fork()",
    "voting.votes": "choice_of(members,votes) grounds_of(members,votes) are_grounds(members,votes,grounds)"
                    " unlawful_ballot(members,votes)",
    "ledger.entries": "members_of_slot(first_members,row,slot) batch_of(commands) commands_of(entry)",
    "ledger.diary": "Diary() Diary.apply(command) Diary.settled(command)",
    "ledger.record": "Record() Record.do(update) Record.upto record_of(payloads)",
    "ledger.node": "Node(index,size,first_members,make_machine,lazy) Node.upto Node.members_now Node.offer(command)"
                   " Node.offer_members(members) Node.receive(sender,body) Node.tick() Node.sync() Node.crash(count)"
                   " Node.restart() Node.wipe() Node.sends() Node.letters() Node.new_votes() Node.fork(make_machine)",
    "ledger.tally": "Tally(first_members) Tally.add(slot,index,ballot,entry) Tally.members_of(slot)"
                    " Tally.votes_of(slot) Tally.fork()",
    "keeper.pieces": "Piece(start,end,state,epoch,cell) Piece.as_row() first_pieces(cell,ranges)"
                     " piece_at(pieces,key) cut_at(pieces,key)",
    "keeper.keeper": "Keeper(cell,ranges) Keeper.apply(command) Keeper.settled(command) Keeper.orders()"
                     " Keeper.answer_of(client,number) Keeper.verdict_of(client,number) Keeper.piece_rows()"
                     " Keeper.key_rows() Keeper.lock_rows() Keeper.hold_rows() Keeper.home_rows()"
                     " Keeper.leaving_rows() Keeper.took(mover) Keeper.refused(mover) Keeper.decided_rows()"
                     " Keeper.writes_of(client,number)",
    "clients.beliefs": "first_beliefs(ranges) cell_of(beliefs,key) learned(beliefs,hint) places_of(beliefs,names)",
    "clients.client": "OpenCall(number,deal,places) OpenCall.home OpenCall.request() Client(ranges)"
                      " Client.begin(deal) Client.hear(number,answer)",
    "clients.history": "History() History.ask(client,number,deal) History.close(client,number,answer) History.rows()",
    "errors": "CrossError Malformed OutOfRange NotDeal NoMessage LinkCut NoNode NodeDown NodeUp NodeGone NoClient"
              " CallOpen NoCall",
    "world.endpoints": "endpoint_of(cell,index) cell_at(endpoint) index_at(endpoint) is_client(endpoint)",
    "world.plan": "Plan(sizes,members,ranges,lazy)",
    "world.station": "Station(cell,index,plan) Station.endpoint Station.receive(sender,body) Station.tick()"
                     " Station.restart() Station.forget() Station.outgoing()",
    "world.onlooker": "Onlooker(plan) Onlooker.see(cell,index,votes) Onlooker.commands()",
    "world.world": "World(sizes,members,ranges,lazy) World.deliver(number) World.drop(number) World.double(number)"
                   " World.cut(sender,receiver) World.heal(sender,receiver) World.tick(endpoint) World.sync(endpoint)"
                   " World.crash(endpoint,count) World.restart(endpoint) World.wipe(endpoint)"
                   " World.members(endpoint,members) World.give(endpoint,bounds,target)"
                   " World.call(client,deal,index) World.again(client,index) World.calm(rounds) World.perform(call)",
    "judge.replay": "Replay(ranges,cells) Replay.apply(cell,command) replay_of(world) servers_of(keepers,key)"
                    " whole_rows(keepers)",
    "judge.explain": "fault_of(history,order) store_behind(history,order)",
    "judge.search": "find_order(history)",
    "script.lines": "write_call(call) read_call(line) write_script(calls) read_script(text)",
    "script.runs": "run(world,calls) shorten(calls,fails)",
    "script.explore": "explore(make_world,choices,depth,wanted)",
    "audit.rows": "row_of_votes(first_members,votes)",
    "audit.accesses": "Trace(cell,ranges,row)",
    "audit.audit": "sorted_names(names,pairs) audit(plan,votes,history)",
}

VALUES = {
    "data.keys": {"KEY_SIGNS": 8, "VALUE_SIGNS": 20, "MOST_VALUE": 10 ** 15},
    "data.deeds": {"MOST_NUMBER": 10 ** 9},
    "data.deals": {"MOST_CHECKS": 4, "MOST_DEEDS": 6},
    "packing.packs": {"MOST_DEPTH": 40, "MOST_INTEGER": 10 ** 18},
    "packing.frames": {"MOST_PAYLOAD": 65535, "FRAME_HEAD": 6},
    "voting.ballots": {"NO_BALLOT": (0, 0), "MOST_ROUND": 9999, "MOST_MEMBERS": 5},
    "ledger.entries": {"MOST_BATCH": 8, "MOST_WAITING": 16, "MOST_GIVEN": 30},
    "keeper.pieces": {"OWN": "own", "LEAVING": "leaving", "AWAY": "away"},
    "world.endpoints": {"CLIENTS": 4, "MOST_CELLS": 4},
    "judge.search": {"MOST_CALLS": 8},
    "script.lines": {"WORD_SIGNS": 12},
}


def told_by(name, thing):
    """A name with its arguments and default values, as the table has it."""
    if isinstance(thing, property) or (isinstance(thing, type) and issubclass(thing, ValueError)):
        return name
    arguments = str(inspect.signature(thing)).replace(" ", "")
    return name + arguments.replace("(self)", "()").replace("(self,", "(")


class Interface(unittest.TestCase):
    def each(self):
        for module_name, listed in INTERFACE.items():
            module = importlib.import_module("crosskeep." + module_name)
            for told in listed.split():
                yield module, told, told.partition("(")[0]

    def test_names_and_arguments(self):
        for module, told, name in self.each():
            holder, _, method = name.partition(".")
            # A method of a base class would not do.
            thing = vars(vars(module)[holder])[method] if method else vars(module)[holder]
            self.assertEqual(told_by(name, thing), told)

    def test_values(self):
        for module_name, values in VALUES.items():
            module = importlib.import_module("crosskeep." + module_name)
            for name, value in values.items():
                self.assertEqual(getattr(module, name), value, name)

    def test_each_is_defined_in_its_file(self):
        for module, _, name in self.each():
            tree = ast.parse(inspect.getsource(module))
            defined = [node.name for node in tree.body if isinstance(node, (ast.FunctionDef, ast.ClassDef))]
            self.assertIn(name.partition(".")[0], defined)


if __name__ == "__main__":
    unittest.main()
