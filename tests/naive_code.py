"""The plainest code machine, with the plainest store: word by word what point 32 says.

Nothing here imports the program. An activation is a dict; a register that has no node is not in it.
"""

from tests.naive_machine import HasToWait, IsRaised, NaiveMachine


class NaiveCodeMachine(NaiveMachine):

    def __init__(self, code, room=None):
        self.code = code
        NaiveMachine.__init__(self, ([f"G{k}" for k in range(code[0][0])], None), room)
        self.threads = [self.new_thread(0, self.given)]

    def activation(self, u, nodes):
        return {"unit": u, "registers": dict(enumerate(nodes)), "next": 0, "handlers": []}

    def new_thread(self, u, nodes):
        return {"stack": [self.activation(u, list(nodes))], "waits": None, "broken": None}

    def instruction(self, active):
        return self.code[active["unit"]][2][active["next"]]

    def status(self, number):
        thread = self.threads[number]
        if thread["broken"] is not None:
            return "broken"
        if thread["stack"] == []:
            return "done"
        if self.instruction(thread["stack"][-1])[0] == "choose":
            return "choosing"
        if thread["waits"] is not None and not self.store.is_bound(thread["waits"]):
            return "waiting"
        return "ready"

    def step(self, number):
        assert self.status(number) == "ready"
        self.steps += 1
        thread = self.threads[number]
        thread["waits"] = None
        active = thread["stack"][-1]
        word, *rest = self.instruction(active)
        active["next"] += 1
        try:
            getattr(self, "do_" + word)(thread, active, active["registers"], *rest)
        except HasToWait as why:
            active["next"] -= 1
            thread["waits"] = why.args[0]
        except IsRaised as why:
            self.throw(thread, why.args[0])
        if not self.start_due():
            thread["stack"], thread["broken"] = [], self.atoms["threads"]

    def throw(self, thread, node):
        while thread["stack"] and not thread["stack"][-1]["handlers"]:
            thread["stack"].pop()
        if not thread["stack"]:
            thread["broken"] = node
            return
        active = thread["stack"][-1]
        k, r = active["handlers"].pop()
        active["registers"][r] = node
        active["next"] = k

    def choose(self, number, second):
        active = self.threads[number]["stack"][-1]
        _, k = self.instruction(active)
        active["next"] = k if second else active["next"] + 1

    def enter(self, thread, procedure, passed):
        count, u, kept = procedure
        if count != len(passed):
            raise self.raised("arity")
        if len(thread["stack"]) == 200:
            raise self.raised("stack")
        thread["stack"].append(self.activation(u, passed + kept))

    # The instructions.

    def do_new(self, thread, active, nodes, r):
        self.room(1)
        nodes[r] = self.store.make("var")

    def do_builtin(self, thread, active, nodes, r, n):
        nodes[r] = len(self.given) + n

    def do_copy(self, thread, active, nodes, r, s):
        nodes[r] = nodes[s]

    def do_bind(self, thread, active, nodes, r, s):
        self.unify(nodes[r], nodes[s])

    def do_int(self, thread, active, nodes, r, n):
        self.room(1)
        self.unify(self.store.make("int", n), nodes[r])

    def do_atom(self, thread, active, nodes, r, a):
        self.room(1)
        self.unify(self.store.make("atom", a), nodes[r])

    def do_tuple(self, thread, active, nodes, r, a, rs):
        self.room(1)
        self.unify(self.store.make("tuple", a, tuple(nodes[s] for s in rs)), nodes[r])

    def do_proc(self, thread, active, nodes, r, u, count, rs):
        self.room(1)
        self.procedures.append((count, u, [nodes[s] for s in rs]))
        self.unify(self.store.make("name", "proc", len(self.procedures) - 1), nodes[r])

    def do_if(self, thread, active, nodes, r, k):
        value = self.wait(nodes[r])
        if value not in [("atom", "true"), ("atom", "false")]:
            raise self.raised("type")
        if value[1] == "false":
            active["next"] = k

    def do_caseint(self, thread, active, nodes, r, n, k):
        if self.wait(nodes[r]) != ("int", n):
            active["next"] = k

    def do_caseatom(self, thread, active, nodes, r, a, k):
        if self.wait(nodes[r]) != ("atom", a):
            active["next"] = k

    def do_casetuple(self, thread, active, nodes, r, a, rs, k):
        value = self.wait(nodes[r])
        if value[0] == "tuple" and value[1] == a and len(value[2]) == len(rs):
            nodes.update(zip(rs, value[2]))
        else:
            active["next"] = k

    def do_call(self, thread, active, nodes, *rest):
        # The other one gets a procedure and what is passed to it.
        r, rs = rest
        NaiveMachine.do_call(self, thread, nodes[r], [nodes[s] for s in rs])

    def do_op(self, thread, active, nodes, *rest):
        NaiveMachine.do_op(self, rest[0], *[nodes[r] for r in rest[1:]])

    def do_thread(self, thread, active, nodes, u, rs):
        self.start(u, [nodes[s] for s in rs])

    def do_need(self, thread, active, nodes, *rest):
        r, u, rs = rest
        NaiveMachine.do_need(self, nodes[r], u, [nodes[s] for s in rs])

    def do_try(self, thread, active, nodes, k, r):
        active["handlers"].append((k, r))

    def do_untry(self, thread, active, nodes):
        active["handlers"].pop()

    def do_raise(self, thread, active, nodes, r):
        raise IsRaised(nodes[r])

    def do_jump(self, thread, active, nodes, k):
        active["next"] = k

    def do_end(self, thread, active, nodes):
        thread["stack"].pop()
