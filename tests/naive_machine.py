"""The plainest machine, with the plainest store: word by word what points 12 to 16 say.

Nothing here imports the program. A thread is a dict; its frames are (statement, nodes) or ("handler", x, t, nodes).
"""

from tests import naive
from tests.naive_store import CannotBe, NaiveStore

BUILT_IN = ["Wait", "IsDet", "NewCell", "Exchange", "NewPort", "Send", "Label", "Width", "Part"]
PARAMETERS = {"Wait": 1, "IsDet": 2, "NewCell": 2, "Exchange": 3, "NewPort": 2, "Send": 2, "Label": 2, "Width": 2,
              "Part": 3}
ATOMS = ["failure", "type", "arity", "range", "threads", "memory", "stack"]


class HasToWait(Exception):
    pass


class IsRaised(Exception):
    pass


class NaiveMachine:

    def __init__(self, program, room=None):
        given, statement = program
        self.store = NaiveStore()
        nodes = {x: self.store.make("var") for x in given}
        self.given = list(nodes.values())
        for number, x in enumerate(BUILT_IN):
            nodes[x] = self.store.make("name", "builtin", number)
        self.atoms = {a: self.store.make("atom", a) for a in ATOMS}
        if room is not None:
            self.store.fill(2000 - room - len(self.store.nodes))
        self.procedures, self.cells, self.ports, self.triggers = [], [], [], []
        self.threads = [self.new_thread(statement, nodes)]
        self.steps = 0

    def new_thread(self, statement, nodes):
        return {"stack": [(statement, nodes)], "waits": None, "broken": None}

    def status(self, number):
        thread = self.threads[number]
        if thread["broken"] is not None:
            return "broken"
        if thread["stack"] == []:
            return "done"
        frame = thread["stack"][-1]
        if frame[0] != "handler" and frame[0][0] == "choose":
            return "choosing"
        if thread["waits"] is not None and not self.store.is_bound(thread["waits"]):
            return "waiting"
        return "ready"

    def statuses(self):
        return [self.status(k) for k in range(len(self.threads))]

    def ready(self):
        return [k for k, status in enumerate(self.statuses()) if status == "ready"]

    def waits_for(self, number):
        if self.status(number) == "waiting":
            return self.store.representative(self.threads[number]["waits"])
        return None

    def awaited(self):
        return [self.waits_for(k) for k, status in enumerate(self.statuses()) if status == "waiting"]

    def step(self, number):
        assert self.status(number) == "ready"
        self.steps += 1
        thread = self.threads[number]
        thread["waits"] = None
        frame = thread["stack"].pop()
        try:
            if frame[0] != "handler":
                self.do(thread, *frame)
        except HasToWait as why:
            thread["stack"].append(frame)
            thread["waits"] = why.args[0]
        except IsRaised as why:
            self.throw(thread, why.args[0])
        if not self.start_due():
            thread["stack"], thread["broken"] = [], self.atoms["threads"]

    def start_due(self):
        awaited = self.awaited()
        due = [k for k, (x, s, nodes) in enumerate(self.triggers)
               if self.store.is_bound(x) or self.store.representative(x) in awaited]
        rest = [trigger for k, trigger in enumerate(self.triggers) if k not in due]
        due = [self.triggers[k] for k in due]
        self.triggers = rest
        for _, s, nodes in due:
            if len(self.threads) == 60:
                return False
            self.threads.append(self.new_thread(s, nodes))
        return True

    def throw(self, thread, node):
        while thread["stack"]:
            frame = thread["stack"].pop()
            if frame[0] == "handler":
                _, x, t, nodes = frame
                thread["stack"].append((t, {**nodes, x: node}))
                return
        thread["broken"] = node

    def choose(self, number, second):
        (_, s, t), nodes = self.threads[number]["stack"].pop()
        self.threads[number]["stack"].append((t if second else s, nodes))

    def tell(self, first, second):
        self.store.unify(first, second)
        self.start_due()

    # What the statements need.

    def raised(self, a):
        return IsRaised(self.atoms[a])

    def wait(self, node):
        if not self.store.is_bound(node):
            raise HasToWait(node)
        return self.store.value(node)

    def room(self, many):
        if len(self.store.nodes) + many > 2000:
            raise self.raised("memory")

    def unify(self, first, second):
        try:
            self.store.unify(first, second)
        except CannotBe:
            raise self.raised("failure")

    def put(self, thread, *frames):
        if len(thread["stack"]) + len(frames) > 200:
            raise self.raised("stack")
        thread["stack"].extend(frames)

    def start(self, s, nodes):
        if len(self.threads) == 60:
            raise self.raised("threads")
        self.threads.append(self.new_thread(s, nodes))

    def do_need(self, x, s, nodes):
        if self.store.is_bound(x) or self.store.representative(x) in self.awaited():
            self.start(s, nodes)
        else:
            self.triggers.append((x, s, nodes))

    def do(self, thread, statement, nodes):
        word, *rest = statement
        if word == "seq":
            self.put(thread, (rest[1], nodes), (rest[0], nodes))
        elif word == "local":
            self.room(1)
            self.put(thread, (rest[1], {**nodes, rest[0]: self.store.make("var")}))
        elif word == "bind":
            self.unify(nodes[rest[0]], nodes[rest[1]])
        elif word in ("int", "atom"):
            self.room(1)
            self.unify(self.store.make(word, rest[1]), nodes[rest[0]])
        elif word == "tuple":
            self.room(1)
            self.unify(self.store.make("tuple", rest[1], tuple(nodes[y] for y in rest[2])), nodes[rest[0]])
        elif word == "proc":
            self.room(1)
            self.procedures.append((rest[1], rest[2], nodes))
            self.unify(self.store.make("name", "proc", len(self.procedures) - 1), nodes[rest[0]])
        elif word == "if":
            value = self.wait(nodes[rest[0]])
            if value not in [("atom", "true"), ("atom", "false")]:
                raise self.raised("type")
            self.put(thread, (rest[1] if value[1] == "true" else rest[2], nodes))
        elif word == "case":
            self.do_case(thread, nodes, *rest)
        elif word == "call":
            self.do_call(thread, nodes[rest[0]], [nodes[y] for y in rest[1]])
        elif word == "op":
            self.do_op(rest[0], *[nodes[y] for y in rest[1:]])
        elif word == "thread":
            self.start(rest[0], nodes)
        elif word == "need":
            self.do_need(nodes[rest[0]], rest[1], nodes)
        elif word == "try":
            self.put(thread, ("handler", rest[1], rest[2], nodes), (rest[0], nodes))
        elif word == "raise":
            raise IsRaised(nodes[rest[0]])
        else:
            assert word == "skip"

    def do_case(self, thread, nodes, x, pattern, s, t):
        value = self.wait(nodes[x])
        met = value == pattern
        if pattern[0] == "tuple" and value[0] == "tuple":
            met = pattern[1] == value[1] and len(pattern[2]) == len(value[2])
            if met:
                nodes = {**nodes, **dict(zip(pattern[2], value[2]))}
        self.put(thread, (s if met else t, nodes))

    def do_call(self, thread, x, passed):
        value = self.wait(x)
        if value[:2] == ("name", "builtin"):
            name = BUILT_IN[value[2]]
            if PARAMETERS[name] != len(passed):
                raise self.raised("arity")
            getattr(self, "do_" + name)(*passed)
        elif value[:2] == ("name", "proc"):
            self.enter(thread, self.procedures[value[2]], passed)
        else:
            raise self.raised("type")

    def enter(self, thread, procedure, passed):
        parameters, body, outside = procedure
        if len(parameters) != len(passed):
            raise self.raised("arity")
        self.put(thread, (body, {**outside, **dict(zip(parameters, passed))}))

    def do_op(self, sign, x, y, z):
        if sign == "==":
            result = ("atom", "true" if self.same_trees(y, z) else "false")
        else:
            first = self.wait(y)
            second = self.wait(z)
            if (first[0], second[0]) != ("int", "int"):
                raise self.raised("type")
            a, b = first[1], second[1]
            if sign == "<":
                result = ("atom", "true" if a < b else "false")
            else:
                result = ("int", {"+": a + b, "-": a - b, "*": a * b}[sign])
                if abs(result[1]) > 10 ** 9:
                    raise self.raised("range")
        self.room(1)
        self.unify(x, self.store.make(*result))

    def same_trees(self, y, z):
        level = [(self.store.representative(y), self.store.representative(z))]
        compared = []
        while level:
            following = []
            for pair in level:
                if pair in compared:
                    continue
                compared.append(pair)
                a = self.wait(pair[0])
                b = self.wait(pair[1])
                if a[0] == b[0] == "tuple" and a[1] == b[1] and len(a[2]) == len(b[2]):
                    following.extend(zip(a[2], b[2]))
                elif a != b or a[0] == "tuple":
                    return False
            level = following
        return True

    def do_Wait(self, x):
        self.wait(x)

    def do_IsDet(self, x, y):
        self.room(1)
        self.unify(y, self.store.make("atom", "true" if self.store.is_bound(x) else "false"))

    def do_NewCell(self, x, y):
        self.room(1)
        self.cells.append(x)
        self.unify(y, self.store.make("name", "cell", len(self.cells) - 1))

    def do_Exchange(self, c, x, y):
        value = self.wait(c)
        if value[:2] != ("name", "cell"):
            raise self.raised("type")
        self.unify(x, self.cells[value[2]])
        self.cells[value[2]] = y

    def do_NewPort(self, x, y):
        self.room(1)
        self.ports.append(x)
        self.unify(y, self.store.make("name", "port", len(self.ports) - 1))

    def do_Send(self, p, x):
        value = self.wait(p)
        if value[:2] != ("name", "port"):
            raise self.raised("type")
        self.room(2)
        end = self.store.make("var")
        self.unify(self.ports[value[2]], self.store.make("tuple", "cons", (x, end)))
        self.ports[value[2]] = end

    def do_Label(self, x, y):
        value = self.wait(x)
        if value[0] not in ("atom", "tuple"):
            raise self.raised("type")
        self.room(1)
        self.unify(y, self.store.make("atom", value[1]))

    def do_Width(self, x, y):
        value = self.wait(x)
        if value[0] not in ("atom", "tuple"):
            raise self.raised("type")
        self.room(1)
        self.unify(y, self.store.make("int", len(value[2]) if value[0] == "tuple" else 0))

    def do_Part(self, x, n, y):
        value = self.wait(x)
        number = self.wait(n)
        if value[0] != "tuple" or number[0] != "int":
            raise self.raised("type")
        if number[1] < 1 or number[1] > len(value[2]):
            raise self.raised("arity")
        self.unify(y, value[2][number[1] - 1])

    # Outcomes.

    def outcome(self):
        met = []
        texts = []
        for node in self.given:
            rows = []
            for row in self.store.graph(node):
                if row[0] == "var" or row[0] == "name" and row[1] != "builtin":
                    if row not in met:
                        met.append(row)
                    of_kind = [other for other in met if other[:-1] == row[:-1]]
                    row = row[:-1] + (of_kind.index(row),)
                rows.append(row)
            texts.append(naive.text(tuple(rows)))
        statuses = self.statuses()
        return tuple(texts), tuple(
            (status, statuses.count(status)) for status in sorted(set(statuses)) if status != "done")
