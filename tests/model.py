"""The document read a second time, as near to its words as can be, to compare the program with."""

import re

TOKEN = re.compile(rb"[ \n]*(?:([A-Za-z][A-Za-z0-9]*)|([0-9]+)|([;:{}()\[\],.=<>+\-*/%&|!?#]))")
COUNTS = {"len": 1, "at": 2, "cat": 2, "look": 3, "drop": 2, "has": 2, "max": 2, "min": 2}


class No(Exception):
    pass


def need(holds):
    if not holds:
        raise No()


def split(text):
    text = bytes(text).rstrip(b" \n")
    place = 0
    tokens = []
    while place < len(text):
        found = TOKEN.match(text, place)
        need(found)
        name, digits, sign = found.groups()
        need(name is None or len(name) <= 12)
        need(digits is None or len(digits) <= 18)
        tokens.append((name or digits or sign).decode())
        place = found.end()
    return tokens


def is_small(token):
    return token[:1].isalpha() and token[0].islower() and token not in ("if", "then", "else")


def is_great(token):
    return token[:1].isalpha() and token[0].isupper()


class Parser:
    def __init__(self, tokens):
        self.tokens = tokens
        self.place = 0

    def now(self, steps=0):
        place = self.place + steps
        return self.tokens[place] if place < len(self.tokens) else ""

    def any(self):
        need(self.now())
        self.place += 1
        return self.tokens[self.place - 1]

    def want(self, token):
        need(self.any() == token)

    def small(self):
        token = self.any()
        need(is_small(token))
        return token

    def great(self):
        token = self.any()
        need(is_great(token))
        return token

    # An expression's tree: (kind, arguments); brackets stay in it, as the kind "()".
    def expression(self):
        if self.now() != "if":
            return self.repeated(("|",), lambda: self.repeated(("&",), self.comparison))
        arguments = []
        for word in ("if", "then", "else"):
            self.want(word)
            arguments.append(self.expression())
        return ("if", arguments)

    def repeated(self, signs, argument):
        left = argument()
        while self.now() in signs:
            self.any()
            left = ("operator", [left, argument()])
        return left

    def comparison(self):
        left = self.sum()
        if self.now() in ("=", "<"):
            self.any()
            return ("operator", [left, self.sum()])
        return left

    def sum(self):
        return self.repeated(("+", "-"), lambda: self.repeated(("*", "/", "%"), self.signed))

    def signed(self):
        if self.now() in ("-", "!"):
            self.any()
            return ("sign", [self.signed()])
        return self.atom()

    def atom(self):
        token = self.any()
        if token == "#":
            return ("#", [])
        if token.isdigit():
            if self.now() == ".":
                self.any()
                return (("occurrence", int(token), self.small()), [])
            return ("number", [])
        if is_small(token):
            if self.now() != "(":
                return (("occurrence", 0, token), [])
            self.any()
            arguments = self.arguments(")")
            need(COUNTS.get(token) == len(arguments))
            return ("call", arguments)
        if token == "(":
            inner = self.expression()
            self.want(")")
            return ("()", [inner])
        need(token == "[")
        return ("[]", self.arguments("]"))

    def arguments(self, closing):
        found = []
        if self.now() != closing:
            found.append(self.expression())
            while self.now() == ",":
                self.any()
                found.append(self.expression())
        self.want(closing)
        return found

    def symbol(self):
        name = self.great()
        down = []
        while is_small(self.now()):
            down.append(self.any())
        self.want(">")
        up = []
        while is_small(self.now()):
            up.append(self.any())
        self.want(";")
        return name, down, up

    def production(self):
        name = self.small()
        left = self.great()
        holds = self.now() == "#"
        if holds:
            self.any()
        self.want(":")
        children = []
        while is_great(self.now()):
            children.append(self.any())
        self.want("{")
        rules = []
        while self.now() != "}":
            rules.append(self.rule())
        self.any()
        return name, left, holds, children, rules

    def rule(self):
        target = None
        if self.now() == "?":
            self.any()
        else:
            place = 0
            if self.now().isdigit():
                place = int(self.any())
                self.want(".")
            target = (place, self.small())
            self.want("=")
        found = self.expression()
        self.want(";")
        return target, found

    # A tree: [production's name, number or None, children].
    def tree(self):
        name = self.small()
        value = None
        if self.now() == "-":
            self.any()
            need(self.now().isdigit())
            value = -int(self.any())
        elif self.now().isdigit():
            value = int(self.any())
        children = []
        if self.now() == "(":
            self.any()
            children.append(self.tree())
            while self.now() == ",":
                self.any()
                children.append(self.tree())
            self.want(")")
        return [name, value, children]


def parts(expression):
    return (expression[0] != "()") + sum(parts(argument) for argument in expression[1])


def levels(expression):
    own = expression[0] in ("()", "[]", "if", "sign", "call")
    return own + max([levels(argument) for argument in expression[1]], default=0)


def kinds(expression):
    found = [expression[0]]
    for argument in expression[1]:
        found += kinds(argument)
    return found


def differ(names):
    return len(names) == len(set(names))


def grammar(text):
    """The grammar's symbols and productions, or None."""
    try:
        parser = Parser(split(text))
        symbols, productions = [], []
        while parser.now():
            if is_great(parser.now()):
                symbols.append(parser.symbol())
            else:
                productions.append(parser.production())
        check(symbols, productions)
        return symbols, productions
    except No:
        return None


def check(symbols, productions):
    need(1 <= len(symbols) <= 12 and differ([name for name, down, up in symbols]))
    for name, down, up in symbols:
        need(len(down + up) <= 4 and differ(down + up))
    need(len(productions) <= 24 and differ([production[0] for production in productions]))
    declared = {name: (down, up) for name, down, up in symbols}
    for name, left, holds, children, rules in productions:
        need(len(children) <= 3 and len(rules) <= 24)
        need(left in declared and all(child in declared for child in children))
        wanted = [(0, name) for name in declared[left][1]]
        for k, child in enumerate(children):
            wanted += [(k + 1, name) for name in declared[child][0]]
        targets = [target for target, expression in rules if target]
        need(differ(targets) and set(targets) == set(wanted))
        for target, expression in rules:
            need(parts(expression) <= 60 and levels(expression) <= 30)
            for kind in kinds(expression):
                need(kind != "#" or holds)
                if kind[0] == "occurrence":
                    need(kind[1] <= len(children))
                    need(kind[2] in sum(declared[([left] + children)[kind[1]]], []))
    with_tree = set()
    for k in range(len(symbols)):
        with_tree |= {left for name, left, holds, children, rules in productions if with_tree.issuperset(children)}
    need(with_tree == set(declared))


def tree(text, found):
    """The tree of the grammar that the text is, or None."""
    try:
        parser = Parser(split(text))
        read = parser.tree()
        need(not parser.now())
        need(size(read) <= 60 and depth(read) <= 24)
        check_node(read, {production[0]: production for production in found[1]})
        return read
    except No:
        return None


def check_node(node, productions):
    need(node[0] in productions)
    name, left, holds, children, rules = productions[node[0]]
    need(holds == (node[1] is not None) and len(children) == len(node[2]))
    for child, symbol in zip(node[2], children):
        check_node(child, productions)
        need(productions[child[0]][1] == symbol)


def size(node):
    return 1 + sum(size(child) for child in node[2])


def depth(node):
    return 1 + max([depth(child) for child in node[2]], default=0)


def form(node):
    written = node[0] + ("" if node[1] is None else " %d" % node[1])
    return written + ("(" + ", ".join(form(child) for child in node[2]) + ")" if node[2] else "")


def numbered(node, first):
    """The tree with its nodes' numbers at the end of each node, in their order, from first on."""
    children = []
    after = first + 1
    for child in node[2]:
        children.append(numbered(child, after))
        after += size(child)
    return [node[0], node[1], children, first]


class Model:
    """One object with its calls; a tree is nested lists, and each edit goes through a place in it."""

    def __init__(self):
        self.found = None
        self.trees = None
        self.given = None

    def grammar(self, text):
        if len(text) > 3000:
            return -1
        read = grammar(text)
        if read is None:
            return -2
        self.found, self.trees = read, None
        return [len(read[0]), len(read[1])]

    def tree(self, text):
        if self.found is None:
            return -3
        if len(text) > 3000:
            return -1
        read = tree(text, self.found)
        if read is None:
            return -4
        self.trees = [numbered(read, 0), numbered(read, 0), numbered(read, 0)]
        self.given = [0, 0]
        return [size(read)]

    def symbol(self, node):
        return {production[0]: production[1] for production in self.found[1]}[node[0]]

    def walk(self, root):
        found, waiting = [], [((), root)]
        while waiting:
            path, node = waiting.pop()
            found.append((path, node))
            waiting += [(path + (k,), node[2][k]) for k in reversed(range(len(node[2])))]
        return found

    def where(self, side, number):
        if side not in (0, 1):
            return -13
        for path, node in self.walk(self.trees[side]):
            if node[3] == number:
                return path, node
        return -6

    def put(self, root, path, node):
        if not path:
            return node
        children = list(root[2])
        children[path[0]] = self.put(children[path[0]], path[1:], node)
        return [root[0], root[1], children, root[3]]

    def at(self, root, path):
        return root if not path else self.at(root[2][path[0]], path[1:])

    def replace(self, side, number, text):
        if self.trees is None:
            return -5
        place = self.where(side, number)
        if isinstance(place, int):
            return place
        if len(text) > 3000:
            return -1
        read = tree(text, self.found)
        if read is None:
            return -4
        if place[0] and self.symbol(read) != self.symbol(place[1]):
            return -8
        first = 1000 * (side + 1) + self.given[side]
        edited = self.put(self.trees[side], place[0], numbered(read, first))
        if size(edited) > 60 or depth(edited) > 24:
            return -9
        if self.given[side] + size(read) > 900:
            return -16
        self.given[side] += size(read)
        self.trees[side] = edited
        return [first]

    def number(self, side, number, value):
        if self.trees is None:
            return -5
        place = self.where(side, number)
        if isinstance(place, int):
            return place
        if place[1][1] is None:
            return -11
        if not -10 ** 18 < value < 10 ** 18:
            return -12
        node = place[1]
        self.trees[side] = self.put(self.trees[side], place[0], [node[0], value, node[2], node[3]])
        return []

    def swap(self, side, number, other):
        if self.trees is None:
            return -5
        places = [self.where(side, number), self.where(side, other)]
        for place in places:
            if isinstance(place, int):
                return place
        (path, node), (other_path, other_node) = places
        if path[:len(other_path)] == other_path or other_path[:len(path)] == path:
            return -10
        if self.symbol(node) != self.symbol(other_node):
            return -8
        edited = self.put(self.put(self.trees[side], path, other_node), other_path, node)
        if depth(edited) > 24:
            return -9
        self.trees[side] = edited
        return []

    def lift(self, side, number):
        if self.trees is None:
            return -5
        place = self.where(side, number)
        if isinstance(place, int):
            return place
        path, node = place
        if not path:
            return -14
        if len(path) > 1 and self.symbol(node) != self.symbol(self.at(self.trees[side], path[:-1])):
            return -8
        self.trees[side] = self.put(self.trees[side], path[:-1], node)
        return []

    def form(self, which):
        if self.trees is None:
            return -5
        return list(form(self.trees[which]).encode()) if which in (0, 1, 2) else -13

    def nodes(self, which):
        if self.trees is None:
            return -5
        return [node[3] for path, node in self.walk(self.trees[which])] if which in (0, 1, 2) else -13

    def facts(self, which):
        """A tree as facts: what each node holds, and which node stands at each place; the root's place is (-1, 0)."""
        holds = {node[3]: node[1] for path, node in self.walk(self.trees[which])}
        stands = {(-1, 0): self.trees[which][3]}
        for path, node in self.walk(self.trees[which]):
            for k, child in enumerate(node[2]):
                stands[node[3], k + 1] = child[3]
        return holds, stands

    def told_changes(self, side):
        (base_holds, base_stands), (holds, stands) = self.facts(2), self.facts(side)
        found = {(1, node, 0) for node in holds if node in base_holds and holds[node] != base_holds[node]}
        found |= {(2,) + place for place in stands if place in base_stands and stands[place] != base_stands[place]}
        found |= {(3, node, 0) for node in set(base_holds) - set(holds)}
        found |= {(4, node, 0) for node in set(holds) - set(base_holds)}
        return found

    def changes(self, side):
        if self.trees is None:
            return -5
        if side not in (0, 1):
            return -13
        return [number for change in sorted(self.told_changes(side)) for number in change]

    def merge_facts(self, first, second, base, key):
        """The merged one of what three trees say of this, and whether they clash."""
        if key not in base:
            return (first if key in first else second)[key], False
        first, second = first.get(key, base[key]), second.get(key, base[key])
        if first == base[key]:
            return second, False
        if second in (base[key], first):
            return first, False
        return first, True

    def merged(self):
        """The merged tree as its nodes' names, what they hold, and which stands at each place; and the conflicts."""
        names = {node[3]: node[0] for which in (0, 1, 2) for path, node in self.walk(self.trees[which])}
        counts = {node[3]: len(node[2]) for which in (0, 1, 2) for path, node in self.walk(self.trees[which])}
        three_holds, three_stands = zip(*[self.facts(which) for which in (0, 1, 2)])
        holds, stands, found = {}, {}, set()
        places = [(-1, 0)]
        while places:
            place = places.pop()
            stands[place], clash = self.merge_facts(*three_stands, place)
            if clash:
                found.add((2,) + place)
            node = stands[place]
            if node not in holds:
                holds[node], clash = self.merge_facts(*three_holds, node)
                if clash:
                    found.add((1, node, 0))
                places += [(node, k) for k in range(1, counts[node] + 1)]
        nodes = list(stands.values())
        found |= {(3, node, 0) for node in nodes if nodes.count(node) > 1}
        for side in (0, 1):
            worked = {change[1] for change in self.told_changes(side) if change[0] != 3 and change[1] >= 0}
            found |= {(4, node, 0) for node in worked - set(nodes)}
        return names, counts, holds, stands, found

    def grown(self, merged, node):
        names, counts, holds, stands, found = merged
        children = [self.grown(merged, stands[node, k]) for k in range(1, counts[node] + 1)]
        return [names[node], holds[node], children, node]

    def conflicts(self):
        if self.trees is None:
            return -5
        return [number for conflict in sorted(self.merged()[-1]) for number in conflict]

    def whole(self):
        """The merged tree, or why it can't be had."""
        if self.trees is None:
            return -5
        merged = self.merged()
        if merged[-1]:
            return -17
        found = self.grown(merged, merged[3][-1, 0])
        return -9 if size(found) > 60 or depth(found) > 24 else found

    def merge(self):
        found = self.whole()
        return found if isinstance(found, int) else list(form(found).encode())

    def origin(self):
        found = self.whole()
        return found if isinstance(found, int) else [node[3] for path, node in self.walk(found)]

    def accept(self):
        found = self.whole()
        if isinstance(found, int):
            return found
        self.trees = [numbered(found, 0), numbered(found, 0), numbered(found, 0)]
        self.given = [0, 0]
        return [size(found)]

    def reset(self, side):
        if self.trees is None:
            return -5
        if side not in (0, 1):
            return -13
        self.trees[side] = self.trees[2]
        return []
