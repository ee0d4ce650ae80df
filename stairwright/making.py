"""How a made model is written as orders, expression by expression.

A num stands in a box as it is, a truth as 1 or 0, an ELEMENT by its place in its SET; a some and a map stand in a box
for each ELEMENT. What is written goes to boxes that nothing else uses meanwhile; a var is read where it stands.
"""

from stairwright.expressions import BINDING, first_part, has_free, names_in, sort_inside, sort_of_type
from stairwright.types import elements_of, values_of

# These words are an ORDER each, of what their parts are.
STRAIGHT = ("add", "sub", "mul", "less")

# By ELEMENT, of what both parts have there: the "but" is where the second one is less than the first one.
PAIRED = ("both", "either", "but")


class Making:
    """The ORDERS so far, and which boxes are in use."""

    def __init__(self, carriers, variables):
        self.carriers = carriers
        self.context = dict(variables)
        self.orders = []
        # By NAME: the boxes of a VARIABLE's CELLS, the one of an each or any.
        self.boxes_of = {}
        self.bound = {}
        self.free = 0
        for name, kind in variables:
            self.boxes_of[name] = self.new_boxes(self.how_many(sort_of_type(kind)))
        # The numbers 0 to 3, of which places in a SET are told; the box of 0 is never written to.
        self.numbers = self.new_boxes(4)

    def new_boxes(self, many):
        self.free += many
        return list(range(self.free - many, self.free))

    def how_many(self, sort):
        """How many boxes a worth of that SORT takes."""
        is_by_element = isinstance(sort, tuple) and sort[0] in ("some", "map")
        return len(elements_of(self.carriers, sort[1])) if is_by_element else 1

    def order(self, *parts):
        self.orders.append(parts)

    def order_later(self):
        """The place of an ORDER that is put there later: it goes to where nothing stands yet."""
        self.orders.append(None)
        return len(self.orders) - 1

    def jump_from(self, place):
        """Lets the ORDER of that place jump to here."""
        self.orders[place] = ("jump", len(self.orders))

    def none_from(self, place, box):
        """Lets the ORDER of that place jump to here where the box has 0."""
        self.orders[place] = ("none", box, len(self.orders))

    def write_actions(self, actions):
        """All read what is ahead of them."""
        free = self.free
        waiting = []
        for number, (_, name, expression) in enumerate(actions):
            boxes = self.boxes_of[name]
            if name in [read for _, _, part in actions[number:] for read in names_in(part)]:
                waiting.append((self.new_boxes(len(boxes)), boxes))
                boxes = waiting[-1][0]
            self.write(expression, boxes)
        for ahead, behind in waiting:
            self.copy_all(ahead, behind)
        self.free = free

    def write_guards(self, guards):
        """A list of (PLACE, BOX) of all from where is to be jumped where one isn't True."""
        found = []
        for guard in guards:
            free = self.free
            box = self.boxes_with(guard)[0]
            found.append((self.order_later(), box))
            self.free = free
        return found

    def sort_of(self, expression):
        return sort_inside(self.carriers, self.context, self.bound, expression)

    def boxes_with(self, expression):
        """Where its worth stands, once these ORDERS are done."""
        if expression[0] == "var":
            return self.boxes_of[expression[1]]
        boxes = self.new_boxes(self.how_many(self.sort_of(expression)))
        self.write(expression, boxes)
        return boxes

    def write(self, expression, boxes):
        """The ORDERS by which its worth comes into these boxes."""
        free = self.free
        word = expression[0]
        if word in BINDING:
            self.write_binding(expression, boxes)
        elif word in ("and", "or", "then", "if"):
            self.write_choice(expression, boxes)
        elif first_part(expression) == len(expression):
            self.write_bare(expression, boxes)
        elif word == "all":
            self.write(expression[2], boxes[:1])
            self.copy_all(boxes[:1] * (len(boxes) - 1), boxes[1:])
        elif word == "put":
            self.write_put(expression, boxes)
        else:
            parts = []
            for part in expression[1:]:
                parts.append(self.boxes_with(part))
            self.write_of(word, parts, boxes)
        # What was needed meanwhile isn't needed any more.
        self.free = free

    def copy_all(self, ahead, behind):
        for one, other in zip(ahead, behind):
            self.order("copy", other, one)

    def write_bare(self, expression, boxes):
        word = expression[0]
        if word == "var":
            self.copy_all(self.boxes_of[expression[1]], boxes)
        elif word == "num":
            self.order("set", boxes[0], expression[1])
        elif word == "elem":
            self.order("set", boxes[0], self.place_of(expression[1]))
        else:
            for box in boxes:
                self.order("set", box, 1 if word in ("yes", "every") else 0)

    def place_of(self, member):
        """The place of an ELEMENT in its SET."""
        for _, members in self.carriers:
            if member in members:
                return members.index(member)
        return None

    def write_binding(self, expression, boxes):
        word, name, kind, inner = expression
        if not has_free(inner, name):
            self.write(inner, boxes)
            return
        boxes_ahead, bound_ahead = self.boxes_of, self.bound
        value = self.new_boxes(1)[0]
        self.boxes_of = {**boxes_ahead, name: [value]}
        self.bound = {**bound_ahead, name: kind}
        # Down to the first VALUE, whose number is 0: a "none" tells by itself when it's reached.
        self.order("set", value, len(values_of(self.carriers, kind)) - 1)
        again = len(self.orders)
        self.write(inner, boxes)
        found = self.order_later()
        if word == "any":
            out = self.order_later()
            self.none_from(found, boxes[0])
        ended = self.order_later()
        self.order("sub", value, value, self.numbers[1])
        self.order("jump", again)
        if word == "any":
            self.jump_from(out)
        else:
            self.none_from(found, boxes[0])
        self.none_from(ended, value)
        self.boxes_of, self.bound = boxes_ahead, bound_ahead

    def write_choice(self, expression, boxes):
        word = expression[0]
        truth = self.boxes_with(expression[1]) if word == "if" else boxes
        if word != "if":
            self.write(expression[1], boxes)
        otherwise = self.order_later()
        if word == "and":
            self.write(expression[2], boxes)
            self.none_from(otherwise, truth[0])
            return
        if word != "or":
            self.write(expression[2], boxes)
        out = self.order_later()
        self.none_from(otherwise, truth[0])
        if word == "then":
            self.order("set", boxes[0], 1)
        else:
            self.write(expression[3] if word == "if" else expression[2], boxes)
        self.jump_from(out)

    def write_put(self, expression, boxes):
        self.write(expression[1], boxes)
        where = self.boxes_with(expression[2])[0]
        new = self.boxes_with(expression[3])[0]
        self.choose(where, [new for _ in boxes], boxes, 0)

    def choose(self, where, ahead, behind, first):
        """Copies one to the other where, behind the first, the place is that of the ELEMENT."""
        is_there = self.new_boxes(1)[0]
        for number in range(first, len(behind)):
            self.order("same", is_there, where, self.numbers[number])
            other = self.order_later()
            self.order("copy", behind[number], ahead[number])
            self.none_from(other, is_there)

    def write_at(self, table, where, box):
        self.order("copy", box, table[0])
        self.choose(where, table, [box for _ in table], 1)

    def write_of(self, word, parts, boxes):
        """What the word makes of parts that stand in boxes."""
        if word in STRAIGHT:
            self.order(word, boxes[0], parts[0][0], parts[1][0])
        elif word in PAIRED:
            self.write_pairs(word, parts[0], parts[1], boxes)
        elif word in ("same", "within"):
            self.write_all_pairs(word, parts[0], parts[1], boxes[0])
        elif word == "most":
            self.order("less", boxes[0], parts[1][0], parts[0][0])
            self.write_not(boxes[0], boxes[0])
        elif word == "not":
            self.write_not(parts[0][0], boxes[0])
        elif word == "in":
            self.write_at(parts[1], parts[0][0], boxes[0])
        elif word == "at":
            self.write_at(parts[0], parts[1][0], boxes[0])
        elif word == "just":
            for number, box in enumerate(boxes):
                self.order("same", box, parts[0][0], self.numbers[number])
        else:
            self.write_sum(parts[0], boxes[0])

    def write_not(self, ahead, behind):
        self.order("same", behind, ahead, self.numbers[0])

    def write_pairs(self, word, first, second, boxes):
        for one, other, box in zip(first, second, boxes):
            if word == "both":
                self.order("mul", box, one, other)
            elif word == "but":
                self.order("less", box, other, one)
            else:
                self.order("add", box, one, other)
                self.order("less", box, self.numbers[0], box)

    def write_all_pairs(self, word, first, second, box):
        """Whether they're the same, or the first one's within the second one, at each ELEMENT."""
        part = self.new_boxes(1)[0]
        for number, (one, other) in enumerate(zip(first, second)):
            place = box if number == 0 else part
            if word == "same":
                self.order("same", place, one, other)
            else:
                # Whether it isn't within: these are counted.
                self.order("less", place, other, one)
            if number > 0:
                self.order("mul" if word == "same" else "add", box, box, part)
        if word == "within":
            self.write_not(box, box)

    def write_sum(self, parts, box):
        self.order("copy", box, parts[0])
        for part in parts[1:]:
            self.order("add", box, box, part)
