"""A second machine, written from the document in another way than the program, to hold the two against each other.

An instruction is found by its six octal digits, numbers are reckoned with signs and without bounds, and each
instruction is tried on a copy: only if it can be done, the copy becomes the machine.
"""

import re


class Odd(Exception):
    pass


class NotOne(Exception):
    pass


class Model:
    def __init__(self):
        self.clear()

    def clear(self):
        self.r, self.flags, self.priority, self.memory, self.why = [0] * 8, dict.fromkeys("NZVC", False), 0, {}, 0
        return [0]

    # The calls.

    def load(self, at, data):
        if at < 0 or at + len(data) > 65536:
            return [-1]
        self.memory.update({at + k: byte for k, byte in enumerate(data)})
        return [0]

    def look(self, at, n):
        if n < 0 or at < 0 or at + n > 65536:
            return [-1]
        return [0] + [self.memory.get(place, 0) for place in range(at, at + n)]

    def set(self, which, value):
        if which == 8:
            self.set_status(value % 65536)
        elif which in range(8):
            self.r[which] = value % 65536
        else:
            return [-1]
        return [0]

    def get(self, which):
        return [(self.r + [self.status()])[which]] if which in range(9) else [-1]

    def run(self, n):
        if n not in range(1000001):
            return [-1]
        self.why, done = 0, 0
        while done < n and self.why == 0:
            trial = Trial(self)
            try:
                self.why = trial.instruction()
            except Odd:
                self.why = 4
            except NotOne:
                self.why = 3
            if self.why < 3:
                trial.make_true()
                done += 1
        return [done]

    def ask_why(self):
        return [self.why]

    def interrupt(self, vector, priority):
        if vector not in range(0, 512, 4) or priority not in range(8):
            return [-1]
        if priority <= self.priority:
            return [0]
        trial = Trial(self)
        try:
            trial.interrupt(vector)
        except Odd:
            return [-2]
        trial.make_true()
        return [1]

    def status(self):
        return self.priority * 32 + sum(bit for bit, name in zip((8, 4, 2, 1), "NZVC") if self.flags[name])

    def set_status(self, word):
        self.priority = word // 32 % 8
        self.flags = {name: bool(word & bit) for bit, name in zip((8, 4, 2, 1), "NZVC")}


def answers(calls):
    """As the program's own, by the model."""
    model, given_back, place = Model(), [], 0
    kinds = {1: (model.clear, 0), 3: (model.look, 2), 4: (model.set, 2), 5: (model.get, 1), 6: (model.run, 1),
             7: (model.ask_why, 0), 8: (model.interrupt, 2)}
    while place < len(calls):
        if calls[place] == 2:
            end = place + 3 + calls[place + 2]
            answer = model.load(calls[place + 1], calls[place + 3:end])
        else:
            call, count = kinds[calls[place]]
            end = place + 1 + count
            answer = call(*calls[place + 1:end])
        given_back += [len(answer)] + answer
        place = end
    return given_back


def with_sign(value, bits=16):
    value %= 1 << bits
    return value - (1 << bits) if value >= 1 << (bits - 1) else value


class Trial:
    def __init__(self, model):
        self.model, self.r, self.flags, self.priority = model, list(model.r), dict(model.flags), model.priority
        self.written = {}

    def make_true(self):
        self.model.r, self.model.flags, self.model.priority = self.r, self.flags, self.priority
        self.model.memory.update(self.written)

    status, set_status = Model.status, Model.set_status

    # Memory, the stack, operands.

    def byte(self, place):
        return self.written.get(place, self.model.memory.get(place, 0))

    def word(self, place):
        if place % 2:
            raise Odd
        return self.byte(place) + 256 * self.byte(place + 1)

    def write(self, place, value, bits=16):
        if bits == 8:
            self.written[place] = value % 256
        elif place % 2:
            raise Odd
        else:
            self.written[place], self.written[place + 1] = value % 256, value // 256 % 256

    def push(self, value):
        self.move(6, -2)
        self.write(self.r[6], value)

    def pull(self):
        value = self.word(self.r[6])
        self.move(6, 2)
        return value

    def move(self, r, by):
        self.r[r] = (self.r[r] + by) % 65536

    def next_word(self):
        value = self.word(self.r[7])
        self.move(7, 2)
        return value

    def place(self, digits, bits=16):
        way, r = int(digits[0]), int(digits[1])
        step = 1 if bits == 8 and r not in (6, 7) else 2
        if way == 1:
            return self.r[r]
        if way == 2:
            self.move(r, step)
            return (self.r[r] - step) % 65536
        if way == 3:
            self.move(r, 2)
            return self.word((self.r[r] - 2) % 65536)
        if way == 4:
            self.move(r, -step)
            return self.r[r]
        if way == 5:
            self.move(r, -2)
            return self.word(self.r[r])
        more = self.next_word()
        at = (self.r[r] + more) % 65536
        return at if way == 6 else self.word(at)

    def operand(self, digits, bits=16):
        """A pair of functions: one gives the operand, the other changes it."""
        if digits[0] == "0":
            r = int(digits[1])

            def change(value):
                self.r[r] = value % 65536 if bits == 16 else self.r[r] // 256 * 256 + value % 256
            return (lambda: self.r[r] % (1 << bits)), change
        place = self.place(digits, bits)
        if bits == 16 and place % 2:
            raise Odd
        return (lambda: self.byte(place) if bits == 8 else self.word(place)), \
            (lambda value: self.write(place, value, bits))

    def flag(self, **named):
        self.flags.update({name: bool(value) for name, value in named.items()})

    def flag_by(self, result, bits=16, **named):
        self.flag(N=with_sign(result, bits) < 0, Z=result % (1 << bits) == 0, **named)

    def interrupt(self, vector):
        self.push(self.status())
        self.push(self.r[7])
        self.r[7] = self.word(vector)
        self.set_status(self.word(vector + 2))

    # Instructions.

    def instruction(self):
        """0, or 1 or 2 where the run ends by it."""
        w = self.next_word()
        digits = f"{w:06o}"
        for pattern, name in PATTERNS:
            found = re.fullmatch(pattern, digits)
            if found:
                return getattr(self, name)(w, *found.groups()) or 0
        raise NotOne

    def two(self, w, high, code, s, d):
        bits = 8 if high == "1" and code != "6" else 16
        s = self.operand(s, bits)[0]()
        take, change = self.operand(d, bits)
        if code == "1":
            change(with_sign(s, 8) if bits == 8 and d[0] == "0" else s)
            if bits == 8 and d[0] == "0":
                self.r[int(d[1])] = with_sign(s, 8) % 65536
            return self.flag_by(s, bits, V=False)
        d = take()
        if code in "345":
            result = {"3": s & d, "4": d & ((1 << bits) - 1 - s), "5": s | d}[code]
            if code != "3":
                change(result)
            return self.flag_by(result, bits, V=False)
        a, b, sign = (s, d, -1) if code == "2" else (d, s, -1) if high == "1" else (d, s, 1)
        exact = with_sign(a, bits) + sign * with_sign(b, bits)
        if code != "2":
            change(a + sign * b)
        self.flag_by(exact, bits, V=exact != with_sign(exact, bits), C=not 0 <= a + sign * b < 1 << bits)

    def one(self, w, high, code, d):
        bits = 8 if high == "1" else 16
        take, change = self.operand(d, bits)
        d, c, least = take(), int(self.flags["C"]), -(1 << (bits - 1))
        number, all_set = with_sign(d, bits), (1 << bits) - 1
        if code == "50":
            result, v, c = 0, False, False
        elif code == "51":
            result, v, c = all_set - d, False, True
        elif code == "52":
            result, v = d + 1, number == -least - 1
        elif code == "53":
            result, v = d - 1, number == least
        elif code == "54":
            result, v, c = -d, number == least, d != 0
        elif code == "55":
            result, v, c = d + c, c and number == -least - 1, c and d == all_set
        elif code == "56":
            result, v, c = d - c, c and number == least, c and d == 0
        elif code == "57":
            result, v, c = d, False, False
        else:
            out = d % 2 if code in ("60", "62") else number < 0
            result = {"60": d // 2 - least * c, "61": 2 * d + c, "62": number // 2, "63": 2 * d}[code]
            v, c = (with_sign(result, bits) < 0) != bool(out), out
        change(result)
        self.flag_by(result, bits, V=v, C=c)

    def swab(self, w, d):
        take, change = self.operand(d)
        upper, lower = divmod(take(), 256)
        change(lower * 256 + upper)
        self.flag_by(upper, 8, V=False, C=False)

    def sxt(self, w, d):
        self.operand(d)[1](-1 if self.flags["N"] else 0)
        self.flag(Z=not self.flags["N"], V=False)

    def xor(self, w, r, d):
        take, change = self.operand(d)
        result = take() ^ self.r[int(r)]
        change(result)
        self.flag_by(result, V=False)

    def mul(self, w, r, s):
        r, s = int(r), with_sign(self.operand(s)[0]())
        product = with_sign(self.r[r]) * s
        if r % 2 == 0:
            self.r[r] = product // 65536 % 65536
        self.r[r if r % 2 else r + 1] = product % 65536
        self.flag(N=product < 0, Z=product == 0, V=False, C=product != with_sign(product))

    def pair(self, r):
        return with_sign(self.r[r] * 65536 + self.r[r + 1], 32)

    def div(self, w, r, s):
        r, s = int(r), with_sign(self.operand(s)[0]())
        if s == 0:
            return self.flag(V=True, C=True)
        number = self.pair(r)
        rest = abs(number) % abs(s) * (-1 if number < 0 else 1)
        quotient = (number - rest) // s
        if quotient != with_sign(quotient):
            return self.flag(V=True, C=False)
        self.r[r], self.r[r + 1] = quotient % 65536, rest % 65536
        self.flag_by(quotient, V=False, C=False)

    def shifted(self, number, by, bits):
        carry = overflow = False
        for k in range(by):
            before, carry = number, number < 0
            number = with_sign(2 * number, bits)
            overflow = overflow or number != 2 * before
        for k in range(-by):
            carry, number = number % 2, number // 2
        self.flag_by(number, bits, V=overflow, C=carry)
        return number

    def ash(self, w, r, s):
        r, by = int(r), with_sign(self.operand(s)[0](), 6)
        self.r[r] = self.shifted(with_sign(self.r[r]), by, 16) % 65536

    def ashc(self, w, r, s):
        r, by = int(r), with_sign(self.operand(s)[0](), 6)
        number = self.shifted(self.pair(r), by, 32)
        self.r[r], self.r[r + 1] = number // 65536 % 65536, number % 65536

    def sob(self, w, r, back):
        r = int(r)
        self.move(r, -1)
        if self.r[r]:
            self.move(7, -2 * int(back, 8))

    def branch(self, w):
        n, z, v, c = (self.flags[name] for name in "NZVC")
        taken = {0o1: True, 0o2: not z, 0o3: z, 0o4: n == v, 0o5: n != v, 0o6: not z and n == v, 0o7: z or n != v,
                 0o200: not n, 0o201: n, 0o202: not c and not z, 0o203: c or z, 0o204: not v, 0o205: v,
                 0o206: not c, 0o207: c}
        if taken[w // 256]:
            self.move(7, 2 * with_sign(w, 8))

    def even_place(self, d):
        place = self.place(d)
        if place % 2:
            raise Odd
        return place

    def jmp(self, w, d):
        self.r[7] = self.even_place(d)

    def jsr(self, w, r, d):
        place, r = self.even_place(d), int(r)
        self.push(self.r[r])
        self.r[r] = self.r[7]
        self.r[7] = place

    def rts(self, w, r):
        self.r[7] = self.r[int(r)]
        self.r[int(r)] = self.pull()

    def mark(self, w, nn):
        self.r[6] = (self.r[7] + 2 * int(nn, 8)) % 65536
        self.r[7] = self.r[5]
        self.r[5] = self.pull()

    def change_flags(self, w):
        named = [name for bit, name in zip((8, 4, 2, 1), "NZVC") if w & bit]
        self.flags.update(dict.fromkeys(named, w >= 0o260))

    def halt_or_wait(self, w):
        return w + 1

    def come_back(self, w):
        self.r[7] = self.pull()
        self.set_status(self.pull())

    def nothing(self, w):
        pass

    def trap(self, w):
        self.interrupt({3: 0o14, 4: 0o20}.get(w, 0o30 if w < 0o104400 else 0o34))


PATTERNS = [
    (r"([01])([1-6])(..)(..)", "two"),
    (r"([01])0(5[0-7]|6[0-3])(..)", "one"),
    (r"0003(..)", "swab"), (r"0067(..)", "sxt"), (r"074(.)(..)", "xor"),
    (r"070(.)(..)", "mul"), (r"071([0246])(..)", "div"), (r"072(.)(..)", "ash"), (r"073([0246])(..)", "ashc"),
    (r"077(.)(..)", "sob"), (r"000[4-7]..|00[123]...|10[0-3]...", "branch"),
    (r"0001([1-7].)", "jmp"), (r"004(.)([1-7].)", "jsr"), (r"00020(.)", "rts"), (r"0064(..)", "mark"),
    (r"0002[4-7].", "change_flags"), (r"00000[01]", "halt_or_wait"), (r"00000[26]", "come_back"),
    (r"000005", "nothing"), (r"00000[34]|104...", "trap"),
]
