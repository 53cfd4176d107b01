"""What lies outside: the register, the medium, the new keys and the pads."""

from surelyforgotten.nodes import KEY_SIZE, PAGE_SIZE, REGISTER_SIZE, pad_of


class Outside:
    """Does what it's asked, and notes it, since each call's answer tells all that was asked."""

    def __init__(self):
        self.in_register = [0] * REGISTER_SIZE
        self.pages = {}
        self.script = []
        self.asked_count = 0
        self.asked_numbers = []

    def begin_call(self):
        self.script = []
        self.asked_count = 0
        self.asked_numbers = []

    def give_script(self, script):
        self.script = script

    def note(self, numbers):
        self.asked_count = self.asked_count + 1
        self.asked_numbers.extend(numbers)

    def ask_register(self):
        self.note([1])
        return list(self.in_register)

    def put_register(self, content):
        self.note([2] + content)
        self.lay_register(content)

    def lay_register(self, content):
        """Notes nothing, since bytes may come from elsewhere, too."""
        self.in_register = list(content)

    def read_page(self, page):
        self.note([3, page])
        # Pages are kept from their first writing on: until then they are all 0s.
        if page not in self.pages:
            return [0] * PAGE_SIZE
        return list(self.pages[page])

    def write_page(self, page, content):
        self.note([4, page] + content)
        self.lay_page(page, content)

    def lay_page(self, page, content):
        """Notes nothing, since bytes may come from elsewhere, too."""
        self.pages[page] = list(content)

    def ask_new_keys(self, count):
        """All keys of a call are asked for ahead of its first writing, the root's first."""
        return [self.ask_new_key() for turn in range(count)]

    def ask_new_key(self):
        self.note([5])
        key = self.script[0:KEY_SIZE]
        self.script = self.script[KEY_SIZE:]
        return key

    def ask_pad(self, key):
        self.note([6] + key)
        return pad_of(key)
