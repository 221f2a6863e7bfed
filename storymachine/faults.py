"""The faults that stop the machine, each with the number it is told by."""


class OperationFault(Exception):
    def __init__(self):
        self.number = 16


class PlaceFault(Exception):
    def __init__(self):
        self.number = 17


class StackFault(Exception):
    def __init__(self):
        self.number = 18


class ThingFault(Exception):
    def __init__(self):
        self.number = 19


class QuotientFault(Exception):
    def __init__(self):
        self.number = 20


class TextFault(Exception):
    def __init__(self):
        self.number = 21
