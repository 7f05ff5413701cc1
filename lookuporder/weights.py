"""The weights of an order's entries, and a scale on which texts are weighed by them."""


class Scale:
    def __init__(self, order):
        weights = entry_weights(order.entries)
        self.entry_of = {}
        self.weights_of = {}
        for entry, weight in zip(order.entries, weights):
            self.entry_of[entry.string] = entry
            self.weights_of[entry.string] = weight
        self.greatest_first = max([weight[0] for weight in weights], default=0)

    def has_entry(self, string):
        return string in self.entry_of

    def is_light(self, string):
        return string in self.entry_of and self.entry_of[string].light

    def counted_as(self, string):
        return self.entry_of[string].counts_as if string in self.entry_of else ()

    # A string without an entry is one character, and stands behind all entries.
    def weigh(self, string):
        if string in self.weights_of:
            return self.weights_of[string]
        return (self.greatest_first + 1 + string[0], 1, 1)


def entry_weights(entries):
    counted = counted_weights(entries)
    second_raise = max([1] + [weight[1] for weight in counted if weight[0] != 0])
    third_raise = max([1] + [weight[2] for weight in counted if not is_form_alone(weight)])
    return [raised_weight(weight, second_raise, third_raise) for weight in counted]


def counted_weights(entries):
    weights = []
    weight = (0, 0, 0)
    for entry in entries:
        weight = weight_behind(weight, entry.strength)
        weights.append(weight)
    return weights


def weight_behind(weight, strength):
    if strength == 1:
        return (weight[0] + 1, 1, 1)
    if strength == 2:
        return (weight[0], weight[1] + 1, 1)
    if strength == 3:
        return (weight[0], weight[1], weight[2] + 1)
    return weight


def is_accent_alone(weight):
    return weight[0] == 0 and weight[1] != 0


def is_form_alone(weight):
    return weight[0] == 0 and weight[1] == 0 and weight[2] != 0


# So accents alone weigh more than any letter's, and forms alone more than any other's.
def raised_weight(weight, second_raise, third_raise):
    if is_accent_alone(weight):
        return (weight[0], weight[1] + second_raise, weight[2])
    if is_form_alone(weight):
        return (weight[0], weight[1], weight[2] + third_raise)
    return weight
