"""What a monitor holds: its setting, policies, log and permit."""


class Setting:
    """The model of the signals, the stakes and the prices, as create_setting makes it."""

    def __init__(self, signal_count):
        self.signal_count = signal_count
        self.test_weights = [1] * signal_count
        self.production_weights = [1] * signal_count
        self.prior_num = 1
        self.prior_den = 2
        self.gain = 1
        self.loss = 1
        self.harm_price = 1
        self.test_price = 1


def copy_of(setting):
    """A second setting that holds the same, so that one can change without the other."""
    copied = Setting(setting.signal_count)
    copied.test_weights = list(setting.test_weights)
    copied.production_weights = list(setting.production_weights)
    copied.prior_num = setting.prior_num
    copied.prior_den = setting.prior_den
    copied.gain = setting.gain
    copied.loss = setting.loss
    copied.harm_price = setting.harm_price
    copied.test_price = setting.test_price
    return copied


class Policy:
    """A set of signals at which an agent cheats, and its relative prior probability."""

    def __init__(self, cheat_set, weight):
        self.cheat_set = cheat_set
        self.weight = weight


class Monitor:
    """A monitor; setting and permit are None as long as there is none.

    The log holds tuples of a kind and a signal, the permit is a numerator and
    a denominator as they were set.
    """

    def __init__(self):
        self.setting = None
        self.policies = []
        self.log = []
        self.permit = None
