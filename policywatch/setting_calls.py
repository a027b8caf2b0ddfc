"""The calls that make, change and show the setting."""

from policywatch.checks import require_empty_log, require_fraction, require_stakes, require_within
from policywatch.refusals import OutsideLimits, SettingExists
from policywatch.state import Setting

MOST_SIGNALS = 5
MOST_WEIGHT = 99


def create_setting(monitor, signal_count):
    if monitor.setting is not None:
        raise SettingExists()
    require_within(signal_count, 1, MOST_SIGNALS)
    monitor.setting = Setting(signal_count)
    return [0]


def require_weights(monitor, weights):
    if len(weights) != monitor.setting.signal_count or sum(weights) == 0:
        raise OutsideLimits()
    for weight in weights:
        require_within(weight, 0, MOST_WEIGHT)


def set_test_weights(monitor, weights):
    require_weights(monitor, weights)
    require_empty_log(monitor)
    setting = monitor.setting
    setting.test_weights = list(weights)
    return [sum(weights)]


def set_production_weights(monitor, weights):
    require_weights(monitor, weights)
    setting = monitor.setting
    setting.production_weights = list(weights)
    return [sum(weights)]


def set_prior(monitor, num, den):
    require_fraction(num, den)
    setting = monitor.setting
    old = [setting.prior_num, setting.prior_den]
    setting.prior_num = num
    setting.prior_den = den
    return [0] + old


def set_stakes(monitor, gain, loss):
    require_stakes(gain, loss)
    setting = monitor.setting
    old = [setting.gain, setting.loss]
    setting.gain = gain
    setting.loss = loss
    return [0] + old


def set_prices(monitor, harm_price, test_price):
    require_stakes(harm_price, test_price)
    setting = monitor.setting
    old = [setting.harm_price, setting.test_price]
    setting.harm_price = harm_price
    setting.test_price = test_price
    return [0] + old


def get_settings(monitor):
    setting = monitor.setting
    prior = [setting.prior_num, setting.prior_den]
    stakes = [setting.gain, setting.loss]
    prices = [setting.harm_price, setting.test_price]
    return [setting.signal_count] + prior + stakes + prices + setting.test_weights + setting.production_weights


SETTING_CALLS = {
    24: create_setting,
    25: set_test_weights,
    26: set_production_weights,
    27: set_prior,
    28: set_stakes,
    29: set_prices,
    43: get_settings,
}
