"""The interface: names, where they are defined, and the names of their arguments."""

import importlib
import inspect
import unittest

FUNCTIONS = {
    "turnpike.money.keys": {"key_of": "(secret)"},
    "turnpike.money.locks": {"was_opened": "(lock, receipts)", "lock_shares": "(locks, receipts)"},
    "turnpike.money.states": {
        "opening_state": "(opening)", "total": "(state)", "worth": "(state, receipts)",
    },
    "turnpike.money.steps": {
        "first_proposes": "(number)", "next_state": "(state, moves, *, cover=(0, 0))",
    },
    "turnpike.money.agreeing": {"agrees": "(settings, height, receipts, state, moves, *, cover=(0, 0))"},
    "turnpike.money.tolls": {
        "must_come_in": "(toll, amount)", "may_give": "(toll, height, inner, outer)",
        "legs": "(amount, deadline, tolls)",
    },
    "turnpike.money.bounds": {"wait_budget": "(money, room, fee)", "wait_bound": "(money, room, fee)"},
    "turnpike.ledger.vault": {
        "free_of": "(vault, state)", "fits": "(vault, state)", "shares": "(vault, receipts)", "copy_vault": "(vault)",
    },
    "turnpike.ledger.book": {"copy_book": "(book)"},
    "turnpike.ledger.reasons": {"takes": "(book, thing)", "reasons": "(book, thing)"},
    "turnpike.ledger.acts": {"carry_out": "(book, thing)"},
    "turnpike.ledger.ledger": {"copy_ledger": "(ledger)"},
    "turnpike.ledger.explaining": {"outlook": "(ledger, number)", "holds": "(ledger, party)"},
    "turnpike.ledger.audit": {"audit": "(purses, entries, *, room)"},
    "turnpike.channel.footing": {"copy_footing": "(footing)"},
    "turnpike.channel.end": {"copy_end": "(end)", "wants": "(end, view)"},
    "turnpike.party.member": {"copy_member": "(member)", "end_of": "(member, channel)"},
    "turnpike.party.needs": {"needs": "(member)", "covers": "(member)"},
    "turnpike.party.knowing": {
        "secret_for": "(member, lock)", "must_show": "(member, end, lock)", "can_open": "(member, channel, lock)",
        "may_drop": "(member, end, lock)", "key_is_free": "(member, key)", "tidying": "(member, end)",
    },
    "turnpike.party.party": {"copy_party": "(party)"},
    "turnpike.watch.due": {"state_is_due": "(view, state)", "secret_is_due": "(view, secret, start, last)"},
    "turnpike.watch.watcher": {"copy_watcher": "(watcher)"},
    "turnpike.routes.ways": {
        "limit_of": "(limits, channel, giver)", "may_carry": "(way, amount, limits)", "loads": "(route, amount)",
    },
    "turnpike.routes.finding": {"find_route": "(ways, limits, request, deadline)"},
    "turnpike.routes.learning": {"learn": "(limits, route, amount, outcome)"},
    "turnpike.routes.trying": {"try_routes": "(ways, balances, limits, request, *, attempts)"},
    "turnpike.town.deeds": {"check_deed": "(deed)"},
    "turnpike.texts.trees": {"write_tree": "(tree)", "read_tree": "(text, *, line=1)"},
    "turnpike.texts.shapes": {
        "is_lock": "(tree)", "is_state": "(tree)", "is_opening": "(tree)", "is_splice": "(tree)", "is_act": "(tree)",
        "is_thing": "(tree)", "is_move": "(tree)", "is_step": "(tree)", "is_word": "(tree)", "is_wish": "(tree)",
        "is_deed": "(tree)",
    },
    "turnpike.texts.objects": {
        "settings_tree": "(settings)", "end_tree": "(end)", "member_tree": "(member)", "party_tree": "(party)",
        "vault_tree": "(vault)", "ledger_tree": "(ledger)", "town_tree": "(town)",
    },
    "turnpike.texts.builders": {
        "settings_from": "(tree)", "end_from": "(tree)", "member_from": "(tree)", "party_from": "(tree)",
        "vault_from": "(tree)", "ledger_from": "(tree)", "town_from": "(tree)",
    },
    "turnpike.texts.saved": {
        "party_text": "(party)", "town_text": "(town)", "read_party": "(text)", "read_town": "(text)",
    },
    "turnpike.texts.script": {
        "write_script": "(deeds)", "read_script": "(text)", "run_script": "(town, text)",
    },
}

CLASSES = {
    "turnpike.errors": {
        "TurnpikeError": {}, "OutOfBounds": {}, "InvalidPurses": {}, "TooMuchMoney": {}, "InvalidSettings": {},
        "NoSuchHand": {}, "IsHonest": {}, "UnknownLetter": {}, "UnknownParty": {}, "NotNow": {}, "InvalidDeed": {},
        "InvalidText": {"__init__": "(line)"},
    },
    "turnpike.money.steps": {"Draft": {"__init__": "(state, cover)", "make": "(move)"}},
    "turnpike.money.settings": {
        "Settings": {
            "__init__": "(*, fee, lead, margin, delay, far, least, farthest, reveal_lead, base, per_mille, gap)",
        },
    },
    "turnpike.ledger.vault": {
        "Vault": {
            "__init__": "(opening, *, sums=(0, 0, 0, 0), splices=0, least=0, published=None, since=None)",
        },
    },
    "turnpike.ledger.book": {
        "Book": {"__init__": "(purses)", "purse": "(party)", "give": "(party, amount)", "sum_of_money": "()"},
    },
    "turnpike.ledger.view": {
        "View": {"__init__": "(book, waiting)", "purse": "(party)", "only_for": "(party, channels)"},
    },
    "turnpike.ledger.ledger": {
        "Ledger": {
            "__init__": "(purses, *, room)", "offer": "(thing)", "block": "()", "purse": "(party)",
            "channel": "(number)", "reasons_against": "(thing)", "view": "()", "view_for": "(party, channels)",
        },
    },
    "turnpike.channel.footing": {
        "Footing": {"__init__": "()", "cover": "()", "may_owe": "(as_first)", "see": "(vault, height)"},
    },
    "turnpike.channel.end": {
        "End": {
            "__init__": "(opening, *, as_first)", "standing": "()", "is_busy": "()", "is_turn": "()",
            "is_sure": "(lock)", "peer": "()", "propose": "(step)",
            "hear_step": "(settings, height, receipts, step)", "hear_answer": "(number)", "see": "(vault, height)",
            "leave": "()", "may_sign": "(splice, height, far)", "sign": "(splice)",
        },
    },
    "turnpike.party.member": {"Member": {"__init__": "(number, settings)"}},
    "turnpike.party.party": {
        "Party": {
            "__init__": "(number, settings)", "tell": "(view, secrets)", "hear": "(sender, word)", "wish": "(wanted)",
            "stop": "()",
        },
    },
    "turnpike.watch.watcher": {
        "Watcher": {
            "__init__": "(party, *, fee)", "keep": "(state, hands)", "reveal": "(secret, start, last)",
            "drop": "(channel)", "tick": "(view)",
        },
    },
    "turnpike.town.town": {
        "Town": {
            "__init__": "(purses, members, *, room)", "do": "(deed)", "can_offer": "(thing)", "fork": "()",
        },
    },
}

PROPERTIES = {
    ("turnpike.money.settings", "Settings"): ["toll"],
    ("turnpike.ledger.ledger", "Ledger"): ["height_now", "burnt_so_far", "all_money"],
    ("turnpike.watch.watcher", "Watcher"): ["duties", "reveals"],
}
OPERATORS = {
    ("turnpike.money.settings", "Settings"): ["__eq__"],
    ("turnpike.ledger.ledger", "Ledger"): ["__contains__"],
    ("turnpike.town.town", "Town"): ["__iter__", "__len__"],
}


def defined(module, name):
    """Return what the module has under the name."""
    return getattr(importlib.import_module(module), name)


def arguments_of(function, skipped):
    """Return the arguments of the function as text, without annotations and without the first skipped ones."""
    parameters = list(inspect.signature(function).parameters.values())[skipped:]
    return str(inspect.Signature([each.replace(annotation=inspect.Parameter.empty) for each in parameters]))


class InterfaceTest(unittest.TestCase):
    def test_functions_stand_in_their_files(self):
        for module, functions in FUNCTIONS.items():
            for name, arguments in functions.items():
                with self.subTest(module=module, name=name):
                    function = defined(module, name)
                    self.assertTrue(inspect.isfunction(function))
                    self.assertEqual(function.__module__, module)
                    self.assertEqual(arguments_of(function, 0), arguments)

    def test_classes_stand_in_their_files(self):
        for module, classes in CLASSES.items():
            for name in classes:
                with self.subTest(module=module, name=name):
                    self.assertTrue(inspect.isclass(defined(module, name)))
                    self.assertEqual(defined(module, name).__module__, module)

    def test_methods_stand_in_their_classes(self):
        for module, classes in CLASSES.items():
            for name, methods in classes.items():
                for method, arguments in methods.items():
                    with self.subTest(module=module, name=name, method=method):
                        found = vars(defined(module, name))[method]
                        self.assertEqual(arguments_of(found, 1), arguments)

    def test_properties_stand_in_their_classes(self):
        for (module, name), names in PROPERTIES.items():
            for each in names:
                with self.subTest(module=module, name=name, each=each):
                    self.assertIsInstance(vars(defined(module, name))[each], property)

    def test_operators_stand_in_their_classes(self):
        for (module, name), names in OPERATORS.items():
            for each in names:
                with self.subTest(module=module, name=name, each=each):
                    self.assertTrue(inspect.isfunction(vars(defined(module, name))[each]))


if __name__ == "__main__":
    unittest.main()
