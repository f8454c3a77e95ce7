"""The names and arguments of the interface, each defined in the file under which it stands."""

import importlib
import inspect
import unittest

FUNCTIONS = {
    "names": {"is_id": "text", "is_label": "text", "is_name": "text", "labels": "name", "ends": "name other",
              "chain": "zones name", "zone_of": "zones name"},
    "reader": {"read_case": "text", "read_plan": "text", "read_table": "text", "read_history": "text"},
    "printer": {"case_text": "case", "plan_text": "plan", "table_text": "table", "history_text": "history"},
    "realms": {"is_realm": "value", "zone_names": "realm", "slots": "realm", "parent": "realm zone",
               "home": "realm slot", "lag_of": "realm slot", "is_slot": "realm value", "is_item": "slot value",
               "is_state": "realm value", "item_of": "state slot", "is_on": "state server zone",
               "is_deed": "realm state value", "after": "realm state deed", "is_plan": "realm state value",
               "state_at": "realm state plan moment"},
    "chains": {"needed": "realm name kind", "is_good": "item moment", "fits": "slot item other other_item",
               "fault": "realm held name kind moment"},
    "askers": {"run_history": "world history"},
    "holding": {"spans": "realm state plan slot", "off_spans": "state plan server zone",
                "over": "realm slot item end", "can_hold": "realm state plan slot moment"},
    "judge": {"judge": "realm state plan end", "history": "realm state plan end"},
    "waits": {"rows_of": "realm state deeds end", "begun_rows": "realm state deeds end"},
    "rings": {"keeps": "rows moments", "least_moments": "rows count", "find_ring": "rows count",
              "is_ring": "rows ring"},
    "tables": {"is_row_of_deeds": "realm state value", "is_bounds": "count value", "is_table": "count value",
               "run_table": "table bounds delays", "plan_of": "deeds done",
               "check_table": "realm state deeds bounds table end", "table_of_rows": "rows bounds",
               "least_table": "realm state deeds bounds end",
               "too_early": "realm state deeds bounds end done moment"},
    "orders": {"is_possible": "realm state deeds before order", "finish": "realm state deeds bounds end order",
               "bound": "realm state deeds bounds end beginning",
               "best_order": "realm state deeds bounds end before"},
    "order_papers": {"order_paper": "realm state deeds bounds end before",
                     "check_paper": "realm state deeds bounds end before answer paper"},
    "lost": {"is_lost": "realm value", "is_strange": "realm state plan zone key",
             "can_plant": "realm state plan lost slot item moment",
             "can_be_false": "realm state plan lost name kind moment",
             "clean_from": "realm state plan lost name kind end",
             "false_history": "realm state plan lost name kind moment"},
    "book": {"read_book": "text", "entry_line": "entry"},
    "whole": {"is_case": "raw", "report": "case", "play": "case delays falls history"},
    "followers": {"is_followed": "realm state deeds", "run_follower": "world rhythm history"},
    "follow": {"in_mind": "realm state plan rhythm moment", "follow_judge": "realm state plan rhythm end",
               "follow_history": "realm state plan rhythm end"},
    "follow_tables": {"follow_rows": "realm state deeds rhythm end",
                      "follow_table": "realm state deeds bounds rhythm end",
                      "check_follow": "realm state deeds bounds table rhythm end"},
}
CLASSES = {
    "errors": {"NeverdarkError": {}, "BadText": {"__init__": "self line"}, "NotAllowed": {"__init__": "self word"}},
    "worlds": {"World": {"__init__": "self realm state plan", "current": "self slot moment",
                         "is_on": "self server zone moment"}},
    "askers": {"Asker": {"__init__": "self world", "handle": "self event", "now": "self", "kept": "self"}},
    "hand": {"Hand": {"__init__": "self table count text", "next": "self moment", "see": "self moment",
                      "book": "self", "done": "self"}},
    "followers": {"Follower": {"__init__": "self world rhythm", "handle": "self event", "now": "self", "kept": "self",
                               "trusted": "self", "waiting": "self", "looked": "self"}},
}
CONSTANTS = {
    "realms": {"MAX_TIME": 10000, "MAX_LIFE": 1000, "MAX_LAG": 100, "MAX_ZONES": 6, "MAX_ANCHORS": 3, "MAX_SETS": 8,
               "MAX_IDS": 4, "MAX_SIGNERS": 3, "MAX_PLAN": 12},
    "tables": {"MAX_DEEDS": 6, "MAX_DELAY": 1000},
    "followers": {"MAX_RHYTHM": 1000},
}


def arguments(function):
    return list(inspect.signature(function).parameters)


class InterfaceTest(unittest.TestCase):
    def test_functions(self):
        for module, rows in FUNCTIONS.items():
            held = importlib.import_module(f"neverdark.{module}")
            for name, wanted in rows.items():
                function = getattr(held, name)
                self.assertEqual(arguments(function), wanted.split(), name)
                self.assertEqual(function.__module__, f"neverdark.{module}", name)

    def test_classes(self):
        for module, rows in CLASSES.items():
            held = importlib.import_module(f"neverdark.{module}")
            for name, methods in rows.items():
                self.assertEqual(getattr(held, name).__module__, f"neverdark.{module}", name)
                for method, wanted in methods.items():
                    self.assertEqual(arguments(vars(getattr(held, name))[method]), wanted.split(), (name, method))

    def test_constants(self):
        for module, rows in CONSTANTS.items():
            held = importlib.import_module(f"neverdark.{module}")
            for name, wanted in rows.items():
                self.assertEqual(getattr(held, name), wanted, name)
                self.assertIs(type(getattr(held, name)), int, name)


if __name__ == "__main__":
    unittest.main()
