"""The last section: names, parameters, and what is defined where."""

import importlib
import inspect
import unittest

FUNCTIONS = {
    'kinds': {
        word: 'thing'
        for word in (
            'is_integer', 'is_number', 'is_name', 'is_machine', 'is_trust', 'is_clocks', 'is_looking', 'is_waking',
            'is_book',
        )
    },
    'partschecker': {
        'lets_machine': 'thing', 'lets_trust': 'thing', 'lets_clocks': 'trust thing', 'lets_parts': 'thing',
    },
    'machineparts': {
        'next_state': 'machine state letter', 'made_of': 'machine state row', 'answer_of': 'machine state look',
    },
    'machinechanges': {
        'only_looks': 'machine looks', 'renumbered': 'machine states', 'renamed_machine': 'machine letters looks',
        'side_by_side': 'machine other',
    },
    'trustparts': {'houses_of': 'trust', 'lots_at': 'trust house', 'fears_at': 'trust house'},
    'trustchanges': {
        'with_lot': 'trust house lot', 'with_fear': 'trust house fear', 'renamed_trust': 'trust names',
    },
    'texts': {'machine_text': 'machine', 'book_text': 'book'},
    'readings': {'machine_read': 'text', 'book_read': 'text'},
    'reaching': {'reachable_states': 'machine', 'row_to': 'machine state'},
    'alikestates': {
        'alike_classes': 'machine looks', 'are_alike': 'machine state other looks',
        'parting_row': 'machine state other looks', 'starts_alike': 'machine other', 'least_machine': 'machine',
        'folded': 'machine',
    },
    'moving': {
        'moves_past': 'machine look age', 'least_look_age': 'machine look', 'moving_walk': 'machine look age',
        'is_moving': 'machine look age thing',
    },
    'counting': {
        'settles': 'machine looks many', 'right_many': 'machine looks', 'unlike_walk': 'machine looks many',
        'partings_of': 'machine looks many',
    },
    'alikepapers': {'alike_paper': 'machine state other looks'},
    'alikechecker': {'lets_alike': 'machine state other looks thing'},
    'falls': {
        'is_safe': 'trust house fall', 'safe_houses': 'trust fall', 'greatest_falls': 'trust house',
        'common_falls': 'trust house other',
    },
    'odds': {
        'odds_fall': 'trust one other', 'all_odds': 'trust', 'without_pairs': 'trust pairs', 'least_dropped': 'trust',
    },
    'needs': {
        'needs_of': 'trust house', 'meets_needs': 'trust house lot', 'first_missed': 'trust house lot',
        'least_lots': 'trust house', 'fewest_lot': 'trust house',
    },
    'trustsalike': {'trusts_alike': 'trust other', 'parting_lot': 'trust other'},
    'trustpapers': {'odds_paper': 'trust', 'needs_paper': 'trust house'},
    'trustchecker': {'lets_odds': 'trust thing', 'lets_needs': 'trust house thing'},
    'boundtables': {
        'table_of': 'houses bounds', 'gap_of': 'clocks one other', 'way_of': 'houses bounds one other',
    },
    'clockpapers': {'table_paper': 'houses bounds'},
    'clockchecker': {'lets_table': 'houses bounds thing'},
    'settings': {
        'fits': 'clocks houses setting', 'any_setting': 'clocks houses', 'filled_setting': 'clocks houses shifts',
    },
    'extremes': {
        'extreme_setting': 'clocks houses house low', 'surely_before': 'clocks house first other last',
        'least_until': 'clocks house end other',
    },
    'longestends': {'longest_for': 'clocks house sets lot promises'},
    'longestpapers': {'longest_paper': 'clocks house sets lot promises'},
    'longestchecker': {'lets_longest': 'clocks house sets lot promises thing'},
    'clockchanges': {'with_bound': 'clocks bound', 'without_house': 'clocks house', 'turned_clocks': 'clocks'},
    'runkinds': {'is_run': 'book thing'},
    'runchecker': {'lets_run': 'book thing'},
    'inruns': {
        word: 'book run house' for word in ('votes_in', 'learned_in', 'height_in', 'greatest_in', 'state_in')
    },
    'looksinruns': {'looks_in': 'book run', 'clash_in': 'book run'},
    'oneness': {word: 'book run * age=0' for word in ('run_is_one', 'run_row', 'first_break')},
    'rowchecker': {'lets_row': 'book run thing * age=0'},
    'rulelooks': {
        'lasting': 'book rule', 'catches': 'book rule lot', 'rule_lacks': 'book rule * age=0', 'rule_is_right': 'book rule * age=0',
        'waking_is_right': 'book waking',
    },
    'bestends': {'longest_end': 'book rule * age=0', 'least_untils': 'book rule * age=0'},
    'shownruns': {'run_of_rule': 'book rule * age=0', 'run_of_waking': 'book waking', 'run_of_odds': 'book one other'},
    'runchanges': {'moved': 'book run by', 'without_events': 'book run indexes', 'shortened': 'book run * age=0'},
    'whole': {
        'is_as_one': 'book * age=0', 'faults_of': 'book * age=0', 'first_fault': 'book * age=0', 'faults_in': 'book fall',
        'fault_run': 'book fault * age=0', 'least_age': 'book',
    },
    'bookpapers': {'book_paper': 'book'},
    'bookchecker': {'lets_book': 'book thing'},
    'mending': {
        'kept_rules': 'book', 'least_changes': 'book', 'with_longest_ends': 'book', 'an_ask_for': 'book house looks',
    },
    'bookchanges': {'with_rule': 'book rule', 'without_rule': 'book fault', 'books_alike': 'book other'},
    'liveevents': {'is_event': 'thing'},
    'through': {'lead_through': 'live events'},
    'replaying': {'is_log': 'thing', 'replayed': 'log'},
    'eventtexts': {'event_line': 'event', 'log_lines': 'log'},
    'eventreadings': {'read_event': 'text', 'read_log': 'lines'},
    'desk': {'say': 'desk row', 'counts': 'desk'},
}
CLASSES = {
    ('machineclasses', 'Machine'): (
        'letters looks moves answers',
        'machine_now __getitem__ __call__ __contains__ __len__ __iter__ __str__ __eq__ __or__ __and__ of read',
    ),
    ('trustclasses', 'Trust'): (
        '*triples',
        'trust_now __getitem__ __contains__ __len__ __iter__ __eq__ lotted fearing __mod__',
    ),
    ('walkclasses', 'Walk'): (
        'machine state=0 row=()',
        'take back machine_now state_now row_now __iadd__ __add__ __call__ __getitem__ __contains__ __iter__ __len__ '
        '__str__ __eq__',
    ),
    ('clockclasses', 'Clocks'): (
        'houses *bounds', 'houses_now table_now __call__ __contains__ __len__ __iter__ __add__ __eq__',
    ),
    ('bookclasses', 'Book'): (
        'machine trust clocks looking waking',
        'book_now faults_now is_one_now run __add__ __sub__ __contains__ __len__ __iter__ __eq__',
    ),
    ('live', 'LiveHouses'): (
        'book fall setting * age=0',
        'MOST book_now fall_now setting_now age_now run_now time_now go vote learn sleep wake count begin told answer promise says is_one '
        'first_broken row_told looks heights states learned votes table barred tried undo do_all tally note since notes log __getitem__ '
        '__contains__ __len__ __iter__ __str__ __eq__',
    ),
    ('guarded', 'Guarded'): ('book fall setting * age=0', '__init__'),
    ('desk', 'Desk'): ('', 'say counts'),
}
METHODS = {
    ('machineclasses', 'Machine', '__call__'): 'self state row',
    ('machineclasses', 'Machine', 'of'): 'machine',
    ('machineclasses', 'Machine', 'read'): 'text',
    ('trustclasses', 'Trust', 'lotted'): 'self house lot',
    ('trustclasses', 'Trust', 'fearing'): 'self house fear',
    ('walkclasses', 'Walk', 'take'): 'self letter',
    ('walkclasses', 'Walk', 'back'): 'self',
    ('walkclasses', 'Walk', '__call__'): 'self row',
    ('clockclasses', 'Clocks', '__call__'): 'self one other',
    ('bookclasses', 'Book', 'run'): 'self fault',
    ('live', 'LiveHouses', 'go'): 'self event',
    ('live', 'LiveHouses', 'vote'): 'self time house place letter',
    ('live', 'LiveHouses', 'learn'): 'self time house lot place letter',
    ('live', 'LiveHouses', 'sleep'): 'self time house',
    ('live', 'LiveHouses', 'wake'): 'self time house',
    ('live', 'LiveHouses', 'count'): 'self time house waking place state',
    ('live', 'LiveHouses', 'begin'): 'self time house rule look',
    ('live', 'LiveHouses', 'told'): 'self time begun teller number',
    ('live', 'LiveHouses', 'answer'): 'self time begun number',
    ('live', 'LiveHouses', 'promise'): 'self time house rule',
    ('live', 'LiveHouses', 'says'): 'self time house rule number',
    ('live', 'LiveHouses', 'learned'): 'self house',
    ('live', 'LiveHouses', 'votes'): 'self house',
    ('live', 'LiveHouses', 'barred'): 'self event',
    ('live', 'LiveHouses', 'tried'): 'self *events',
    ('live', 'LiveHouses', 'do_all'): 'self *events keep=False',
    ('live', 'LiveHouses', 'note'): 'self name',
    ('live', 'LiveHouses', 'since'): 'self name',
    ('desk', 'Desk', 'say'): 'self row',
    ('desk', 'Desk', 'counts'): 'self',
}


def parameters(call):
    """The parameters in order, a * ahead of those that are passed by name only."""
    told = []
    for part in inspect.signature(call).parameters.values():
        if part.kind is part.KEYWORD_ONLY and not any(word.startswith('*') for word in told):
            told.append('*')
        told.append(str(part))
    return ' '.join(told)


def module(name):
    return importlib.import_module('actasone.' + name)


class Interface(unittest.TestCase):
    def test_functions(self):
        for place, calls in FUNCTIONS.items():
            for name, wanted in calls.items():
                call = getattr(module(place), name)
                self.assertTrue(inspect.isfunction(call))
                self.assertEqual(call.__module__, 'actasone.' + place)
                self.assertEqual(parameters(call), wanted, name)

    def test_classes(self):
        for (place, name), (wanted, own) in CLASSES.items():
            kind = getattr(module(place), name)
            self.assertEqual(kind.__module__, 'actasone.' + place)
            self.assertEqual(parameters(kind), wanted)
            for word in own.split():
                self.assertIn(word, vars(kind), name)

    def test_methods(self):
        for (place, name, word), wanted in METHODS.items():
            self.assertEqual(parameters(getattr(getattr(module(place), name), word)), wanted)

    def test_properties(self):
        for (place, name), (_, own) in CLASSES.items():
            for word in own.split():
                if word.endswith('_now'):
                    self.assertIsInstance(vars(getattr(module(place), name))[word], property)

    def test_errors_are_defined_in_their_file(self):
        errors = module('errors')
        for name in (
            'CopyError', 'PaperError', 'BookError', 'LiveError', 'TextError', 'InvalidPaper', 'NotUsable', 'NoTable',
            'InvalidEvent', 'NothingToUndo', 'InvalidText', 'InvalidRow',
        ):
            self.assertEqual(getattr(errors, name).__module__, 'actasone.errors')
