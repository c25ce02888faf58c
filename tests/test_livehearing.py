"""How live hearers hear: room, forgetting, what is shown, and other hearers on the way."""

import unittest

from pieceswindow.live import LiveHearer
from tests.test_live import LiveChecks, behind, book

OPENS, COMES, AGAIN = ('opens', None, False), ('comes', None, False), ('again', None, False)
SHOWS, SWALLOWED, REFUSED = ('comes', None, True), ('swallowed', None, False), ('refused', None, False)
# Texts begin at 0, 2, 4 ..; with such a road their parts come at any moment that is used here.
BEGINS = tuple(('begin', 2 * k, k) for k in range(5))


def wide(n=2, copies=3, numbers=6, wait=90, memory=0, room=2, drop='eldest', pause=None):
    return book(n=n, copies=copies, numbers=numbers, d=0, late=99, wait=wait, memory=memory, room=room, drop=drop,
                pause=pause)


def begun(one, many=5):
    return behind(one, *BEGINS[:many])


class TestHearing(LiveChecks, unittest.TestCase):

    def numbers(self, live):
        return tuple(row[0] for row in live.open_now)

    def test_room_by_eldest(self):
        live = begun(wide())
        self.assertEqual([live.hear(10, 1, 0), live.hear(11, 0, 0), live.hear(12, 1, 0)], [OPENS, OPENS, AGAIN])
        self.assertEqual(live.hear(13, 2, 0), ('opens', 1, False))
        self.assertEqual(live.open_now, ((0, 11, 11, (0, None)), (2, 13, 13, (2, None))))
        self.assertEqual(live.hear(14, 3, 1), ('opens', 0, False))

    def test_room_by_slowest(self):
        live = begun(wide(drop='slowest'))
        self.assertEqual([live.hear(10, 1, 0), live.hear(11, 0, 0), live.hear(12, 1, 0)], [OPENS, OPENS, AGAIN])
        self.assertEqual(live.open_now, ((1, 10, 12, (1, None)), (0, 11, 11, (0, None))))
        self.assertEqual(live.hear(13, 2, 0), ('opens', 0, False))
        self.assertEqual(self.numbers(live), (1, 2))
        self.assertEqual(live.hear(14, 3, 0), ('opens', 1, False))

    def test_slowest_by_what_comes(self):
        live = begun(wide(n=3, drop='slowest'))
        self.assertEqual([live.hear(10, 0, 0), live.hear(11, 1, 0), live.hear(12, 0, 2)], [OPENS, OPENS, COMES])
        self.assertEqual(live.hear(13, 2, 0), ('opens', 1, False))

    def test_room_by_newest(self):
        live = begun(wide(drop='newest'))
        self.assertEqual([live.hear(10, 1, 0), live.hear(11, 0, 0), live.hear(12, 2, 0)], [OPENS, OPENS, REFUSED])
        self.assertEqual(self.numbers(live), (1, 0))
        self.assertEqual([live.hear(12, 1, 1), live.hear(12, 2, 1), live.hear(12, 2, 0)], [SHOWS, OPENS, SHOWS])

    def test_the_same_moment(self):
        live = begun(wide())
        live.do_all(*[('hear', 10, text, 0) for text in (2, 0)])
        self.assertEqual(live.hear(10, 1, 0), ('opens', 2, False))
        live = begun(wide(drop='slowest'))
        live.do_all(*[('hear', 10, text, 0) for text in (2, 0, 2)])
        self.assertEqual(live.hear(10, 1, 0), ('opens', 0, False))

    def test_room_of_one(self):
        for drop in ('eldest', 'slowest'):
            live = begun(wide(room=1, drop=drop))
            self.assertEqual([live.hear(10, 0, 0), live.hear(10, 1, 1)], [OPENS, ('opens', 0, False)])
            self.assertEqual([live.hear(10, 1, 0), live.hear(10, 0, 1)], [SHOWS, OPENS])

    def test_room_is_not_asked_for_what_is_open(self):
        live = begun(wide(room=1))
        self.assertEqual([live.hear(10, 0, 0), live.hear(11, 0, 0), live.hear(12, 0, 1)], [OPENS, AGAIN, SHOWS])
        self.assertEqual(live.hear(12, 0, 1), SWALLOWED)
        self.assertEqual(live.hear(12, 1, 1), OPENS)

    def test_what_is_forgotten_makes_room(self):
        live = begun(wide(wait=5))
        self.assertEqual([live.hear(10, 0, 0), live.hear(12, 1, 0)], [OPENS, OPENS])
        self.assertEqual(live.tried(('hear', 15, 2, 0)), (('opens', 0, False),))
        self.assertEqual(live.tried(('hear', 16, 2, 0)), (OPENS,))

    def test_wait(self):
        live = begun(wide(wait=5))
        live.hear(10, 0, 0)
        self.assertEqual(live.tried(('hear', 15, 0, 1)), (SHOWS,))
        self.assertEqual(live.tried(('hear', 16, 0, 1)), (OPENS,))
        # A later hearing does not make it younger.
        live.hear(14, 0, 0)
        self.assertEqual(live.tried(('hear', 15, 0, 1)), (SHOWS,))
        self.assertEqual(live.hear(16, 0, 1), OPENS)
        self.assertEqual(live.open_now, ((0, 16, 16, (None, 0)),))

    def test_wait_of_others(self):
        live = begun(wide(wait=5))
        live.hear(10, 0, 0)
        self.assertEqual(live.hear(15, 1, 0), OPENS)
        self.assertEqual(self.numbers(live), (0, 1))
        self.assertEqual(live.hear(16, 2, 0), OPENS)
        self.assertEqual(self.numbers(live), (1, 2))

    def test_wait_of_none(self):
        live = begun(wide(wait=0))
        self.assertEqual([live.hear(10, 0, 0), live.hear(10, 0, 1)], [OPENS, SHOWS])
        self.assertEqual([live.hear(11, 0, 0), live.hear(12, 0, 1)], [OPENS, OPENS])

    def test_memory(self):
        live = begun(wide(memory=3))
        live.do_all(('hear', 10, 0, 0), ('hear', 11, 0, 1))
        self.assertEqual(live.remembered_now, ((0, 11),))
        self.assertEqual(live.tried(('hear', 14, 0, 1)), (SWALLOWED,))
        self.assertEqual(live.tried(('hear', 15, 0, 1)), (OPENS,))
        # What is swallowed does not make it younger.
        live.hear(14, 0, 0)
        self.assertEqual(live.remembered_now, ((0, 11),))
        self.assertEqual(live.hear(15, 1, 0), OPENS)
        self.assertEqual(live.remembered_now, ())

    def test_memory_of_none(self):
        live = begun(wide(n=1))
        shown = ('opens', None, True)
        self.assertEqual([live.hear(10, 0, 0), live.hear(10, 0, 0), live.hear(11, 0, 0)], [shown, SWALLOWED, shown])

    def test_remembered_numbers_ascend(self):
        live = begun(wide(n=1, memory=50))
        live.do_all(('hear', 10, 3, 0), ('hear', 11, 0, 0), ('hear', 12, 2, 0))
        self.assertEqual(live.remembered_now, ((0, 11), (2, 12), (3, 10)))

    def test_one_part(self):
        live = begun(wide(n=1, room=1, wait=0, memory=2))
        shown = ('opens', None, True)
        self.assertEqual([live.hear(10, text, 0) for text in range(3)], [shown] * 3)
        self.assertEqual((live.open_now, live.table()), ((), []))
        self.assertEqual(live.showings_now, ((10, 0, (0,)), (10, 1, (1,)), (10, 2, (2,))))
        self.assertEqual((live.missed_now, live.harms_now), ((), ()))
        self.assertEqual([live.hear(12, 0, 0), live.hear(13, 0, 0)], [SWALLOWED, shown])
        self.assertEqual(live.harms_now, ('twice',))

    def test_one_part_by_newest(self):
        live = begun(wide(n=1, room=1, drop='newest'))
        self.assertEqual([live.hear(10, text, 0) for text in range(3)], [('opens', None, True)] * 3)

    def test_swallowed_text_is_missed(self):
        live = behind(wide(n=1, numbers=1, memory=50), ('begin', 0, 0), ('begin', 2, 0))
        self.assertEqual([live.hear(10, 0, 0), live.hear(10, 1, 0)], [('opens', None, True), SWALLOWED])
        self.assertEqual((live.missed_now, live.harms_now), ((1,), ('missed',)))

    def test_joined(self):
        live = behind(wide(numbers=2, copies=4), ('begin', 0, 0), ('begin', 2, 1), ('begin', 4, 0))
        self.assertEqual([live.hear(10, 0, 0), live.hear(11, 2, 0), live.hear(12, 2, 1)], [OPENS, AGAIN, SHOWS])
        self.assertEqual(live.showings_now, ((12, 0, (0, 2)),))
        self.assertEqual((live.missed_now, live.harms_now), ((2,), ('joined', 'missed')))
        # It is missed no longer by further copies; joined stays.
        live.do_all(('hear', 13, 2, 1), ('hear', 13, 2, 0))
        self.assertEqual(live.showings_now, ((12, 0, (0, 2)), (13, 0, (2, 2))))
        self.assertEqual((live.missed_now, live.harms_now), ((), ('joined',)))

    def test_twice(self):
        live = begun(wide())
        live.do_all(('hear', 10, 0, 0), ('hear', 10, 0, 1), ('hear', 11, 0, 0))
        self.assertEqual(live.harms_now, ())
        live += ('hear', 11, 0, 1)
        self.assertEqual((live.harms_now, live.missed_now), (('twice',), ()))
        self.assertEqual(live.showings_now, ((10, 0, (0, 0)), (11, 0, (0, 0))))
        live.undo()
        self.assertEqual(live.harms_now, ())

    def test_missed_until_a_copy_comes(self):
        live = begun(wide(room=1))
        live.do_all(('hear', 10, 0, 0), ('hear', 10, 1, 0), ('hear', 10, 0, 1))
        self.assertEqual((live.missed_now, live.harms_now), ((0,), ('missed',)))
        live += ('hear', 11, 0, 0)
        self.assertEqual((live.missed_now, live.harms_now), ((), ()))

    def test_what_lacks_a_part_is_not_missed(self):
        live = begun(wide(n=3, room=1))
        live.do_all(('hear', 10, 0, 0), ('hear', 10, 0, 2), ('hear', 10, 1, 0), ('hear', 10, 0, 0))
        self.assertEqual(live.missed_now, ())
        live += ('hear', 10, 0, 1)
        self.assertEqual(live.missed_now, (0,))

    def test_several_missed_texts_ascend(self):
        live = begun(wide(wait=0))
        events = [('hear', 10, 3, 0), ('hear', 10, 1, 0), ('hear', 11, 1, 1), ('hear', 11, 3, 1), ('hear', 12, 0, 0)]
        live.do_all(*events)
        self.assertEqual(live.missed_now, (1, 3))


class TestOtherHearers(LiveChecks, unittest.TestCase):

    def opened(self, drop='eldest', texts=(1, 0, 2), again=(1,), **more):
        live = begun(wide(room=5, drop=drop, **more))
        live.do_all(*[('hear', 10, text, 0) for text in texts], *[('hear', 11, text, 0) for text in again])
        return live

    def test_less_room_by_eldest(self):
        live = self.opened()
        self.assertEqual(live.tried(('hearer', 90, 0, 3, 'eldest')), ((),))
        self.assertEqual(live.tried(('hearer', 90, 0, 2, 'eldest')), ((1,),))
        self.assertEqual(live.set_hearer(90, 0, 1, 'eldest'), (1, 0))
        self.assertEqual(live.open_now, ((2, 10, 10, (2, None)),))

    def test_less_room_by_slowest(self):
        live = self.opened()
        self.assertEqual(live.tried(('hearer', 90, 0, 2, 'slowest')), ((0,),))
        self.assertEqual(live.set_hearer(90, 0, 1, 'slowest'), (0, 2))
        self.assertEqual(live.open_now, ((1, 10, 11, (1, None)),))

    def test_less_room_by_newest(self):
        live = self.opened(texts=(1, 4, 0, 2), again=(2, 0))
        self.assertEqual(live.tried(('hearer', 90, 0, 3, 'newest')), ((2,),))
        self.assertEqual(live.set_hearer(90, 0, 1, 'newest'), (2, 0, 4))
        self.assertEqual(live.open_now, ((1, 10, 10, (1, None)),))

    def test_the_rule_is_that_of_the_new_hearer(self):
        for old in ('eldest', 'newest', 'slowest'):
            for new, dropped in (('eldest', (1, 0)), ('newest', (2, 0)), ('slowest', (0, 2))):
                live = self.opened(old)
                self.assertEqual(live.set_hearer(90, 0, 1, new), dropped)

    def test_what_is_dropped_is_lost(self):
        live = self.opened()
        live.set_hearer(90, 0, 1, 'newest')
        self.assertEqual([live.hear(12, 1, 1), live.hear(12, 0, 1)], [SHOWS, OPENS])
        self.assertEqual(live.missed_now, (0,))
        self.assertEqual(live.harms_now, ('missed',))

    def test_more_room_again(self):
        live = self.opened()
        self.assertEqual([live.set_hearer(90, 0, 1, 'eldest'), live.set_hearer(90, 0, 9, 'eldest')], [(1, 0), ()])
        self.assertEqual(len(live.open_now), 1)
        self.assertEqual([live.undo()[3], live.undo()[3], len(live.open_now)], [9, 1, 3])

    def test_answers_by_the_hearer_of_now(self):
        live = begun(wide(room=1))
        live.hear(10, 0, 0)
        live.set_hearer(90, 0, 1, 'newest')
        self.assertEqual(live.hear(10, 1, 0), REFUSED)
        live.set_hearer(90, 0, 2, 'newest')
        self.assertEqual(live.hear(10, 1, 0), OPENS)
        live.set_hearer(90, 0, 2, 'slowest')
        self.assertEqual([live.hear(10, 0, 0), live.hear(10, 2, 0)], [AGAIN, ('opens', 1, False)])

    def test_shorter_wait(self):
        live = self.opened()
        live.set_hearer(3, 0, 5, 'eldest')
        self.assertEqual([row[0] for row in live.open_now], [1, 0, 2])
        self.assertEqual(live.tried(('hear', 13, 1, 1)), (SHOWS,))
        self.assertEqual(live.hear(14, 3, 0), OPENS)
        self.assertEqual([row[0] for row in live.open_now], [3])

    def test_shorter_wait_and_less_room(self):
        # What would be forgotten at the next arrival still takes room.
        live = self.opened()
        self.assertEqual(live.set_hearer(0, 0, 2, 'eldest'), (1,))
        self.assertEqual([row[0] for row in live.open_now], [0, 2])

    def test_shorter_memory(self):
        live = begun(wide(memory=90))
        live.do_all(('hear', 10, 0, 0), ('hear', 10, 0, 1))
        live.set_hearer(90, 3, 2, 'eldest')
        self.assertEqual(live.remembered_now, ((0, 10),))
        self.assertEqual(live.tried(('hear', 13, 0, 1)), (SWALLOWED,))
        self.assertEqual(live.hear(14, 1, 1), OPENS)
        self.assertEqual(live.remembered_now, ())

    def test_forgotten_by_the_hearer_of_then(self):
        live = self.opened(memory=90)
        live.do_all(('hear', 11, 2, 1), ('hearer', 0, 0, 5, 'eldest'), ('hearer', 90, 90, 5, 'eldest'))
        self.assertEqual(live.hear(50, 1, 1), SHOWS)
        self.assertEqual(live.hear(50, 2, 1), SWALLOWED)
        self.assertEqual(live.remembered_now, ((1, 50), (2, 11)))

    def test_longer_wait(self):
        live = self.opened(wait=3)
        live.set_hearer(30, 0, 5, 'eldest')
        self.assertEqual(live.hear(40, 0, 1), SHOWS)

    def test_book_now(self):
        live = begun(wide())
        live.set_hearer(1, 2, 3, 'slowest')
        self.assertEqual(live.book_now, (wide()[0], wide()[1], (1, 2, 3, 'slowest')))
        self.assertEqual(live.log()[0], ('live', wide()))
        live.undo()
        self.assertEqual(live.book_now, wide())

    def test_one_part(self):
        live = begun(wide(n=1, room=3))
        live.do_all(('hear', 10, 0, 0), ('hear', 10, 1, 0))
        self.assertEqual(live.set_hearer(0, 0, 1, 'eldest'), ())

    def test_beyond_all_limits(self):
        huge = 10 ** 59
        one = ((huge, huge + 5, 60, huge, huge, huge), (huge, huge), (huge, huge, huge, 'eldest'))
        live = LiveHearer(one)
        self.assertEqual([live.begin(-huge, huge - 1), live.begin(0, 0)], [0, 1])
        self.assertEqual(live.next_begins(), ((0, huge, None), (1, huge, huge + 5)))
        self.assertEqual(live.heard_between(0), (0, huge))
        self.assertEqual([live.hear(0, 0, 59), live.hear(huge, 0, 0), live.hear(huge, 1, 1)], [OPENS, COMES, OPENS])
        self.assertEqual(live.heard_between(1), (huge, 2 * huge))
        self.assertEqual(live[0], (1,) + (0,) * 58 + (1,))
        self.assertEqual(live.set_hearer(huge, huge, 1, 'newest'), (0,))
        self.assertEqual(live.table(), [f'{huge - 1}      0 {huge} 0' + ',-' * 58 + ',0'])
        self.assertIs(huge - 1 in live, True)


if __name__ == '__main__':
    unittest.main()
