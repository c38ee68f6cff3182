package dayspec

import (
	"testing"

	"analemma/api"
	"analemma/dayform"
)

func fixed(day int) api.Day      { return api.Day{Kind: api.DayFixed, Day: day} }
func lastOf(week int) api.Day    { return api.Day{Kind: api.DayLast, Week: week} }
func from(week, day int) api.Day { return api.Day{Kind: api.DayFrom, Week: week, Day: day} }
func to(week, day int) api.Day   { return api.Day{Kind: api.DayTo, Week: week, Day: day} }

func TestP9_1Parse(t *testing.T) {
	for s, want := range map[string]api.Day{
		"15": fixed(15), "1": fixed(1), "31": fixed(31), "lastSun": lastOf(0), "Sun>=8": from(0, 8), "sunday<=25": to(0, 25), "LASTm": lastOf(1),
		"laStSATURday": lastOf(6), "th>=31": from(4, 31), "W<=1": to(3, 1), "lastsunday": lastOf(0),
	} {
		if d, e := Parse(s); d != want || e != api.OK {
			t.Error(s, d, e)
		}
	}
	for want, strings := range map[api.Errno][]string{
		api.ErrForm: {
			"0", "05", "Sun", "", "Sun=8", "Sun>=", "Sun>8", "100", "-1", "1 ", "Sun>=0", "Sun>=08", "Sun>=100", "Sun>", "las", "Sun>=8 ", "Sun>=>",
			"Sun> =8", "a<8>=1", "Sun=>8", "1a", "Sun>>=8",
		},
		api.ErrRange: {"32", "99", "Sun>=32", "m<=99"},
		api.ErrWord:  {"last", "lastS", ">=8", "S>=99", "last>=", "<=", ">=", "lastSun>=1", "s<=1", "last5", "lastSuns", "last Sun", "sund ay>=0"},
	} {
		for _, s := range strings {
			if d, e := Parse(s); d != (api.Day{}) || e != want {
				t.Errorf("%q %v %v, not %v", s, d, e, want)
			}
		}
	}
}

func TestP9_2Print(t *testing.T) {
	for d, want := range map[api.Day]string{
		to(0, 25): "Sun<=25", from(6, 1): "Sat>=1", lastOf(3): "lastWed", fixed(7): "7", fixed(31): "31", lastOf(0): "lastSun",
	} {
		if s, e := Print(d); s != want || e != api.OK {
			t.Error(d, s, e)
		}
	}
	for _, d := range []api.Day{
		fixed(0), fixed(32), lastOf(7), from(0, 0), to(-1, 1), {}, {Kind: 5, Day: 1}, {Kind: api.DayFixed, Day: 1, Week: 1},
		{Kind: api.DayLast, Day: 1},
	} {
		if s, e := Print(d); s != "" || e != api.ErrArg {
			t.Error(d, s, e)
		}
	}
}

func TestP9_3Back(t *testing.T) {
	count := 0
	for kind := range 6 {
		for week := -1; week < 8; week++ {
			for day := -1; day < 33; day++ {
				d := api.Day{Kind: kind, Week: week, Day: day}
				s, e := Print(d)
				if (e == api.OK) != (dayform.Check(d) == api.OK) {
					t.Error(d, e)
				}
				if e != api.OK {
					continue
				}
				count++
				if back, e := Parse(s); back != d || e != api.OK {
					t.Error(d, s, back, e)
				}
			}
		}
	}
	if count != 31+7+2*7*31 {
		t.Error(count)
	}
	for _, s := range []string{"SU<=9", "lastF", "29", "tuesd>=30"} {
		d, e := Parse(s)
		if e != api.OK || dayform.Check(d) != api.OK {
			t.Error(s, d, e)
		}
	}
}
