package dayform

import (
	"testing"

	"analemma/api"
	"analemma/civil"
)

func fixed(day int) api.Day      { return api.Day{Kind: api.DayFixed, Day: day} }
func last(week int) api.Day      { return api.Day{Kind: api.DayLast, Week: week} }
func from(week, day int) api.Day { return api.Day{Kind: api.DayFrom, Week: week, Day: day} }
func to(week, day int) api.Day   { return api.Day{Kind: api.DayTo, Week: week, Day: day} }

func day(t *testing.T, y int64, m, d int) int64 {
	t.Helper()
	n, e := civil.Days(y, m, d)
	if e != api.OK {
		t.Fatal(y, m, d, e)
	}
	return n
}

var right = []api.Day{fixed(1), fixed(31), last(0), last(6), from(0, 1), from(6, 31), to(0, 1), to(6, 31)}

var wrong = []api.Day{
	{}, {Kind: 5, Day: 1}, {Kind: -1, Day: 1}, {Kind: 1 << 40, Day: 1}, fixed(0), fixed(32), fixed(-1), last(-1), last(7),
	{Kind: api.DayFixed, Day: 1, Week: 1}, {Kind: api.DayFixed, Day: 1, Week: -1}, {Kind: api.DayLast, Week: 1, Day: 1},
	{Kind: api.DayLast, Day: -1}, from(0, 0), from(0, 32), from(-1, 1), from(7, 1), to(0, 0), to(0, 32), to(-1, 1), to(7, 1),
}

func TestP2_1Check(t *testing.T) {
	for _, d := range right {
		if e := Check(d); e != api.OK {
			t.Error(d, e)
		}
	}
	for _, d := range wrong {
		if e := Check(d); e != api.ErrArg {
			t.Error(d, e)
		}
	}
}

func TestP2_2On(t *testing.T) {
	for _, x := range []struct {
		y       int64
		m       int
		d       api.Day
		ym      int64
		mm, day int
	}{
		{2026, 3, last(0), 2026, 3, 29}, {2026, 3, from(0, 8), 2026, 3, 8}, {2026, 3, fixed(31), 2026, 3, 31},
		{2026, 2, to(6, 1), 2026, 1, 31}, {2026, 2, from(1, 28), 2026, 3, 2}, {2028, 2, fixed(29), 2028, 2, 29},
		{2028, 2, from(4, 29), 2028, 3, 2}, {2026, 12, from(5, 31), 2027, 1, 1}, {2027, 1, to(4, 1), 2026, 12, 31},
		{2026, 3, from(6, 8), 2026, 3, 14}, {2026, 3, to(0, 8), 2026, 3, 8}, {2026, 3, to(1, 8), 2026, 3, 2},
		{2026, 8, last(1), 2026, 8, 31}, {2026, 8, last(2), 2026, 8, 25},
	} {
		if n, e := On(x.y, x.m, x.d); n != day(t, x.ym, x.mm, x.day) || e != api.OK {
			t.Error(x, n, e)
		}
	}
	for _, x := range []struct {
		y    int64
		m    int
		d    api.Day
		want api.Errno
	}{
		{2026, 2, fixed(29), api.ErrNone}, {2026, 4, fixed(31), api.ErrNone}, {2026, 2, from(0, 29), api.ErrNone},
		{2026, 2, to(0, 29), api.ErrNone}, {2028, 2, to(0, 30), api.ErrNone}, {1900, 2, fixed(29), api.ErrNone},
		{2026, 13, api.Day{}, api.ErrRange}, {2026, 0, fixed(1), api.ErrRange}, {api.MaxCivil + 1, 1, fixed(1), api.ErrRange},
		{-api.MaxCivil - 1, 1, fixed(1), api.ErrRange}, {-1 << 63, 1, fixed(1), api.ErrRange}, {2026, 1, api.Day{Kind: 5}, api.ErrArg},
		{2026, 2, fixed(32), api.ErrArg},
	} {
		if n, e := On(x.y, x.m, x.d); n != 0 || e != x.want {
			t.Error(x, n, e)
		}
	}
	for _, d := range wrong {
		if n, e := On(2026, 1, d); n != 0 || e != api.ErrArg {
			t.Error(d, n, e)
		}
	}
	// A day beyond the years that have numbers.
	end := day(t, api.MaxCivil, 12, 31)
	if n, e := On(api.MaxCivil, 12, from((civil.Weekday(end)+3)%7, 31)); n != end+3 || e != api.OK {
		t.Error(n, end, e)
	}
	begin := day(t, -api.MaxCivil, 1, 1)
	if n, e := On(-api.MaxCivil, 1, to((civil.Weekday(begin)+6)%7, 1)); n != begin-1 || e != api.OK {
		t.Error(n, begin, e)
	}
}

func TestP2_3Always(t *testing.T) {
	const ever = api.Forever
	for _, x := range []struct {
		from, to, m int
		d           api.Day
		want        bool
	}{
		{2000, ever, 2, fixed(29), false}, {2000, ever, 2, fixed(28), true}, {2000, ever, 2, last(1), true},
		{2000, ever, 2, from(0, 30), false}, {2000, 2000, 2, fixed(29), true}, {2001, 2000, 2, fixed(29), true},
		{2001, 2000, 2, fixed(31), true}, {2001, 2000, 13, fixed(1), false}, {2001, 2000, 2, fixed(32), false},
		{2000, 2001, 2, fixed(29), false}, {2000, 2004, 2, fixed(29), false}, {2000, 2000, 2, fixed(30), false},
		{1900, 1900, 2, fixed(29), false}, {2000, 2001, 4, fixed(31), false}, {2000, 2001, 4, fixed(30), true},
		{2000, 2001, 12, to(6, 31), true}, {2000, 2001, 0, fixed(1), false}, {2000, ever + 1, 2, fixed(29), false},
		{ever + 8, ever, 2, fixed(29), false}, {ever + 8, ever, 2, fixed(28), true}, {ever, ever - 1, 2, fixed(29), true},
		{-1 << 63, 1<<63 - 1, 2, fixed(29), false}, {1<<63 - 1, 1<<63 - 1, 2, fixed(29), false},
		{-1 << 63, -1 << 63, 2, fixed(29), true}, {2000, 2000, 2, to(0, 29), true}, {ever, ever, 2, fixed(29), false},
	} {
		if Always(x.from, x.to, x.m, x.d) != x.want {
			t.Error(x)
		}
	}
	for _, d := range wrong {
		if Always(2000, 2000, 1, d) {
			t.Error(d)
		}
	}
}

func TestP2_4Weekdays(t *testing.T) {
	for y := int64(2000); y < 2030; y++ {
		for m := 1; m <= 12; m++ {
			for week := 0; week < 7; week++ {
				end := day(t, y, m, civil.Len(y, m))
				if n, e := On(y, m, last(week)); e != api.OK || civil.Weekday(n) != week || n > end || n <= end-7 {
					t.Fatal("last", y, m, week, n, e)
				}
				for d := 1; d <= civil.Len(y, m); d++ {
					base := day(t, y, m, d)
					if n, e := On(y, m, from(week, d)); e != api.OK || civil.Weekday(n) != week || n < base || n >= base+7 {
						t.Fatal("from", y, m, week, d, n, e)
					}
					if n, e := On(y, m, to(week, d)); e != api.OK || civil.Weekday(n) != week || n > base || n <= base-7 {
						t.Fatal("to", y, m, week, d, n, e)
					}
				}
			}
		}
	}
}

func TestP2_5AlwaysMeansEachYear(t *testing.T) {
	for first := 1896; first < 1906; first++ {
		for end := first - 1; end < first+10; end++ {
			for m := 1; m <= 12; m++ {
				for d := 27; d <= 31; d++ {
					all := true
					for y := first; y <= end; y++ {
						_, e := On(int64(y), m, fixed(d))
						all = all && e == api.OK
					}
					if Always(first, end, m, fixed(d)) != all {
						t.Error(first, end, m, d, all)
					}
				}
			}
		}
	}
}

func TestP2_6Weeks(t *testing.T) {
	for y := int64(1999); y < 2009; y++ {
		for m := 1; m <= 12; m++ {
			for week := 0; week < 7; week++ {
				seen := 0
				for d := 1; d <= 28; d++ {
					n := day(t, y, m, d)
					if civil.Weekday(n) != week {
						continue
					}
					if got, e := On(y, m, from(week, 7*seen+1)); got != n || e != api.OK {
						t.Error(y, m, week, seen, got, n, e)
					}
					seen++
				}
				a, e := On(y, m, last(week))
				b, f := On(y, m, to(week, civil.Len(y, m)))
				if a != b || e != api.OK || f != api.OK {
					t.Error(y, m, week, a, b, e, f)
				}
			}
		}
	}
}
