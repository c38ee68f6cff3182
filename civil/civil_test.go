package civil

import (
	"testing"

	"analemma/api"
)

// lengths are the days of the months of a year, as the chapter lists them.
func lengths(leap bool) []int {
	l := []int{31, 28, 31, 30, 31, 30, 31, 31, 30, 31, 30, 31}
	if leap {
		l[1] = 29
	}
	return l
}

func TestP1_1LeapAndLen(t *testing.T) {
	leap := map[int64]bool{
		1900: false, 2000: true, 2024: true, 2023: false, 0: true, -1: false, -4: true, -100: false, -400: true,
		1<<63 - 1: false, -1 << 63: true, 1 << 62: true,
	}
	for y, want := range leap {
		if Leap(y) != want {
			t.Errorf("Leap(%d) is %v", y, !want)
		}
		for m, n := range lengths(want) {
			if got := Len(y, m+1); got != n {
				t.Errorf("Len(%d, %d) is %d", y, m+1, got)
			}
		}
		for _, m := range []int{0, 13, -1, 1 << 40, -1 << 63, 1<<63 - 1} {
			if got := Len(y, m); got != 0 {
				t.Errorf("Len(%d, %d) is %d", y, m, got)
			}
		}
	}
}

func TestP1_2Days(t *testing.T) {
	for _, x := range []struct {
		y    int64
		m, d int
		want int64
	}{
		{1970, 1, 1, 0}, {2000, 3, 1, 11017}, {0, 1, 1, -719528}, {1969, 12, 31, -1}, {2024, 2, 29, 19782},
		{-2000000000, 1, 1, -719528 - 5000000*146097}, {2000000000, 12, 31, -719528 + 5000000*146097 + 365},
	} {
		if n, e := Days(x.y, x.m, x.d); n != x.want || e != api.OK {
			t.Error(x, n, e)
		}
	}
	for _, x := range []struct {
		y    int64
		m, d int
	}{
		{2023, 2, 29}, {1900, 2, 29}, {2024, 2, 30}, {2024, 0, 1}, {2024, 13, 1}, {2024, 1, 0}, {2024, 1, 32},
		{2024, 4, 31}, {2024, 1, -1}, {2000000001, 1, 1}, {-2000000001, 12, 31}, {-1 << 63, 1, 1}, {1<<63 - 1, 1, 1},
	} {
		if n, e := Days(x.y, x.m, x.d); n != 0 || e != api.ErrRange {
			t.Error(x, n, e)
		}
	}
}

func TestP1_3Date(t *testing.T) {
	for _, x := range []struct {
		days, y int64
		m, d    int
	}{
		{0, 1970, 1, 1}, {-1, 1969, 12, 31}, {19782, 2024, 2, 29}, {-719528, 0, 1, 1}, {-719529, -1, 12, 31},
		{firstDay, -2000000000, 1, 1}, {lastDay, 2000000000, 12, 31},
	} {
		if y, m, d, e := Date(x.days); y != x.y || m != x.m || d != x.d || e != api.OK {
			t.Error(x, y, m, d, e)
		}
	}
	for _, n := range []int64{firstDay - 1, lastDay + 1, -1 << 63, 1<<63 - 1} {
		if y, m, d, e := Date(n); y != 0 || m != 0 || d != 0 || e != api.ErrRange {
			t.Error(n, y, m, d, e)
		}
	}
}

func TestP1_4WeekdayAndYear(t *testing.T) {
	// 2^63 - 1 is a multiple of 7.
	for days, want := range map[int64]int{0: 4, 3: 0, -4: 0, -5: 6, 1<<63 - 1: 4, -1 << 63: 3} {
		if w := Weekday(days); w != want {
			t.Errorf("Weekday(%d) is %d", days, w)
		}
	}
	for second, want := range map[int64]int64{
		0: 1970, -1: 1969, 86399: 1970, 31535999: 1970, 31536000: 1971, -62167219200: 0, -62167219201: -1,
		1<<63 - 1: 2000000000, -1 << 63: -2000000000,
		lastDay*86400 + 86399: 2000000000, lastDay*86400 + 86400: 2000000000,
		firstDay * 86400: -2000000000, firstDay*86400 - 1: -2000000000,
		(lastDay-366)*86400 + 86399: 1999999999, (firstDay + 366) * 86400: -1999999999,
	} {
		if y := Year(second); y != want {
			t.Errorf("Year(%d) is %d, not %d", second, y, want)
		}
	}
}

// walk checks each day from January 1 of a year on: its date, its number and its weekday.
func walk(t *testing.T, from, years int64) {
	next, e := Days(from, 1, 1)
	if e != api.OK {
		t.Fatal(from, e)
	}
	week := Weekday(next)
	for y := from; y < from+years; y++ {
		for m, n := range lengths(Leap(y)) {
			for d := 1; d <= n; d++ {
				days, e := Days(y, m+1, d)
				if days != next || e != api.OK {
					t.Fatal(y, m+1, d, days, e)
				}
				gy, gm, gd, e := Date(days)
				if gy != y || gm != m+1 || gd != d || e != api.OK {
					t.Fatal(days, gy, gm, gd, e)
				}
				if w := Weekday(days); w != week {
					t.Fatal(y, m+1, d, w, week)
				}
				if Year(days*86400) != y || Year(days*86400+86399) != y {
					t.Fatal("Year", y, m+1, d)
				}
				next, week = next+1, (week+1)%7
			}
		}
	}
}

func TestP1_5DateAndDaysLeadBack(t *testing.T) {
	walk(t, 1600, 801)
	walk(t, -403, 405)
	walk(t, -2000000000, 6)
	walk(t, 2000000000-5, 6)
}

func TestP1_6Cycles(t *testing.T) {
	for y := int64(-2000000000); y <= 2000000000-400; y += 39999990 {
		a, e := Days(y, 3, 1)
		b, f := Days(y+400, 3, 1)
		if e != api.OK || f != api.OK || b-a != 146097 || (b-a)/7 != 20871 || Weekday(a) != Weekday(b) {
			t.Error(y, a, b, e, f)
		}
	}
}
