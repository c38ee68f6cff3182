package footer

import (
	"math/rand"
	"strings"
	"testing"

	"analemma/api"
	"analemma/civil"
	"analemma/events"
	"analemma/meaning"
	"analemma/posix"
	"analemma/sample"
	"analemma/source"
	"analemma/state"
)

func read(t *testing.T, text string) api.Source {
	t.Helper()
	s, _, err := source.Parse(text)
	if err != nil {
		t.Fatal(text, err)
	}
	return s
}

const eire = `Rule Eire 1971 only - Oct 31 2:00u -1:00 -
Rule Eire 1972 max - Mar Sun>=15 2:00u 0:00 -
Rule Eire 1972 max - Oct lastSun 1:00u -1:00 -
Zone Europe/Dublin 0:00 - GMT 1968 Oct 27
	1:00 Eire IST/GMT
`

func month(m, w, d int, sec int64) api.Date {
	return api.Date{Kind: api.DateMonth, Month: m, Week: w, Day: d, Sec: sec}
}

func TestP38_1Date(t *testing.T) {
	rule := func(text string) api.Rule { return read(t, "Rule R 2000 "+text+" 0 -\n").Rules[0] }
	for _, x := range []struct {
		text        string
		off, before int64
		want        api.Date
	}{
		{"max - Mar Sun>=15 2:00u", 3600, -3600, month(3, 3, 0, 7200)}, {"max - Oct 31 2:00s", 0, 3600, api.Date{Kind: api.DateJulian, Day: 304, Sec: 10800}},
		{"max - Oct 31 2:00", 3600, 3600, api.Date{Kind: api.DateJulian, Day: 304, Sec: 7200}}, {"max - Dec 31 2:00u", -7200, 3600, api.Date{Kind: api.DateJulian, Day: 365, Sec: 3600}},
		{"max - Jan 1 0", 5, 5, api.Date{Kind: api.DateJulian, Day: 1}}, {"max - Feb 28 0", 0, 0, api.Date{Kind: api.DateJulian, Day: 59}}, {"max - Mar 1 0", 0, 0, api.Date{Kind: api.DateJulian, Day: 60}},
		{"max - Feb lastSat 0", 0, 0, month(2, 5, 6, 0)}, {"max - Apr Mon>=1 0", 0, 0, month(4, 1, 1, 0)}, {"max - Apr Mon>=8 0", 0, 0, month(4, 2, 1, 0)}, {"max - Apr Mon>=22 -1:00", 0, 0, month(4, 4, 1, -3600)},
		{"max - Jan 1 167:59:59", 5, 5, api.Date{Kind: api.DateJulian, Day: 1, Sec: api.MaxClock}},
	} {
		if d, e := Date(rule(x.text), x.off, x.before); d != x.want || e != api.OK {
			t.Error(x, d, e)
		}
	}
	for _, text := range []string{"2010 - Mar 1 0", "max - Feb 29 0", "max - Mar Sun>=9 0", "max - Mar Sun>=29 0", "max - Mar Sun<=8 0", "max - Apr 31 0", "max - Feb 30 0", "only - Mar 1 0"} {
		if d, e := Date(rule(text), 1<<62, 0); d != (api.Date{}) || e != api.ErrArg {
			t.Error(text, d, e)
		}
	}
	for i, change := range []func(*api.Rule){
		func(r *api.Rule) { r.Month = 0 }, func(r *api.Rule) { r.Month = 13 }, func(r *api.Rule) { r.Month, r.Day = 0, api.Day{Kind: api.DayLast} }, func(r *api.Rule) { r.Month, r.Day = 13, api.Day{Kind: api.DayLast} }, func(r *api.Rule) { r.Day.Kind = 0 }, func(r *api.Rule) { r.Day.Kind = 5 }, func(r *api.Rule) { r.Day.Week = 1 },
		func(r *api.Rule) { r.At.Base = 3 }, func(r *api.Rule) { r.At.Sec = 604800 }, func(r *api.Rule) { r.To++ },
	} {
		r := rule("max - Mar 1 0")
		change(&r)
		if d, e := Date(r, 1<<62, 1<<62); d != (api.Date{}) || e != api.ErrArg {
			t.Error(i, d, e)
		}
	}
	for _, x := range []struct {
		text        string
		off, before int64
	}{
		{"max - Mar 1 0", api.MaxClock + 1, 0}, {"max - Mar 1 0", 0, -api.MaxClock - 1}, {"max - Mar 1 0", -1 << 63, 1<<63 - 1}, {"max - Mar 1 167:59:59s", 0, 1}, {"max - Mar 1 -167:59:59u", -1, 0},
		{"max - Mar 1 167:59:59u", api.MaxClock, api.MaxClock},
	} {
		if d, e := Date(rule(x.text), x.off, x.before); d != (api.Date{}) || e != api.ErrRange {
			t.Error(x, d, e)
		}
	}
}

func TestP38_2OfAndYear(t *testing.T) {
	always := api.Posix{Std: "XXX", StdOff: 3600, Dst: "MST", DstOff: 7200, Start: api.Date{Kind: api.DateZero}, End: api.Date{Kind: api.DateJulian, Day: 365, Sec: 90000}}
	rules := "Rule R 1990 1995 - Jul 1 0:00 1:00 S\nRule R 1994 only - Oct 1 0:00 0 D\n"
	for _, x := range []struct {
		text string
		want api.Posix
		year int64
	}{
		{eire, api.Posix{Std: "IST", StdOff: 3600, Dst: "GMT", Start: month(10, 5, 0, 7200), End: month(3, 3, 0, 7200)}, 1973}, {"Zone A 5:30 - IST\n", api.Posix{Std: "IST", StdOff: 19800}, 1850},
		{"Zone A 0 - ABC 1950\n1:00 1:00 MST\n", always, 1951}, {"Zone A 0 - ABC 1950\n1:00 - %z\n", api.Posix{Std: "+01", StdOff: 3600}, 1951},
		{rules + "Zone A 0 - ABC 1950\n0 R A%sC\n", api.Posix{Std: "XXX", Dst: "ASC", DstOff: 3600, End: api.Date{Kind: api.DateJulian, Day: 365, Sec: 90000}, Start: api.Date{Kind: api.DateZero}}, 1996},
		{strings.Replace(rules, "1995", "1993", 1) + "Zone A 0 - ABC 1950\n0 R A%sC\n", api.Posix{Std: "ADC"}, 1995}, {rules + "Zone A 0 - ABC 2000\n0 R A%sC\n", api.Posix{Std: "XXX", Dst: "ASC", DstOff: 3600, End: api.Date{Kind: api.DateJulian, Day: 365, Sec: 90000}, Start: api.Date{Kind: api.DateZero}}, 2001},
		{rules + "Zone A 0 - ABC 1950\n0 R A%sC 1993\n0 - ABC\n", api.Posix{Std: "ABC"}, 1994},
		{"Rule R 2149 max - Mar 1 0 0 S\nRule R 2140 max - Oct 1 0:00s -1:00 D\nZone A 0 - ABC 1950\n0 R A%sC\n", api.Posix{Std: "ASC", Dst: "ADC", DstOff: -3600, Start: api.Date{Kind: api.DateJulian, Day: 274}, End: api.Date{Kind: api.DateJulian, Day: 60}}, 2150},
	} {
		s := read(t, x.text)
		if p, e := Of(s, 0); p != x.want || e != api.OK {
			t.Error(x.text, p, e)
		}
		if y, e := Year(s, 0); y != x.year || e != api.OK {
			t.Error(x.text, y, e)
		}
	}
	wrong := read(t, eire+"Link A B\n")
	for _, x := range []struct {
		s    api.Source
		zone int
		of   api.Errno
	}{{read(t, eire), 1, api.ErrRange}, {read(t, eire), -1, api.ErrRange}, {wrong, 0, api.ErrName}, {wrong, 9, api.ErrName}, {api.Source{}, 0, api.ErrRange}} {
		if p, e := Of(x.s, x.zone); p != (api.Posix{}) || e != x.of {
			t.Error(x.zone, p, e)
		}
		if y, e := Year(x.s, x.zone); y != 0 || e != x.of {
			t.Error(x.zone, y, e)
		}
	}
}

func TestP38_3And4RightForEver(t *testing.T) {
	r := rand.New(rand.NewSource(38))
	for i := range uint64(100) {
		s := read(t, sample.Text(i))
		for k, z := range s.Zones {
			p, e := Of(s, k)
			if e != api.OK || posix.Check(p) != api.OK {
				t.Fatal(i, p, e)
			}
			y, e := Year(s, k)
			if e != api.OK {
				t.Fatal(e)
			}
			day, _ := civil.Days(y+1, 2, 1)
			from := day * 86400
			for j := range 12 {
				n := from + r.Int63n(30*366*86400)
				if j == 0 {
					n = from
				}
				if j == 1 {
					n = from + r.Int63n(api.MaxTime-from)
				}
				if j == 2 {
					n = api.MaxTime
				}
				want, e := meaning.At(s, z.Name, n)
				got, f := posix.At(p, n)
				if got != want || e != api.OK || f != api.OK {
					t.Fatal(sample.Text(i), z.Name, n, p, got, want, e, f)
				}
			}
		}
	}
}

func TestP38_5Dates(t *testing.T) {
	for i := range uint64(100) {
		s := read(t, sample.Text(i))
		var l []api.Rule
		for _, r := range s.Rules {
			if r.Name == "Minus" {
				l = append(l, r)
			}
		}
		for k, r := range l {
			if r.To != api.Forever {
				continue
			}
			for _, off := range []int64{0, 3600, -30000} {
				for y := int64(r.From) + 2; y < int64(r.From)+12; y++ {
					e, _ := events.On(l, k, y)
					before := state.Before(l, e.Nominal).Save
					d, code := Date(r, off, before)
					n := state.Instant(l, e, off)
					// A TZ in which just this date is one of the two.
					p := api.Posix{Std: "AAA", StdOff: off + before, Dst: "BBB", Start: d, End: api.Date{Kind: api.DateZero, Day: 5}}
					a, _ := posix.At(p, n-1)
					b, f := posix.At(p, n)
					if code != api.OK || f != api.OK || a.Dst || !b.Dst {
						t.Fatal(sample.Text(i), r, off, y, d, a, b)
					}
				}
			}
		}
	}
}
