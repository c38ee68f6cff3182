package meaning

import (
	"math/rand"
	"strings"
	"testing"

	"analemma/api"
	"analemma/civil"
	"analemma/events"
	"analemma/links"
	"analemma/ruleset"
	"analemma/sample"
	"analemma/source"
	"analemma/state"
)

const eire = `Rule Eire 1971 only - Oct 31 2:00u -1:00 -
Rule Eire 1972 max - Mar Sun>=15 2:00u 0 -
Rule Eire 1972 max - Oct lastSun 1:00u -1:00 -
Zone Europe/Dublin 0:00 - GMT 1968 Oct 27
	1:00 Eire IST/GMT
Zone Other 2:00 1:00 A%sBC 1980
	3:00 - %z
Link Europe/Dublin Eire
Link Eire E
`

func read(t *testing.T, text string) api.Source {
	t.Helper()
	s, _, err := source.Parse(text)
	if err != nil {
		t.Fatal(text, err)
	}
	return s
}

func at(y int64, m, d int, sec int64) int64 {
	n, _ := civil.Days(y, m, d)
	return n*86400 + sec
}

var (
	gmt    = api.Local{Abbr: "GMT"}
	ist    = api.Local{Off: 3600, Abbr: "IST"}
	winter = api.Local{Dst: true, Abbr: "GMT"}
)

func TestP26_1AtAndEra(t *testing.T) {
	s := read(t, eire)
	for _, x := range []struct {
		name string
		at   int64
		want api.Local
		era  int
	}{
		{"Europe/Dublin", 0, ist, 1}, {"Europe/Dublin", -40000000, gmt, 0}, {"Europe/Dublin", 57722400, winter, 1}, {"Europe/Dublin", 57722399, ist, 1},
		{"Europe/Dublin", at(1968, 10, 27, 0), ist, 1}, {"Europe/Dublin", at(1968, 10, 27, -1), gmt, 0}, {"E", 57722400, winter, 1}, {"Europe/Dublin", -api.MaxTime, gmt, 0},
		{"Eire", at(2024, 3, 17, 7200), ist, 1}, {"Eire", at(2024, 3, 17, 7199), winter, 1}, {"Other", 0, api.Local{Off: 10800, Dst: true, Abbr: "ABC"}, 0},
		{"Other", at(1980, 1, 1, -10800), api.Local{Off: 10800, Abbr: "+03"}, 1}, {"Other", api.MaxTime, api.Local{Off: 10800, Abbr: "+03"}, 1},
	} {
		if l, e := At(s, x.name, x.at); l != x.want || e != api.OK {
			t.Error(x, l, e)
		}
		if i, e := Era(s, x.name, x.at); i != x.era || e != api.OK {
			t.Error(x, i, e)
		}
	}
	wrong := read(t, strings.Replace(eire, "Link Eire E", "Link X E", 1))
	for _, x := range []struct {
		s    api.Source
		name string
		at   int64
		of   api.Errno
	}{
		{s, "Europe/Cork", 0, api.ErrName}, {s, "", 0, api.ErrName}, {s, "Europe/Dublin", api.MaxTime + 1, api.ErrRange}, {s, "Europe/Dublin", -api.MaxTime - 1, api.ErrRange},
		{s, "Europe/Cork", 1<<63 - 1, api.ErrRange}, {wrong, "Europe/Dublin", 0, api.ErrName}, {wrong, "Europe/Dublin", -1 << 63, api.ErrRange},
		{read(t, eire+"Link Eire E\n"), "Europe/Cork", 0, api.ErrTwice}, {api.Source{}, "A", 0, api.ErrName},
	} {
		if l, e := At(x.s, x.name, x.at); l != (api.Local{}) || e != x.of {
			t.Error(x.name, x.at, l, e)
		}
		if i, e := Era(x.s, x.name, x.at); i != 0 || e != x.of {
			t.Error(x.name, x.at, i, e)
		}
	}
}

func TestP26_2First(t *testing.T) {
	s := read(t, eire)
	for name, want := range map[string]api.Local{"Europe/Dublin": gmt, "E": gmt, "Other": {Off: 10800, Dst: true, Abbr: "ABC"}} {
		if l, e := First(s, name); l != want || e != api.OK {
			t.Error(name, l, e)
		}
	}
	if l, e := First(s, "X"); l != (api.Local{}) || e != api.ErrName {
		t.Error(l, e)
	}
	if l, e := First(read(t, eire+"Link Eire E\n"), "X"); l != (api.Local{}) || e != api.ErrTwice {
		t.Error(l, e)
	}
}

func TestP26_3Links(t *testing.T) {
	r := rand.New(rand.NewSource(26))
	for i := range uint64(60) {
		s := read(t, sample.Text(i))
		for _, l := range s.Links {
			zone, e := links.Find(s, l.Name)
			if e != api.OK {
				t.Fatal(e)
			}
			n := r.Int63n(1<<32) - 1<<31
			a, e := At(s, l.Name, n)
			b, f := At(s, s.Zones[zone].Name, n)
			if a != b || e != api.OK || f != api.OK {
				t.Fatal(i, l, n, a, b, e, f)
			}
		}
	}
}

func TestP26_4FirstInstantAndEras(t *testing.T) {
	for i := range uint64(40) {
		s := read(t, sample.Text(i))
		for _, z := range s.Zones {
			first, e := First(s, z.Name)
			l, f := At(s, z.Name, -api.MaxTime)
			era, g := Era(s, z.Name, -api.MaxTime)
			if l != first || era != 0 || e != api.OK || f != api.OK || g != api.OK {
				t.Fatal(i, z, l, first, era)
			}
			for n := at(1860, 1, 1, 0); n < at(2020, 1, 1, 0); n += 86400 * 1234 {
				now, e := Era(s, z.Name, n)
				if now < era || e != api.OK {
					t.Fatal(i, z, n, era, now)
				}
				era = now
			}
			if last, _ := Era(s, z.Name, api.MaxTime); last != len(z.Eras)-1 {
				t.Fatal(i, z, last)
			}
		}
	}
}

func TestP26_5Steps(t *testing.T) {
	for i := range uint64(5) {
		s := read(t, sample.Text(i))
		z := s.Zones[0]
		for n := at(1903, 1, 1, 0); n < at(1950, 1, 1, 0); n += 86400 * 40 {
			a, _ := At(s, z.Name, n)
			b, _ := At(s, z.Name, n+86400*40)
			if a == b {
				continue
			}
			// Find the instant of a change by halves.
			low, high := n, n+86400*40
			for high-low > 1 {
				half := (low + high) / 2
				if l, _ := At(s, z.Name, half); l == a {
					low = half
				} else {
					high = half
				}
			}
			if !step(s, z, high) {
				t.Fatal(i, z.Name, high)
			}
		}
	}
}

// step reports whether an era begins at an instant, or an event of its set has it.
func step(s api.Source, z api.Zone, n int64) bool {
	before, _ := Era(s, z.Name, n-1)
	now, _ := Era(s, z.Name, n)
	if before != now {
		return true
	}
	era := z.Eras[now]
	l := ruleset.Of(s, era.Set)
	all, _ := events.In(l, civil.Year(n)-1, civil.Year(n)+1)
	for _, e := range all {
		if era.Kind == api.Named && state.Instant(l, e, era.Off) == n {
			return true
		}
	}
	return false
}

func TestP26_6Bounds(t *testing.T) {
	r := rand.New(rand.NewSource(266))
	for i := range uint64(100) {
		s := read(t, sample.Text(i))
		for _, z := range s.Zones {
			n := at(1850, 1, 1, 0) + r.Int63n(200*366*86400)
			l, e := At(s, z.Name, n)
			era, f := Era(s, z.Name, n)
			off := z.Eras[era].Off
			if e != api.OK || f != api.OK || max(l.Off, -l.Off) > 15*3600 || l.Dst != (l.Off != off) {
				t.Fatal(i, z, n, l, e, f)
			}
		}
	}
}
