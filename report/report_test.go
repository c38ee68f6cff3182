package report

import (
	"math/rand"
	"slices"
	"testing"

	"analemma/api"
	"analemma/printer"
	"analemma/sample"
	"analemma/source"
)

const example = `Rule R 1990 max - Mar lastSun 1:00s -1:00 S
Rule R 1990 max - Oct lastSun 1:00s 0:00 -
Zone A 1:00 R IST/GMT
Zone B 0 - LMT 1990 Jan 1 1:00
	1:00 R IST/GMT
Link A C
Shift R
`

func read(t *testing.T, text string) api.Source {
	t.Helper()
	s, _, err := source.Parse(text)
	if err != nil {
		t.Fatal(text, err)
	}
	return s
}

func rule(i, what int) api.Change {
	return api.Change{Place: api.Place{Part: api.InRules, Index: i}, What: what}
}

func era(i, k, what int) api.Change {
	return api.Change{Place: api.Place{Part: api.InZones, Index: i, Era: k}, What: what}
}

func TestP32_1Compare(t *testing.T) {
	for i, x := range []struct {
		change func(*api.Source)
		want   []api.Change
	}{
		{func(s *api.Source) {}, nil}, {func(s *api.Source) { s.Rules[0].Save, s.Rules[0].At.Sec = 0, 0 }, []api.Change{rule(0, 3)}},
		{func(s *api.Source) { s.Rules[1].Save = 1 }, []api.Change{rule(1, 1)}}, {func(s *api.Source) { s.Rules[1].At.Sec = 1 }, []api.Change{rule(1, 2)}},
		{func(s *api.Source) { s.Zones[0].Eras[0].Off, s.Zones[0].Eras[0].Format = 0, "GMT/IST" }, []api.Change{era(0, 0, 12)}},
		{func(s *api.Source) { s.Zones[1].Eras[0].Until.At.Sec = 0 }, []api.Change{era(1, 0, 16)}}, {func(s *api.Source) { s.Zones[1].Eras[1].Format = "" }, []api.Change{era(1, 1, 8)}},
		{func(s *api.Source) {
			s.Zones[1].Eras[0].Off++
			s.Zones[0].Eras[0].Off++
			s.Rules[1].Save++
			s.Rules[0].At.Sec++
			s.Shifts = nil
		}, []api.Change{rule(0, 2), rule(1, 1), era(0, 0, 4), era(1, 0, 4)}},
		{func(s *api.Source) {
			s.Zones[1].Eras[0].Off++
			s.Zones[1].Eras[0].Format = "X"
			s.Zones[1].Eras[0].Until.At.Sec++
		}, []api.Change{era(1, 0, 28)}},
	} {
		a, b := read(t, example), read(t, example)
		x.change(&b)
		if l, e := Compare(a, b); !slices.Equal(l, x.want) || e != api.OK {
			t.Error(i, l, e)
		}
	}
	for i, change := range []func(*api.Source){
		func(s *api.Source) { s.Rules[0].Letter = "X" }, func(s *api.Source) { s.Rules[0].Name = "X" }, func(s *api.Source) { s.Rules[0].From++ }, func(s *api.Source) { s.Rules[0].To++ },
		func(s *api.Source) { s.Rules[0].Month++ }, func(s *api.Source) { s.Rules[0].Day.Week++ }, func(s *api.Source) { s.Rules[0].At.Base++ }, func(s *api.Source) { s.Rules = s.Rules[1:] },
		func(s *api.Source) { s.Zones[0].Name = "X" }, func(s *api.Source) { s.Zones = s.Zones[1:] }, func(s *api.Source) { s.Zones[1].Eras = s.Zones[1].Eras[1:] },
		func(s *api.Source) { s.Zones[0].Eras[0].Kind = 0 }, func(s *api.Source) { s.Zones[0].Eras[0].Save = 1 }, func(s *api.Source) { s.Zones[0].Eras[0].Set = "X" },
		func(s *api.Source) { s.Zones[1].Eras[0].Until.Is = false }, func(s *api.Source) { s.Zones[1].Eras[0].Until.Year++ }, func(s *api.Source) { s.Zones[1].Eras[0].Until.At.Base++ },
		func(s *api.Source) { s.Zones[1].Eras[0].Until.Day.Day++ }, func(s *api.Source) { s.Links[0].Name = "X" }, func(s *api.Source) { s.Links = nil }, func(s *api.Source) { s.Links[0].Target = "X" },
	} {
		a, b := read(t, example), read(t, example)
		change(&b)
		if l, e := Compare(a, b); l != nil || e != api.ErrArg {
			t.Error(i, l, e)
		}
		if l, e := Compare(b, a); l != nil || e != api.ErrArg {
			t.Error(i, l, e)
		}
	}
}

func TestP32_2Text(t *testing.T) {
	l := []api.Change{rule(0, 3), era(0, 0, 12), rule(1999, 1), rule(7, 2), era(499, 59, 28), era(1, 2, 16), era(1, 2, 20)}
	want := "rule 0 save at\nera 0 0 off format\nrule 1999 save\nrule 7 at\nera 499 59 off format until\nera 1 2 until\nera 1 2 off until\n"
	if s, e := Text(l); s != want || e != api.OK {
		t.Error(s, e)
	}
	if s, e := Text(nil); s != "" || e != api.OK {
		t.Error(s, e)
	}
	for _, c := range []api.Change{
		rule(0, 0), rule(0, 4), rule(-1, 1), rule(0, 5), rule(0, -1), era(0, 0, 0), era(0, 0, 1), era(-1, 0, 4), era(0, -1, 4), era(0, 0, 32), era(0, 0, 5), era(0, 0, -4), {},
		{Place: api.Place{Part: api.InRules, Era: 1}, What: 1}, {Place: api.Place{Part: api.InLinks}, What: 4}, {Place: api.Place{Part: api.InShifts}, What: 1}, {Place: api.Place{Part: -1}, What: 1},
	} {
		if s, e := Text([]api.Change{rule(0, 3), c}); s != "" || e != api.ErrArg {
			t.Error(c, s, e)
		}
	}
}

func TestP32_3NoChanges(t *testing.T) {
	r := rand.New(rand.NewSource(32))
	for i := range uint64(300) {
		a := read(t, sample.Text(i))
		b := printer.Copy(a)
		for range r.Intn(3) {
			b.Rules[r.Intn(len(b.Rules))].Save += int64(r.Intn(2))
			z := b.Zones[r.Intn(len(b.Zones))]
			z.Eras[r.Intn(len(z.Eras))].Until.At.Sec += int64(r.Intn(2))
		}
		l, e := Compare(a, b)
		m, f := Compare(b, a)
		if e != api.OK || f != api.OK || !slices.Equal(l, m) || (len(l) == 0) != printer.Same(a, b) {
			t.Fatal(i, l, m)
		}
	}
}

func TestP32_4Different(t *testing.T) {
	var all []api.Change
	for i := range 12 {
		for what := 1; what <= 3; what++ {
			all = append(all, rule(i, what))
		}
		for k := range 12 {
			for what := 4; what <= 28; what += 4 {
				all = append(all, era(i, k, what))
			}
		}
	}
	seen := map[string]bool{}
	for i, c := range all {
		for _, l := range [][]api.Change{{c}, {c, all[(i*7)%len(all)]}} {
			s, e := Text(l)
			if seen[s] || e != api.OK {
				t.Fatal(l, s, e)
			}
			seen[s] = true
		}
	}
}
