package translate

import (
	"math/rand"
	"reflect"
	"slices"
	"strings"
	"testing"

	"analemma/accept"
	"analemma/api"
	"analemma/eras"
	"analemma/links"
	"analemma/meaning"
	"analemma/printer"
	"analemma/sample"
	"analemma/source"
	"analemma/walk"
)

const vanguard = `Rule Eire 1971 only - Oct 31 2:00u -1:00 -
Rule Eire 1972 max - Mar Sun>=15 2:00u 0:00 -
Rule Eire 1972 max - Oct lastSun 1:00u -1:00 -
Zone Europe/Dublin 0:00 - GMT 1968 Oct 27
	1:00 Eire IST/GMT
`

const rearguard = `Rule Eire 1971 only - Oct 31 2:00u 0:00 -
Rule Eire 1972 max - Mar Sun>=15 2:00u 1:00 -
Rule Eire 1972 max - Oct lastSun 1:00u 0:00 -
Zone Europe/Dublin 0:00 - GMT 1968 Oct 27
	0:00 Eire GMT/IST
Shift Eire
`

func read(t *testing.T, text string) api.Source {
	t.Helper()
	s, _, err := source.Parse(text)
	if err != nil {
		t.Fatal(text, err)
	}
	return s
}

// to returns a source in a form.
func to(t *testing.T, s api.Source, form int) api.Source {
	t.Helper()
	before := printer.Copy(s)
	out, p, e := To(s, form)
	if p != (api.Place{}) || e != api.OK {
		t.Fatal(form, p, e)
	}
	if !printer.Same(before, s) {
		t.Fatal("an argument has changed")
	}
	return out
}

func text(t *testing.T, s api.Source) string {
	t.Helper()
	out, e := printer.Print(s)
	if e != api.OK {
		t.Fatal(e)
	}
	return out
}

func TestP31_1To(t *testing.T) {
	change := func(s string, l ...string) string { return strings.NewReplacer(l...).Replace(s) }
	for _, x := range [][3]string{
		{vanguard, vanguard, rearguard},
		{change(vanguard, "31 2:00u", "31 2:00s"), change(vanguard, "31 2:00u", "31 2:00s"), change(rearguard, "31 2:00u", "31 1:00s")},
		{change(vanguard, "IST/GMT", "%z"), change(vanguard, "IST/GMT", "+01/+00"), change(rearguard, "GMT/IST", "+00/+01")},
		{change(vanguard, "\t1:00 Eire IST/GMT", "\t1:00 Eire %z 1980 Feb 2 0:00s\n\t5:30 1:00 %z"), change(vanguard, "\t1:00 Eire IST/GMT", "\t1:00 Eire +01/+00 1980 Feb 2 0:00s\n\t5:30 1:00 +0630"),
			change(rearguard, "\t0:00 Eire GMT/IST", "\t0:00 Eire +00/+01 1980 Feb 2 -1:00s\n\t5:30 1:00 +0630")},
	} {
		for _, from := range x {
			for form, want := range x {
				if got := text(t, to(t, read(t, from), form+1)); got != want {
					t.Errorf("%s in form %d:\n%s", from, form+1, got)
				}
			}
		}
	}
	// Sets in the order of their first rules; shifts that are not needed are undone.
	two := "Rule B 1990 only - Jan 1 0 0 -\nRule A 1990 only - Jan 1 0 0 -\nRule A 1991 only - Jan 1 0 -1:00 -\nRule B 1991 only - Jan 1 0 -0:30 -\n"
	if s := to(t, read(t, two), api.Rearguard); !slices.Equal(s.Shifts, []string{"B", "A"}) {
		t.Error(s.Shifts)
	}
	place := func(part, index, era int) api.Place { return api.Place{Part: part, Index: index, Era: era} }
	for i, x := range []struct {
		text  string
		form  int
		place api.Place
		of    api.Errno
	}{
		{change(rearguard, "GMT/IST", "%z"), 1, place(api.InShifts, 0, 0), api.ErrKind}, {change(rearguard, "GMT/IST", "%z"), 4, place(api.InShifts, 0, 0), api.ErrKind},
		{change(vanguard, "GMT 1968", "%z 1968", "IST/GMT", "+01/+00"), 3, place(api.InZones, 0, 1), api.ErrKind},
		{vanguard, 4, api.Place{}, api.ErrArg}, {vanguard, 0, api.Place{}, api.ErrArg}, {vanguard, -1, api.Place{}, api.ErrArg}, {rearguard, 1 << 40, api.Place{}, api.ErrArg},
		{change(vanguard, "Mar", "Nov"), 4, place(api.InRules, 1, 0), api.ErrApart}, {vanguard + "Link A B\n", 1, place(api.InLinks, 0, 0), api.ErrName},
		{change(vanguard, "Eire IST", "Eira IST"), 2, place(api.InZones, 0, 1), api.ErrName},
	} {
		s := read(t, x.text)
		if i == 7 {
			s.Rules[1].Day = api.Day{Kind: api.DayFixed, Day: 2}
		}
		if out, p, e := To(s, x.form); !reflect.DeepEqual(out, api.Source{}) || p != x.place || e != x.of {
			t.Error(i, p, e)
		}
	}
}

func TestP31_2Accepted(t *testing.T) {
	for i := range uint64(100) {
		s := read(t, sample.Text(i))
		for form := 1; form <= 3; form++ {
			out := to(t, s, form)
			if p, e := accept.In(out, form); e != api.OK {
				t.Fatal(i, form, p, e)
			}
			if len(out.Rules) != len(s.Rules) || len(out.Zones) != len(s.Zones) || !slices.Equal(out.Links, s.Links) {
				t.Fatal(i, form)
			}
			for k := range s.Rules {
				if s.Rules[k].Name != out.Rules[k].Name {
					t.Fatal(i, form, k)
				}
			}
			for k := range s.Zones {
				if s.Zones[k].Name != out.Zones[k].Name {
					t.Fatal(i, form, k)
				}
			}
		}
	}
}

// instants returns those at which the local time of a name could change, and others.
func instants(t *testing.T, r *rand.Rand, s api.Source, name string) []int64 {
	l, _, e := walk.All(s, name, -api.MaxTime, 1<<32)
	if e != api.OK {
		t.Fatal(e)
	}
	all := []int64{-api.MaxTime, api.MaxTime, r.Int63n(1<<33) - 1<<32}
	for range 6 {
		if len(l) > 0 {
			x := l[r.Intn(len(l))].At
			all = append(all, x, x-1)
		}
	}
	return all
}

func TestP31_3TheSameLocalTime(t *testing.T) {
	r := rand.New(rand.NewSource(31))
	for i := range uint64(60) {
		s := read(t, sample.Text(i))
		for form := 2; form <= 3; form++ {
			out := to(t, s, form)
			if !slices.Equal(links.Names(s), links.Names(out)) {
				t.Fatal(i)
			}
			for k, z := range s.Zones {
				spans, _ := eras.Spans(s, k)
				for _, n := range instants(t, r, s, z.Name) {
					a, e := meaning.At(s, z.Name, n)
					b, f := meaning.At(out, z.Name, n)
					span, _ := eras.Find(spans, n)
					era := z.Eras[span.Era]
					opposite := era.Kind == api.Named && slices.Contains(out.Shifts, era.Set)
					if e != api.OK || f != api.OK || a.Off != b.Off || a.Abbr != b.Abbr || (a.Dst != b.Dst) != opposite {
						t.Fatal(sample.Text(i), form, z.Name, n, a, b)
					}
				}
			}
		}
	}
}

func TestP31_4And5BackAndOnce(t *testing.T) {
	for i := range uint64(150) {
		s := read(t, sample.Text(i))
		for form := 1; form <= 3; form++ {
			out := to(t, s, form)
			if !printer.Same(to(t, out, api.Vanguard), s) || !printer.Same(to(t, out, form), out) {
				t.Fatal(i, form)
			}
			for by := 1; by <= 3; by++ {
				if !printer.Same(to(t, to(t, s, by), form), out) {
					t.Fatal(i, by, form)
				}
			}
		}
		rear := to(t, s, api.Rearguard)
		for _, rule := range rear.Rules {
			if rule.Save < 0 {
				t.Fatal(i, rule)
			}
		}
		if strings.Contains(text(t, rear), "%z") {
			t.Fatal(i)
		}
	}
}

func TestP31_6NothingToDo(t *testing.T) {
	plain := strings.NewReplacer("-1:00 -", "1:00 -", "IST/GMT", "I%sT").Replace(vanguard)
	plain = strings.ReplaceAll(plain, "0:00 -\n", "0:00 X\n")
	plain = strings.ReplaceAll(plain, "1:00 -\n", "1:00 S\n") + "Link Europe/Dublin A\n"
	for form := 1; form <= 3; form++ {
		if got := text(t, to(t, read(t, plain), form)); got != plain {
			t.Error(form, got)
		}
	}
}
