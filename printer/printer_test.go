package printer

import (
	"fmt"
	"math/rand"
	"slices"
	"strings"
	"testing"

	"analemma/api"
	"analemma/source"
)

const eire = `Rule Eire 1971 only - Oct 31 2:00u -1:00 -
Rule Eire 1972 max - Mar Sun>=15 2:00u 0:00 -
Rule Eire 1972 max - Oct lastSun 1:00u -1:00 -
Zone Europe/Dublin 0:00 - GMT 1968 Oct 27
	1:00 Eire IST/GMT
`

const more = `Rule R 1990 only - Jan 1 0:00 0:00 S
Zone A 0:00 - GMT
Zone B 1:00 1:00 X 1990
	2:00 - %z 1991 Feb
	3:00 R C%sT
Link A C
Link C D
Shift R
Shift Eire
`

func read(t *testing.T, text string) api.Source {
	t.Helper()
	s, _, err := source.Parse(text)
	if err != nil {
		t.Fatal(text, err)
	}
	return s
}

func TestP14_1Print(t *testing.T) {
	for _, text := range []string{"", eire, more, "Link A B\n", "Shift Eire\n"} {
		if got, e := Print(read(t, text)); got != text || e != api.OK {
			t.Error(text, got, e)
		}
	}
	rule, era := read(t, eire).Rules[0], api.Era{Format: "X"}
	ended := read(t, eire).Zones[0].Eras[0]
	for i, s := range []api.Source{
		{Zones: []api.Zone{{Name: "A"}}}, {Zones: []api.Zone{{Name: "A", Eras: []api.Era{ended}}}}, {Zones: []api.Zone{{Name: ".", Eras: []api.Era{era}}}},
		{Zones: []api.Zone{{Name: "A", Eras: []api.Era{era, era}}}}, {Zones: []api.Zone{{Name: "A", Eras: []api.Era{{}}}}},
		{Rules: []api.Rule{rule, {}}}, {Links: []api.Link{{Target: "A"}}}, {Shifts: []string{""}}, {Shifts: []string{"A", "1"}},
		{Zones: []api.Zone{{Name: "A", Eras: []api.Era{ended, {Format: "X", Kind: 3}}}}},
	} {
		if got, e := Print(s); got != "" || e != api.ErrArg {
			t.Error(i, got, e)
		}
	}
}

func TestP14_1Many(t *testing.T) {
	rule, zone := read(t, eire).Rules[0], read(t, more).Zones[0]
	ended := read(t, eire).Zones[0].Eras[0]
	eras := func(n int) []api.Zone {
		l := slices.Repeat([]api.Era{ended}, n)
		l[n-1] = api.Era{Format: "X"}
		return []api.Zone{{Name: "A", Eras: l}}
	}
	for i, x := range []func(more int) api.Source{
		func(n int) api.Source { return api.Source{Rules: slices.Repeat([]api.Rule{rule}, api.MaxRules+n)} },
		func(n int) api.Source { return api.Source{Zones: slices.Repeat([]api.Zone{zone}, api.MaxZones+n)} },
		func(n int) api.Source { return api.Source{Zones: eras(api.MaxEras + n)} },
		func(n int) api.Source {
			return api.Source{Links: slices.Repeat([]api.Link{{Target: "A", Name: "B"}}, api.MaxLinks+n)}
		},
		func(n int) api.Source { return api.Source{Shifts: slices.Repeat([]string{"R"}, api.MaxRules+n)} },
	} {
		if got, e := Print(x(0)); got == "" || e != api.OK {
			t.Error(i, len(got), e)
		}
		s := x(1)
		s.Zones = append(s.Zones, api.Zone{}) // ErrMany counts ahead of ErrArg
		if got, e := Print(s); got != "" || e != api.ErrMany {
			t.Error(i, len(got), e)
		}
	}
}

func TestP14_2CopyAndSame(t *testing.T) {
	s := read(t, eire+more)
	for i, change := range []func(*api.Source){
		func(s *api.Source) { s.Rules[1].Save++ }, func(s *api.Source) { s.Rules[0].Letter = "x" }, func(s *api.Source) { s.Rules = s.Rules[1:] },
		func(s *api.Source) { s.Zones[1].Name = "x" }, func(s *api.Source) { s.Zones[1].Eras[0].Off++ }, func(s *api.Source) { s.Zones[0].Eras[0].Until.At.Base++ },
		func(s *api.Source) { s.Zones[2].Eras = s.Zones[2].Eras[:2] }, func(s *api.Source) { s.Zones = s.Zones[:2] }, func(s *api.Source) { s.Links[0].Target = "x" },
		func(s *api.Source) { s.Links = nil }, func(s *api.Source) { s.Shifts[1] = "x" }, func(s *api.Source) { s.Shifts = append(s.Shifts, "R") },
	} {
		c := Copy(s)
		if !Same(s, c) || !Same(c, s) {
			t.Fatal(i)
		}
		change(&c)
		if Same(s, c) || Same(c, s) || !Same(s, read(t, eire+more)) {
			t.Error(i)
		}
	}
	if !Same(api.Source{}, api.Source{Rules: []api.Rule{}, Zones: []api.Zone{}, Links: []api.Link{}, Shifts: []string{}}) {
		t.Error("empty")
	}
	if !Same(api.Source{Zones: []api.Zone{{Eras: []api.Era{}}}}, Copy(api.Source{Zones: []api.Zone{{}}})) {
		t.Error("empty eras")
	}
}

// anySource returns a source that can be written.
func anySource(r *rand.Rand) api.Source {
	all := read2(eire + more)
	s := api.Source{}
	for range r.Intn(3) {
		rule := all.Rules[r.Intn(len(all.Rules))]
		rule.Save = r.Int63n(7201) - 3600
		s.Rules = append(s.Rules, rule)
	}
	for range r.Intn(3) {
		z := Copy(api.Source{Zones: all.Zones[r.Intn(3):]}).Zones[0]
		z.Eras[0].Off = r.Int63n(7201) - 3600
		s.Zones = append(s.Zones, z)
	}
	for range r.Intn(3) {
		s.Links = append(s.Links, api.Link{Target: fmt.Sprint("T", r.Intn(3)), Name: fmt.Sprint("N", r.Intn(3))})
	}
	for range r.Intn(3) {
		s.Shifts = append(s.Shifts, fmt.Sprint("S", r.Intn(3)))
	}
	return s
}

func read2(text string) api.Source {
	s, _, _ := source.Parse(text)
	return s
}

func TestP14_3ReadAgain(t *testing.T) {
	r := rand.New(rand.NewSource(14))
	var before api.Source
	for range 1000 {
		s := anySource(r)
		text, e := Print(s)
		if e != api.OK || !Same(read(t, text), s) {
			t.Fatal(text, e)
		}
		if other, e := Print(before); e != api.OK || (other == text) != Same(s, before) {
			t.Fatal(text, other)
		}
		before = s
	}
}

func TestP14_4Parts(t *testing.T) {
	r := rand.New(rand.NewSource(144))
	parts := func(s api.Source) (l [4]string) {
		for i, part := range []api.Source{{Rules: s.Rules}, {Zones: s.Zones}, {Links: s.Links}, {Shifts: s.Shifts}} {
			l[i], _ = Print(part)
		}
		return l
	}
	for range 200 {
		a, b := anySource(r), anySource(r)
		both := api.Source{Rules: slices.Concat(a.Rules, b.Rules), Zones: slices.Concat(a.Zones, b.Zones), Links: slices.Concat(a.Links, b.Links), Shifts: slices.Concat(a.Shifts, b.Shifts)}
		var want strings.Builder
		x, y := parts(a), parts(b)
		for i := range x {
			want.WriteString(x[i] + y[i])
		}
		if got, e := Print(both); got != want.String() || e != api.OK {
			t.Fatal(got, want.String(), e)
		}
	}
}
