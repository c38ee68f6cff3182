package keep

import (
	"slices"
	"testing"

	"analemma/accept"
	"analemma/api"
	"analemma/printer"
	"analemma/sample"
	"analemma/source"
)

const example = `Rule Q 1990 only - Jan 1 0:00 0 -
Rule R 1990 only - Jan 1 0:00 0 -
Rule S 1990 only - Jan 1 0:00 0 -
Rule R 1991 only - Jan 1 0:00 1:00 -
Zone C 0 - LMT 1980
	0 Q ABC
Zone A 0 - LMT 1980
	0 R ABC
Zone B 0 R ABC
Link C D
Shift Q
Shift R
`

func read(t *testing.T, text string) api.Source {
	t.Helper()
	s, _, err := source.Parse(text)
	if err != nil {
		t.Fatal(text, err)
	}
	return s
}

func TestP33_1Names(t *testing.T) {
	s := read(t, example)
	s.Zones = append(s.Zones, s.Zones[1])
	for i, x := range []struct {
		o    api.Options
		want []string
	}{
		{api.Options{Backzone: true, All: true}, []string{"A", "B", "C"}}, {api.Options{Backzone: true, Keep: []string{"B", "D", "B"}}, []string{"B"}}, {api.Options{All: true}, nil},
		{api.Options{Keep: []string{"A"}}, nil}, {api.Options{Backzone: true}, nil}, {api.Options{}, nil}, {api.Options{Backzone: true, All: true, Keep: []string{"A"}}, []string{"A", "B", "C"}},
		{api.Options{Backzone: true, Keep: []string{"C", "a", "", "A"}}, []string{"A", "C"}},
	} {
		if l := Names(s, x.o); !slices.Equal(l, x.want) {
			t.Error(i, l)
		}
	}
	odd := api.Source{Zones: []api.Zone{{Name: "b"}, {Name: ""}, {Name: "\xff"}, {Name: "B"}}}
	if l := Names(odd, api.Options{Backzone: true, All: true}); !slices.Equal(l, []string{"", "B", "b", "\xff"}) {
		t.Errorf("%q", l)
	}
}

func TestP33_2ZonesAndWithout(t *testing.T) {
	s := read(t, example)
	got := Zones(s, []string{"A", "D"})
	want := api.Source{Rules: []api.Rule{s.Rules[1], s.Rules[3]}, Zones: s.Zones[1:2], Shifts: []string{"R"}}
	if !printer.Same(got, want) {
		t.Error(got)
	}
	if got := Zones(s, []string{"B", "C"}); len(got.Rules) != 3 || got.Zones[0].Name != "C" || got.Zones[1].Name != "B" || !slices.Equal(got.Shifts, []string{"Q", "R"}) || got.Links != nil {
		t.Error(got)
	}
	if got := Zones(s, nil); !printer.Same(got, api.Source{}) {
		t.Error(got)
	}
	got = Without(s, []string{"A", "D"})
	want = api.Source{Rules: s.Rules, Zones: []api.Zone{s.Zones[0], s.Zones[2]}, Shifts: s.Shifts}
	if !printer.Same(got, want) {
		t.Error(got)
	}
	if got := Without(s, nil); !printer.Same(got, s) {
		t.Error(got)
	}
	// The set of an era that is not Named does not count; nor does an era of another zone.
	odd := printer.Copy(s)
	odd.Zones[1].Eras[1].Kind = api.Fixed
	if got := Zones(odd, []string{"A"}); len(got.Rules) != 0 || len(got.Shifts) != 0 {
		t.Error(got)
	}
	for _, got := range []api.Source{Zones(s, []string{"A", "B", "C"}), Without(s, nil)} {
		got.Rules[0].Name, got.Zones[0].Eras[0].Format, got.Shifts[0] = "x", "x", "x"
	}
	if !printer.Same(s, read(t, example)) {
		t.Error("shared memory")
	}
}

func TestP33_3Parts(t *testing.T) {
	for i := range uint64(60) {
		s := read(t, sample.Text(i))
		names := []string{s.Zones[0].Name, "L0", "X"}
		a, b := Zones(s, names), Without(s, names)
		if len(a.Zones) != 1 || !printer.Same(api.Source{Zones: s.Zones}, api.Source{Zones: append(a.Zones, b.Zones...)}) {
			t.Fatal(i)
		}
	}
}

func TestP33_4Accepted(t *testing.T) {
	for i := range uint64(60) {
		s := read(t, sample.Text(i))
		for _, z := range s.Zones {
			if p, e := accept.In(Zones(s, []string{z.Name, "L1"}), api.Vanguard); e != api.OK {
				t.Fatal(i, z.Name, p, e)
			}
		}
	}
	shifted := read(t, `Rule R 1990 only - Jul 1 0:00 0 -
Rule R 1991 only - Jul 1 0:00 1:00 -
Rule Q 1990 only - Jul 1 0:00 0 -
Rule Q 1991 only - Jul 1 0:00 1:00 -
Zone A 0 - LMT 1980
	0 R +00/+01
Zone B 0 - LMT
Shift R
Shift Q
`)
	for _, l := range [][]string{{"A"}, {"B"}, {"A", "B"}, nil} {
		if p, e := accept.In(Zones(shifted, l), api.Rearguard); e != api.OK {
			t.Error(l, p, e)
		}
	}
}

func TestP33_5More(t *testing.T) {
	s := read(t, example)
	less := api.Options{}
	for _, more := range []api.Options{{Backzone: true}, {Backzone: true, Keep: []string{"B"}}, {Backzone: true, Keep: []string{"B", "C"}}, {Backzone: true, All: true, Keep: []string{"B"}}} {
		all := Names(s, more)
		for _, name := range Names(s, less) {
			if !slices.Contains(all, name) {
				t.Error(less, more)
			}
		}
		less = more
	}
	if l := Names(s, less); len(l) != len(s.Zones) {
		t.Error(l)
	}
}
