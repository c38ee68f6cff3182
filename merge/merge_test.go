package merge

import (
	"fmt"
	"math/rand"
	"reflect"
	"slices"
	"strings"
	"testing"

	"analemma/accept"
	"analemma/api"
	"analemma/links"
	"analemma/meaning"
	"analemma/printer"
	"analemma/ruleset"
	"analemma/sample"
	"analemma/source"
)

func read(t *testing.T, text string) api.Source {
	t.Helper()
	s, _, err := source.Parse(text)
	if err != nil {
		t.Fatal(text, err)
	}
	return s
}

const (
	set   = "Rule R 1990 only - Jul 1 0:00 0 -\nRule R 1991 only - Jul 1 0:00 1:00 -\n"
	other = "Rule Q 1990 only - Jul 1 0:00 0 -\nRule Q 1991 only - Jul 1 0:00 1:00 -\n"
)

func TestP34_1Sources(t *testing.T) {
	a := read(t, set+"Zone A 0 - LMT 1980\n0 R ABC\nLink A C\nShift R\n")
	for _, x := range [][2]string{
		{set + "Zone B 0 - LMT\nShift R\n", set + "Zone A 0 - LMT 1980\n0 R ABC\nZone B 0 - LMT\nLink A C\nShift R\n"},
		{other + set + "Link X D\nShift Q\nShift R\nShift Z\nShift Z\n", set + other + "Zone A 0 - LMT 1980\n0 R ABC\nLink A C\nLink X D\nShift R\nShift Q\nShift Z\nShift Z\n"},
		{"", set + "Zone A 0 - LMT 1980\n0 R ABC\nLink A C\nShift R\n"},
	} {
		b := read(t, x[0])
		got, p, e := Sources(a, b)
		if !printer.Same(got, read(t, x[1])) || p != (api.Place{}) || e != api.OK {
			t.Error(x[0], got, p, e)
		}
	}
	place := func(part, index int) api.Place { return api.Place{Part: part, Index: index} }
	for i, x := range []struct {
		text string
		want api.Place
	}{
		{set + "Zone B 0 - LMT\n", place(api.InRules, 0)}, {other + strings.Replace(set, "1:00 -", "2:00 -", 1) + "Zone B 0 - LMT\nShift R\n", place(api.InRules, 2)},
		{set + set + "Shift R\n", place(api.InRules, 0)}, {"Rule R 1991 only - Jul 1 0:00 1:00 -\nRule R 1990 only - Jul 1 0:00 0 -\nShift R\n", place(api.InRules, 0)},
		{"Link X A\n", place(api.InLinks, 0)}, {"Zone B 0 - LMT\nZone A 0 - LMT\nLink X C\n", place(api.InZones, 1)}, {"Zone C 0 - LMT\n", place(api.InZones, 0)},
		{"Link X Y\nLink X C\n", place(api.InLinks, 1)}, {other + set + "Zone A 0 - LMT\n", place(api.InRules, 2)}, {set + "Shift R\nZone A 0 - LMT\nLink X C\n", place(api.InZones, 0)},
	} {
		if got, p, e := Sources(a, read(t, x.text)); !reflect.DeepEqual(got, api.Source{}) || p != x.want || e != api.ErrTwice {
			t.Error(i, p, e)
		}
	}
	if _, p, e := Sources(a, a); p != place(api.InZones, 0) || e != api.ErrTwice {
		t.Error(p, e)
	}
	// The first set in the order of b that is not alike.
	two := read(t, set+other)
	b := read(t, "Rule Z 1990 only - Jul 1 0:00 0 -\nRule Q 1990 only - Jul 1 0:00 0 -\nRule R 1990 only - Jul 1 0:00 0 -\n")
	if _, p, e := Sources(two, b); p != place(api.InRules, 1) || e != api.ErrTwice {
		t.Error(p, e)
	}
	fresh, _, _ := Sources(a, read(t, "Zone B 0 - LMT\nLink B D\n"))
	fresh.Rules[0].Name, fresh.Zones[0].Eras[0].Format, fresh.Links[0].Name, fresh.Shifts[0] = "x", "x", "x", "x"
	if a.Rules[0].Name != "R" || a.Zones[0].Eras[0].Format != "LMT" || a.Links[0].Name != "C" || a.Shifts[0] != "R" {
		t.Error("shared memory")
	}
}

// renamed returns a sample whose zones and links have a letter in front of their names, and some sets another name.
func renamed(t *testing.T, i uint64, letter string) api.Source {
	s := read(t, sample.Text(i))
	for k := range s.Zones {
		s.Zones[k].Name = letter + s.Zones[k].Name
		for j := range s.Zones[k].Eras {
			if e := &s.Zones[k].Eras[j]; e.Set == "Many" {
				e.Set += letter
			}
		}
	}
	for k := range s.Links {
		s.Links[k].Name, s.Links[k].Target = letter+s.Links[k].Name, letter+s.Links[k].Target
	}
	for k := range s.Rules {
		if s.Rules[k].Name == "Many" {
			s.Rules[k].Name += letter
		}
	}
	return s
}

// like returns a source with the sets of another one, where it has the same ones.
func like(s, other api.Source) api.Source {
	rules := slices.Clone(other.Rules)
	for _, r := range s.Rules {
		if len(ruleset.Of(other, r.Name)) == 0 {
			rules = append(rules, r)
		}
	}
	s.Rules = rules
	return s
}

func TestP34_2And3NothingAndSets(t *testing.T) {
	for i := range uint64(60) {
		a := renamed(t, i, "A")
		for _, got := range [][2]api.Source{{a, {}}, {{}, a}} {
			if s, p, e := Sources(got[0], got[1]); !printer.Same(s, a) || p != (api.Place{}) || e != api.OK {
				t.Fatal(i, p, e)
			}
		}
		b := like(renamed(t, i+100, "B"), a)
		s, _, e := Sources(a, b)
		if e != api.OK {
			t.Fatal(i, e)
		}
		sets := map[string]bool{}
		for _, one := range []api.Source{a, b} {
			for _, name := range ruleset.Names(one) {
				sets[name] = true
				if !slices.Equal(ruleset.Of(one, name), ruleset.Of(s, name)) {
					t.Fatal(i, name)
				}
			}
		}
		names := slices.Concat(links.Names(a), links.Names(b))
		slices.Sort(names)
		if len(ruleset.Names(s)) != len(sets) || !slices.Equal(names, links.Names(s)) {
			t.Fatal(i)
		}
	}
}

func TestP34_4Meaning(t *testing.T) {
	r := rand.New(rand.NewSource(34))
	for i := range uint64(30) {
		a := renamed(t, i, "A")
		b := renamed(t, i+100, "B")
		// Sets of their own, but for one that both have.
		for k := range b.Rules {
			b.Rules[k].Name = "B" + b.Rules[k].Name
		}
		for k := range b.Zones {
			for j := range b.Zones[k].Eras {
				if e := &b.Zones[k].Eras[j]; e.Kind == api.Named {
					e.Set = "B" + e.Set
				}
			}
		}
		b.Rules = append(b.Rules, ruleset.Of(a, "Plus")...)
		s, _, e := Sources(a, b)
		if e != api.OK {
			t.Fatal(e)
		}
		for _, x := range []api.Source{a, b, s} {
			if p, e := accept.Check(x); e != api.OK {
				t.Fatal(i, p, e)
			}
		}
		for _, one := range []api.Source{a, b} {
			for _, name := range links.Names(one) {
				n := r.Int63n(1<<33) - 1<<32
				x, e := meaning.At(one, name, n)
				y, f := meaning.At(s, name, n)
				if x != y || e != api.OK || f != api.OK {
					t.Fatal(i, name, n, x, y)
				}
			}
		}
	}
}

// small returns a source of few parts.
func small(r *rand.Rand) api.Source {
	var b strings.Builder
	sets := map[string]bool{}
	for range r.Intn(3) {
		set := []string{"P", "Q", "R"}[r.Intn(3)]
		sets[set] = true
		fmt.Fprintf(&b, "Rule %s 1990 only - Jul 1 0 %d -\n", set, r.Intn(5)/4)
	}
	for range r.Intn(2) {
		fmt.Fprintf(&b, "Zone Z%d 0 - LMT\n", r.Intn(6))
	}
	for range r.Intn(2) {
		fmt.Fprintf(&b, "Link A Z%d\n", r.Intn(6))
	}
	for _, set := range []string{"R", "P", "Q"} {
		if sets[set] && r.Intn(3) == 0 {
			fmt.Fprintf(&b, "Shift %s\n", set)
		}
	}
	s, _, _ := source.Parse(b.String())
	return s
}

func TestP34_5Three(t *testing.T) {
	r := rand.New(rand.NewSource(345))
	good := 0
	for range 20000 {
		a, b, c := small(r), small(r), small(r)
		left, _, e := Sources(a, b)
		if e == api.OK {
			left, _, e = Sources(left, c)
		}
		right, _, f := Sources(b, c)
		if f == api.OK {
			right, _, f = Sources(a, right)
		}
		if (e == api.OK) != (f == api.OK) || !printer.Same(left, right) {
			t.Fatal(a, b, c, e, f)
		}
		if e == api.OK {
			good++
		}
	}
	if good < 1000 {
		t.Error(good)
	}
}
