package links

import (
	"fmt"
	"math/rand"
	"slices"
	"testing"

	"analemma/api"
)

// build returns a source of zones with some names, and of links, with target and name one after the other.
func build(zones []string, links ...string) api.Source {
	s := api.Source{}
	for _, z := range zones {
		s.Zones = append(s.Zones, api.Zone{Name: z})
	}
	for i := 0; i < len(links); i += 2 {
		s.Links = append(s.Links, api.Link{Target: links[i], Name: links[i+1]})
	}
	return s
}

var ab = []string{"A", "B"}

func example() api.Source { return build(ab, "A", "C", "C", "D", "F", "E", "E", "F") }

func TestP15_1Names(t *testing.T) {
	for _, x := range []struct {
		s    api.Source
		want []string
	}{
		{example(), []string{"A", "B", "C", "D", "E", "F"}}, {api.Source{}, nil}, {build([]string{"b", "B", "a", "b", ""}, "x", "b", "y", "Z", "z", "Z"), []string{"", "B", "Z", "a", "b"}},
	} {
		if l := Names(x.s); !slices.Equal(l, x.want) {
			t.Error(l)
		}
	}
}

func TestP15_2Find(t *testing.T) {
	s := example()
	for name, want := range map[string]int{"A": 0, "B": 1, "C": 0, "D": 0} {
		if i, e := Find(s, name); i != want || e != api.OK {
			t.Error(name, i, e)
		}
	}
	for name, want := range map[string]api.Errno{"E": api.ErrLoop, "F": api.ErrLoop, "X": api.ErrName, "": api.ErrName} {
		if i, e := Find(s, name); i != 0 || e != want {
			t.Error(name, i, e)
		}
	}
	// The first zone and the first link with a name count, and zones ahead of links.
	s = build([]string{"B", "A", "A"}, "B", "A", "A", "C", "B", "C", "X", "D", "E", "E", "D", "F", "E", "G")
	for name, want := range map[string]int{"A": 1, "C": 1, "B": 0} {
		if i, e := Find(s, name); i != want || e != api.OK {
			t.Error(name, i, e)
		}
	}
	for name, want := range map[string]api.Errno{"D": api.ErrName, "E": api.ErrLoop, "F": api.ErrName, "G": api.ErrLoop, "X": api.ErrName} {
		if i, e := Find(s, name); i != 0 || e != want {
			t.Error(name, i, e)
		}
	}
}

func TestP15_3Check(t *testing.T) {
	e := example()
	for i, x := range []struct {
		s     api.Source
		part  int
		index int
		of    api.Errno
	}{
		{e, api.InLinks, 2, api.ErrLoop}, {build(ab, "A", "C", "C", "D", "F", "E"), api.InLinks, 2, api.ErrName}, {build(ab, "A", "C", "C", "D"), 0, 0, api.OK},
		{build(ab, "A", "C", "C", "D", "A", "B"), api.InLinks, 2, api.ErrTwice}, {build([]string{"A", "B", "B"}), api.InZones, 2, api.ErrTwice},
		{build([]string{"A", "B", "/"}, "x", "-"), api.InZones, 2, api.ErrName}, {build(ab, "G", "-"), api.InLinks, 0, api.ErrName}, {api.Source{}, 0, 0, api.OK},
		{build(ab, "A", "C", "B", "C"), api.InLinks, 1, api.ErrTwice}, {build(ab, "X", "A"), api.InLinks, 0, api.ErrTwice}, {build(ab, "C", "C"), api.InLinks, 0, api.ErrLoop},
		{build(ab, "A", "C", "E", "D", "F", "E", "E", "F"), api.InLinks, 1, api.ErrLoop}, {build(ab, "C", "D", "A", "C"), 0, 0, api.OK},
		{build(ab, "E", "E", "A", "X", "X", "X"), api.InLinks, 2, api.ErrTwice}, {build([]string{""}), api.InZones, 0, api.ErrName},
		{build(ab, "C", "C", "x", "y"), api.InLinks, 1, api.ErrName}, {build([]string{"A", "/", "A"}), api.InZones, 1, api.ErrName},
		{build([]string{"A", "A", "/"}), api.InZones, 1, api.ErrTwice}, {build(ab, "D", "C", "A", "D", "D", "E", "C", "F", "G", "G", "A", "H"), api.InLinks, 4, api.ErrLoop},
	} {
		if p, e := Check(x.s); p != (api.Place{Part: x.part, Index: x.index}) || e != x.of {
			t.Error(i, p, e)
		}
	}
}

func TestLongChains(t *testing.T) {
	const n = 20000
	var l []string
	for i := range n {
		l = append(l, fmt.Sprint("L", i), fmt.Sprint("L", i+1))
	}
	s := build([]string{"A", "L0"}, l...)
	if p, e := Check(s); p != (api.Place{}) || e != api.OK {
		t.Error(p, e)
	}
	if i, e := Find(s, fmt.Sprint("L", n)); i != 1 || e != api.OK {
		t.Error(i, e)
	}
	slices.Reverse(s.Links)
	if p, e := Check(s); p != (api.Place{}) || e != api.OK {
		t.Error(p, e)
	}
}

// anySource returns a source with few names.
func anySource(r *rand.Rand) api.Source {
	name := func() string { return string(rune('A' + r.Intn(8))) }
	s := api.Source{}
	for range r.Intn(4) {
		s.Zones = append(s.Zones, api.Zone{Name: name()})
	}
	for range r.Intn(5) {
		s.Links = append(s.Links, api.Link{Target: name(), Name: name()})
	}
	return s
}

func TestP15_4Right(t *testing.T) {
	r := rand.New(rand.NewSource(15))
	right := 0
	for range 20000 {
		s := anySource(r)
		if _, e := Check(s); e != api.OK {
			continue
		}
		right++
		names := Names(s)
		if len(names) != len(s.Zones)+len(s.Links) {
			t.Fatal(s, names)
		}
		for _, name := range names {
			if _, e := Find(s, name); e != api.OK {
				t.Fatal(s, name, e)
			}
		}
		for _, l := range s.Links {
			a, _ := Find(s, l.Name)
			if b, _ := Find(s, l.Target); a != b {
				t.Fatal(s, l, a, b)
			}
		}
	}
	if right < 1000 {
		t.Error(right)
	}
}

func TestP15_5Order(t *testing.T) {
	r := rand.New(rand.NewSource(155))
	for range 5000 {
		s := anySource(r)
		_, e := Check(s)
		names := Names(s)
		stand := map[string]string{}
		for _, name := range names {
			if i, e := Find(s, name); e == api.OK {
				stand[name] = s.Zones[i].Name
			}
		}
		r.Shuffle(len(s.Zones), func(i, j int) { s.Zones[i], s.Zones[j] = s.Zones[j], s.Zones[i] })
		r.Shuffle(len(s.Links), func(i, j int) { s.Links[i], s.Links[j] = s.Links[j], s.Links[i] })
		if _, f := Check(s); (e == api.OK) != (f == api.OK) {
			t.Fatal(s, e, f)
		}
		if e != api.OK {
			continue
		}
		for _, name := range names {
			if i, e := Find(s, name); e != api.OK || s.Zones[i].Name != stand[name] {
				t.Fatal(s, name, i, e)
			}
		}
	}
}
