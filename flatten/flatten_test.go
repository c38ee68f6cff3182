package flatten

import (
	"math/rand"
	"reflect"
	"slices"
	"strconv"
	"strings"
	"testing"

	"analemma/api"
	"analemma/links"
	"analemma/printer"
	"analemma/sample"
	"analemma/source"
)

func read(t *testing.T, text string) api.Source {
	t.Helper()
	s, _, err := source.Parse(text)
	if err != nil {
		t.Fatal(text, err)
	}
	return s
}

const head = "Rule Z 1990 only - Jul 1 0 0 -\nRule Y 1990 only - Jul 1 0 0 -\n"

const example = head + "Zone B 0 - LMT 1990\n1 - ABC\nZone A 0 - LMT\nLink A D\nLink D E\nLink B C\nShift Z\nShift Y\n"

func TestP35_1Links(t *testing.T) {
	s := read(t, example)
	got, e := Links(s)
	if !printer.Same(got, read(t, strings.Replace(example, "Link D E", "Link A E", 1))) || e != api.OK {
		t.Error(got, e)
	}
	got.Rules[0].Name, got.Zones[0].Eras[0].Format, got.Links[0].Name, got.Shifts[0] = "x", "x", "x", "x"
	if !printer.Same(s, read(t, example)) {
		t.Error("shared memory")
	}
	for i, x := range []struct {
		more string
		of   api.Errno
	}{
		{"Link F F\n", api.ErrLoop}, {"Link X F\n", api.ErrName}, {"Link A D\n", api.ErrTwice}, {"Zone A 0 - LMT\n", api.ErrTwice}, {"Link F G\nLink G F\nLink X H\n", api.ErrName},
	} {
		if got, e := Links(read(t, example+x.more)); !reflect.DeepEqual(got, api.Source{}) || e != x.of {
			t.Error(i, e)
		}
	}
	s.Zones[0].Name = "-"
	if got, e := Links(s); !reflect.DeepEqual(got, api.Source{}) || e != api.ErrName {
		t.Error(got, e)
	}
}

func TestLongChains(t *testing.T) {
	const n = 20000
	s := api.Source{Zones: []api.Zone{{Name: "A"}}}
	last := "A"
	for i := range n {
		name := "L" + strconv.Itoa(i)
		s.Links = append(s.Links, api.Link{Target: last, Name: name})
		last = name
	}
	slices.Reverse(s.Links)
	got, e := Links(s)
	if len(got.Links) != n || e != api.OK {
		t.Fatal(len(got.Links), e)
	}
	for _, l := range got.Links {
		if l.Target != "A" {
			t.Fatal(l)
		}
	}
}

func TestP35_2Sort(t *testing.T) {
	s := read(t, example)
	want := read(t, head+"Zone A 0 - LMT\nZone B 0 - LMT 1990\n1 - ABC\nLink B C\nLink A D\nLink D E\nShift Z\nShift Y\n")
	got := Sort(s)
	if !printer.Same(got, want) {
		t.Error(got)
	}
	got.Rules[0].Name, got.Zones[1].Eras[0].Format, got.Links[0].Name, got.Shifts[0] = "x", "x", "x", "x"
	if !printer.Same(s, read(t, example)) {
		t.Error("shared memory")
	}
	// Byte by byte; equal names stay in their order; whatever the source is.
	odd := api.Source{Zones: []api.Zone{{Name: "b"}, {Name: "A", Eras: make([]api.Era, 1)}, {Name: "\xff"}, {Name: "A", Eras: make([]api.Era, 2)}, {Name: ""}, {Name: "B"}, {Name: "A"}},
		Links: []api.Link{{Name: "x", Target: "2"}, {Name: "x", Target: "1"}, {Name: "a", Target: "9"}}}
	got = Sort(odd)
	var names []string
	for _, z := range got.Zones {
		names = append(names, z.Name)
	}
	if !slices.Equal(names, []string{"", "A", "A", "A", "B", "b", "\xff"}) || len(got.Zones[1].Eras) != 1 || len(got.Zones[2].Eras) != 2 || len(got.Zones[3].Eras) != 0 {
		t.Error(got)
	}
	if !slices.Equal(got.Links, []api.Link{{Name: "a", Target: "9"}, {Name: "x", Target: "2"}, {Name: "x", Target: "1"}}) {
		t.Error(got.Links)
	}
}

func TestP35_3To5Properties(t *testing.T) {
	r := rand.New(rand.NewSource(35))
	for i := range uint64(200) {
		s := read(t, sample.Text(i))
		r.Shuffle(len(s.Zones), func(i, j int) { s.Zones[i], s.Zones[j] = s.Zones[j], s.Zones[i] })
		flat, e := Links(s)
		sorted := Sort(s)
		if e != api.OK {
			t.Fatal(i, e)
		}
		for _, x := range []api.Source{flat, sorted} {
			if !slices.Equal(links.Names(s), links.Names(x)) {
				t.Fatal(i)
			}
			for _, name := range links.Names(s) {
				a, e := links.Find(s, name)
				b, f := links.Find(x, name)
				if e != api.OK || f != api.OK || s.Zones[a].Name != x.Zones[b].Name {
					t.Fatal(i, name)
				}
			}
		}
		twice, _ := Links(flat)
		both, _ := Links(sorted)
		if !printer.Same(twice, flat) || !printer.Same(Sort(sorted), sorted) || !printer.Same(both, Sort(flat)) {
			t.Fatal(i)
		}
		moved := printer.Copy(s)
		r.Shuffle(len(moved.Zones), func(i, j int) { moved.Zones[i], moved.Zones[j] = moved.Zones[j], moved.Zones[i] })
		r.Shuffle(len(moved.Links), func(i, j int) { moved.Links[i], moved.Links[j] = moved.Links[j], moved.Links[i] })
		if !printer.Same(Sort(moved), sorted) {
			t.Fatal(i)
		}
	}
}
