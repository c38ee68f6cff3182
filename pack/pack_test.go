package pack

import (
	"fmt"
	"math/rand"
	"reflect"
	"slices"
	"strings"
	"testing"

	"analemma/accept"
	"analemma/api"
	"analemma/keep"
	"analemma/links"
	"analemma/meaning"
	"analemma/printer"
	"analemma/ruleset"
	"analemma/sample"
	"analemma/source"
	"analemma/translate"
)

func read(t *testing.T, text string) api.Source {
	t.Helper()
	s, _, err := source.Parse(text)
	if err != nil {
		t.Fatal(text, err)
	}
	return s
}

const (
	mainText     = "Zone A 0:00 - GMT\nLink A B\n"
	backwardText = "Link B C\n"
	backzoneText = "Zone B 0:00 - UTC\n"
	setR         = "Rule R 1990 only - Jul 1 0:00 0:00 -\nRule R 1991 only - Jul 1 0:00 1:00 -\n"
	setQ         = "Rule Q 1990 only - Jul 1 0:00 0:00 -\n"
)

func TestP36_1Check(t *testing.T) {
	for i, x := range []struct {
		main, backward, backzone string
		text, part, index, era   int
		of                       api.Errno
	}{
		{mainText, backwardText, backzoneText, 0, 0, 0, 0, api.OK}, {"", "", "", 0, 0, 0, 0, api.OK},
		{mainText + "Link X Y\n", setR, backzoneText, 0, api.InLinks, 1, 0, api.ErrName}, {"Zone A 0 - GMT 1990\n16 - GMT\n", "", "", 0, api.InZones, 0, 1, api.ErrRange},
		{mainText, "Zone D 0 - GMT\nShift R\n", backzoneText, 1, api.InZones, 0, 0, api.ErrKind}, {mainText, "Link X Y\n" + setR + "Zone D 0 - GMT\n", "", 1, api.InRules, 0, 0, api.ErrKind},
		{mainText, setQ, "", 1, api.InRules, 0, 0, api.ErrKind}, {mainText, "Shift R\nLink A D\n", backzoneText + "Link B X\n", 1, api.InShifts, 0, 0, api.ErrKind}, {mainText, "", backzoneText + "Zone X 16 - GMT\nLink B X\n", 2, api.InLinks, 0, 0, api.ErrKind},
		{mainText, "", backzoneText + "Zone X 16 - GMT\n", 2, api.InZones, 1, 0, api.ErrRange}, {mainText + "Zone X 5 - %z\n", "Link X D\n", "Zone B 5 - +05\n", 2, 0, 0, 0, api.ErrKind},
		{mainText + "Zone X 5 - %z\n", "Link D E\n", "Zone B 5 - +05\n", 2, 0, 0, 0, api.ErrKind}, {mainText + "Zone X 5 - %z\nZone Y 5 - +05\n", "", backzoneText, 2, 0, 0, 0, api.ErrKind},
		{mainText, "Link B C\nLink D E\n", backzoneText, 1, api.InLinks, 1, 0, api.ErrName}, {mainText, "Link A B\n", backzoneText, 1, api.InLinks, 0, 0, api.ErrTwice},
		{mainText, "Link A A\n", backzoneText, 1, api.InLinks, 0, 0, api.ErrTwice}, {mainText, "Link A D\nLink E E\n", backzoneText, 1, api.InLinks, 1, 0, api.ErrLoop},
		{setR + mainText, "Link A D\nLink E E\n", strings.Replace(setR, "1:00 -", "2:00 -", 1), 1, api.InLinks, 1, 0, api.ErrLoop},
		{setR + mainText, "", setQ + strings.Replace(setR, "1:00 -", "2:00 -", 1), 2, api.InRules, 1, 0, api.ErrTwice}, {setR + mainText, "", setR + "Shift R\n", 2, api.InRules, 0, 0, api.ErrTwice},
		{setR + mainText, "", setQ + setR, 0, 0, 0, 0, api.OK}, {mainText, "", "Zone A 1 - CET\nZone B 0 - GMT\n", 0, 0, 0, 0, api.OK},
	} {
		a, b, c := read(t, x.main), read(t, x.backward), read(t, x.backzone)
		want := api.Place{Part: x.part, Index: x.index, Era: x.era}
		if text, p, e := Check(a, b, c); text != x.text || p != want || e != x.of {
			t.Error(i, text, p, e)
		}
		s, text, p, e := Pack(a, b, c, api.Options{})
		if text != x.text || p != want || e != x.of || e != api.OK && !reflect.DeepEqual(s, api.Source{}) {
			t.Error(i, s, text, p, e)
		}
	}
}

func TestP36_2Pack(t *testing.T) {
	all, none := api.Options{Backzone: true, All: true}, api.Options{}
	only := func(names ...string) api.Options { return api.Options{Backzone: true, Keep: names} }
	plain := "Zone A 0:00 - GMT\nLink A B\nLink A C\n"
	for i, x := range []struct {
		main, backward, backzone string
		o                        api.Options
		want                     string
	}{
		{mainText, backwardText, backzoneText, none, plain}, {mainText, backwardText, backzoneText, only("A"), plain}, {mainText, backwardText, backzoneText, api.Options{All: true, Keep: []string{"B"}}, plain},
		{mainText, backwardText, backzoneText, all, "Zone A 0:00 - GMT\nZone B 0:00 - UTC\nLink B C\n"}, {mainText, backwardText, backzoneText, only("X", "B"), "Zone A 0:00 - GMT\nZone B 0:00 - UTC\nLink B C\n"},
		{setQ + "Zone Z 0:00 - GMT\nZone A 0:00 - GMT\nLink B Y\nLink Z B\n", "Link Y C\nLink A D\n", setR + setQ + "Zone D 0:00 - LMT 1980\n\t0:00 R UTC\nZone A 0:00 - LMT 1980\n\t0:00 Q UTC\n", only("D"),
			setQ + setR + "Zone A 0:00 - GMT\nZone D 0:00 - LMT 1980\n\t0:00 R UTC\nZone Z 0:00 - GMT\nLink Z B\nLink Z C\nLink Z Y\n"},
		{setQ + "Zone A 0:00 - GMT\n", "", setR + setQ + "Zone D 0:00 - LMT 1980\n\t0:00 R UTC\nZone A 0:00 - LMT 1980\n\t0:00 Q UTC\n", only("A"), setQ + "Zone A 0:00 - LMT 1980\n\t0:00 Q UTC\n"},
		{"", "", setR + "Zone D 0:00 - LMT 1980\n\t0:00 R UTC\nShift R\n", all, setR + "Zone D 0:00 - LMT 1980\n\t0:00 R UTC\nShift R\n"},
		{setR + "Shift R\n", "", setR + "Zone D 0:00 - LMT 1980\n\t0:00 R UTC\nShift R\n", all, setR + "Zone D 0:00 - LMT 1980\n\t0:00 R UTC\nShift R\n"},
	} {
		s, text, p, e := Pack(read(t, x.main), read(t, x.backward), read(t, x.backzone), x.o)
		got, f := printer.Print(s)
		if got != x.want || text != 0 || p != (api.Place{}) || e != api.OK || f != api.OK {
			t.Errorf("%d: %s %d %v %v %v", i, got, text, p, e, f)
		}
	}
}

// zones returns the lines of some zones whose names begin with a letter.
func zones(letter string, n int) string {
	var b strings.Builder
	for i := range n {
		fmt.Fprintf(&b, "Zone %s%d 0 - GMT\n", letter, i)
	}
	return b.String()
}

// linkLines returns the lines of some links to A.
func linkLines(letter string, n int) string {
	var b strings.Builder
	for i := range n {
		fmt.Fprintf(&b, "Link A %s%d\n", letter, i)
	}
	return b.String()
}

// ruleLines returns the lines of sets, each of which has two rules.
func ruleLines(letter string, n int) string {
	var b strings.Builder
	for i := range n / 2 {
		b.WriteString(strings.ReplaceAll(setR, "R 199", fmt.Sprintf("%s%d 199", letter, i)))
	}
	return b.String()
}

func TestP36_2Many(t *testing.T) {
	all := api.Options{Backzone: true, All: true}
	for i, x := range []struct {
		main, backward, backzone string
		of                       api.Errno
	}{
		{zones("M", 250), "", zones("B", 250), api.OK}, {zones("M", 250), "", zones("B", 251), api.ErrMany}, {zones("M", 500), "", zones("M", 500), api.OK},
		{"Zone A 0 - GMT\n" + linkLines("L", 500), linkLines("K", 500), "", api.OK}, {"Zone A 0 - GMT\n" + linkLines("L", 500), linkLines("K", 501), "", api.ErrMany},
		{"Zone A 0 - GMT\n" + linkLines("L", 500), linkLines("K", 501), "Zone L0 0 - GMT\n", api.OK},
		{ruleLines("R", 1998), "", setQ + "Rule Q 1992 only - Jul 1 0:00 1:00 -\nZone D 0:00 - LMT 1980\n\t0:00 Q UTC\n", api.OK},
		{ruleLines("R", 2000), "", setQ + "Zone D 0:00 - LMT 1980\n\t0:00 Q UTC\n", api.ErrMany}, {ruleLines("R", 2000), "", setQ + "Zone D 0:00 - LMT 1980\n\t0:00 - UTC\n", api.OK},
	} {
		s, text, p, e := Pack(read(t, x.main), read(t, x.backward), read(t, x.backzone), all)
		if text != 0 || p != (api.Place{}) || e != x.of || e != api.OK && !reflect.DeepEqual(s, api.Source{}) {
			t.Error(i, text, p, e)
		}
	}
}

// three returns a main source, a backward one, and a backzone with other zones, some of which have the names of links.
func three(t *testing.T, r *rand.Rand, i uint64) (api.Source, api.Source, api.Source) {
	main, other := read(t, sample.Text(i)), read(t, sample.Text(i+1000))
	// Sets of its own, but for one of main.
	for k := range other.Rules {
		other.Rules[k].Name += "B"
	}
	for k := range other.Zones {
		other.Zones[k].Name = []string{"L0", "X", main.Zones[0].Name}[k]
		for j := range other.Zones[k].Eras {
			if e := &other.Zones[k].Eras[j]; e.Kind == api.Named && e.Set != "Plus" {
				e.Set += "B"
			}
		}
	}
	other.Rules = append(other.Rules, ruleset.Of(main, "Plus")...)
	// The set of main can have events where an era of the other one ends.
	if _, e := accept.Check(other); e != api.OK {
		other = api.Source{}
	}
	other.Links = nil
	backward := api.Source{}
	names := links.Names(main)
	for k := range r.Intn(3) {
		backward.Links = append(backward.Links, api.Link{Target: names[r.Intn(len(names))], Name: fmt.Sprint("K", k)})
	}
	return main, backward, other
}

func options(r *rand.Rand) api.Options {
	return api.Options{Backzone: r.Intn(4) > 0, All: r.Intn(2) > 0, Keep: []string{"L0", "Area/Z0", "L1"}[:r.Intn(4)]}
}

func pack(t *testing.T, a, b, c api.Source, o api.Options) api.Source {
	t.Helper()
	s, text, p, e := Pack(a, b, c, o)
	if e != api.OK {
		t.Fatal(text, p, e)
	}
	return s
}

func TestP36_3NamesAndMeaning(t *testing.T) {
	r := rand.New(rand.NewSource(36))
	for i := range uint64(60) {
		a, b, c := three(t, r, i)
		o := options(r)
		s := pack(t, a, b, c, o)
		if p, e := accept.In(s, api.Vanguard); e != api.OK {
			t.Fatal(i, p, e)
		}
		kept := keep.Names(c, o)
		main := a
		main.Links = slices.Concat(a.Links, b.Links)
		names := slices.Concat(links.Names(main), kept)
		slices.Sort(names)
		if names = slices.Compact(names); !slices.Equal(names, links.Names(s)) {
			t.Fatal(i, names, links.Names(s))
		}
		for _, name := range names {
			n := r.Int63n(1<<33) - 1<<32
			got, e := meaning.At(s, name, n)
			zone := name
			from := c
			for !slices.Contains(kept, zone) {
				k := slices.IndexFunc(main.Links, func(l api.Link) bool { return l.Name == zone })
				if k < 0 {
					from = main
					break
				}
				zone = main.Links[k].Target
			}
			want, f := meaning.At(from, zone, n)
			if got != want || e != api.OK || f != api.OK {
				t.Fatal(i, name, zone, n, got, want, e, f)
			}
		}
	}
}

func TestP36_4And5TranslationsAndAgain(t *testing.T) {
	r := rand.New(rand.NewSource(364))
	to := func(s api.Source, form int) api.Source {
		out, p, e := translate.To(s, form)
		if e != api.OK {
			t.Fatal(p, e)
		}
		return out
	}
	for i := range uint64(60) {
		a, b, c := three(t, r, i)
		o := options(r)
		s := pack(t, a, b, c, o)
		for form := 1; form <= 3; form++ {
			x, y := to(s, form), pack(t, to(a, form), b, to(c, form), o)
			if !printer.Same(x, y) {
				t.Fatal(i, form)
			}
		}
		if !printer.Same(pack(t, s, api.Source{}, api.Source{}, o), s) {
			t.Fatal(i)
		}
	}
}
