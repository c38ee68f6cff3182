package expand

import (
	"math/rand"
	"reflect"
	"strings"
	"testing"

	"analemma/api"
	"analemma/format"
	"analemma/printer"
	"analemma/ruleset"
	"analemma/sample"
	"analemma/source"
)

func read(t *testing.T, text string) api.Source {
	t.Helper()
	s, _, err := source.Parse(text)
	if err != nil {
		t.Fatal(text, err)
	}
	return s
}

// with returns a source of an era with a set R of some saves, and of another zone.
func with(t *testing.T, era string, saves ...string) api.Source {
	text := "Rule Q 1990 only - Jan 1 0 5:00 -\n"
	for _, save := range saves {
		text += "Rule R 1990 only - Jan 1 0 " + save + " -\n"
	}
	return read(t, text+"Zone Y 3:00 - CET 1990\n3:00 - CET\nZone Z "+era+"\nLink Z X\nShift R\n")
}

var expansions = []struct {
	era   string
	saves []string
	want  string
}{
	{"5:00 R %z", []string{"0", "1:00"}, "+05/+06"}, {"5:30 - %z", nil, "+0530"}, {"-3:00 1:00 %z", nil, "-02"}, {"5:00 R %z", []string{"0"}, "+05"},
	{"5:00 R %z", []string{"0", "-1:00"}, "+05/+04"}, {"5:00 R %z", nil, "+05"}, {"0:00:01 - %z", []string{"0", "1:00", "2:00"}, "+000001"},
}

func TestP30_1Expand(t *testing.T) {
	for _, x := range expansions {
		s := with(t, x.era, x.saves...)
		want := printer.Copy(s)
		want.Zones[1].Eras[0].Format = x.want
		if got, e := Expand(s); !printer.Same(got, want) || e != api.OK {
			t.Error(x, got, e)
		}
		if s.Zones[1].Eras[0].Format != "%z" {
			t.Error("an argument has changed")
		}
	}
	for _, f := range []string{"CET", "CET/CEST", "+07", "E%sT", "A/B", "%z%z"} {
		s := with(t, "5:00 R "+f, "0", "1:00", "2:00")
		if got, e := Expand(s); !printer.Same(got, s) || e != api.OK {
			t.Error(f, got, e)
		}
	}
	for i, x := range []struct {
		s  api.Source
		of api.Errno
	}{
		{with(t, "5:00 R %z", "0", "1:00", "2:00"), api.ErrSave}, {with(t, "24:00 - %z"), api.ErrRange}, {with(t, "23:30 R %z", "1:00"), api.ErrRange},
		{api.Source{Zones: []api.Zone{{Eras: []api.Era{{Format: "CET", Kind: 9}, {Format: "%z", Kind: 9}}}, {Eras: []api.Era{{Format: "%z", Off: 1 << 40}}}}}, api.ErrArg},
		{with(t, "24:00 - %z 1990\n5:00 R %z", "1:00", "2:00"), api.ErrRange},
	} {
		if got, e := Expand(x.s); !reflect.DeepEqual(got, api.Source{}) || e != x.of {
			t.Error(i, got, e)
		}
	}
}

func TestP30_2Contract(t *testing.T) {
	for _, x := range expansions {
		want := with(t, x.era, x.saves...)
		s := printer.Copy(want)
		s.Zones[1].Eras[0].Format = x.want
		if got, e := Contract(s); !printer.Same(got, want) || e != api.OK {
			t.Error(x, got, e)
		}
	}
	for _, f := range []string{"CET", "CET/CEST", "%z", "E%sT", "A/B", "-00", "+5"} {
		s := with(t, "5:00 R "+f, "0", "1:00", "2:00")
		if got, e := Contract(s); !printer.Same(got, s) || e != api.OK {
			t.Error(f, got, e)
		}
	}
	for i, x := range []struct {
		s  api.Source
		of api.Errno
	}{
		{with(t, "5:00 R +05/+07", "0", "1:00"), api.ErrFormat}, {with(t, "5:00 R +05", "0", "1:00"), api.ErrFormat}, {with(t, "5:00 R +05/+06", "0"), api.ErrFormat},
		{with(t, "5:00 R +05", "1:00", "2:00"), api.ErrSave}, {with(t, "24:00 - +23"), api.ErrRange}, {with(t, "5:00 - +06 1990\n5:00 R +05", "1:00", "2:00"), api.ErrFormat},
		{api.Source{Zones: []api.Zone{{Eras: []api.Era{{Format: "+05", Kind: 9}}}}}, api.ErrArg},
	} {
		if got, e := Contract(x.s); !reflect.DeepEqual(got, api.Source{}) || e != x.of {
			t.Error(i, got, e)
		}
	}
}

func TestP30_3To5Properties(t *testing.T) {
	for i := range uint64(200) {
		s := read(t, sample.Text(i)) // without numeric FORMATs
		long, e := Expand(s)
		short, f := Contract(long)
		again, g := Expand(long)
		if e != api.OK || f != api.OK || g != api.OK || !printer.Same(short, s) || !printer.Same(again, long) {
			t.Fatal(i, e, f, g)
		}
		twice, e := Contract(short)
		back, f := Expand(short)
		if e != api.OK || f != api.OK || !printer.Same(twice, short) || !printer.Same(back, long) {
			t.Fatal(i, e, f)
		}
		a, _ := printer.Print(s)
		b, _ := printer.Print(long)
		x, y := strings.Fields(a), strings.Fields(b)
		if len(x) != len(y) {
			t.Fatal(i)
		}
		for k := range x {
			if y[k] == "%z" || x[k] != "%z" && x[k] != y[k] {
				t.Fatal(i, x[k], y[k])
			}
		}
		for _, z := range short.Zones {
			for _, era := range z.Eras {
				if format.Kind(era.Format) == 5 {
					t.Fatal(i, era)
				}
			}
		}
	}
}

func TestP30_6Abbreviations(t *testing.T) {
	r := rand.New(rand.NewSource(30))
	for i := range uint64(200) {
		s := read(t, sample.Text(i))
		long, _ := Expand(s)
		for k, z := range s.Zones {
			for j, era := range z.Eras {
				saves := []int64{0}
				if other, ok := ruleset.Other(ruleset.Of(s, era.Set)); ok && era.Kind == api.Named {
					saves = append(saves, other)
				}
				if era.Kind == api.Fixed {
					saves = []int64{era.Save}
				}
				for _, save := range saves {
					state := api.State{Save: save, Letter: []string{"", "S", "DD"}[r.Intn(3)]}
					a, e := format.Abbr(era.Format, era.Off, state)
					b, f := format.Abbr(long.Zones[k].Eras[j].Format, era.Off, state)
					if era.Format == "%z" && (a != b || e != api.OK || f != api.OK) {
						t.Fatal(i, era, state, a, b)
					}
				}
			}
		}
	}
}
