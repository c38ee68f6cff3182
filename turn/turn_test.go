package turn

import (
	"testing"

	"analemma/api"
	"analemma/format"
	"analemma/printer"
	"analemma/sample"
	"analemma/source"
)

func read(t *testing.T, text string) api.Source {
	t.Helper()
	s, _, err := source.Parse(text)
	if err != nil {
		t.Fatal(text, err)
	}
	return s
}

var formats = map[string]string{
	"CET/CEST": "CEST/CET", "+05/+06": "+06/+05", "E%sT": "E%sT", "%z": "%z", "A/B": "A/B", "": "", "CET": "CET", "+05": "+05", "ABC/DEF/GHI": "ABC/DEF/GHI",
	"-03/-0230": "-0230/-03", "ABC/+05": "ABC/+05", "/": "/", "\xff/\xfe": "\xff/\xfe", "abc/abc": "abc/abc",
}

func TestP29_1Format(t *testing.T) {
	for f, want := range formats {
		if got := Format(f); got != want {
			t.Errorf("%q: %q", f, got)
		}
	}
}

func TestP29_2Eras(t *testing.T) {
	text := "Zone A 0:00 - GMT/BST 1990\n0:00 R GMT/BST 2000\n0:00 Q GMT/BST 2001\n0 1:00 GMT/BST 2002\n0 R %z\nZone B 0 R +05/+06\nLink A R\nShift R\n"
	want := "Zone A 0:00 - GMT/BST 1990\n0:00 R BST/GMT 2000\n0:00 Q GMT/BST 2001\n0 1:00 GMT/BST 2002\n0 R %z\nZone B 0 R +06/+05\nLink A R\nShift R\n"
	s := read(t, text)
	got := Eras(s, "R")
	if !printer.Same(got, read(t, want)) || !printer.Same(s, read(t, text)) {
		t.Error(got)
	}
	for _, set := range []string{"X", ""} {
		if got := Eras(s, set); !printer.Same(got, s) {
			t.Error(set, got)
		}
	}
	// A set in an era of another kind is none.
	odd := api.Source{Zones: []api.Zone{{Eras: []api.Era{{Kind: api.Fixed, Set: "R", Format: "GMT/BST"}, {Kind: api.Named, Format: "GMT/BST"}}}, {}}}
	if got := Eras(odd, "R"); !printer.Same(got, odd) {
		t.Error(got)
	}
	if got := Eras(odd, ""); got.Zones[0].Eras[1].Format != "BST/GMT" || odd.Zones[0].Eras[1].Format != "GMT/BST" {
		t.Error(got)
	}
}

func TestP29_3Twice(t *testing.T) {
	for f := range formats {
		if Format(Format(f)) != f {
			t.Error(f)
		}
	}
	for i := range uint64(100) {
		s := read(t, sample.Text(i))
		if !printer.Same(Eras(Eras(s, "Minus"), "Minus"), s) || !printer.Same(Eras(Eras(s, "Minus"), "Plus"), Eras(Eras(s, "Plus"), "Minus")) {
			t.Error(i)
		}
	}
}

func TestP29_4Abbreviations(t *testing.T) {
	zero := api.State{Letter: "S"}
	for f := range formats {
		for _, save := range []int64{3600, -3600, 1} {
			other := api.State{Save: save, Letter: "S"}
			a, e := format.Abbr(f, 18000, zero)
			b, g := format.Abbr(f, 18000, other)
			c, h := format.Abbr(Format(f), 18000, zero)
			d, i := format.Abbr(Format(f), 18000, other)
			if _, _, parts := format.Parts(f); parts {
				a, b, e, g = b, a, g, e
			}
			if a != c || b != d || e != h || g != i {
				t.Error(f, save, a, b, c, d)
			}
		}
	}
}
