package shift

import (
	"math/rand"
	"reflect"
	"slices"
	"testing"

	"analemma/api"
	"analemma/printer"
	"analemma/sample"
	"analemma/source"
)

const (
	least    = -1 << 63
	greatest = 1<<63 - 1
)

func read(t *testing.T, text string) api.Source {
	t.Helper()
	s, _, err := source.Parse(text)
	if err != nil {
		t.Fatal(text, err)
	}
	return s
}

const example = `Rule R 1990 max - Mar lastSun 2:00s 0 -
Rule R 1990 max - Oct lastSun 1:00u -1:00 -
Rule Q 1990 max - Oct lastSun 1:00s -1:00 -
Zone Z 1:00 R IST/GMT 2000 Jan 1 3:00s
	1:00 Q IST/GMT 2001 Jan 1 3:00s
	1:00 R IST/GMT 2002 Jan 1 3:00
	1:00 - IST 2003 Jan 1 3:00s
	1:00 1:00 IST 2004 Jan 1 3:00s
	1:00 R %z
Zone Y 1:00 R IST/GMT
Link Z X
Shift Q
`

const shifted = `Rule R 1990 max - Mar lastSun 1:00s 1:00 -
Rule R 1990 max - Oct lastSun 1:00u 0:00 -
Rule Q 1990 max - Oct lastSun 1:00s -1:00 -
Zone Z 0:00 R IST/GMT 2000 Jan 1 2:00s
	1:00 Q IST/GMT 2001 Jan 1 3:00s
	0:00 R IST/GMT 2002 Jan 1 3:00
	1:00 - IST 2003 Jan 1 3:00s
	1:00 1:00 IST 2004 Jan 1 3:00s
	0:00 R %z
Zone Y 0:00 R IST/GMT
Link Z X
Shift Q
`

func TestP28_1Rules(t *testing.T) {
	s := read(t, example)
	if got := Rules(s.Rules[:2], 3600); !slices.Equal(got, read(t, shifted).Rules[:2]) {
		t.Error(got)
	}
	if got := Rules(nil, 5); len(got) != 0 {
		t.Error(got)
	}
	// Whatever the names are; and around the ends of the numbers.
	got := Rules([]api.Rule{{Name: "a", Save: greatest, At: api.Clock{Sec: least, Base: api.Std}}, {Save: least, At: api.Clock{Sec: 5, Base: 7}}}, 1)
	if want := []api.Rule{{Name: "a", Save: least, At: api.Clock{Sec: greatest, Base: api.Std}}, {Save: least + 1, At: api.Clock{Sec: 5, Base: 7}}}; !slices.Equal(got, want) {
		t.Error(got)
	}
	if s.Rules[0].Save != 0 {
		t.Error("an argument has changed")
	}
}

func TestP28_2Eras(t *testing.T) {
	s, want := read(t, example), read(t, shifted)
	got := Eras(s, "R", 3600)
	want.Rules = s.Rules
	if !printer.Same(got, want) {
		t.Error(got)
	}
	if got := Eras(s, "X", 3600); !printer.Same(got, s) {
		t.Error(got)
	}
	if got := Eras(s, "", 3600); !printer.Same(got, s) {
		t.Error(got)
	}
	// An end that is none stays, and so does what is not Named.
	odd := api.Source{Zones: []api.Zone{{Eras: []api.Era{{Kind: api.Named, Set: "R", Off: least, Until: api.Until{At: api.Clock{Base: api.Std}}}, {Kind: api.Fixed, Set: "R", Off: 5}}}}}
	if got := Eras(odd, "R", 1); got.Zones[0].Eras[0] != (api.Era{Kind: api.Named, Set: "R", Off: greatest, Until: api.Until{At: api.Clock{Base: api.Std}}}) || got.Zones[0].Eras[1] != odd.Zones[0].Eras[1] {
		t.Error(got)
	}
	fresh := Eras(s, "R", 0)
	fresh.Rules[0].Save, fresh.Zones[0].Eras[0].Off, fresh.Links[0].Name, fresh.Shifts[0] = 9, 9, "9", "9"
	if !printer.Same(s, read(t, example)) {
		t.Error("shared memory")
	}
}

func TestP28_3Set(t *testing.T) {
	s := read(t, example)
	if got, e := Set(s, "R", 3600); !printer.Same(got, read(t, shifted)) || e != api.OK {
		t.Error(got, e)
	}
	for _, set := range []string{"X", "", "r"} {
		if got, e := Set(s, set, 3600); !reflect.DeepEqual(got, api.Source{}) || e != api.ErrNone {
			t.Error(set, got, e)
		}
	}
	if !printer.Same(s, read(t, example)) {
		t.Error("an argument has changed")
	}
}

func TestP28_4Back(t *testing.T) {
	r := rand.New(rand.NewSource(28))
	for i := range uint64(100) {
		s := read(t, sample.Text(i))
		x, y := int64(r.Uint64()), int64(r.Uint64())
		if i == 0 {
			x = least
		}
		there, e := Set(s, "Minus", x)
		back, f := Set(there, "Minus", -x)
		same, g := Set(s, "Minus", 0)
		if e != api.OK || f != api.OK || g != api.OK || !printer.Same(back, s) || !printer.Same(same, s) {
			t.Fatal(i, x)
		}
		a, _ := Set(there, "Plus", y)
		b, _ := Set(s, "Plus", y)
		c, _ := Set(b, "Minus", x)
		if !printer.Same(a, c) {
			t.Fatal(i, x, y)
		}
	}
}

func TestP28_5Sums(t *testing.T) {
	r := rand.New(rand.NewSource(285))
	for i := range uint64(100) {
		s := read(t, sample.Text(i))
		x := r.Int63n(20000) - 10000
		moved, _ := Set(s, "Minus", x)
		for k, rule := range s.Rules {
			for j, other := range s.Rules {
				if rule.Name == "Minus" && other.Name == "Minus" && rule.At.Base == api.Std && rule.At.Sec+other.Save != moved.Rules[k].At.Sec+moved.Rules[j].Save {
					t.Fatal(i, rule, other)
				}
			}
			for k2, z := range s.Zones {
				for j, e := range z.Eras {
					if f := moved.Zones[k2].Eras[j]; e.Set == "Minus" && rule.Name == "Minus" && e.Off+rule.Save != f.Off+moved.Rules[k].Save {
						t.Fatal(i, e, f)
					}
				}
			}
		}
	}
}
