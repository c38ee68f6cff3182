package format

import (
	"math/rand"
	"testing"

	"analemma/api"
	"analemma/numeric"
)

const (
	least    = -1 << 63
	greatest = 1<<63 - 1
)

var kinds = [][]string{
	{
		"CE", "A/B", "E%zT", "%s%s", "+5", "+05/CET", "", "CETCETC", "CET/", "/CET", "CET/CEST/", "CET/CEST/CET", "CET/CE", "%", "%S", "ABC%sDEF", "A1%s", "%s1", "%z%z", "-00",
		"+05/", "+05/+06/+07", "CET/+05", "%%s", "é%s", "+05/-00", "%s/%s", "%z/%z", "C T", "-", "%s\xff", "%sé",
	},
	{"CET", "abc", "GMTGMT", "XyZ"},
	{"CET/CEST", "abc/ABCDEF"},
	{"E%sT", "%s", "AZ%saz", "%sABCDE", "ABC%sDE", "ABCDE%s"},
	{"%z"},
	{"+05", "-03/-02", "+00", "-0330", "+000001/-235959", "+05/+05"},
}

func TestP21_1KindAndParts(t *testing.T) {
	for kind, list := range kinds {
		for _, f := range list {
			if got := Kind(f); got != kind {
				t.Errorf("%q is of the kind %d", f, got)
			}
		}
	}
	parts := map[string][2]string{"CET/CEST": {"CET", "CEST"}, "-03/-02": {"-03", "-02"}, "abc/ABCDEF": {"abc", "ABCDEF"}, "+000001/-235959": {"+000001", "-235959"}, "+05/+05": {"+05", "+05"}}
	for _, list := range kinds {
		for _, f := range list {
			a, b, ok := Parts(f)
			want, has := parts[f]
			if a != want[0] || b != want[1] || ok != has {
				t.Errorf("%q: %q %q %v", f, a, b, ok)
			}
		}
	}
}

func TestP21_2Abbr(t *testing.T) {
	for _, x := range []struct {
		f    string
		off  int64
		s    api.State
		want string
	}{
		{"E%sT", 0, api.State{Letter: "S"}, "EST"}, {"E%sT", 0, api.State{}, ""}, {"E%sT", 0, api.State{Letter: "SUMM"}, "ESUMMT"}, {"E%sT", 0, api.State{Letter: "SUMME"}, ""},
		{"E%sT", 0, api.State{Letter: "-"}, ""}, {"%s", 0, api.State{Letter: "GMT"}, "GMT"}, {"%s", 0, api.State{Letter: "%s"}, ""}, {"ABC%s", 0, api.State{Letter: ""}, "ABC"},
		{"CET/CEST", 0, api.State{}, "CET"}, {"CET/CEST", 0, api.State{Save: -3600}, "CEST"}, {"CET/CEST", 0, api.State{Save: least, Letter: "x"}, "CEST"},
		{"%z", 18000, api.State{Save: 3600}, "+06"}, {"%z", 0, api.State{}, "+00"}, {"%z", 86400, api.State{}, ""}, {"%z", 86400, api.State{Save: -1}, "+235959"},
		{"%z", greatest, api.State{Save: 1}, ""}, {"%z", least, api.State{Save: -1}, ""}, {"%z", greatest, api.State{Save: -greatest}, "+00"}, {"%z", greatest, api.State{Save: greatest}, ""},
		{"+05", 0, api.State{Save: 3600}, "+05"}, {"-03/-02", 5, api.State{Save: 1}, "-02"}, {"-03/-02", 5, api.State{}, "-03"}, {"CET", greatest, api.State{Save: 9, Letter: "S"}, "CET"},
		{"CE", 0, api.State{}, ""}, {"", 0, api.State{Letter: "GMT"}, ""},
	} {
		of := api.OK
		if x.want == "" {
			of = api.ErrFormat
		}
		if s, e := Abbr(x.f, x.off, x.s); s != x.want || e != of {
			t.Error(x, s, e)
		}
	}
}

func rule(save int64, letter string) api.Rule { return api.Rule{Save: save, Letter: letter} }

func TestP21_3Check(t *testing.T) {
	const hour = 3600
	fixed := func(f string) api.Era { return api.Era{Off: 5 * hour, Kind: api.Fixed, Save: hour, Format: f} }
	none := func(f string) api.Era { return api.Era{Off: 5 * hour, Format: f} }
	set := func(f string) api.Era { return api.Era{Off: 5 * hour, Kind: api.Named, Set: "R", Format: f} }
	one := []api.Rule{rule(0, "S"), rule(hour, "D")}
	for i, x := range []struct {
		e     api.Era
		l     []api.Rule
		right bool
	}{
		{fixed("+06"), nil, true}, {fixed("+05"), nil, false}, {fixed("%z"), nil, true}, {none("+05"), one, true}, {none("+05/+06"), one, false}, {none("%z"), nil, true},
		{set("+05/+06"), one, true}, {set("+05"), one, false}, {set("+05"), one[:1], true}, {set("+05/+06"), one[:1], false}, {set("%z"), one, true}, {set("+06/+05"), one, false},
		{set("%z"), append(one, rule(7, "")), false}, {set("E%sT"), one, true}, {set("E%sT"), append(one, rule(0, "")), false}, {set("E%sT"), append(one, rule(0, "-")), false},
		{set("E%sT"), nil, true}, {none("E%sT"), one, false}, {none("ES%sT"), one, true}, {fixed("ES%sT"), nil, true}, {set("CE"), one, false}, {set("CET"), one, true},
		{set("CET/CEST"), nil, true}, {none(""), nil, false}, {api.Era{Kind: 3, Format: "%z"}, nil, false}, {api.Era{Kind: 3, Format: "EST"}, nil, true},
		{api.Era{Kind: 3, Format: "ES%sT"}, nil, true}, {api.Era{Off: 86400, Format: "%z"}, nil, false}, {api.Era{Off: greatest, Save: greatest, Kind: api.Fixed, Format: "%z"}, nil, false},
	} {
		want := api.OK
		if !x.right {
			want = api.ErrFormat
		}
		if e := Check(x.e, x.l); e != want {
			t.Error(i, e)
		}
	}
}

// anyEra returns an era of the kind Named, and rules for it.
func anyEra(r *rand.Rand) (api.Era, []api.Rule) {
	e := api.Era{Kind: api.Named, Off: int64(r.Intn(40)-20) * 1800}
	x := int64(r.Intn(5)-2) * 1800
	var l []api.Rule
	for range r.Intn(4) {
		l = append(l, rule(x*int64(r.Intn(2)), []string{"", "S", "D", "SUMM"}[r.Intn(4)]))
	}
	text, _ := numeric.Expansion(e, l)
	e.Format = []string{"%z", text, "CET", "CET/CEST", "E%sT", "%s", "AB%s"}[r.Intn(7)]
	return e, l
}

func TestP21_4States(t *testing.T) {
	r := rand.New(rand.NewSource(21))
	for range 5000 {
		e, l := anyEra(r)
		if Check(e, l) != api.OK {
			continue
		}
		for _, rule := range l {
			s, code := Abbr(e.Format, e.Off, api.State{Save: rule.Save, Letter: rule.Letter})
			if code != api.OK || Kind(e.Format) >= 4 && s != numeric.Text(e.Off+rule.Save) {
				t.Fatal(e, l, s, code)
			}
		}
	}
}

func TestP21_5Numbers(t *testing.T) {
	r := rand.New(rand.NewSource(215))
	for range 5000 {
		e, l := anyEra(r)
		e.Format = "%z"
		text, code := numeric.Expansion(e, l)
		if (code == api.OK) != (Check(e, l) == api.OK) {
			t.Fatal(e, l, code)
		}
		if code != api.OK {
			continue
		}
		for _, rule := range l {
			s := api.State{Save: rule.Save, Letter: rule.Letter}
			a, c := Abbr("%z", e.Off, s)
			b, d := Abbr(text, e.Off, s)
			if a != b || c != api.OK || d != api.OK {
				t.Fatal(e, l, s, a, b)
			}
		}
	}
}
