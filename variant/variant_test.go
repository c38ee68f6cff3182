package variant

import (
	"math/rand"
	"testing"

	"analemma/api"
)

func zone(formats ...string) api.Zone {
	z := api.Zone{Name: "Z"}
	for _, f := range formats {
		z.Eras = append(z.Eras, api.Era{Format: f})
	}
	return z
}

func TestP24_1WordAndParse(t *testing.T) {
	for form, word := range map[int]string{1: "vanguard", 2: "main", 3: "rearguard"} {
		if s := Word(form); s != word {
			t.Error(form, s)
		}
		if n, e := Parse(word); n != form || e != api.OK {
			t.Error(word, n, e)
		}
	}
	for _, form := range []int{0, 4, -1, 1 << 40, -1 << 63} {
		if s := Word(form); s != "" {
			t.Error(form, s)
		}
	}
	for _, s := range []string{"", "Main", "mai", "main ", "vanguard1", "2", "MAIN"} {
		if n, e := Parse(s); n != 0 || e != api.ErrForm {
			t.Error(s, n, e)
		}
	}
}

func TestP24_2Check(t *testing.T) {
	rules := func(saves ...int64) (l []api.Rule) {
		for _, save := range saves {
			l = append(l, api.Rule{Save: save})
		}
		return l
	}
	none := api.Place{}
	place := func(part, index, era int) api.Place { return api.Place{Part: part, Index: index, Era: era} }
	for i, x := range []struct {
		s    api.Source
		want [3]api.Place
	}{
		{api.Source{Rules: rules(0, 3600, -3600, -1)}, [3]api.Place{none, none, place(api.InRules, 2, 0)}},
		{api.Source{Zones: []api.Zone{zone("GMT", "%z")}}, [3]api.Place{none, place(api.InZones, 0, 1), place(api.InZones, 0, 1)}},
		{api.Source{Zones: []api.Zone{zone(), zone("+05/+06")}}, [3]api.Place{place(api.InZones, 1, 0), none, none}},
		{api.Source{Shifts: []string{"R", "S"}}, [3]api.Place{place(api.InShifts, 0, 0), place(api.InShifts, 0, 0), none}},
		{api.Source{Rules: rules(-1), Zones: []api.Zone{zone("GMT", "+05", "%z")}, Shifts: []string{"R"}}, [3]api.Place{place(api.InZones, 0, 1), place(api.InZones, 0, 2), place(api.InRules, 0, 0)}},
		{api.Source{Rules: rules(0, 1), Zones: []api.Zone{zone("GMT", "A/B", "CET/CEST", "%s", "-00", "")}, Links: []api.Link{{Target: "+05"}}}, [3]api.Place{none, none, none}},
		{api.Source{}, [3]api.Place{none, none, none}},
		{api.Source{Zones: []api.Zone{zone("-03")}, Shifts: []string{"R"}}, [3]api.Place{place(api.InZones, 0, 0), place(api.InShifts, 0, 0), none}},
	} {
		for form := 1; form <= 3; form++ {
			want := api.OK
			if x.want[form-1] != none {
				want = api.ErrKind
			}
			if p, e := Check(x.s, form); p != x.want[form-1] || e != want {
				t.Error(i, form, p, e)
			}
		}
		for _, form := range []int{0, 4, -1, 1 << 40} {
			if p, e := Check(x.s, form); p != none || e != api.ErrArg {
				t.Error(i, form, p, e)
			}
		}
	}
}

func TestP24_3Forms(t *testing.T) {
	r := rand.New(rand.NewSource(24))
	formats := []string{"GMT", "%z", "+05", "E%sT", "-03/-02", "CET/CEST"}
	for range 3000 {
		s := api.Source{}
		negative, made, numeric := false, false, false
		for range r.Intn(3) {
			save := int64(r.Intn(3) - 1)
			negative = negative || save < 0
			s.Rules = append(s.Rules, api.Rule{Save: save})
		}
		for range r.Intn(3) {
			f := formats[r.Intn(len(formats))]
			made, numeric = made || f == "%z", numeric || f == "+05" || f == "-03/-02"
			s.Zones = append(s.Zones, zone("GMT", f))
		}
		if r.Intn(3) == 0 {
			s.Shifts = []string{"R"}
		}
		_, a := Check(s, api.Vanguard)
		_, b := Check(s, api.Main)
		_, c := Check(s, api.Rearguard)
		if b == api.OK && !negative && c != api.OK || c == api.OK && len(s.Shifts) == 0 && b != api.OK {
			t.Fatal(s, a, b, c)
		}
		if !negative && !made && !numeric && len(s.Shifts) == 0 && (a != api.OK || b != api.OK || c != api.OK) {
			t.Fatal(s, a, b, c)
		}
	}
}
