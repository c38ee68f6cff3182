package accept

import (
	"fmt"
	"slices"
	"strings"
	"testing"

	"analemma/api"
	"analemma/format"
	"analemma/links"
	"analemma/sample"
	"analemma/source"
	"analemma/variant"
)

const base = `Rule R 1990 max - Mar lastSun 2:00 1:00 S
Rule R 1990 max - Oct lastSun 3:00 0 -
Zone Z 1:00 - LMT 1980
	1:00 R CET/CEST
`

func read(t *testing.T, text string) api.Source {
	t.Helper()
	s, _, err := source.Parse(text)
	if err != nil {
		t.Fatal(text, err)
	}
	return s
}

// with returns the text of the base with some parts replaced: what is replaced and what it becomes, one after the other.
func with(changes ...string) string { return strings.NewReplacer(changes...).Replace(base) }

// expect checks the first fault of a source.
func expect(t *testing.T, what any, s api.Source, part, index, era int, of api.Errno) {
	t.Helper()
	want := api.Place{Part: part, Index: index, Era: era}
	if p, e := Check(s); p != want || e != of {
		t.Error(what, p, e)
	}
	for form := 1; form <= 4; form++ {
		if p, e := In(s, form); of != api.OK && (p != want || e != of) {
			t.Error(what, form, p, e)
		}
	}
	if l := Forms(s); of != api.OK && len(l) != 0 {
		t.Error(what, l)
	}
}

func TestP25_1Texts(t *testing.T) {

	for _, x := range []struct {
		text             string
		part, index, era int
		of               api.Errno
	}{
		{base, 0, 0, 0, api.OK}, {"", 0, 0, 0, api.OK},
		{with("1:00 S", "-1:00 S"), 0, 0, 0, api.OK},
		{with("Rule R 1990 max - Oct lastSun 3:00 0 -\n", ""), api.InRules, 0, 0, api.ErrSave},
		{"Rule Q 1990 only - Jan 1 0 0 -\n" + with("Oct lastSun", "Oct Sun<=9"), api.InRules, 1, 0, api.ErrLast},
		{"Rule Q 1990 only - Jan 1 0 0 -\n" + with("1990 max - Oct", "1990 1989 - Oct"), api.InRules, 2, 0, api.ErrOrder},
		{with("Oct lastSun", "Mar Sun>=22", "max", "1995"), api.InRules, 1, 0, api.ErrApart},
		{with("Oct lastSun", "Apr 1", "max", "1995"), api.InRules, 1, 0, api.ErrApart},
		{with("1:00 R CET", "1:00 Q CET"), api.InZones, 0, 1, api.ErrName}, {with("1:00 - LMT", "1:00 R LMT"), api.InZones, 0, 0, api.ErrOrder},
		{with("1:00 - LMT", "1:00 Q LMT"), api.InZones, 0, 0, api.ErrOrder},
		{with("1:00 R", "14:30 R"), api.InZones, 0, 1, api.ErrRange}, {with("1:00 R", "14:00 R"), 0, 0, 0, api.OK}, {with("1:00 R", "15:00:01 R"), api.InZones, 0, 1, api.ErrRange},
		{with("1:00 R", "-15:00 R"), 0, 0, 0, api.OK}, {with("1:00 R", "-15:30 R"), api.InZones, 0, 1, api.ErrRange}, {with("1:00 R", "-14:30 R", "1:00 S", "-1:00 S"), api.InZones, 0, 1, api.ErrRange},
		{with("1:00 - LMT", "14:00 1:00 LMT"), 0, 0, 0, api.OK}, {with("1:00 - LMT", "14:00 1:00:01 LMT"), api.InZones, 0, 0, api.ErrRange},
		{with("1:00 - LMT", "0 3:00 LMT"), 0, 0, 0, api.OK}, {with("1:00 - LMT", "0 0:00:01 LMT"), 0, 0, 0, api.OK}, {with("1:00 - LMT", "0 3:00:01 LMT"), api.InZones, 0, 0, api.ErrSave}, {with("1:00 - LMT", "16 0 LMT"), api.InZones, 0, 0, api.ErrSave},
		{with("1:00 - LMT", "0 -1:00 LMT"), api.InZones, 0, 0, api.ErrSave}, {with("1:00 - LMT", "16 - L"), api.InZones, 0, 0, api.ErrRange},
		{with("LMT", "L"), api.InZones, 0, 0, api.ErrFormat}, {with("CET/CEST", "CE%sT"), 0, 0, 0, api.OK}, {with("CET/CEST", "C%sT"), api.InZones, 0, 1, api.ErrFormat},
		{with("CET/CEST", "+01"), api.InZones, 0, 1, api.ErrFormat}, {with("CET/CEST", "+01/+02"), 0, 0, 0, api.OK}, {with("LMT", "+01"), 0, 0, 0, api.OK}, {with("LMT", "+02"), api.InZones, 0, 0, api.ErrFormat},
		{with("LMT 1980", "LMT 1980 Feb 30"), api.InZones, 0, 0, api.ErrRange}, {with("LMT 1980", "LMT 1980 Jan 1 49:00"), api.InZones, 0, 0, api.ErrRange},
		{with("CET/CEST", "CET/CEST 2000 Mar 26\n\t1:00 - CET"), api.InZones, 0, 1, api.ErrApart}, {with("CET/CEST", "CET/CEST 2000 Mar 23 2:00:01\n\t1:00 - CET"), api.InZones, 0, 1, api.ErrApart},
		{with("CET/CEST", "CET/CEST 2000 Mar 23 2:00\n\t1:00 - CET"), 0, 0, 0, api.OK}, {with("CET/CEST", "CET/CEST 2000 Mar 29 2:00\n\t1:00 - CET"), 0, 0, 0, api.OK},
		{with("LMT 1980", "LMT 1990 Mar 25 2:00", "CET/CEST", "CET/CEST 2000 Mar 26\n\t1:00 - CET"), api.InZones, 0, 1, api.ErrApart},
		{with("LMT 1980", "LMT 1990 Mar 25 2:00"), 0, 0, 0, api.OK}, {with("LMT 1980", "LMT 1980\n\t1:00 - CET 1980 Jan 4"), 0, 0, 0, api.OK},
		{with("LMT 1980", "LMT 1980\n\t1:00 - CET 1980 Jan 3 23:59:59"), api.InZones, 0, 1, api.ErrOrder}, {with("LMT 1980", "LMT 1980\n\t1:00 R CET 1979"), api.InZones, 0, 1, api.ErrOrder},
		{base + "Link Z Z\n", api.InLinks, 0, 0, api.ErrTwice}, {base + "Link Z Y\nLink X W\n", api.InLinks, 1, 0, api.ErrName}, {base + "Link Y Y\n", api.InLinks, 0, 0, api.ErrLoop},
		{base + "Zone Z 0 - GMT\n", api.InZones, 1, 0, api.ErrTwice}, {base + "Shift R\n", 0, 0, 0, api.OK}, {base + "Shift Q\n", api.InShifts, 0, 0, api.ErrName},
		{base + "Shift R\nShift R\n", api.InShifts, 1, 0, api.ErrTwice}, {with("1:00 S", "-1:00 S") + "Shift R\n", api.InShifts, 0, 0, api.ErrSave},
		{"Rule Q 1990 only - Jan 1 0 0 -\n" + base + "Shift Q\n", api.InShifts, 0, 0, api.ErrSave},
		{base + "Rule R 1980 only - Jan 1 0 2:00 S\nShift R\n", api.InShifts, 0, 0, api.ErrSave},
	} {
		expect(t, x.text, read(t, x.text), x.part, x.index, x.era, x.of)
	}
}

// harmless returns an era that does no harm, without an end.
func harmless() api.Era { return api.Era{Format: "GMT"} }

func TestP25_1Sources(t *testing.T) {
	for i, x := range []struct {
		change           func(*api.Source)
		part, index, era int
		of               api.Errno
	}{
		{func(s *api.Source) { s.Zones[0].Eras = nil }, api.InZones, 0, 0, api.ErrNone}, {func(s *api.Source) { s.Zones[0].Eras[1].Kind = 3 }, api.InZones, 0, 1, api.ErrArg},
		{func(s *api.Source) { s.Zones[0].Eras[0].Kind = -1 }, api.InZones, 0, 0, api.ErrArg}, {func(s *api.Source) { s.Zones[0].Eras[0].Save = 5 }, api.InZones, 0, 0, api.ErrArg},
		{func(s *api.Source) { s.Zones[0].Eras[0].Set = "R" }, api.InZones, 0, 0, api.ErrArg}, {func(s *api.Source) { s.Zones[0].Eras[1].Save = 5 }, api.InZones, 0, 1, api.ErrArg},
		{func(s *api.Source) { s.Zones[0].Eras[1].Until.Year = 5 }, api.InZones, 0, 1, api.ErrArg}, {func(s *api.Source) { s.Zones[0].Eras[1].Until.At.Base = 1 }, api.InZones, 0, 1, api.ErrArg},
		{func(s *api.Source) { s.Zones[0].Eras[0].Until.Is = false }, api.InZones, 0, 0, api.ErrArg}, {func(s *api.Source) { s.Zones[0].Eras[0].Until = api.Until{} }, api.InZones, 0, 0, api.ErrOrder},
		{func(s *api.Source) { s.Zones[0].Eras = s.Zones[0].Eras[:1] }, api.InZones, 0, 0, api.ErrOrder}, {func(s *api.Source) { s.Zones[0].Eras[0].Off = -1 << 63 }, api.InZones, 0, 0, api.ErrRange},
		{func(s *api.Source) { s.Zones[0].Eras[0].Off = 1<<63 - 1 }, api.InZones, 0, 0, api.ErrRange}, {func(s *api.Source) { s.Zones[0].Eras[1].Off = 1<<63 - 1 }, api.InZones, 0, 1, api.ErrRange},
		{func(s *api.Source) { s.Rules[1].Name = "1" }, api.InRules, 0, 0, api.ErrSave}, {func(s *api.Source) { s.Rules[0].Name, s.Rules[1].Name = "1", "1" }, api.InRules, 0, 0, api.ErrName},
		{func(s *api.Source) { s.Rules[1].Letter = "-" }, api.InRules, 1, 0, api.ErrFormat}, {func(s *api.Source) { s.Zones[0].Name = "-" }, api.InZones, 0, 0, api.ErrName},
		{func(s *api.Source) { s.Zones[0].Eras[1].Set = "" }, api.InZones, 0, 1, api.ErrName},
		{func(s *api.Source) { s.Rules = slices.Repeat(s.Rules, 1001) }, api.InRules, api.MaxRules, 0, api.ErrMany},
		{func(s *api.Source) { s.Zones = slices.Repeat(s.Zones, 501) }, api.InZones, api.MaxZones, 0, api.ErrMany},
		{func(s *api.Source) {
			s.Zones = append(s.Zones, api.Zone{Name: "Y", Eras: slices.Repeat([]api.Era{harmless()}, 61)})
		}, api.InZones, 1, api.MaxEras, api.ErrMany},
		{func(s *api.Source) { s.Links = slices.Repeat([]api.Link{{}}, 1001) }, api.InLinks, api.MaxLinks, 0, api.ErrMany},
		{func(s *api.Source) { s.Shifts = slices.Repeat([]string{"R"}, 2001) }, api.InShifts, api.MaxRules, 0, api.ErrMany},
		{func(s *api.Source) { s.Shifts = slices.Repeat([]string{"R"}, 2000) }, api.InShifts, 1, 0, api.ErrTwice},
		// The order of the faults.
		{func(s *api.Source) { s.Rules[1].Month = 0; s.Shifts = []string{"Q"} }, api.InRules, 1, 0, api.ErrRange},
		{func(s *api.Source) { s.Shifts = []string{"Q"}; s.Links = []api.Link{{}} }, api.InShifts, 0, 0, api.ErrName},
		{func(s *api.Source) { s.Links = []api.Link{{}}; s.Zones[0].Eras[0].Kind = 9 }, api.InLinks, 0, 0, api.ErrName},
		{func(s *api.Source) { s.Zones[0].Eras[1].Kind = 9; s.Zones[0].Eras[0].Format = "" }, api.InZones, 0, 0, api.ErrFormat},
		{func(s *api.Source) { s.Zones[0].Eras[0].Set = "x"; s.Zones[0].Eras[0].Format = "" }, api.InZones, 0, 0, api.ErrArg},
		{func(s *api.Source) { s.Zones[0].Eras[0].Until = api.Until{}; s.Zones[0].Eras[0].Format = "" }, api.InZones, 0, 0, api.ErrFormat},
	} {
		s := read(t, base)
		x.change(&s)
		expect(t, i, s, x.part, x.index, x.era, x.of)
	}
}

// crowd returns a text of a zone with as many eras, each of which has another local time.
func crowd(eras int, line func(i int) string) string {
	var b strings.Builder
	b.WriteString("Zone Y 0 - GMT\nZone Z ")
	for i := range eras {
		b.WriteString(line(i))
		if i < eras-1 {
			fmt.Fprint(&b, " ", 1900+i)
		}
		b.WriteByte('\n')
	}
	return b.String()
}

func TestP25_1Crowded(t *testing.T) {
	letters := func(n int) func(int) string {
		return func(i int) string {
			return "0 - " + strings.Repeat("A", n-2) + string(rune('A'+i/26)) + string(rune('A'+i%26))
		}
	}
	// 50 abbreviations of 4 letters are 250 bytes.
	expect(t, "50 of 4", read(t, crowd(50, letters(4))), 0, 0, 0, api.OK)
	expect(t, "51 of 4", read(t, crowd(51, letters(4))), api.InZones, 1, 0, api.ErrMany)
	expect(t, "251 bytes", read(t, strings.Replace(crowd(50, letters(4)), "AAAA", "AAAAA", 1)), api.InZones, 1, 0, api.ErrMany)
	expect(t, "60 of 3", read(t, crowd(60, letters(3))), 0, 0, 0, api.OK)
	expect(t, "36 of 6", read(t, crowd(36, letters(6))), api.InZones, 1, 0, api.ErrMany)
	// Pairs: one for each rule and era of a Named era.
	pairs := func(n int) string {
		set := "Rule R 1900 only - Jul 1 0 0 -\nRule R 1901 only - Jul 1 0 1:00 -\n"
		eras := crowd(n, func(i int) string {
			if i == 0 {
				return "0 - ABC"
			}
			return fmt.Sprintf("0:00:%02d R ABC", i)
		})
		return set + eras
	}
	text := pairs(60) + "\n"
	expect(t, "119 pairs", read(t, text), 0, 0, 0, api.OK)
	more := strings.Replace(text, "Rule R 1901", "Rule R 1902 only - Jul 1 0 2:00 -\nRule R 1901", 1)
	expect(t, "178 pairs", read(t, more), api.InZones, 1, 0, api.ErrMany)
	one := strings.Replace(text, "0:00:59 R ABC", "0:00:59 T ABC", 1)
	third := "Rule T 1900 only - Jul 1 0 0 -\nRule T 1901 only - Jul 1 0 1:00 -\nRule T 1902 only - Jul 1 0 2:00 -\n"
	expect(t, "120 pairs", read(t, third+one), 0, 0, 0, api.OK)
	expect(t, "121 pairs", read(t, third+"Rule T 1903 only - Jul 1 0 3:00 -\n"+one), api.InZones, 1, 0, api.ErrMany)
	// The sum of offset and save counts, which is the same one in many eras here; differences would be too many.
	var sets strings.Builder
	for k := 1; k < 60; k++ {
		fmt.Fprintf(&sets, "Rule R%d 1900 only - Jul 1 0 0 -\n", k)
		fmt.Fprintf(&sets, "Rule R%d 1901 only - Jul 1 0 0:%02d:%02d -\n", k, (100-k)/60, (100-k)%60)
		fmt.Fprintf(&sets, "Rule R%d 1902 only - Jul 1 0 0:%02d:%02d -\n", k, (200-k)/60, (200-k)%60)
	}
	expect(t, "sums", read(t, sets.String()+crowd(60, func(k int) string {
		if k == 0 {
			return "0 - ABC"
		}
		return fmt.Sprintf("0:00:%02d R%d ABC", k, k)
	})), 0, 0, 0, api.OK)
	// Equal pairs count once.
	expect(t, "equal", read(t, crowd(60, func(i int) string { return fmt.Sprintf("0:00:%02d - ABC", i%7) })), 0, 0, 0, api.OK)
}

func TestP25_1Limits(t *testing.T) {
	var b strings.Builder
	for i := range api.MaxRules / 2 {
		fmt.Fprintf(&b, "Rule R%d 1990 only - Jul 1 0 0 -\nRule R%d 1991 only - Jul 1 0 1:00 -\n", i, i)
	}
	for i := range api.MaxZones {
		fmt.Fprintf(&b, "Zone Z%d 0 - GMT\n", i)
	}
	for i := range api.MaxLinks {
		fmt.Fprintf(&b, "Link Z0 L%d\n", i)
	}
	for i := range api.MaxRules / 2 {
		fmt.Fprintf(&b, "Shift R%d\n", i)
	}
	expect(t, "limits", read(t, b.String()), 0, 0, 0, api.OK)
}

func TestP25_2In(t *testing.T) {
	s := read(t, with("1:00 S", "-1:00 S", "CET/CEST", "%z"))
	for form, want := range map[int]struct {
		p api.Place
		e api.Errno
	}{1: {}, 2: {api.Place{Part: api.InZones, Index: 0, Era: 1}, api.ErrKind}, 3: {api.Place{Part: api.InRules}, api.ErrKind}, 0: {api.Place{}, api.ErrArg}, 4: {api.Place{}, api.ErrArg}} {
		if p, e := In(s, form); p != want.p || e != want.e {
			t.Error(form, p, e)
		}
	}
}

func TestP25_3Forms(t *testing.T) {
	for text, want := range map[string][]int{
		base: {1, 2, 3}, with("1:00 S", "-1:00 S"): {1, 2}, with("CET/CEST", "%z"): {1}, base + "Shift R\n": {3}, with("CET/CEST", "%z") + "Shift R\n": nil,
		with("CET/CEST", "+01/+02"): {2, 3}, with("LMT", "%z", "CET/CEST", "+01/+02"): nil, with("1:00 S", "-1:00 S", "CET/CEST", "+01/+00"): {2}, "": {1, 2, 3}, base + "Link Z Z\n": nil,
	} {
		if l := Forms(read(t, text)); !slices.Equal(l, want) {
			t.Error(text, l)
		}
	}
}

func TestP25_4And5NamesAndHours(t *testing.T) {
	for i := range uint64(300) {
		s := read(t, sample.Text(i))
		if p, e := In(s, api.Vanguard); e != api.OK {
			t.Fatal(sample.Text(i), p, e)
		}
		names := links.Names(s)
		if len(names) != len(s.Zones)+len(s.Links) {
			t.Fatal(i, names)
		}
		for _, name := range names {
			if _, e := links.Find(s, name); e != api.OK {
				t.Fatal(i, name, e)
			}
		}
		f := newFinder(s)
		for _, z := range s.Zones {
			for _, e := range z.Eras {
				for _, state := range statesOf(e, f.set(e)) {
					abbr, code := format.Abbr(e.Format, e.Off, state)
					sum := e.Off + state.Save
					if code != api.OK || len(abbr) < 3 || len(abbr) > 7 || max(sum, -sum, e.Off, -e.Off) > 15*3600 {
						t.Fatal(i, e, state, abbr)
					}
				}
			}
		}
	}
}

func TestP25_6Forms(t *testing.T) {
	for i := range uint64(300) {
		s := read(t, sample.Text(i))
		if i%5 == 0 {
			s.Shifts = []string{"Plus"}
		}
		negative, made, numeric := slices.ContainsFunc(s.Rules, func(r api.Rule) bool { return r.Save < 0 }), false, false
		for k := range s.Zones {
			for j := range s.Zones[k].Eras {
				kind := format.Kind(s.Zones[k].Eras[j].Format)
				made, numeric = made || kind == 4, numeric || kind == 5
			}
		}
		l := Forms(s)
		if !negative && !made && !numeric && len(s.Shifts) == 0 && len(l) != 3 {
			t.Fatal(i, l)
		}
		if made && len(l) > 0 && !slices.Equal(l, []int{api.Vanguard}) || len(s.Shifts) > 0 && len(l) > 0 && !slices.Equal(l, []int{api.Rearguard}) {
			t.Fatal(i, l)
		}
		for form := 1; form <= 3; form++ {
			_, e := variant.Check(s, form)
			if slices.Contains(l, form) != (e == api.OK) {
				t.Fatal(i, form, e)
			}
		}
	}
}
