package ruleline

import (
	"math/rand"
	"strings"
	"testing"

	"analemma/api"
)

func fields(s string) []string { return strings.Fields(s) }

func TestP10_1Parse(t *testing.T) {
	for line, want := range map[string]api.Rule{
		"Eire 1972 max - Mar Sun>=15 2:00u 0 -": {Name: "Eire", From: 1972, To: api.Forever, Month: 3, Day: api.Day{Kind: api.DayFrom, Day: 15}, At: api.Clock{Sec: 7200, Base: api.Utc}},
		"US 1918 o - march lastSun 2:00 1:00 D": {Name: "US", From: 1918, To: 1918, Month: 3, Day: api.Day{Kind: api.DayLast}, At: api.Clock{Sec: 7200}, Save: 3600, Letter: "D"},
		"R 2149 1850 - D 31 -24s -3 GMTT":       {Name: "R", From: 2149, To: 1850, Month: 12, Day: api.Day{Kind: api.DayFixed, Day: 31}, At: api.Clock{Sec: -86400, Base: api.Std}, Save: -10800, Letter: "GMTT"},
		"R 1850 M - ap sa<=1 167 167:59:59 -":   {Name: "R", From: 1850, To: api.Forever, Month: 4, Day: api.Day{Kind: api.DayTo, Week: 6, Day: 1}, At: api.Clock{Sec: 601200}, Save: 604799},
	} {
		if r, e := Parse(fields(line)); r != want || e != api.OK {
			t.Error(line, r, e)
		}
	}
	for line, want := range map[string]api.Errno{
		"US 1918 1919 x Mar 1 0 0 S": api.ErrForm, "US 1918 1919 - Mar 1 0 0": api.ErrForm, "US 1918 1919 - Mar 1 0 0 S S": api.ErrForm, "": api.ErrForm,
		"1x 1 m x Foo 1 0 0 S": api.ErrForm, "1x 1 m - Foo 1 0 0 S": api.ErrName, "US 1 m - Foo 1 0 0 S": api.ErrRange,
		"US 1918 x - Mar 1 0 0 S": api.ErrWord, "US 01918 m - Mar 1 0 0 S": api.ErrForm, "US x m - Mar 1 0 0 S": api.ErrForm,
		"US 1849 m - Mar 1 0 0 S": api.ErrRange, "US 2150 m - Mar 1 0 0 S": api.ErrRange, "US 1918 2150 - Mar 1 0 0 S": api.ErrRange, "US 1918 9999 - Mar 1 0 0 S": api.ErrRange,
		"US 1918 1x - Mar 1 0 0 S": api.ErrForm, "US 1918 0 - Mar 1 0 0 S": api.ErrForm, "US 1918 19180 - Ma 1 0 0 S": api.ErrForm,
		"US 1918 m - Ma 32 0 0 S": api.ErrWord, "US 1918 m - Mar 32 168 0 S": api.ErrRange, "US 1918 m - Mar 0 0 0 S": api.ErrForm,
		"US 1918 m - Mar S>=1 0 0 S": api.ErrWord, "US 1918 m - Mar 1 168 x S": api.ErrRange, "US 1918 m - Mar 1 x 168 S": api.ErrForm,
		"US 1918 m - Mar 1 0 168 --": api.ErrRange, "US 1918 m - Mar 1 0 0u S": api.ErrForm, "US 1918 m - Mar 1 0 0 ABCDE": api.ErrForm,
		"US 1918 m - Mar 1 0 0 S1": api.ErrForm, "US 1918 - - Mar 1 0 0 S": api.ErrWord,
	} {
		if r, e := Parse(fields(line)); r != (api.Rule{}) || e != want {
			t.Error(line, r, e)
		}
	}
	for i, want := range []api.Errno{api.ErrName, api.ErrForm, api.ErrWord, api.ErrForm, api.ErrWord, api.ErrForm, api.ErrForm, api.ErrForm, api.ErrForm} {
		l := fields("US 1918 m - Mar 1 0 0 S")
		l[i] = ""
		if r, e := Parse(l); r != (api.Rule{}) || e != want {
			t.Error(i, r, e)
		}
	}
}

func good() api.Rule {
	return api.Rule{Name: "R", From: 1980, To: 1990, Month: 3, Day: api.Day{Kind: api.DayLast}, At: api.Clock{Sec: 7200, Base: api.Std}, Save: -3600, Letter: "S"}
}

func TestP10_2Print(t *testing.T) {
	for _, x := range []struct {
		change func(*api.Rule)
		want   string
	}{
		{func(r *api.Rule) {}, "Rule R 1980 1990 - Mar lastSun 2:00s -1:00 S"},
		{func(r *api.Rule) { r.To = 1980 }, "Rule R 1980 only - Mar lastSun 2:00s -1:00 S"},
		{func(r *api.Rule) { r.To = api.Forever }, "Rule R 1980 max - Mar lastSun 2:00s -1:00 S"},
		{func(r *api.Rule) { r.To = 1850 }, "Rule R 1980 1850 - Mar lastSun 2:00s -1:00 S"},
		{func(r *api.Rule) { r.Letter = "" }, "Rule R 1980 1990 - Mar lastSun 2:00s -1:00 -"},
		{func(r *api.Rule) { r.Save = 604799; r.At = api.Clock{Sec: -1} }, "Rule R 1980 1990 - Mar lastSun -0:00:01 167:59:59 S"},
	} {
		r := good()
		x.change(&r)
		if s, e := Print(r); s != x.want || e != api.OK {
			t.Error(r, s, e)
		}
	}
	for i, change := range []func(*api.Rule){
		func(r *api.Rule) { r.Name = "" }, func(r *api.Rule) { r.Name = "9" }, func(r *api.Rule) { r.From = 1849 },
		func(r *api.Rule) { r.From = 2150; r.To = 2150 }, func(r *api.Rule) { r.To = 2150 }, func(r *api.Rule) { r.To = api.Forever + 1 },
		func(r *api.Rule) { r.From = api.Forever; r.To = api.Forever }, func(r *api.Rule) { r.Month = 0 }, func(r *api.Rule) { r.Month = 13 },
		func(r *api.Rule) { r.Day.Day = 1 }, func(r *api.Rule) { r.At.Base = 3 }, func(r *api.Rule) { r.At.Sec = 604800 },
		func(r *api.Rule) { r.Save = 604800 }, func(r *api.Rule) { r.Save = -1 << 63 }, func(r *api.Rule) { r.Letter = "-" },
		func(r *api.Rule) { r.Letter = "ABCDE" }, func(r *api.Rule) { r.Name = "a b" }, func(r *api.Rule) { r.To = -1 << 63 },
	} {
		r := good()
		change(&r)
		if s, e := Print(r); s != "" || e != api.ErrArg {
			t.Error(i, s, e)
		}
	}
}

// anyRule returns a rule that can be written.
func anyRule(r *rand.Rand) api.Rule {
	days := []api.Day{{Kind: api.DayFixed, Day: 1 + r.Intn(31)}, {Kind: api.DayLast, Week: r.Intn(7)}, {Kind: api.DayFrom, Week: r.Intn(7), Day: 1 + r.Intn(31)}, {Kind: api.DayTo, Week: r.Intn(7), Day: 1 + r.Intn(31)}}
	from := 1850 + r.Intn(300)
	return api.Rule{
		Name: []string{"R", "C-Eur", "E_2"}[r.Intn(3)], From: from, To: []int{from, 1850 + r.Intn(300), api.Forever}[r.Intn(3)],
		Month: 1 + r.Intn(12), Day: days[r.Intn(4)], At: api.Clock{Sec: r.Int63n(1209599) - 604799, Base: r.Intn(3)},
		Save: r.Int63n(1209599) - 604799, Letter: []string{"", "S", "abcd"}[r.Intn(3)],
	}
}

func TestP10_3RoundTrip(t *testing.T) {
	random := rand.New(rand.NewSource(10))
	seen := map[string]api.Rule{}
	for range 20000 {
		r := anyRule(random)
		line, e := Print(r)
		if e != api.OK {
			t.Fatal(r, e)
		}
		if other, ok := seen[line]; ok && other != r {
			t.Fatal(line, r, other)
		}
		seen[line] = r
		l := strings.Split(line, " ")
		if back, e := Parse(l[1:]); l[0] != "Rule" || back != r || e != api.OK {
			t.Fatal(line, r, back, e)
		}
	}
}

func TestP10_4Words(t *testing.T) {
	for _, x := range [][2]string{
		{"US 1918 only - Mar lastSun 2:00 1:00 D", "US 1918 1918 - MARCH LASTsunday 2w 1 D"},
		{"US 1918 max - Sep Sun>=1 2:00u 0:00 -", "US 1918 MAXI - s su>=1 2:00:00z 0:00:00 -"},
		{"US 1918 max - Sep Sun>=1 2:00u 0:00 -", "US 1918 m - Sept SUND>=1 2g 0 -"},
	} {
		a, e := Parse(fields(x[0]))
		b, f := Parse(fields(x[1]))
		if a != b || e != api.OK || f != api.OK {
			t.Error(x, a, b, e, f)
		}
	}
}
