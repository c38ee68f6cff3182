package system_test

import (
	"math/rand"
	"slices"
	"testing"

	"analemma/accept"
	"analemma/apart"
	"analemma/api"
	"analemma/civil"
	"analemma/decode"
	"analemma/footer"
	"analemma/lookup"
	"analemma/meaning"
	"analemma/numeric"
	"analemma/posix"
	"analemma/printer"
	"analemma/ruleset"
	"analemma/table"
	"analemma/translate"
	"analemma/tzif"
	"analemma/zic"
)

// one returns one of some values.
func one[T any](r *rand.Rand, of ...T) T { return of[r.Intn(len(of))] }

// anyDay returns a day form of any kind; one that a POSIX TZ string can say, if it has to go on for ever.
func anyDay(r *rand.Rand, forever bool) api.Day {
	fixed, last := api.Day{Kind: api.DayFixed, Day: 1 + r.Intn(31)}, api.Day{Kind: api.DayLast, Week: r.Intn(7)}
	if forever {
		return one(r, fixed, last, api.Day{Kind: api.DayFrom, Week: r.Intn(7), Day: 1 + 7*r.Intn(4)})
	}
	return one(r, fixed, last, api.Day{Kind: api.DayFrom, Week: r.Intn(7), Day: 1 + r.Intn(31)}, api.Day{Kind: api.DayTo, Week: r.Intn(7), Day: 1 + r.Intn(31)})
}

// anyTime returns a time of day up to the limits, for a least save.
func anyTime(r *rand.Rand, least int64) api.Clock {
	c := api.Clock{Sec: one(r, api.MinAt, api.MaxAt, 0, 7200, r.Int63n(api.MaxAt-api.MinAt+1)+api.MinAt), Base: r.Intn(3)}
	if c.Base == api.Std {
		c.Sec -= least
	}
	return c
}

// extremeSet returns the rules of a set that is right, and whose events are far enough apart.
func extremeSet(r *rand.Rand, name string) []api.Rule {
	for {
		x := one(r, 1, 1800, 3600, api.MaxSave, 1+r.Int63n(api.MaxSave))
		saves := one(r, []int64{0, x}, []int64{0, x}, []int64{0, -x}, []int64{0, x, 7200}, []int64{0})
		least := min(saves[len(saves)-1], 0)
		forever := r.Intn(3) > 0
		var l []api.Rule
		for i := range 1 + r.Intn(6) {
			rule := api.Rule{Name: name, From: one(r, api.MinYear, api.MaxYear, 1900+r.Intn(100)), Month: 1 + r.Intn(12), Save: one(r, saves...), Letter: one(r, "", "S", "GMTT"), At: anyTime(r, least)}
			rule.To = min(api.MaxYear, rule.From+r.Intn(one(r, 1, 3, 20, 200)))
			if forever && i < 2 {
				rule.To, rule.Save = api.Forever, saves[i%len(saves)]
			}
			rule.Day = anyDay(r, rule.To == api.Forever)
			l = append(l, rule)
		}
		_, e := ruleset.Check(l)
		_, f := apart.Check(l)
		if e == api.OK && f == api.OK {
			return l
		}
	}
}

// extremeEra returns an era with offsets up to the limits, without an end.
func extremeEra(r *rand.Rand, set []api.Rule, numbers bool) api.Era {
	e := api.Era{Off: one(r, 0, 3600, -18000, api.MaxOff, -api.MaxOff, r.Int63n(2*api.MaxOff+1)-api.MaxOff), Kind: r.Intn(3)}
	least, greatest := int64(0), int64(0)
	switch e.Kind {
	case api.Fixed:
		e.Save = one(r, 1, 3600, api.MaxSave, 1+r.Int63n(api.MaxSave))
		greatest = e.Save
	case api.Named:
		e.Set = set[0].Name
		for _, rule := range set {
			least, greatest = min(least, rule.Save), max(greatest, rule.Save)
		}
	default:
		set = nil
	}
	e.Off = min(max(e.Off, -api.MaxOff-least), api.MaxOff-greatest)
	e.Format = one(r, "ABC", "ABC/DEF", "AB%sCD")
	if text, code := numeric.Expansion(e, set); code == api.OK && r.Intn(2) > 0 {
		e.Format = "%z"
		if numbers {
			e.Format = text
		}
	}
	return e
}

// extremeSource returns a source with one zone, which is accepted in some form.
func extremeSource(r *rand.Rand) api.Source {
	for {
		s := api.Source{Zones: []api.Zone{{Name: "Z"}}}
		sets := [][]api.Rule{extremeSet(r, "A"), extremeSet(r, "B")}
		for _, set := range sets {
			s.Rules = append(s.Rules, set...)
			if other, ok := ruleset.Other(set); ok && other > 0 && r.Intn(4) == 0 {
				s.Shifts = append(s.Shifts, set[0].Name)
			}
		}
		numbers, year, n := r.Intn(2) > 0, api.MinYear+r.Intn(50), 1+r.Intn(5)
		for i := range n {
			set := sets[r.Intn(2)]
			e := extremeEra(r, set, numbers)
			if i < n-1 {
				year = min(api.MaxYear, year+r.Intn(one(r, 1, 2, 30, 80)))
				least := int64(0)
				if e.Kind == api.Named {
					least = ruleset.Least(set)
				}
				e.Until = api.Until{Is: true, Year: year, Month: 1 + r.Intn(12), Day: anyDay(r, false), At: anyTime(r, least)}
			}
			s.Zones[0].Eras = append(s.Zones[0].Eras, e)
		}
		if len(accept.Forms(s)) > 0 {
			return s
		}
	}
}

// instantsOf returns those around the transitions of tables, and others.
func instantsOf(r *rand.Rand, tables []api.Table) []int64 {
	l := []int64{-api.MaxTime, api.MaxTime, r.Int63n(api.MaxTime)}
	for _, x := range tables {
		for _, trans := range x.Trans {
			if r.Intn(len(x.Trans)) < 5 {
				l = append(l, trans.At-1, trans.At)
			}
		}
	}
	for range 6 {
		day, _ := civil.Days(1845+r.Int63n(320), 1, 1)
		l = append(l, day*86400+r.Int63n(366*86400))
	}
	return l
}

// TestG1ToG5Extreme asks for the promises of the whole of sources near the limits.
func TestG1ToG5Extreme(t *testing.T) {
	r := rand.New(rand.NewSource(15))
	for range 80 {
		s := extremeSource(r)
		text, e := printer.Print(s)
		if e != api.OK || !printer.Same(read(t, text), s) {
			t.Fatal(text, e)
		}
		var sources []api.Source
		var tables []api.Table
		for form := api.Vanguard; form <= api.Rearguard; form++ {
			to, place, e := translate.To(s, form)
			if e != api.OK {
				t.Fatal(text, form, place, e)
			}
			if place, e := accept.In(to, form); e != api.OK {
				t.Fatal(text, form, place, e)
			}
			x, e := zic.Compile(to, "Z")
			if e != api.OK {
				t.Fatal(text, form, e)
			}
			sources, tables = append(sources, to), append(tables, x)
		}
		for _, from := range sources {
			for i, want := range sources {
				if to, _, e := translate.To(from, i+1); e != api.OK || !printer.Same(to, want) {
					t.Fatal(text, i, e)
				}
			}
		}
		if slices.Contains(accept.Forms(s), api.Vanguard) && !printer.Same(sources[0], s) {
			t.Fatal(text)
		}
		checkTables(t, text, tables)
		checkTimes(t, r, text, s, sources, tables)
	}
}

// checkTables asks whether tables are found again in their TZif data.
func checkTables(t *testing.T, text string, tables []api.Table) {
	t.Helper()
	for _, x := range tables {
		version, e := tzif.Version(x)
		data, f := tzif.Encode(x, version)
		back, again, g := decode.Decode(data)
		if e != api.OK || f != api.OK || g != api.OK || again != version || !table.Same(back, x) {
			t.Fatal(text, e, f, g)
		}
	}
}

// checkTimes asks whether a source, its translations and their tables say the same.
func checkTimes(t *testing.T, r *rand.Rand, text string, s api.Source, sources []api.Source, tables []api.Table) {
	t.Helper()
	for _, n := range instantsOf(r, tables) {
		want, e := meaning.At(s, "Z", n)
		for i := range sources {
			a, f := meaning.At(sources[i], "Z", n)
			b, g := lookup.At(tables[i], n)
			if e != api.OK || f != api.OK || g != api.OK || a != b || a.Off != want.Off || a.Abbr != want.Abbr {
				t.Fatal(text, i+1, n, want, a, b)
			}
		}
	}
	year, _ := footer.Year(s, 0)
	day, _ := civil.Days(year+1, 2, 1)
	p, _ := footer.Of(s, 0)
	for range 5 {
		n := day*86400 + r.Int63n(6*366*86400)
		want, e := meaning.At(s, "Z", n)
		if got, f := posix.At(p, n); got != want || e != api.OK || f != api.OK {
			t.Fatal(text, n, got, want)
		}
	}
}
