package state

import (
	"math/rand"
	"slices"
	"testing"

	"analemma/apart"
	"analemma/api"
	"analemma/civil"
	"analemma/events"
	"analemma/ruleset"
)

const (
	ever     = api.Forever
	least    = -1 << 63
	greatest = 1<<63 - 1
)

func fixed(day int) api.Day { return api.Day{Kind: api.DayFixed, Day: day} }

func at(y int64, m, d int, sec int64) int64 {
	n, _ := civil.Days(y, m, d)
	return n*86400 + sec
}

// eire is the set R of the chapter.
func eire() []api.Rule {
	utc := func(sec int64) api.Clock { return api.Clock{Sec: sec, Base: api.Utc} }
	return []api.Rule{
		{Name: "R", From: 1972, To: ever, Month: 3, Day: api.Day{Kind: api.DayFrom, Day: 15}, At: utc(7200)},
		{Name: "R", From: 1972, To: ever, Month: 10, Day: api.Day{Kind: api.DayLast}, At: utc(3600), Save: -3600, Letter: "S"},
		{Name: "R", From: 1971, To: 1971, Month: 10, Day: fixed(31), At: utc(7200), Save: -3600, Letter: "S"},
	}
}

var (
	zero   = api.State{}
	summer = api.State{Save: -3600, Letter: "S"}
)

func TestP19_1InitialAndBefore(t *testing.T) {
	if s := Initial(eire()); s != zero {
		t.Error(s)
	}
	for nominal, want := range map[int64]api.State{
		at(1972, 1, 1, 0): summer, at(1973, 1, 1, 0): summer, at(1972, 7, 1, 0): zero, least: zero, greatest: summer,
		at(1971, 10, 31, 7200): zero, at(1971, 10, 31, 7201): summer, at(1972, 3, 19, 7200): summer, at(1972, 3, 19, 7201): zero,
	} {
		if s := Before(eire(), nominal); s != want {
			t.Error(nominal, s)
		}
	}
	one := func(from int, save int64, letter string) api.Rule {
		return api.Rule{From: from, To: from, Month: 1, Day: fixed(1), Save: save, Letter: letter}
	}
	for i, x := range []struct {
		l    []api.Rule
		want api.State
	}{
		{nil, zero}, {[]api.Rule{{From: 1900, To: 1900}}, zero}, {[]api.Rule{one(1900, 5, "a"), one(1901, 5, "b")}, api.State{Save: 5, Letter: "a"}},
		{[]api.Rule{one(1902, 6, "a"), one(1901, 5, "b"), one(1950, 6, "c"), one(1900, 5, "d")}, api.State{Save: 6, Letter: "a"}},
		{[]api.Rule{one(1900, 5, "a"), one(1900, 6, "b"), one(1900, 7, "c")}, api.State{Save: 6, Letter: "b"}},
		{[]api.Rule{one(1900, 5, "a"), one(1999999999, 0, "b")}, api.State{Letter: "b"}},
		{[]api.Rule{one(1900, 5, "a"), one(-1<<62, 0, "b"), one(1<<62, 0, "c")}, api.State{Save: 5, Letter: "a"}},
	} {
		if s := Initial(x.l); s != x.want {
			t.Error(i, s)
		}
		if s := Before(x.l, least); s != x.want {
			t.Error(i, s)
		}
	}
	// The first event is found with the least save of the whole list.
	l := []api.Rule{one(1900, 0, "a"), one(1900, 3600, "b"), one(1950, -7200, "c")}
	l[1].At = api.Clock{Sec: 3600, Base: api.Std}
	if s := Initial(l); s != (api.State{Letter: "a"}) {
		t.Error(s)
	}
	l[1].At.Sec = 7200
	if s := Initial(l); s != (api.State{Save: 3600, Letter: "b"}) {
		t.Error(s)
	}
}

func TestP19_2Instant(t *testing.T) {
	l := eire()
	march, _ := events.On(l, 0, 1972)
	if n := Instant(l, march, 3600); n != at(1972, 3, 19, 7200) {
		t.Error(n)
	}
	l[0].At.Base = api.Wall
	if n := Instant(l, march, 3600); n != at(1972, 3, 19, 7200) {
		t.Error(n)
	}
	if n := Instant(l, march, 7200); n != at(1972, 3, 19, 3600) {
		t.Error(n)
	}
	l[0].At.Base = api.Std
	std, _ := events.On(l, 0, 1972)
	if n := Instant(l, std, 3600); n != at(1972, 3, 19, 3600) || std.Nominal != march.Nominal-3600 {
		t.Error(n, std)
	}
	l[0].At.Base = 7
	if n := Instant(l, march, 3600); n != march.Nominal {
		t.Error(n)
	}
	for _, e := range []api.Event{{}, {Rule: 3}, {Rule: -1, Nominal: 5}} {
		if e.Rule != 0 {
			if n := Instant(l, e, 0); n != 0 {
				t.Error(e, n)
			}
		}
	}
	if n := Instant(nil, api.Event{}, 5); n != 0 {
		t.Error(n)
	}
	// Differences that do not fit; each one, from the left.
	wall := []api.Rule{{At: api.Clock{Base: api.Wall}, From: 1, To: 1, Month: 1, Day: fixed(1), Save: greatest}}
	for i, x := range []struct {
		l       []api.Rule
		nominal int64
		off     int64
		want    int64
	}{
		{wall, -5, 0, 0}, {wall, -5, least, 0}, {wall, 5, -3, 5 - greatest + 3}, {wall, 5, greatest, 0},
		{[]api.Rule{{At: api.Clock{Base: api.Std}, Save: -20000}}, greatest, 5, 0}, {[]api.Rule{{At: api.Clock{Base: api.Std}, Save: -20000}}, greatest - 10800, 5, greatest - 5},
		{[]api.Rule{{At: api.Clock{Base: api.Std}}}, least, 1, 0}, {[]api.Rule{{At: api.Clock{Base: api.Utc}}}, least, 1, least},
	} {
		if n := Instant(x.l, api.Event{Nominal: x.nominal}, x.off); n != x.want {
			t.Error(i, n, x.want)
		}
	}
}

func TestP19_3At(t *testing.T) {
	l := eire()
	for instant, want := range map[int64]api.State{
		at(1971, 10, 31, 7199): zero, at(1971, 10, 31, 7200): summer, at(1972, 3, 19, 7199): summer, at(1972, 3, 19, 7200): zero, least: zero, greatest: summer,
		greatest - api.Apart: summer,
	} {
		if s := At(l, 3600, instant); s != want {
			t.Error(instant, s)
		}
	}
	if s := At(nil, 0, 0); s != zero {
		t.Error(s)
	}
	// Four events a second apart: of the three that are looked at none is over; the first one counts then.
	var four []api.Rule
	for i := range int64(4) {
		four = append(four, api.Rule{From: 2000, To: 2000, Month: 1, Day: fixed(1), At: api.Clock{Sec: i, Base: api.Std}, Save: i + 1})
	}
	day := at(2000, 1, 1, 0)
	for off, want := range map[int64]int64{0: 4, 1: 4, -1: 3, -2: 2, -3: 1, -4: 1, -1000: 1} {
		if s := At(four, off, day+3); s.Save != want {
			t.Error(off, s)
		}
	}
	if s := At(four[1:], -1000, day+3); s.Save != 3 {
		t.Error("no events any more", s)
	}
}

// anyRules returns a list of rules that is right, and whose events are far from each other, with its one other save.
func anyRules(r *rand.Rand) ([]api.Rule, int64) {
	for {
		x := []int64{3600, -3600, 1800, -7200}[r.Intn(4)]
		var l []api.Rule
		for i := range 2 + r.Intn(3) {
			from := 1990 + r.Intn(4)
			rule := api.Rule{From: from, To: from + r.Intn(3), Month: 1 + r.Intn(12), Day: []api.Day{fixed(1 + r.Intn(28)), {Kind: api.DayLast, Week: r.Intn(7)}, {Kind: api.DayFrom, Week: r.Intn(7), Day: 8}}[r.Intn(3)],
				At: api.Clock{Sec: r.Int63n(100000) - 10000, Base: r.Intn(3)}, Save: x * int64(i%2), Letter: string(rune('a' + i))}
			if i < 2 && r.Intn(2) > 0 {
				rule.To = ever
			}
			l = append(l, rule)
		}
		_, e := ruleset.Check(l)
		_, f := apart.Check(l)
		if e == api.OK && f == api.OK {
			return l, x
		}
	}
}

func TestP19_4Instants(t *testing.T) {
	r := rand.New(rand.NewSource(19))
	for range 300 {
		l, x := anyRules(r)
		off := r.Int63n(2*api.MaxOff+1) - api.MaxOff
		if off+x < -api.MaxOff || off+x > api.MaxOff {
			continue
		}
		all, _ := events.In(l, 1980, 2010)
		state, before := Initial(l), int64(least)
		for _, e := range all {
			n := Instant(l, e, off)
			if n-e.Nominal > 15*3600 || e.Nominal-n > 15*3600 || before != least && n-before <= 40*3600 {
				t.Fatal(l, off, e, n)
			}
			for _, x := range []int64{n - 1, n - r.Int63n(100000) - 1} {
				if s := At(l, off, x); x >= before && s != state {
					t.Fatal(l, off, x, s, state)
				}
			}
			state, before = behind(l, e), n
			if s := At(l, off, n); s != state {
				t.Fatal(l, off, n, s, state)
			}
		}
	}
}

func TestP19_5Shifted(t *testing.T) {
	r := rand.New(rand.NewSource(195))
	tried := 0
	for range 500 {
		l, other := anyRules(r)
		x := -other
		moved := slices.Clone(l)
		for i := range moved {
			moved[i].Save += x
			if moved[i].At.Base == api.Std {
				moved[i].At.Sec -= x
			}
		}
		if _, e := ruleset.Check(moved); e != api.OK {
			t.Fatal(l, moved, e)
		}
		tried++
		off := r.Int63n(20*3600) - 10*3600
		all, _ := events.In(l, 1980, 2010)
		again, _ := events.In(moved, 1980, 2010)
		if !slices.Equal(all, again) {
			t.Fatal(l, moved)
		}
		for _, e := range all {
			if a, b := Instant(l, e, off), Instant(moved, e, off-x); a != b {
				t.Fatal(l, off, e, a, b)
			}
			n := e.Nominal + r.Int63n(200000) - 100000
			a, b := At(l, off, n), At(moved, off-x, n)
			if b != (api.State{Save: a.Save + x, Letter: a.Letter}) {
				t.Fatal(l, off, n, a, b)
			}
		}
	}
	if tried < 100 {
		t.Error(tried)
	}
}
