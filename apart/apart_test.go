package apart

import (
	"math/rand"
	"testing"

	"analemma/api"
	"analemma/civil"
	"analemma/events"
	"analemma/ruleset"
)

const ever = api.Forever

func fixed(day int) api.Day { return api.Day{Kind: api.DayFixed, Day: day} }

func rule(from, to, month int, d api.Day) api.Rule {
	return api.Rule{Name: "R", From: from, To: to, Month: month, Day: d}
}

func at(y int64, m, d int) int64 {
	n, _ := civil.Days(y, m, d)
	return n * 86400
}

func expect(t *testing.T, l []api.Rule, want api.Event, of api.Errno) {
	t.Helper()
	if e, code := Check(l); e != want || code != of {
		t.Error(l, e, code)
	}
}

func TestP18_1Check(t *testing.T) {
	first := rule(2000, 2000, 3, fixed(1))
	expect(t, nil, api.Event{}, api.OK)
	expect(t, []api.Rule{first}, api.Event{}, api.OK)
	expect(t, []api.Rule{first, rule(2000, 2000, 3, fixed(4))}, api.Event{}, api.OK)
	expect(t, []api.Rule{first, rule(2000, 2000, 3, fixed(3))}, api.Event{Year: 2000, Rule: 1, Nominal: at(2000, 3, 3)}, api.ErrApart)
	expect(t, []api.Rule{rule(2000, 2000, 3, fixed(3)), first}, api.Event{Year: 2000, Nominal: at(2000, 3, 3)}, api.ErrApart)
	expect(t, []api.Rule{first, first}, api.Event{Year: 2000, Rule: 1, Nominal: at(2000, 3, 1)}, api.ErrApart)
	sunday := api.Day{Kind: api.DayFrom, Day: 8}
	expect(t, []api.Rule{rule(1990, ever, 3, sunday), rule(1990, ever, 3, fixed(12))}, api.Event{Year: 1990, Rule: 1, Nominal: at(1990, 3, 12)}, api.ErrApart)
	second := rule(2000, 2000, 3, fixed(4))
	second.At.Sec = -1
	expect(t, []api.Rule{first, second}, api.Event{Year: 2000, Rule: 1, Nominal: at(2000, 3, 4) - 1}, api.ErrApart)
	// From one year to the next one; and the first and the last year that are looked at.
	expect(t, []api.Rule{rule(1990, 1999, 12, fixed(31)), rule(1990, 2000, 1, fixed(2))}, api.Event{Year: 1991, Rule: 1, Nominal: at(1991, 1, 2)}, api.ErrApart)
	expect(t, []api.Rule{rule(1849, 1850, 1, fixed(1)), rule(1849, 1850, 1, fixed(2))}, api.Event{Year: 1850, Rule: 1, Nominal: at(1850, 1, 2)}, api.ErrApart)
	expect(t, []api.Rule{rule(1849, 1849, 1, fixed(1)), rule(1849, 1849, 1, fixed(2))}, api.Event{}, api.OK)
	expect(t, []api.Rule{rule(2550, 2560, 1, fixed(1)), rule(2550, 2560, 1, fixed(2))}, api.Event{Year: 2550, Rule: 1, Nominal: at(2550, 1, 2)}, api.ErrApart)
	expect(t, []api.Rule{rule(2551, 2560, 1, fixed(1)), rule(2551, 2560, 1, fixed(2))}, api.Event{}, api.OK)
}

func TestP18_2Far(t *testing.T) {
	l := []api.Rule{rule(2000, 2000, 3, fixed(1)), rule(2000, 2000, 3, fixed(4))}
	for n, want := range map[int64]bool{
		at(2000, 3, 7): true, at(2000, 3, 7) - 1: false, at(2000, 3, 4): false, at(2000, 2, 27): true, at(2000, 2, 27) + 1: false, at(2000, 2, 28): false,
		-1 << 63: true, 1<<63 - 1: true, at(2000, 3, 2): false,
	} {
		if Far(l, n) != want {
			t.Error(n, !want)
		}
	}
	far := []api.Rule{rule(1000000, 2000000000, 3, fixed(1)), rule(-1<<62, -3000, 3, fixed(1))}
	for n, want := range map[int64]bool{at(999999, 3, 1): true, at(1999999999, 3, 1): false, at(1999999999, 3, 4): true, at(-3000, 2, 28): false, at(-2999, 3, 1): true} {
		if Far(far, n) != want {
			t.Error(n, !want)
		}
	}
	if !Far(nil, 0) {
		t.Error("no rules")
	}
}

// anyRules returns a list of rules, most of which are right as a list.
func anyRules(r *rand.Rand) []api.Rule {
	days := func() api.Day {
		return []api.Day{fixed(1 + r.Intn(28)), {Kind: api.DayLast, Week: r.Intn(7)}, {Kind: api.DayFrom, Week: r.Intn(7), Day: 1 + 7*r.Intn(4)}}[r.Intn(3)]
	}
	l := []api.Rule{rule(1990, ever, 3, days()), rule(1990+r.Intn(3), ever, 2+r.Intn(3)*2, days())}
	l[1].Save = int64(r.Intn(3)-1) * 3600
	for range r.Intn(3) {
		l = append(l, rule(1980+r.Intn(10), 1990+r.Intn(10), 1+r.Intn(12), days()))
	}
	for i := range l {
		l[i].At = api.Clock{Sec: r.Int63n(86400), Base: r.Intn(3)}
	}
	return l
}

func TestP18_3All(t *testing.T) {
	r := rand.New(rand.NewSource(18))
	right := 0
	for range 1500 {
		l := anyRules(r)
		_, e := Check(l)
		all, _ := events.In(l, 1850, 2550)
		close := false
		for i := 1; i < len(all); i++ {
			close = close || all[i].Nominal < all[i-1].Nominal+api.Apart
		}
		if (e == api.OK) == close {
			t.Fatal(l, e)
		}
		if _, f := ruleset.Check(l); e != api.OK || f != api.OK {
			continue
		}
		right++
		from := 2550 + r.Int63n(1000000)
		late, _ := events.In(l, from, from+405)
		for i := 1; i < len(late); i++ {
			if late[i].Nominal < late[i-1].Nominal+api.Apart {
				t.Fatal(l, late[i])
			}
		}
	}
	if right < 100 {
		t.Error(right)
	}
}

func TestP18_4More(t *testing.T) {
	r := rand.New(rand.NewSource(184))
	for range 1000 {
		l := anyRules(r)
		_, e := Check(l)
		n := at(1990, 1, 1) + r.Int63n(3*366)*86400
		far := Far(l, n)
		more := append(l, rule(1985, 1995, 1+r.Intn(12), fixed(1+r.Intn(28))))
		if _, f := Check(more); e != api.OK && f == api.OK {
			t.Fatal(more)
		}
		if !far && Far(more, n) {
			t.Fatal(more, n)
		}
	}
}

func TestP18_5Moved(t *testing.T) {
	r := rand.New(rand.NewSource(185))
	for range 1000 {
		l := anyRules(r)
		a, e := Check(l)
		by := r.Int63n(400000) - 200000
		for i := range l {
			l[i].At.Sec += by
		}
		b, f := Check(l)
		if e != f || a.Rule != b.Rule || a.Year != b.Year {
			t.Fatal(l, by, a, e, b, f)
		}
	}
}
