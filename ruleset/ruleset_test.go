package ruleset

import (
	"math/rand"
	"slices"
	"strings"
	"testing"

	"analemma/api"
)

const ever = api.Forever

// rule returns a rule of the set R, on the first day of a month at 0:00.
func rule(from, to, month int, save int64) api.Rule {
	return api.Rule{Name: "R", From: from, To: to, Month: month, Day: api.Day{Kind: api.DayFixed, Day: 1}, Save: save}
}

// on returns a rule with another day.
func on(r api.Rule, d api.Day) api.Rule {
	r.Day = d
	return r
}

func first(week, day int) api.Day { return api.Day{Kind: api.DayFrom, Week: week, Day: day} }

func TestP16_1NamesAndOf(t *testing.T) {
	s := api.Source{}
	for i, name := range strings.Fields("B A B C A B") {
		s.Rules = append(s.Rules, api.Rule{Name: name, From: i})
	}
	if l := Names(s); !slices.Equal(l, []string{"B", "A", "C"}) {
		t.Error(l)
	}
	if l := Names(api.Source{}); len(l) != 0 {
		t.Error(l)
	}
	for name, want := range map[string][]int{"B": {0, 2, 5}, "A": {1, 4}, "C": {3}, "D": nil, "": nil} {
		var got []int
		for _, r := range Of(s, name) {
			if r.Name != name {
				t.Error(name, r)
			}
			got = append(got, r.From)
		}
		if !slices.Equal(got, want) {
			t.Error(name, got)
		}
	}
	l := Of(s, "B")
	l[0].From = 9
	if s.Rules[0].From != 0 {
		t.Error("shared memory")
	}
}

func TestP16_2LeastAndOther(t *testing.T) {
	for _, x := range []struct {
		saves []int64
		least int64
		other int64
		ok    bool
	}{
		{nil, 0, 0, false}, {[]int64{3600, 0}, 0, 3600, true}, {[]int64{0, -3600, -3600}, -3600, -3600, true}, {[]int64{0, 0}, 0, 0, false},
		{[]int64{3600, 7200}, 0, 0, false}, {[]int64{3600}, 0, 3600, true}, {[]int64{1, -1}, -1, 0, false}, {[]int64{-1 << 63, 5, -1 << 63}, -1 << 63, 0, false},
		{[]int64{1, 2, 1}, 0, 0, false}, {[]int64{-7}, -7, -7, true},
	} {
		var l []api.Rule
		for _, save := range x.saves {
			l = append(l, rule(1980, 1990, 3, save))
		}
		if n := Least(l); n != x.least {
			t.Error(x, n)
		}
		if n, ok := Other(l); n != x.other || ok != x.ok {
			t.Error(x, n, ok)
		}
	}
}

func expect(t *testing.T, l []api.Rule, i int, e api.Errno) {
	t.Helper()
	if got, f := Check(l); got != i || f != e {
		t.Error(l, got, f, "not", i, e)
	}
}

func TestP16_3Rules(t *testing.T) {
	for _, x := range []struct {
		change func(*api.Rule)
		of     api.Errno
	}{
		{func(r *api.Rule) {}, api.OK}, {func(r *api.Rule) { r.From, r.To = 1850, 2149 }, api.OK}, {func(r *api.Rule) { r.From = 1849 }, api.ErrRange},
		{func(r *api.Rule) { r.To = 2150 }, api.ErrRange}, {func(r *api.Rule) { r.To = ever + 1 }, api.ErrRange}, {func(r *api.Rule) { r.From = ever }, api.ErrRange},
		{func(r *api.Rule) { r.From, r.To = 1990, 1989 }, api.ErrOrder}, {func(r *api.Rule) { r.From, r.To, r.Month = 1990, 1989, 0 }, api.ErrOrder},
		{func(r *api.Rule) { r.Month = 0 }, api.ErrRange}, {func(r *api.Rule) { r.Month = 13 }, api.ErrRange}, {func(r *api.Rule) { r.Day.Day = 32 }, api.ErrRange},
		{func(r *api.Rule) { r.Month, r.Day.Day = 2, 30 }, api.ErrRange}, {func(r *api.Rule) { r.Month, r.Day.Day = 2, 29 }, api.ErrRange},
		{func(r *api.Rule) { r.From, r.To, r.Month, r.Day.Day = 1984, 1984, 2, 29 }, api.OK}, {func(r *api.Rule) { r.At.Base = 3 }, api.ErrRange},
		{func(r *api.Rule) { r.At.Sec = api.MinAt }, api.OK}, {func(r *api.Rule) { r.At.Sec = api.MinAt - 1 }, api.ErrRange},
		{func(r *api.Rule) { r.At.Sec = api.MaxAt }, api.OK}, {func(r *api.Rule) { r.At.Sec = api.MaxAt + 1 }, api.ErrRange},
		{func(r *api.Rule) { r.At = api.Clock{Sec: api.MaxAt + 3600, Base: api.Std} }, api.OK}, {func(r *api.Rule) { r.At = api.Clock{Sec: api.MaxAt + 3601, Base: api.Std} }, api.ErrRange},
		{func(r *api.Rule) { r.At = api.Clock{Sec: api.MinAt + 3600, Base: api.Std} }, api.OK}, {func(r *api.Rule) { r.At = api.Clock{Sec: api.MinAt + 3599, Base: api.Std} }, api.ErrRange},
		{func(r *api.Rule) { r.At = api.Clock{Sec: api.MaxAt + 1, Base: api.Utc} }, api.ErrRange}, {func(r *api.Rule) { r.At.Sec = -1 << 63 }, api.ErrRange},
		{func(r *api.Rule) { r.Save = api.MaxSave + 1 }, api.ErrSave}, {func(r *api.Rule) { r.Save, r.Letter = -api.MaxSave-1, "-" }, api.ErrSave},
		{func(r *api.Rule) { r.Letter = "SUMM" }, api.OK}, {func(r *api.Rule) { r.Letter = "SUMME" }, api.ErrFormat}, {func(r *api.Rule) { r.Letter = "-" }, api.ErrFormat},
		{func(r *api.Rule) { r.Name = "" }, api.OK},
	} {
		l := []api.Rule{rule(1980, 1990, 3, 0), rule(1980, 1990, 5, -3600), rule(1981, 1985, 9, 0), rule(1980, 1979, 0, 1)}
		x.change(&l[2])
		if x.of == api.OK {
			expect(t, l[:3], 0, api.OK)
		} else {
			expect(t, l, 2, x.of)
		}
	}
	// A least save of any size.
	expect(t, []api.Rule{{Name: "R", From: 1980, To: 1980, Month: 1, Day: first(0, 1), At: api.Clock{Sec: -1, Base: api.Std}}, {Save: -1 << 63}}, 0, api.ErrRange)
	expect(t, []api.Rule{rule(1980, 1980, 1, 0), rule(1981, 1981, 1, -1<<63)}, 1, api.ErrSave)
}

func TestP16_3Lists(t *testing.T) {
	feb := api.Day{Kind: api.DayFixed, Day: 29}
	last := api.Day{Kind: api.DayLast, Week: 6}
	for _, x := range []struct {
		l  []api.Rule
		i  int
		of api.Errno
	}{
		{[]api.Rule{rule(1980, 1989, 3, 3600), rule(1980, 1989, 10, 0)}, 0, api.OK}, {[]api.Rule{rule(1980, ever, 3, 0), rule(1980, ever, 10, -3600)}, 0, api.OK},
		{[]api.Rule{rule(1980, 1979, 3, 0)}, 0, api.ErrOrder}, {[]api.Rule{rule(1849, 1980, 3, 0)}, 0, api.ErrRange},
		{[]api.Rule{rule(1980, 1981, 3, 0), on(rule(1980, 1981, 2, 0), api.Day{Kind: api.DayFixed, Day: 30})}, 1, api.ErrRange},
		{[]api.Rule{rule(1980, 1980, 3, 3600)}, 0, api.ErrSave}, {nil, 0, api.ErrSave}, {[]api.Rule{rule(1980, 1980, 3, 0), rule(1980, 1980, 4, -3600), rule(1980, 1980, 5, 3600)}, 0, api.ErrSave},
		{[]api.Rule{rule(1980, 1980, 3, 0), rule(1980, 1980, 4, -3600), rule(1980, 1980, 5, -1800)}, 0, api.ErrSave},
		{[]api.Rule{rule(1980, 1980, 3, 0), rule(1980, 1980, 4, 3600), rule(1980, 1980, 5, 1800)}, 0, api.OK}, {[]api.Rule{rule(1980, ever, 3, 0)}, 0, api.ErrLast},
		{[]api.Rule{on(rule(1980, ever, 3, 0), first(0, 9)), rule(1980, ever, 10, 3600)}, 0, api.ErrLast},
		{[]api.Rule{on(rule(1980, ever, 3, 0), first(0, 22)), on(rule(1980, ever, 10, 3600), last)}, 0, api.OK},
		{[]api.Rule{on(rule(1980, ever, 3, 0), first(0, 1)), on(rule(1980, ever, 10, 3600), first(1, 15))}, 0, api.OK},
		{[]api.Rule{on(rule(1980, ever, 3, 0), first(0, 8)), on(rule(1980, ever, 10, 3600), first(1, 29))}, 0, api.ErrLast},
		{[]api.Rule{on(rule(1980, ever, 3, 0), api.Day{Kind: api.DayTo, Day: 8}), rule(1980, ever, 10, 3600)}, 0, api.ErrLast},
		{[]api.Rule{rule(1980, ever, 3, 0), rule(1980, ever, 3, 3600)}, 0, api.ErrLast}, {[]api.Rule{rule(1980, ever, 3, 0), rule(1980, ever, 4, 0)}, 0, api.ErrLast},
		{[]api.Rule{rule(1980, ever, 3, 3600), rule(1980, ever, 4, 3600), rule(1980, 1980, 3, 0)}, 0, api.ErrLast},
		{[]api.Rule{rule(1980, ever, 3, 0), rule(1980, ever, 4, 3600), rule(1980, ever, 5, 0)}, 0, api.ErrLast},
		{[]api.Rule{rule(1980, ever, 3, 0), on(rule(1980, ever, 2, 3600), feb)}, 1, api.ErrRange}, {[]api.Rule{rule(1980, ever, 3, 0), on(rule(1980, ever, 4, 3600), api.Day{Kind: api.DayFixed, Day: 29})}, 0, api.OK},
		{[]api.Rule{rule(1980, ever, 3, -3600), rule(1980, ever, 4, 3600)}, 0, api.ErrSave},
		{[]api.Rule{rule(1980, 1980, 3, 0), rule(1980, 1980, 4, -api.MaxSave)}, 0, api.OK}, {[]api.Rule{rule(1980, 1980, 3, 0), rule(1980, 1980, 4, api.MaxSave)}, 0, api.OK}, {[]api.Rule{on(rule(1980, ever, 3, 0), feb), rule(1980, ever, 2, 3600)}, 0, api.OK},
	} {
		expect(t, x.l, x.i, x.of)
	}
}

func TestP16_4JustOneSet(t *testing.T) {
	r := rand.New(rand.NewSource(16))
	for range 500 {
		s := api.Source{}
		for i := range r.Intn(20) {
			s.Rules = append(s.Rules, api.Rule{Name: string(rune('A' + r.Intn(4))), From: i})
		}
		var all []int
		for _, name := range Names(s) {
			var l []int
			for _, rule := range Of(s, name) {
				l = append(l, rule.From)
			}
			if !slices.IsSorted(l) {
				t.Fatal(s, name, l)
			}
			all = append(all, l...)
		}
		slices.Sort(all)
		if len(all) != len(s.Rules) || len(slices.Compact(all)) != len(s.Rules) {
			t.Fatal(s, all)
		}
	}
}

func TestP16_5Opposite(t *testing.T) {
	r := rand.New(rand.NewSource(165))
	right := 0
	for range 20000 {
		x := []int64{3600, -3600, 1800, -10800}[r.Intn(4)]
		var l []api.Rule
		for range 2 + r.Intn(3) {
			a := rule(1980+r.Intn(3), []int{1990, ever}[r.Intn(2)], 1+r.Intn(12), x*int64(r.Intn(2)))
			a.Day = []api.Day{first(0, 8), {Kind: api.DayLast}, {Kind: api.DayFixed, Day: 28}}[r.Intn(3)]
			a.At = api.Clock{Sec: []int64{7200, api.MaxAt, api.MinAt, api.MaxAt - x, api.MinAt - x, api.MaxAt + x}[r.Intn(6)], Base: r.Intn(3)}
			l = append(l, a)
		}
		_, e := Check(l)
		if other, ok := Other(l); e != api.OK || !ok || other != x {
			continue
		}
		right++
		moved := slices.Clone(l)
		for i := range moved {
			moved[i].Save -= x
			if moved[i].At.Base == api.Std {
				moved[i].At.Sec += x
			}
		}
		if _, e := Check(moved); e != api.OK {
			t.Fatal(l, moved, e)
		}
		if back, ok := Other(moved); !ok || back != -x {
			t.Fatal(l, moved, back, ok)
		}
	}
	if right < 500 {
		t.Error(right)
	}
}
