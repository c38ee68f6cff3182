package events

import (
	"math/rand"
	"slices"
	"testing"

	"analemma/api"
	"analemma/civil"
)

const ever = api.Forever

func fixed(day int) api.Day { return api.Day{Kind: api.DayFixed, Day: day} }

// example is the set R of the chapter.
func example() []api.Rule {
	return []api.Rule{
		{Name: "R", From: 1990, To: 1992, Month: 3, Day: api.Day{Kind: api.DayLast}, At: api.Clock{Sec: 7200, Base: api.Std}, Save: 3600},
		{Name: "R", From: 1990, To: ever, Month: 10, Day: fixed(1)},
	}
}

func TestP17_1On(t *testing.T) {
	l := example()
	for _, x := range []struct {
		i    int
		y    int64
		want api.Event
		ok   bool
	}{
		{0, 1990, api.Event{Year: 1990, Nominal: 638330400}, true}, {0, 1993, api.Event{}, false}, {0, 1989, api.Event{}, false}, {2, 1990, api.Event{}, false},
		{-1, 1990, api.Event{}, false}, {1, 1990, api.Event{Year: 1990, Rule: 1, Nominal: 654739200}, true}, {1, api.MaxCivil + 1, api.Event{}, false}, {1, 1<<63 - 1, api.Event{}, false},
		{1, ever + 5, api.Event{Year: ever + 5, Rule: 1, Nominal: day(ever+5, 10, 1) * 86400}, true},
	} {
		if e, ok := On(l, x.i, x.y); e != x.want || ok != x.ok {
			t.Error(x, e, ok)
		}
	}
	if e, ok := On(l, 1, api.MaxCivil); !ok || e.Nominal != day(api.MaxCivil, 10, 1)*86400 {
		t.Error(e, ok)
	}
	for i, change := range []func(*api.Rule){
		func(r *api.Rule) { r.Month = 13 }, func(r *api.Rule) { r.Month, r.Day = 2, fixed(30) }, func(r *api.Rule) { r.Month, r.Day = 2, fixed(29) },
		func(r *api.Rule) { r.Day = api.Day{} }, func(r *api.Rule) { r.At.Base = 3 }, func(r *api.Rule) { r.At.Sec = 604800 }, func(r *api.Rule) { r.To = ever - 1; r.From = ever },
		func(r *api.Rule) { r.From = 1991 }, func(r *api.Rule) { r.To = 1989 },
	} {
		l := example()
		change(&l[1])
		if e, ok := On(l, 1, 1990); e != (api.Event{}) || ok {
			t.Error(i, e, ok)
		}
	}
	// The base save is the least one, but not less than -MaxSave.
	for save, want := range map[int64]int64{-3600: -3600, -10800: -10800, -10801: -10800, -1 << 63: -10800, 1 << 62: 0} {
		l := example()
		l[1].Save = save
		if e, ok := On(l, 0, 1990); !ok || e.Nominal != 638330400+want {
			t.Error(save, e, ok)
		}
	}
	// To can be beyond Forever; then it is a year.
	l[1].To = ever + 1
	if _, ok := On(l, 1, ever+1); !ok {
		t.Error("To beyond Forever")
	}
	if _, ok := On(l, 1, ever+2); ok {
		t.Error("To beyond Forever, and further on")
	}
}

func day(y int64, m, d int) int64 {
	n, _ := civil.Days(y, m, d)
	return n
}

func TestP17_2In(t *testing.T) {
	l := example()
	a, _ := On(l, 0, 1990)
	b, _ := On(l, 1, 1990)
	for _, x := range []struct {
		from, to int64
		want     []api.Event
		of       api.Errno
	}{
		{1990, 1990, []api.Event{a, b}, api.OK}, {1993, 1992, nil, api.OK}, {0, 1001, nil, api.ErrRange}, {0, 1000, nil, api.OK}, {990, 1990, []api.Event{a, b}, api.OK},
		{-1 << 63, 1<<63 - 1, nil, api.ErrRange}, {1<<63 - 1, -1 << 63, nil, api.OK}, {1<<63 - 1000, 1<<63 - 1, nil, api.OK}, {-1 << 63, -1<<63 + 1000, nil, api.OK},
		{-1 << 63, 0, nil, api.ErrRange}, {-1, 1<<63 - 1, nil, api.ErrRange},
	} {
		if got, e := In(l, x.from, x.to); !slices.Equal(got, x.want) || e != x.of {
			t.Error(x, got, e)
		}
	}
	// Equal nominal times: the rule with the smaller index comes first.
	same := api.Rule{From: 2000, To: 2002, Month: 1, Day: fixed(1), At: api.Clock{Sec: 3600}}
	shifted := api.Rule{From: 2000, To: 2002, Month: 1, Day: fixed(2), At: api.Clock{Sec: 3600 - 86400, Base: api.Utc}}
	got, e := In([]api.Rule{same, shifted, same}, 1999, 2001)
	var order []int
	for _, x := range got {
		order = append(order, int(x.Year)*10+x.Rule)
	}
	if !slices.Equal(order, []int{20000, 20001, 20002, 20010, 20011, 20012}) || e != api.OK {
		t.Error(got, e)
	}
}

func TestP17_3BeforeAndAfter(t *testing.T) {
	l := example()
	a, _ := On(l, 0, 1990)
	for _, x := range []struct {
		nominal int64
		before  bool
		want    api.Event
		ok      bool
	}{
		{638330400, true, api.Event{}, false}, {638330401, true, a, true}, {654739200, false, api.Event{Year: 1991, Nominal: 670384800}, true},
		{-1 << 63, false, a, true}, {-1 << 63, true, api.Event{}, false}, {638330399, false, a, true}, {1<<63 - 1, false, api.Event{}, false},
		{1<<63 - 1, true, api.Event{Year: api.MaxCivil, Rule: 1, Nominal: day(api.MaxCivil, 10, 1) * 86400}, true},
	} {
		find := After
		if x.before {
			find = Before
		}
		if e, ok := find(l, x.nominal); e != x.want || ok != x.ok {
			t.Error(x, e, ok)
		}
	}
	// Rules that begin far away, or never have an event.
	far := []api.Rule{{From: 1 << 62, To: ever}, {From: 1900000001, To: 1900000010, Month: 2, Day: fixed(29)}, {From: 1850, To: ever, Month: 2, Day: fixed(30)}, {From: -1 << 63, To: -1<<63 + 5, Month: 1, Day: fixed(1)}}
	want := api.Event{Year: 1900000004, Rule: 1, Nominal: day(1900000004, 2, 29) * 86400}
	if e, ok := After(far, 0); e != want || !ok {
		t.Error(e, ok)
	}
	want = api.Event{Year: 1900000008, Rule: 1, Nominal: day(1900000008, 2, 29) * 86400}
	if e, ok := Before(far, 1<<63-1); e != want || !ok {
		t.Error(e, ok)
	}
	if e, ok := Before(far, 0); ok {
		t.Error(e)
	}
	// Eight years without a leap day.
	leap := []api.Rule{{From: 1850, To: ever, Month: 2, Day: fixed(29)}}
	if e, ok := After(leap, day(1896, 3, 1)*86400); !ok || e.Year != 1904 {
		t.Error(e, ok)
	}
	if e, ok := Before(leap, day(1904, 2, 29)*86400); !ok || e.Year != 1896 {
		t.Error(e, ok)
	}
	if _, ok := After(nil, 0); ok {
		t.Error("no rules")
	}
}

// anyRules returns a list of rules from 1900 to 1920.
func anyRules(r *rand.Rand) []api.Rule {
	var l []api.Rule
	for range 1 + r.Intn(4) {
		from := 1900 + r.Intn(20)
		l = append(l, api.Rule{From: from, To: from + r.Intn(5) - 1, Month: []int{1, 2, 12, 6}[r.Intn(4)], At: api.Clock{Sec: []int64{0, -604799, 604799, 3600}[r.Intn(4)], Base: r.Intn(3)},
			Day: []api.Day{fixed(1), fixed(29), fixed(31), {Kind: api.DayLast}, {Kind: api.DayFrom, Day: 29}, {Kind: api.DayTo, Day: 1}}[r.Intn(6)], Save: int64(r.Intn(5)-2) * 3600})
	}
	return l
}

func TestP17_3AgainstAll(t *testing.T) {
	r := rand.New(rand.NewSource(17))
	for range 3000 {
		l := anyRules(r)
		all, e := In(l, 1800, 2000)
		if e != api.OK || !slices.IsSortedFunc(all, compare) {
			t.Fatal(all, e)
		}
		n := day(1898, 1, 1)*86400 + r.Int63n(30*366)*86400
		if len(all) > 0 && r.Intn(2) > 0 {
			n = all[r.Intn(len(all))].Nominal + int64(r.Intn(3)) - 1
		}
		var before, after api.Event
		for _, e := range all {
			if e.Nominal < n {
				before = e
			}
			if e.Nominal > n && after == (api.Event{}) {
				after = e
			}
		}
		if e, ok := Before(l, n); e != before || ok != (before != api.Event{}) {
			t.Fatal(l, n, e, ok, before)
		}
		if e, ok := After(l, n); e != after || ok != (after != api.Event{}) {
			t.Fatal(l, n, e, ok, after)
		}
	}
}

func TestP17_4Around(t *testing.T) {
	r := rand.New(rand.NewSource(174))
	for range 3000 {
		all, _ := In(anyRules(r), 1890, 1930)
		for _, e := range all {
			begin, end := day(e.Year, 1, 1)*86400, day(e.Year+1, 1, 1)*86400
			if e.Nominal < begin-30*86400 || e.Nominal > end+30*86400 {
				t.Fatal(e)
			}
		}
	}
}

func TestP17_5Steps(t *testing.T) {
	r := rand.New(rand.NewSource(175))
	for range 500 {
		l := anyRules(r)
		all, _ := In(l, 1890, 1930)
		var times, steps, back []int64
		for _, e := range all {
			times = append(times, e.Nominal)
		}
		times = slices.Compact(times)
		for e, ok := After(l, -1<<63); ok; e, ok = After(l, e.Nominal) {
			steps = append(steps, e.Nominal)
		}
		for e, ok := Before(l, 1<<63-1); ok; e, ok = Before(l, e.Nominal) {
			back = append(back, e.Nominal)
		}
		slices.Reverse(back)
		if !slices.Equal(times, steps) || !slices.Equal(times, back) {
			t.Fatal(l, times, steps, back)
		}
	}
}

func TestP17_6Cycles(t *testing.T) {
	r := rand.New(rand.NewSource(176))
	for range 3000 {
		l := anyRules(r)
		for i := range l {
			l[i].To = ever
			y := 2000 + r.Int63n(1000)
			a, ok := On(l, i, y)
			b, fine := On(l, i, y+400)
			if ok != fine || ok && (b.Nominal-a.Nominal != 146097*86400 || b.Year != a.Year+400 || b.Rule != i) {
				t.Fatal(l, i, a, b)
			}
		}
	}
}
