package until

import (
	"math/rand"
	"slices"
	"testing"

	"analemma/api"
)

const (
	least    = -1 << 63
	greatest = 1<<63 - 1
)

func fixed(day int) api.Day { return api.Day{Kind: api.DayFixed, Day: day} }

func end(y, m, d int, sec int64, base int) api.Until {
	return api.Until{Is: true, Year: y, Month: m, Day: fixed(d), At: api.Clock{Sec: sec, Base: base}}
}

func TestP22_1Check(t *testing.T) {
	for i, x := range []struct {
		u     api.Until
		least int64
		of    api.Errno
	}{
		{end(1968, 10, 27, 0, 0), 0, api.OK}, {api.Until{Year: 1968, Month: 10, Day: fixed(27)}, 0, api.ErrNone}, {api.Until{}, 1, api.ErrArg}, {end(1968, 10, 27, 0, 0), -10801, api.ErrArg},
		{end(1968, 10, 27, 0, 0), -10800, api.OK}, {end(1968, 2, 30, 0, 0), 0, api.ErrRange}, {end(1968, 2, 29, 0, 0), 0, api.OK}, {end(1969, 2, 29, 0, 0), 0, api.ErrRange},
		{end(1968, 10, 27, 49*3600, 0), 0, api.ErrRange}, {end(1968, 10, 27, -24*3600-1800, api.Std), 0, api.ErrRange}, {end(1968, 10, 27, -24*3600-1800, api.Std), -3600, api.ErrRange},
		{end(1968, 10, 27, 48*3600+1800, api.Std), -3600, api.OK}, {end(1968, 10, 27, 48*3600+1800, api.Std), 1, api.ErrArg}, {end(1968, 10, 27, 48*3600+1800, api.Std), 0, api.ErrRange},
		{end(1968, 10, 27, 48*3600, api.Utc), 0, api.OK}, {end(1968, 10, 27, 48*3600+1, api.Utc), -3600, api.ErrRange}, {end(1968, 10, 27, -24*3600, 0), -3600, api.OK},
		{end(1968, 10, 27, -24*3600, api.Std), -3600, api.ErrRange}, {end(1968, 10, 27, -23*3600, api.Std), -3600, api.OK}, {end(1849, 10, 27, 0, 0), 0, api.ErrRange},
		{end(1850, 1, 1, 0, 0), 0, api.OK}, {end(2149, 12, 31, 0, 0), 0, api.OK}, {end(2150, 1, 1, 0, 0), 0, api.ErrRange}, {end(1968, 0, 1, 0, 0), 0, api.ErrRange},
		{end(1968, 13, 1, 0, 0), 0, api.ErrRange}, {end(1968, 1, 0, 0, 0), 0, api.ErrRange}, {end(1968, 1, 1, 0, 3), 0, api.ErrRange}, {end(1968, 1, 1, 0, -1), 0, api.ErrRange},
		{end(1968, 1, 1, least, api.Std), -3600, api.ErrRange}, {end(1968, 1, 1, greatest, api.Std), 0, api.ErrRange}, {end(-1<<40, 1, 1, 0, 0), 0, api.ErrRange},
		{api.Until{Is: true, Year: 1968, Month: 1, Day: api.Day{Kind: 5}}, 0, api.ErrRange},
	} {
		if e := Check(x.u, x.least); e != x.of {
			t.Error(i, e)
		}
		if n, e := Nominal(x.u, x.least); e != x.of || e != api.OK && n != 0 {
			t.Error(i, n, e)
		}
	}
}

func TestP22_2Nominal(t *testing.T) {
	for i, x := range []struct {
		u           api.Until
		least, want int64
	}{
		{end(1970, 1, 2, 7200, api.Std), 0, 93600}, {end(1970, 1, 2, 7200, api.Std), -3600, 90000}, {end(1970, 1, 2, 7200, api.Wall), -3600, 93600},
		{end(1970, 1, 2, -7200, api.Utc), -3600, 79200}, {api.Until{Is: true, Year: 1970, Month: 1, Day: api.Day{Kind: api.DayLast, Week: 6}}, 0, 30 * 86400},
	} {
		if n, e := Nominal(x.u, x.least); n != x.want || e != api.OK {
			t.Error(i, n, e)
		}
	}
}

// set is a set with the save x from March on, and 0 from September on.
func set(x int64) []api.Rule {
	return []api.Rule{{Name: "R", From: 1960, To: 1980, Month: 3, Day: fixed(1), Save: x}, {Name: "R", From: 1960, To: 1980, Month: 9, Day: fixed(1), At: api.Clock{Sec: 3600, Base: api.Std}}}
}

func TestP22_3Instant(t *testing.T) {
	second := func(base int) api.Until { return end(1970, 1, 2, 7200, base) }
	summer := func(base int) api.Until { return end(1970, 6, 1, 7200, base) }
	const june = 151 * 86400
	for i, x := range []struct {
		e    api.Era
		l    []api.Rule
		want int64
		of   api.Errno
	}{
		{api.Era{Off: 3600, Until: second(api.Std)}, nil, 90000, api.OK}, {api.Era{Off: 3600, Until: second(api.Wall)}, nil, 90000, api.OK}, {api.Era{Off: 3600, Until: second(api.Utc)}, nil, 93600, api.OK},
		{api.Era{Off: 3600, Kind: api.Fixed, Save: 1800, Until: second(api.Wall)}, set(3600), 88200, api.OK}, {api.Era{Off: 3600, Kind: api.Fixed, Save: 1800, Until: second(api.Std)}, set(-3600), 90000, api.OK},
		{api.Era{Off: 3600, Kind: api.Named, Until: second(api.Wall)}, set(3600), 90000, api.OK}, {api.Era{Off: 3600, Kind: api.Named, Until: summer(api.Wall)}, set(3600), june, api.OK},
		{api.Era{Off: 3600, Kind: api.Named, Until: summer(api.Wall)}, set(-3600), june + 7200, api.OK}, {api.Era{Off: 3600, Kind: api.Named, Until: summer(api.Std)}, set(-3600), june + 3600, api.OK},
		{api.Era{Off: 3600, Kind: api.Named, Until: summer(api.Utc)}, set(-3600), june + 7200, api.OK}, {api.Era{Off: 3600, Kind: api.Named, Until: second(api.Wall)}, nil, 90000, api.OK},
		{api.Era{Off: 3600, Save: 1800, Until: second(api.Wall)}, set(3600), 90000, api.OK}, {api.Era{Kind: 3, Off: greatest}, nil, 0, api.ErrArg}, {api.Era{Kind: -1}, nil, 0, api.ErrArg},
		{api.Era{Off: api.MaxClock + 1}, nil, 0, api.ErrRange}, {api.Era{Off: least}, nil, 0, api.ErrRange}, {api.Era{Kind: api.Fixed, Save: api.MaxClock + 1}, nil, 0, api.ErrRange},
		{api.Era{Kind: api.NoRules, Save: greatest}, nil, 0, api.ErrNone}, {api.Era{Off: 3600}, nil, 0, api.ErrNone}, {api.Era{Until: end(1968, 2, 30, 0, 0)}, nil, 0, api.ErrRange},
		{api.Era{Off: api.MaxClock, Kind: api.Fixed, Save: api.MaxClock, Until: second(api.Wall)}, nil, 93600 - 2*api.MaxClock, api.OK},
		{api.Era{Off: -api.MaxClock, Kind: api.Fixed, Save: -api.MaxClock, Until: second(api.Wall)}, nil, 93600 + 2*api.MaxClock, api.OK},
		{api.Era{Kind: api.Named, Until: summer(api.Wall)}, set(api.MaxClock), june + 7200 - api.MaxClock, api.OK}, {api.Era{Kind: api.Named, Until: summer(api.Wall)}, set(api.MaxClock + 1), 0, api.ErrRange},
		{api.Era{Kind: api.Named, Until: summer(api.Utc)}, set(least), 0, api.ErrRange}, {api.Era{Kind: api.Named, Until: second(api.Wall)}, set(greatest), 93600, api.OK},
		{api.Era{Kind: api.Named, Until: second(api.Std)}, set(least), 93600, api.OK},
		{api.Era{Kind: api.Named, Until: end(1970, 1, 2, 48*3600+10800, api.Std)}, set(-20000), 86400 + 48*3600 + 10800, api.OK},
	} {
		if n, e := Instant(x.e, x.l); n != x.want || e != x.of {
			t.Error(i, n, e)
		}
	}
	// The save is that before the nominal time, which has the base save in it.
	l := set(-3600) // until September 1, 0:00 in nominal time
	for sec, want := range map[int64]int64{0: 0, 1: 1} {
		e := api.Era{Kind: api.Named, Until: end(1970, 9, 1, sec, api.Wall)}
		save := int64(-3600)
		if want == 1 {
			save = 0
		}
		if n, code := Instant(e, l); n != 243*86400+sec-save || code != api.OK {
			t.Error(sec, n, code)
		}
	}
}

// anyEra returns an era with an end, and rules for it whose least save is 0 or -x.
func anyEra(r *rand.Rand) (api.Era, []api.Rule, int64) {
	x := []int64{0, 1800, 3600, 7200}[r.Intn(4)]
	var l []api.Rule
	for range 1 + r.Intn(3) {
		l = append(l, api.Rule{From: 1960 + r.Intn(10), To: 1970 + r.Intn(10), Month: 1 + r.Intn(12), Day: fixed(1 + r.Intn(28)), At: api.Clock{Sec: r.Int63n(80000), Base: r.Intn(3)}, Save: -x * int64(r.Intn(2))})
	}
	l[0].Save = -x
	e := api.Era{Off: r.Int63n(50000) - 25000, Kind: r.Intn(3), Until: end(1965+r.Intn(10), 1+r.Intn(12), 1+r.Intn(28), r.Int63n(80000), r.Intn(3))}
	if e.Kind == api.Fixed {
		e.Save = r.Int63n(7200)
	}
	return e, l, x
}

func TestP22_4Near(t *testing.T) {
	r := rand.New(rand.NewSource(22))
	for range 3000 {
		e, l, _ := anyEra(r)
		base := baseSave(e, l)
		n, code := Nominal(e.Until, base)
		at, wrong := Instant(e, l)
		if code != api.OK || wrong != api.OK {
			t.Fatal(e, l, code, wrong)
		}
		less := map[int]int64{api.Utc: 0, api.Wall: e.Off + saveBefore(e, l, n), api.Std: e.Off + base}[e.Until.At.Base]
		if at != n-less {
			t.Fatal(e, l, at, n, less)
		}
	}
}

func TestP22_5Shifts(t *testing.T) {
	r := rand.New(rand.NewSource(225))
	for range 3000 {
		e, l, x := anyEra(r)
		e.Kind, e.Save = api.Named, 0
		moved, era := slices.Clone(l), e
		for i := range moved {
			moved[i].Save += x
			if moved[i].At.Base == api.Std {
				moved[i].At.Sec -= x
			}
		}
		era.Off -= x
		if era.Until.At.Base == api.Std {
			era.Until.At.Sec -= x
		}
		a, code := Nominal(e.Until, baseSave(e, l))
		b, again := Nominal(era.Until, baseSave(era, moved))
		m, wrong := Instant(e, l)
		n, fails := Instant(era, moved)
		if a != b || m != n || code != api.OK || again != api.OK || wrong != api.OK || fails != api.OK {
			t.Fatal(e, l, x, a, b, m, n)
		}
	}
}

func TestP22_6Order(t *testing.T) {
	r := rand.New(rand.NewSource(226))
	for range 3000 {
		e, l, _ := anyEra(r)
		other := e
		other.Until = end(1965+r.Intn(10), 1+r.Intn(12), 1+r.Intn(28), r.Int63n(80000), r.Intn(3))
		if r.Intn(2) > 0 {
			other.Until.Year, other.Until.Month = e.Until.Year, e.Until.Month
		}
		a, _ := Nominal(e.Until, baseSave(e, l))
		b, _ := Nominal(other.Until, baseSave(e, l))
		m, _ := Instant(e, l)
		n, _ := Instant(other, l)
		if b-a > 36*3600 && n <= m || a-b > 36*3600 && m <= n {
			t.Fatal(e, other, l)
		}
	}
}
