package walk

import (
	"math/rand"
	"slices"
	"strings"
	"testing"

	"analemma/api"
	"analemma/civil"
	"analemma/links"
	"analemma/meaning"
	"analemma/sample"
	"analemma/source"
)

const eire = `Rule R 1972 max - Mar Sun>=15 2:00u 0 -
Rule R 1972 max - Oct lastSun 1:00u -1:00 S
Rule R 1971 only - Oct 31 2:00u -1:00 S
Zone Z 0:00 - GMT 1968 Oct 27
	1:00 R IST/GMT
Link Z Y
`

func read(t *testing.T, text string) api.Source {
	t.Helper()
	s, _, err := source.Parse(text)
	if err != nil {
		t.Fatal(text, err)
	}
	return s
}

func at(y int64, m, d int, sec int64) int64 {
	n, _ := civil.Days(y, m, d)
	return n*86400 + sec
}

func TestP27_1Next(t *testing.T) {
	s := read(t, eire)
	october := at(1971, 10, 31, 7200)
	for from, want := range map[int64]int64{
		0: october, october: at(1972, 3, 19, 7200), october - 1: october, -api.MaxTime: at(1968, 10, 27, 0), at(1968, 10, 27, 0): october,
		at(2024, 3, 17, 7199): at(2024, 3, 17, 7200), at(2024, 3, 17, 7200): at(2024, 10, 27, 3600),
	} {
		for _, name := range []string{"Z", "Y"} {
			if n, ok, e := Next(s, name, from); n != want || !ok || e != api.OK {
				t.Error(name, from, n, ok, e)
			}
		}
	}
	if n, ok, e := Next(s, "Z", api.MaxTime); n != 0 || ok || e != api.OK {
		t.Error(n, ok, e)
	}
	if n, ok, e := Next(s, "Z", api.MaxTime-2*366*86400); n > api.MaxTime || n <= api.MaxTime-2*366*86400 || !ok || e != api.OK {
		t.Error(n, ok, e)
	}
	plain := read(t, "Zone A 0 - GMT\nZone B 1 - CET 1990\n1 - CET\n")
	if n, ok, e := Next(plain, "A", -api.MaxTime); n != 0 || ok || e != api.OK {
		t.Error(n, ok, e)
	}
	// A step need not change anything.
	if n, ok, e := Next(plain, "B", 0); n != at(1990, 1, 1, -3600) || !ok || e != api.OK {
		t.Error(n, ok, e)
	}
	wrong := read(t, eire+"Link Z Z\n")
	for i, x := range []struct {
		s    api.Source
		name string
		at   int64
		of   api.Errno
	}{
		{s, "Z", api.MaxTime + 1, api.ErrRange}, {s, "Z", -1 << 63, api.ErrRange}, {wrong, "X", 1<<63 - 1, api.ErrRange}, {s, "X", 0, api.ErrName}, {wrong, "X", 0, api.ErrTwice},
	} {
		if n, ok, e := Next(x.s, x.name, x.at); n != 0 || ok || e != x.of {
			t.Error(i, n, ok, e)
		}
		if l, m, e := All(x.s, x.name, x.at, 0); l != nil || m != nil || e != x.of {
			t.Error(i, l, m, e)
		}
		if l, m, e := All(x.s, x.name, 0, x.at); l != nil || m != nil || e != x.of {
			t.Error(i, l, m, e)
		}
	}
}

func TestP27_2All(t *testing.T) {
	s := read(t, eire)
	changes := []api.Trans{{At: at(1968, 10, 27, 0), Type: 1}, {At: at(1971, 10, 31, 7200), Type: 2}, {At: at(1972, 3, 19, 7200), Type: 1}, {At: at(1972, 10, 29, 3600), Type: 2}}
	locals := []api.Local{{Abbr: "GMT"}, {Off: 3600, Abbr: "IST"}, {Dst: true, Abbr: "GMT"}}
	if l, m, e := All(s, "Z", -api.MaxTime, at(1973, 1, 1, 0)); !slices.Equal(l, changes) || !slices.Equal(m, locals) || e != api.OK {
		t.Error(l, m, e)
	}
	// Greater than from, and not greater than to.
	if l, m, e := All(s, "Z", changes[1].At, changes[2].At); !slices.Equal(l, []api.Trans{{At: changes[2].At, Type: 1}}) || !slices.Equal(m, []api.Local{locals[2], locals[1]}) || e != api.OK {
		t.Error(l, m, e)
	}
	if l, m, e := All(s, "Z", changes[1].At, changes[2].At-1); len(l) != 0 || !slices.Equal(m, locals[2:]) || e != api.OK {
		t.Error(l, m, e)
	}
	if l, m, e := All(s, "Z", 0, -api.MaxTime); len(l) != 0 || !slices.Equal(m, locals[1:2]) || e != api.OK {
		t.Error(l, m, e)
	}
	if l, m, e := All(s, "Z", 0, api.MaxTime); l != nil || m != nil || e != api.ErrMany {
		t.Error(len(l), len(m), e)
	}
	// Just 50,000 steps, and one more: two in each year from 1972 on, and one in 1971.
	to := at(1972+25000-1, 10, 1, 0)
	if l, m, e := All(s, "Z", 0, to); len(l) != 50000 || len(m) != 2 || e != api.OK {
		t.Error(len(l), len(m), e)
	}
	if l, m, e := All(s, "Z", 0, to+31*86400); l != nil || m != nil || e != api.ErrMany {
		t.Error(len(l), len(m), e)
	}
	// Steps that change nothing are no changes.
	plain := read(t, "Rule R 1980 only - Mar 1 0 0 -\nRule R 1981 only - Mar 1 0 0 -\nZone B 1 - CET 1979\n1 R CET 1990\n1 - CET\n")
	if l, m, e := All(plain, "B", -api.MaxTime, api.MaxTime); len(l) != 0 || !slices.Equal(m, []api.Local{{Off: 3600, Abbr: "CET"}}) || e != api.OK {
		t.Error(l, m, e)
	}
}

// localAt returns the local time that a walk says at an instant.
func localAt(l []api.Trans, m []api.Local, n int64) api.Local {
	i, found := slices.BinarySearchFunc(l, n, func(x api.Trans, n int64) int { return int(min(max(x.At-n, -1), 1)) })
	if found {
		return m[l[i].Type]
	}
	if i == 0 {
		return m[0]
	}
	return m[l[i-1].Type]
}

func TestP27_3Between(t *testing.T) {
	r := rand.New(rand.NewSource(27))
	for i := range uint64(40) {
		s := read(t, sample.Text(i))
		for _, z := range s.Zones {
			l, m, e := All(s, z.Name, -api.MaxTime, at(2100, 1, 1, 0))
			if e != api.OK {
				t.Fatal(i, e)
			}
			for range 10 {
				n := at(1850, 1, 1, 0) + r.Int63n(250*365*86400)
				if len(l) > 0 && r.Intn(2) > 0 {
					n = l[r.Intn(len(l))].At - int64(r.Intn(2))
				}
				want, e := meaning.At(s, z.Name, n)
				if got := localAt(l, m, n); got != want || e != api.OK {
					t.Fatal(sample.Text(i), z.Name, n, got, want, e)
				}
				next, ok, e := Next(s, z.Name, n)
				if !ok {
					next = n + 86400*10000
				}
				if last, f := meaning.At(s, z.Name, next-1); last != want || e != api.OK || f != api.OK {
					t.Fatal(sample.Text(i), z.Name, n, next, last, want)
				}
			}
		}
	}
}

// named returns the changes with the local times themselves.
func named(t *testing.T, s api.Source, name string, from, to int64) (out []api.Local, ats []int64) {
	t.Helper()
	l, m, e := All(s, name, from, to)
	if e != api.OK {
		t.Fatal(e)
	}
	for _, x := range l {
		out, ats = append(out, m[x.Type]), append(ats, x.At)
	}
	return out, ats
}

func TestP27_4And5PartsAndLinks(t *testing.T) {
	r := rand.New(rand.NewSource(274))
	for i := range uint64(60) {
		s := read(t, sample.Text(i))
		for _, name := range links.Names(s) {
			a, b, c := at(1870, 1, 1, 0), at(1900, 1, 1, 0)+r.Int63n(120*365*86400), at(2050, 1, 1, 0)
			l, x := named(t, s, name, a, b)
			m, y := named(t, s, name, b, c)
			all, z := named(t, s, name, a, c)
			if !slices.Equal(append(l, m...), all) || !slices.Equal(append(x, y...), z) {
				t.Fatal(i, name)
			}
			zone, _ := links.Find(s, name)
			if same, w := named(t, s, s.Zones[zone].Name, a, c); !slices.Equal(all, same) || !slices.Equal(z, w) {
				t.Fatal(i, name)
			}
		}
	}
}

func TestP27_6Apart(t *testing.T) {
	for i := range uint64(40) {
		text := sample.Text(i)
		s := read(t, strings.Split(text, "Link")[0])
		for _, z := range s.Zones {
			era, last := -1, int64(0)
			first := true
			n, ok, e := Next(s, z.Name, -api.MaxTime)
			for range 100 {
				if !ok || e != api.OK {
					break
				}
				now, _ := meaning.Era(s, z.Name, n)
				if now != era {
					first = true // the start of a span
				} else if !first && n-last <= 40*3600 {
					t.Fatal(text, z.Name, n, last)
				} else {
					first = false
				}
				era, last = now, n
				n, ok, e = Next(s, z.Name, n)
			}
		}
	}
}
