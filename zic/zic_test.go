package zic

import (
	"math/rand"
	"reflect"
	"slices"
	"sort"
	"strings"
	"testing"

	"analemma/api"
	"analemma/civil"
	"analemma/links"
	"analemma/meaning"
	"analemma/posix"
	"analemma/sample"
	"analemma/source"
	"analemma/table"
	"analemma/translate"
)

func read(t *testing.T, text string) api.Source {
	t.Helper()
	s, _, err := source.Parse(text)
	if err != nil {
		t.Fatal(text, err)
	}
	return s
}

const eire = `Rule Eire 1971 only - Oct 31 2:00u -1:00 -
Rule Eire 1972 max - Mar Sun>=15 2:00u 0:00 -
Rule Eire 1972 max - Oct lastSun 1:00u -1:00 -
Zone Europe/Dublin 0:00 - GMT 1968 Oct 27
	1:00 Eire IST/GMT
Link Europe/Dublin D
`

func at(y int64, m, d int, sec int64) int64 {
	n, _ := civil.Days(y, m, d)
	return n*86400 + sec
}

func TestP44_1Compile(t *testing.T) {
	want := api.Table{
		Types: []api.Local{{Abbr: "GMT"}, {Off: 3600, Abbr: "IST"}, {Dst: true, Abbr: "GMT"}},
		Trans: []api.Trans{{At: at(1968, 10, 27, 0), Type: 1}, {At: at(1971, 10, 31, 7200), Type: 2}, {At: at(1972, 3, 19, 7200), Type: 1}, {At: at(1972, 10, 29, 3600), Type: 2}, {At: at(1973, 3, 18, 7200), Type: 1}, {At: at(1973, 10, 28, 3600), Type: 2}},

		Footer: "IST-1GMT0,M10.5.0,M3.3.0",
	}
	s := read(t, eire)
	for _, name := range []string{"Europe/Dublin", "D"} {
		if x, e := Compile(s, name); !table.Same(x, want) || e != api.OK {
			t.Error(x, e)
		}
	}
	for i, x := range []struct {
		s    api.Source
		name string
		of   api.Errno
	}{{s, "Eire", api.ErrName}, {s, "", api.ErrName}, {read(t, eire+"Link X Y\n"), "Eire", api.ErrName}, {read(t, eire+"Link Y Y\n"), "D", api.ErrLoop}, {api.Source{}, "A", api.ErrName}} {
		if got, e := Compile(x.s, x.name); !reflect.DeepEqual(got, api.Table{}) || e != x.of {
			t.Error(i, got, e)
		}
	}
	s.Rules[0].From = 1849
	if got, e := Compile(s, "D"); !reflect.DeepEqual(got, api.Table{}) || e != api.ErrRange {
		t.Error(got, e)
	}
	for text, want := range map[string]string{
		"Zone A 5:30 - IST\n":                     "type 0 5:30 std IST\nfooter IST-5:30\n",
		"Zone A 0 - ABC 1950\n0 - ABC\n":          "type 0 0:00 std ABC\nfooter ABC0\n",
		"Zone A 0 - ABC 1970\n1:00 1:00 MST\n":    "type 0 0:00 std ABC\ntype 1 2:00 dst MST\nat 0 1\nfooter XXX-1MST,0/0,J365/25\n",
		"Zone A 0 - ABC 2149 Dec 31\n1:00 - %z\n": "type 0 0:00 std ABC\ntype 1 1:00 std +01\nat 5680195200 1\nfooter <+01>-1\n",
	} {
		x, e := Compile(read(t, text), "A")
		got, f := table.Text(x)
		if got != want || e != api.OK || f != api.OK {
			t.Error(got, e, f)
		}
	}
}

func TestP44_1Horizon(t *testing.T) {
	// The last year is 1973; changes up to February 1, 1974, 0:00 universal time, count.
	for date, want := range map[string]int{"Feb 1 0:00u": 6, "Feb 1 0:00:01u": 5, "Jan 31 23:59:59u": 6, "Jan 15 0:00": 6, "Feb 2 0:00u": 5} {
		text := "Rule R 1972 max - " + date + " 1:00 -\nRule R 1972 max - Jul 15 0:00 0 -\nZone A 0 - LMT 1970\n0 R ABC/DEF\n"
		x := compile(t, read(t, text), "A")
		// One at the end of the first era, and two in each of the years 1972 and 1973.
		if len(x.Trans) != want {
			t.Error(date, len(x.Trans), x)
		}
	}
}

// localAt returns the local time of a table, as P44.2 says it.
func localAt(x api.Table, n int64) api.Local {
	i := sort.Search(len(x.Trans), func(i int) bool { return x.Trans[i].At > n })
	if i == len(x.Trans) {
		p, _ := posix.Parse(x.Footer)
		l, _ := posix.At(p, n)
		return l
	}
	if i == 0 {
		return x.Types[0]
	}
	return x.Types[x.Trans[i-1].Type]
}

func compile(t *testing.T, s api.Source, name string) api.Table {
	t.Helper()
	x, e := Compile(s, name)
	if e != api.OK {
		t.Fatal(name, e)
	}
	return x
}

// instants returns those around the transitions of a table, and others.
func instants(r *rand.Rand, x api.Table) []int64 {
	l := []int64{-api.MaxTime, api.MaxTime, at(1850, 1, 1, 0), 0, r.Int63n(api.MaxTime), at(2150, 1, 1, 0) + r.Int63n(1<<33)}
	for range 12 {
		l = append(l, at(1850, 1, 1, 0)+r.Int63n(300*365*86400))
		if len(x.Trans) > 0 {
			n := x.Trans[r.Intn(len(x.Trans))].At
			l = append(l, n, n-1)
		}
	}
	return l
}

func TestP44_2TheSameLocalTime(t *testing.T) {
	r := rand.New(rand.NewSource(44))
	for i := range uint64(100) {
		s := read(t, sample.Text(i))
		for _, z := range s.Zones {
			x := compile(t, s, z.Name)
			if table.Check(x) != api.OK {
				t.Fatal(i, x)
			}
			for _, n := range instants(r, x) {
				want, e := meaning.At(s, z.Name, n)
				if got := localAt(x, n); got != want || e != api.OK {
					t.Fatal(sample.Text(i), z.Name, n, got, want, e)
				}
			}
		}
	}
}

func TestP44_3LinksAndTranslations(t *testing.T) {
	r := rand.New(rand.NewSource(443))
	for i := range uint64(60) {
		s := read(t, sample.Text(i))
		rear, _, e := translate.To(s, api.Rearguard)
		if e != api.OK {
			t.Fatal(e)
		}
		for _, name := range links.Names(s) {
			zone, _ := links.Find(s, name)
			x, y := compile(t, s, name), compile(t, rear, name)
			if !table.Same(x, compile(t, s, s.Zones[zone].Name)) {
				t.Fatal(i, name)
			}
			for _, n := range slices.Concat(instants(r, x), instants(r, y)) {
				if a, b := localAt(x, n), localAt(y, n); a.Off != b.Off || a.Abbr != b.Abbr {
					t.Fatal(sample.Text(i), name, n, a, b)
				}
			}
		}
	}
}

// TestFull compiles a zone with as many types, eras and rules as there may be.
func TestFull(t *testing.T) {
	var b strings.Builder
	for i := range 300 {
		for _, month := range []string{"Feb", "May", "Aug"} {
			y := []byte("1850")
			for k, n := 3, 1850+i; k >= 0; k, n = k-1, n/10 {
				y[k] = byte('0' + n%10)
			}
			b.WriteString("Rule R " + string(y) + " only - " + month + " 1 0 0 -\nRule R " + string(y) + " only - " + month + " 15 0 1:00 -\n")
		}
	}
	b.WriteString("Zone A 0 - LMT 1850\n1:00 R CET/CEST\n")
	s := read(t, b.String())
	x := compile(t, s, "A")
	if len(x.Trans) < 1700 || len(x.Types) != 3 {
		t.Error(len(x.Trans), len(x.Types))
	}
}
