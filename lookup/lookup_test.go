package lookup

import (
	"math/rand"
	"testing"

	"analemma/api"
	"analemma/posix"
	"analemma/sample"
	"analemma/source"
	"analemma/zic"
)

var (
	lmt  = api.Local{Off: 1000, Abbr: "LMT"}
	cet  = api.Local{Off: 3600, Abbr: "CET"}
	cest = api.Local{Off: 7200, Dst: true, Abbr: "CEST"}
)

func example() api.Table {
	return api.Table{Types: []api.Local{lmt, cet, cest}, Trans: []api.Trans{{At: 0, Type: 1}, {At: 100, Type: 2}, {At: 200, Type: 1}}, Footer: "CET-1CEST,M3.5.0,M10.5.0/3"}
}

func TestP45_1And2AtAndIndex(t *testing.T) {
	x := example()
	for n, want := range map[int64]int{-1: 0, 0: 1, 99: 1, 100: 2, 150: 2, 199: 2, 200: 3, api.MaxTime: 3, -api.MaxTime: 0} {
		if i, e := Index(x, n); i != want || e != api.OK {
			t.Error(n, i, e)
		}
	}
	for n, want := range map[int64]api.Local{-api.MaxTime: lmt, -1: lmt, 0: cet, 99: cet, 100: cest, 199: cest, 200: cet, 1711846800: cest, 1711846799: cet} {
		if l, e := At(x, n); l != want || e != api.OK {
			t.Error(n, l, e)
		}
	}
	none := api.Table{Types: []api.Local{cet}, Footer: "CET-1CEST,M3.5.0,M10.5.0/3"}
	for n, want := range map[int64]api.Local{0: cet, 1711846800: cest, -1711846800: cet} {
		l, e := At(none, n)
		i, f := Index(none, n)
		if n > 0 && l != want || i != 0 || e != api.OK || f != api.OK {
			t.Error(n, l, i, e, f)
		}
	}
	wrong := example()
	wrong.Footer = "CET"
	for _, y := range []struct {
		x  api.Table
		at int64
		of api.Errno
	}{{x, api.MaxTime + 1, api.ErrRange}, {x, -api.MaxTime - 1, api.ErrRange}, {x, -1 << 63, api.ErrRange}, {wrong, 0, api.ErrArg}, {wrong, 1<<63 - 1, api.ErrArg}, {api.Table{}, 0, api.ErrArg}} {
		if l, e := At(y.x, y.at); l != (api.Local{}) || e != y.of {
			t.Error(y, l, e)
		}
		if i, e := Index(y.x, y.at); i != 0 || e != y.of {
			t.Error(y, i, e)
		}
	}
}

// tables returns those of some samples.
func tables(t *testing.T) (l []api.Table) {
	for i := range uint64(40) {
		s, _, err := source.Parse(sample.Text(i))
		if err != nil {
			t.Fatal(err)
		}
		x, e := zic.Compile(s, s.Zones[0].Name)
		if e != api.OK {
			t.Fatal(e)
		}
		l = append(l, x)
	}
	return append(l, example())
}

func TestP45_3And4StepsAndBefore(t *testing.T) {
	r := rand.New(rand.NewSource(45))
	for _, x := range tables(t) {
		for i, trans := range x.Trans {
			end := trans.At
			if i+1 < len(x.Trans) {
				end = x.Trans[i+1].At - 1
			}
			for _, n := range []int64{trans.At, end, trans.At + r.Int63n(end-trans.At+1)} {
				if l, e := At(x, n); l != x.Types[trans.Type] || e != api.OK {
					t.Fatal(x, n, l, e)
				}
			}
		}
		if len(x.Trans) == 0 {
			continue
		}
		for _, n := range []int64{-api.MaxTime, x.Trans[0].At - 1} {
			if l, e := At(x, n); l != x.Types[0] || e != api.OK {
				t.Fatal(x, n, l, e)
			}
		}
	}
}

func TestP45_5Footers(t *testing.T) {
	r := rand.New(rand.NewSource(455))
	for _, x := range tables(t) {
		from := int64(0)
		if n := len(x.Trans); n > 0 {
			from = x.Trans[n-1].At
		}
		p, _ := posix.Parse(x.Footer)
		// Another table, with further transitions that say what the footer says.
		longer := api.Table{Types: x.Types, Trans: append([]api.Trans{}, x.Trans...), Footer: x.Footer}
		last, _ := posix.At(p, from)
		for n := from; n < from+5*366*86400; n += 1800 {
			now, _ := posix.At(p, n)
			if now == last {
				continue
			}
			for i, l := range x.Types {
				if l == now {
					longer.Trans = append(longer.Trans, api.Trans{At: n, Type: i})
				}
			}
			last = now
		}
		for range 20 {
			n := from + r.Int63n(9*366*86400)/1800*1800
			a, e := At(x, n)
			b, f := At(longer, n)
			if a != b || e != api.OK || f != api.OK {
				t.Fatal(x, n, a, b, e, f)
			}
		}
	}
}
