package table

import (
	"fmt"
	"math/rand"
	"reflect"
	"strings"
	"testing"

	"analemma/api"
)

var (
	gmt = api.Local{Abbr: "GMT"}
	bst = api.Local{Off: 3600, Dst: true, Abbr: "BST"}
)

func example() api.Table {
	return api.Table{Types: []api.Local{gmt, bst}, Trans: []api.Trans{{At: 100, Type: 1}, {At: 200, Type: 0}}, Footer: "GMT0"}
}

func trans(l ...int64) (out []api.Trans) {
	for i := 0; i < len(l); i += 2 {
		out = append(out, api.Trans{At: l[i], Type: int(l[i+1])})
	}
	return out
}

// wide returns a table of some types with different offsets.
func wide(n int) api.Table {
	x := api.Table{Footer: "GMT0"}
	for i := range n {
		x.Types = append(x.Types, api.Local{Off: int64(i), Abbr: "GMT"})
		if i > 0 {
			x.Trans = append(x.Trans, api.Trans{At: int64(i), Type: i})
		}
	}
	x.Trans = append(x.Trans, api.Trans{At: 1000})
	return x
}

// worded returns a table of some types with different abbreviations of four letters.
func worded(n int) api.Table {
	x := wide(n)
	for i := range x.Types {
		x.Types[i] = api.Local{Off: int64(i), Abbr: fmt.Sprintf("AB%c%c", 'A'+i/26, 'A'+i%26)}
	}
	x.Footer = "ABAA0"
	return x
}

func TestP40_1Check(t *testing.T) {
	for i, x := range []struct {
		change func(*api.Table)
		of     api.Errno
	}{
		{func(x *api.Table) {}, api.OK}, {func(x *api.Table) { x.Types = nil }, api.ErrNone}, {func(x *api.Table) { x.Types = append(x.Types, api.Local{Abbr: "UTC"}) }, api.ErrNone},
		{func(x *api.Table) { x.Types = append(x.Types, gmt) }, api.ErrTwice}, {func(x *api.Table) { x.Types[0].Off = api.MaxOff + 1 }, api.ErrRange}, {func(x *api.Table) { x.Types[1].Off = -1 << 63 }, api.ErrRange},
		{func(x *api.Table) { x.Types[1].Off = api.MaxOff }, api.OK}, {func(x *api.Table) { x.Types[1].Off = -api.MaxOff }, api.OK}, {func(x *api.Table) { x.Types[1].Abbr = "GM" }, api.ErrFormat},
		{func(x *api.Table) { x.Types[1].Abbr = "G_T" }, api.ErrFormat}, {func(x *api.Table) { x.Types[1].Abbr = "ABCDEFGH" }, api.ErrFormat}, {func(x *api.Table) { x.Types[1].Abbr = "Az0+-9G" }, api.OK}, {func(x *api.Table) { x.Types[1].Abbr = "aAzZ" }, api.OK},
		{func(x *api.Table) { x.Types[1].Abbr = "" }, api.ErrFormat}, {func(x *api.Table) { x.Types[1].Abbr = "éa" }, api.ErrFormat}, {func(x *api.Table) { x.Trans = trans(100, 0) }, api.ErrArg},
		{func(x *api.Table) { x.Trans = trans(100, 2) }, api.ErrArg}, {func(x *api.Table) { x.Trans = trans(100, -1) }, api.ErrArg}, {func(x *api.Table) { x.Trans = trans(200, 1, 200, 0) }, api.ErrOrder},
		{func(x *api.Table) { x.Trans = trans(200, 1, 100, 0) }, api.ErrOrder}, {func(x *api.Table) { x.Trans = trans(100, 1, 200, 1) }, api.ErrArg}, {func(x *api.Table) { x.Trans = trans(api.MaxTime+1, 1) }, api.ErrRange},
		{func(x *api.Table) { x.Trans = trans(-api.MaxTime-1, 1) }, api.ErrRange}, {func(x *api.Table) { x.Trans = trans(-api.MaxTime, 1, api.MaxTime, 0) }, api.OK}, {func(x *api.Table) { x.Trans = nil }, api.ErrNone},
		{func(x *api.Table) {
			x.Types, x.Trans = append(x.Types, api.Local{Abbr: "UTC"}), trans(1, 2, 2, 1, 3, 0)
		}, api.ErrOrder}, {func(x *api.Table) {
			x.Types, x.Trans = append(x.Types, api.Local{Abbr: "UTC"}), trans(1, 1, 2, 2, 3, 0)
		}, api.OK},
		{func(x *api.Table) { x.Footer = "BST-1" }, api.ErrLast}, {func(x *api.Table) { x.Footer = "x" }, api.ErrForm}, {func(x *api.Table) { x.Footer = "" }, api.ErrForm}, {func(x *api.Table) { x.Footer = strings.Repeat("x", 101) }, api.ErrLong},
		{func(x *api.Table) { x.Footer = "GMT0BST,M3.5.0/1,M10.5.0" }, api.OK}, {func(x *api.Table) { x.Footer = "GMT0BST,0/0,J365/23" }, api.ErrLast}, {func(x *api.Table) { x.Footer, x.Trans = "XXX0BST,0/0,J365/25", trans(100, 1) }, api.OK},
		{func(x *api.Table) { x.Types, x.Trans = x.Types[:1], nil }, api.OK}, {func(x *api.Table) { x.Types, x.Trans, x.Footer = x.Types[:1], nil, "GMT0BST,0/0,J365/25" }, api.ErrLast}, {func(x *api.Table) { x.Footer = "UTC0" }, api.ErrLast},
		{func(x *api.Table) { *x = wide(254) }, api.OK}, {func(x *api.Table) { *x = wide(255) }, api.ErrMany}, {func(x *api.Table) { *x = worded(51) }, api.OK}, {func(x *api.Table) { *x = worded(52) }, api.ErrMany},
		// The order of the conditions.
		{func(x *api.Table) { *x = wide(255); x.Types[0].Off = 1 << 40 }, api.ErrMany}, {func(x *api.Table) { x.Types[0] = api.Local{Off: 1 << 40}; x.Types[1].Abbr = "" }, api.ErrRange},
		{func(x *api.Table) { x.Types[0].Abbr = ""; x.Types[1].Off = 1 << 40 }, api.ErrFormat}, {func(x *api.Table) { *x = worded(52); x.Trans[0].At = 1 << 62 }, api.ErrMany},
		{func(x *api.Table) { x.Trans[0].Type = 5; x.Trans[1].At = 0 }, api.ErrArg}, {func(x *api.Table) {
			x.Trans = trans(1, 1)
			x.Types = append(x.Types, api.Local{Abbr: "UTC"})
			x.Footer = ""
		}, api.ErrNone},
		{func(x *api.Table) { x.Trans = trans(-1<<63, 1) }, api.ErrRange},
	} {
		table := example()
		x.change(&table)
		if e := Check(table); e != x.of {
			t.Error(i, e)
		}
		if s, e := Text(table); e != x.of || (s == "") != (e != api.OK) {
			t.Error(i, s, e)
		}
	}
}

func TestP40_2Of(t *testing.T) {
	for i, x := range []struct {
		first  api.Local
		at     []int64
		l      []api.Local
		footer string
		want   api.Table
		of     api.Errno
	}{
		{gmt, []int64{50, 100, 150, 200}, []api.Local{gmt, bst, bst, gmt}, "GMT0", example(), api.OK}, {gmt, nil, nil, "GMT0", api.Table{Types: []api.Local{gmt}, Footer: "GMT0"}, api.OK},
		{gmt, []int64{1}, nil, "GMT0", api.Table{}, api.ErrArg}, {gmt, nil, []api.Local{gmt}, "x", api.Table{}, api.ErrArg}, {gmt, nil, nil, "BST-1", api.Table{}, api.ErrLast},
		{gmt, []int64{5, 4}, []api.Local{bst, gmt}, "GMT0", api.Table{}, api.ErrOrder}, {gmt, []int64{5, 4, 6}, []api.Local{bst, bst, gmt}, "GMT0", api.Table{Types: []api.Local{gmt, bst}, Trans: trans(5, 1, 6, 0), Footer: "GMT0"}, api.OK},
		{api.Local{}, nil, nil, "GMT0", api.Table{}, api.ErrFormat}, {gmt, []int64{1, 2}, []api.Local{{Off: 5, Abbr: "UTC"}, gmt}, "GMT0", api.Table{Types: []api.Local{gmt, {Off: 5, Abbr: "UTC"}}, Trans: trans(1, 1, 2, 0), Footer: "GMT0"}, api.OK},
	} {
		got, e := Of(x.first, x.at, x.l, x.footer)
		if !Same(got, x.want) || e != x.of || e != api.OK && !reflect.DeepEqual(got, api.Table{}) {
			t.Error(i, got, e)
		}
	}
}

func TestP40_3Same(t *testing.T) {
	if !Same(example(), example()) || !Same(api.Table{}, api.Table{Types: []api.Local{}, Trans: []api.Trans{}}) {
		t.Error("equal tables")
	}
	for i, change := range []func(*api.Table){
		func(x *api.Table) { x.Types[0].Off++ }, func(x *api.Table) { x.Types = x.Types[1:] }, func(x *api.Table) { x.Trans[1].At++ }, func(x *api.Table) { x.Trans[1].Type++ },
		func(x *api.Table) { x.Trans = nil }, func(x *api.Table) { x.Footer += "x" },
	} {
		x := example()
		change(&x)
		if Same(x, example()) || Same(example(), x) {
			t.Error(i)
		}
	}
}

func TestP40_4Text(t *testing.T) {
	const want = "type 0 0:00 std GMT\ntype 1 1:00 dst BST\nat 100 1\nat 200 0\nfooter GMT0\n"
	if s, e := Text(example()); s != want || e != api.OK {
		t.Error(s, e)
	}
	x := api.Table{Types: []api.Local{{Off: -5400, Abbr: "-0130"}, {Off: 1, Abbr: "ABC"}}, Trans: trans(-5, 1), Footer: "ABC-0:00:01"}
	if s, e := Text(x); s != "type 0 -1:30 std -0130\ntype 1 0:00:01 std ABC\nat -5 1\nfooter ABC-0:00:01\n" || e != api.OK {
		t.Error(s, e)
	}
}

// anyTable returns a table that is right.
func anyTable(r *rand.Rand) api.Table {
	for {
		all := []api.Local{gmt, bst, {Abbr: "UTC"}, {Off: -5400, Abbr: "-0130"}}
		n := r.Intn(6)
		var at []int64
		var l []api.Local
		now := r.Int63n(1000) - 1000
		for range n {
			now += 1 + r.Int63n(3)*int64(r.Intn(2)*1000)
			at, l = append(at, now), append(l, all[r.Intn(4)])
		}
		if x, e := Of(all[r.Intn(4)], at, l, []string{"GMT0", "UTC0", "<-0130>1:30", "GMT0BST,M3.5.0/1,M10.5.0"}[r.Intn(4)]); e == api.OK {
			return x
		}
	}
}

func TestP40_5And6BackAndTexts(t *testing.T) {
	r := rand.New(rand.NewSource(40))
	seen := map[string]api.Table{}
	for range 3000 {
		x := anyTable(r)
		var at []int64
		var l []api.Local
		for i, trans := range x.Trans {
			at, l = append(at, trans.At), append(l, x.Types[trans.Type])
			if i+1 < len(x.Trans) && x.Trans[i+1].At > trans.At+1 && r.Intn(2) > 0 {
				at, l = append(at, trans.At+1), append(l, x.Types[trans.Type])
			}
		}
		back, e := Of(x.Types[0], at, l, x.Footer)
		if !Same(back, x) || e != api.OK {
			t.Fatal(x, back, e)
		}
		s, e := Text(x)
		if other, ok := seen[s]; ok && !Same(other, x) || e != api.OK {
			t.Fatal(s, e)
		}
		seen[s] = x
	}
	if len(seen) < 100 {
		t.Error(len(seen))
	}
}
