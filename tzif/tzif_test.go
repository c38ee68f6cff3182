package tzif

import (
	"bytes"
	"encoding/binary"
	"fmt"
	"math/rand"
	"strings"
	"testing"
	"time"

	"analemma/api"
	"analemma/pool"
	"analemma/table"
)

var (
	gmt = api.Local{Abbr: "GMT"}
	bst = api.Local{Off: 3600, Dst: true, Abbr: "BST"}
)

func plain(footer string) api.Table { return api.Table{Types: []api.Local{gmt}, Footer: footer} }

func central(footer string) api.Table {
	return api.Table{Types: []api.Local{{Off: 3600, Abbr: "CET"}}, Footer: footer}
}

func TestP42_1Version(t *testing.T) {
	for footer, want := range map[string]int{
		"CET-1CEST,M3.5.0/-1,M10.5.0/3": 3, "CET-1CEST,M3.5.0/25,M10.5.0/3": 3, "CET-1CEST,M3.5.0/24,M10.5.0/3": 2, "CET-1CEST,M3.5.0,M10.5.0/24:59:59": 2, "CET-1CEST,M3.5.0,M10.5.0/25": 3,
		"CET-1CEST,M3.5.0/0,M10.5.0/-0:00:01": 3, "CET-1CEST,M3.5.0/0,M10.5.0/0": 2, "CET-1": 2,
	} {
		if n, e := Version(central(footer)); n != want || e != api.OK {
			t.Error(footer, n, e)
		}
	}
	if n, e := Version(plain("GMT0")); n != 2 || e != api.OK {
		t.Error(n, e)
	}
	for of, x := range map[api.Errno]api.Table{api.ErrNone: {}, api.ErrForm: plain("x"), api.ErrLast: plain("UTC0")} {
		if n, e := Version(x); n != 0 || e != of {
			t.Error(n, e)
		}
		if b, e := Encode(x, 9); b != nil || e != of {
			t.Error(b, e)
		}
	}
}

func TestP42_2Encode(t *testing.T) {
	zeros := func(n int) string { return strings.Repeat("\x00", n) }
	head := func(types, abbrs byte) string {
		return "TZif2" + zeros(15) + zeros(16) + "\x00\x00\x00" + string([]byte{types}) + "\x00\x00\x00" + string([]byte{abbrs})
	}
	want := head(1, 1) + zeros(7) + head(1, 4) + zeros(6) + "GMT\x00\nGMT0\n"
	if b, e := Encode(plain("GMT0"), 2); string(b) != want || len(b) != 111 || e != api.OK {
		t.Errorf("%q %v", b, e)
	}
	x := api.Table{Types: []api.Local{gmt, bst, {Off: -1, Abbr: "AGMT"}}, Trans: []api.Trans{{At: -2, Type: 1}, {At: 258, Type: 2}, {At: 300, Type: 0}}, Footer: "GMT0"}
	b, e := Encode(x, 4)
	body := "\xff\xff\xff\xff\xff\xff\xff\xfe" + zeros(6) + "\x01\x02" + zeros(6) + "\x01\x2c" + "\x01\x02\x00" + zeros(4) + "\x00\x01" + "\x00\x00\x0e\x10\x01\x05" + "\xff\xff\xff\xff\x00\x00" + "AGMT\x00BST\x00\nGMT0\n"
	if string(b[95:]) != body || b[4] != '4' || b[55] != '4' || e != api.OK {
		t.Errorf("%q %v", b[95:], e)
	}
	for _, version := range []int{1, 5, 0, -1, 1 << 40} {
		if b, e := Encode(plain("GMT0"), version); b != nil || e != api.ErrVersion {
			t.Error(version, b, e)
		}
	}
	if b, e := Encode(central("CET-1CEST,M3.5.0/-1,M10.5.0/3"), 2); b != nil || e != api.ErrVersion {
		t.Error(b, e)
	}
}

// anyTable returns a table that is right, with some types.
func anyTable(r *rand.Rand) api.Table {
	n := 1 + r.Intn(254)
	x := api.Table{Footer: "AAA0"}
	now := int64(-1 << 40)
	for i := range n {
		abbr := fmt.Sprint("AAA"[:3-r.Intn(2)], r.Intn(3))
		if i == 0 {
			abbr = "AAA"
		}
		x.Types = append(x.Types, api.Local{Off: int64(i) * int64(1-2*(i%2)), Abbr: abbr, Dst: r.Intn(2) > 0 && i > 0})
		if i > 0 {
			now += 1 + r.Int63n(1<<33)
			x.Trans = append(x.Trans, api.Trans{At: now, Type: i})
		}
	}
	if n > 1 {
		x.Trans = append(x.Trans, api.Trans{At: now + 5})
	}
	return x
}

func TestP42_3To5SizesVersionsAndParts(t *testing.T) {
	r := rand.New(rand.NewSource(42))
	for range 300 {
		x := anyTable(r)
		if e := table.Check(x); e != api.OK {
			t.Fatal(x, e)
		}
		b, e := Encode(x, 2)
		var abbrs []string
		for _, local := range x.Types {
			abbrs = append(abbrs, local.Abbr)
		}
		pooled, _, _ := pool.Abbrs(abbrs)
		if len(b) != 95+9*len(x.Trans)+6*len(x.Types)+len(pooled)+len(x.Footer)+2 || e != api.OK {
			t.Fatal(len(b), e)
		}
		for version := 3; version <= 4; version++ {
			c, e := Encode(x, version)
			c[4], c[55] = '2', '2'
			if !bytes.Equal(b, c) || e != api.OK {
				t.Fatal(version, e)
			}
		}
		n, types := len(x.Trans), 95+9*len(x.Trans)
		for i, trans := range x.Trans {
			if int64(binary.BigEndian.Uint64(b[95+8*i:])) != trans.At || int(b[95+8*n+i]) != trans.Type {
				t.Fatal(i)
			}
		}
		for i, local := range x.Types {
			at := b[types+6*i:]
			abbr := string(b[types+6*len(x.Types)+int(at[5]):])
			if int32(binary.BigEndian.Uint32(at)) != int32(local.Off) || (at[4] == 1) != local.Dst || abbr[:strings.IndexByte(abbr, 0)] != local.Abbr {
				t.Fatal(i, local)
			}
		}
	}
}

func TestP42_6Different(t *testing.T) {
	r := rand.New(rand.NewSource(426))
	seen := map[string]api.Table{}
	for range 300 {
		x := anyTable(r)
		if r.Intn(2) > 0 && len(x.Types) > 1 {
			x.Types[1].Dst = !x.Types[1].Dst
		}
		b, _ := Encode(x, 2)
		if other, ok := seen[string(b)]; ok && !table.Same(x, other) {
			t.Fatal(x, other)
		}
		seen[string(b)] = x
	}
}

// TestOtherReader asks the time package whether it reads the data in the same way.
func TestOtherReader(t *testing.T) {
	x := api.Table{Types: []api.Local{{Off: 1000, Abbr: "LMT"}, {Off: 3600, Abbr: "CET"}, {Off: 7200, Dst: true, Abbr: "CEST"}}, Trans: []api.Trans{{At: 0, Type: 1}, {At: 100, Type: 2}, {At: 200, Type: 1}}, Footer: "CET-1CEST,M3.5.0,M10.5.0/3"}
	b, e := Encode(x, 2)
	zone, err := time.LoadLocationFromTZData("X", b)
	if e != api.OK || err != nil {
		t.Fatal(e, err)
	}
	for n, want := range map[int64]api.Local{0: x.Types[1], 100: x.Types[2], 200: x.Types[1], 1711846800: x.Types[2], 1711846799: x.Types[1]} {
		if abbr, off := time.Unix(n, 0).In(zone).Zone(); abbr != want.Abbr || int64(off) != want.Off {
			t.Error(n, abbr, off)
		}
	}
}
