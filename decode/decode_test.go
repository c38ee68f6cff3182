package decode

import (
	"fmt"
	"math/rand"
	"reflect"
	"testing"

	"analemma/api"
	"analemma/table"
	"analemma/tzif"
)

func plain() api.Table {
	return api.Table{Types: []api.Local{{Abbr: "GMT"}}, Footer: "GMT0"}
}

// anyTable returns a table that is right.
func anyTable(r *rand.Rand) api.Table {
	all := []api.Local{{Abbr: "GMT"}, {Off: 3600, Dst: true, Abbr: "BST"}, {Off: -5400, Abbr: "-0130"}, {Off: 7, Abbr: "AGMT"}}
	for i := range 250 {
		all = append(all, api.Local{Off: int64(i), Abbr: fmt.Sprint("AA", i%9), Dst: i%2 > 0})
	}
	for {
		var at []int64
		var l []api.Local
		now := r.Int63n(1<<40) - 1<<40
		most := []int{4, len(all)}[r.Intn(2)]
		for range r.Intn(300) {
			now += 1 + r.Int63n(1<<30)
			at, l = append(at, now), append(l, all[r.Intn(most)])
		}
		if len(l) > 0 {
			l[len(l)-1] = all[0]
		}
		if x, e := table.Of(all[0], at, l, []string{"GMT0", "GMT0BST,M3.5.0/1,M10.5.0", "GMT0BST,M3.5.0/-1,M10.5.0/30"}[r.Intn(3)]); e == api.OK {
			return x
		}
	}
}

func encode(t *testing.T, x api.Table, version int) []byte {
	t.Helper()
	b, e := tzif.Encode(x, version)
	if e != api.OK {
		t.Fatal(e)
	}
	return b
}

// refused checks that bytes are no TZif data.
func refused(t *testing.T, what any, b []byte) {
	t.Helper()
	if x, version, e := Decode(b); !reflect.DeepEqual(x, api.Table{}) || version != 0 || e != api.ErrData {
		t.Error(what, x, version, e)
	}
}

func TestP43_1Decode(t *testing.T) {
	b := encode(t, plain(), 2)
	if x, version, e := Decode(b); !table.Same(x, plain()) || version != 2 || e != api.OK {
		t.Error(x, version, e)
	}
	three := append([]byte{}, b...)
	three[4], three[55] = '3', '3'
	if x, version, e := Decode(three); !table.Same(x, plain()) || version != 3 || e != api.OK {
		t.Error(x, version, e)
	}
	three[4] = '2'
	refused(t, "two versions", three)
	three[4], three[55] = '1', '1'
	refused(t, "version 1", three)
	three[4], three[55] = '5', '5'
	refused(t, "version 5", three)
	refused(t, "a byte less", b[:len(b)-1])
	refused(t, "a byte more", append(b[:len(b):len(b)], 0))
	refused(t, "a line more", append(b[:len(b):len(b)], '\n'))
	refused(t, "none", nil)
	refused(t, "zeros", make([]byte, 44))
	refused(t, "more zeros", make([]byte, 200))
	other := append([]byte{}, b...)
	other[0] = 't'
	refused(t, "t", other)
	// Counts that are too great, or below 0.
	for at := 71; at < 95; at += 4 {
		for _, count := range [][]byte{{127, 255, 255, 255}, {255, 255, 255, 255}, {128, 0, 0, 0}, {0, 0, 0, 9}} {
			other := append([]byte{}, b...)
			copy(other[at:], count)
			refused(t, at, other)
		}
	}
}

func TestP43_2And4BackAndVersions(t *testing.T) {
	r := rand.New(rand.NewSource(43))
	for range 300 {
		x := anyTable(r)
		least, _ := tzif.Version(x)
		for version := least; version <= 4; version++ {
			if got, v, e := Decode(encode(t, x, version)); !table.Same(got, x) || v != version || e != api.OK {
				t.Fatal(x, got, v, e)
			}
		}
	}
}

func TestP43_3Strict(t *testing.T) {
	r := rand.New(rand.NewSource(433))
	accepted := 0
	for range 300 {
		b := encode(t, anyTable(r), 4)
		for range 20 {
			c := append([]byte{}, b...)
			switch r.Intn(4) {
			case 0:
				refused(t, "cut", c[:r.Intn(len(c))])
				continue
			case 1:
				refused(t, "more", append(c, byte(r.Intn(256))))
				continue
			case 2:
				c[r.Intn(len(c))] ^= byte(1 + r.Intn(255))
			default:
				c[len(c)-1-r.Intn(min(len(c), 40))] = byte(r.Intn(256))
			}
			x, version, e := Decode(c)
			if e == api.OK && string(encode(t, x, version)) != string(c) {
				t.Fatalf("%q", c)
			}
			if e == api.OK {
				accepted++
			}
		}
	}
	if accepted < 100 {
		t.Error(accepted)
	}
}
