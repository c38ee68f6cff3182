package pool

import (
	"fmt"
	"math/rand"
	"slices"
	"strings"
	"testing"

	"analemma/api"
)

func TestP39_1Abbrs(t *testing.T) {
	for _, x := range []struct {
		l      []string
		pool   string
		places []int
	}{
		{[]string{"LMT", "GMT", "BST", "GMT"}, "LMT.GMT.BST.", []int{0, 4, 8, 4}}, {[]string{"EST", "CEST", "WEST", "ST"}, "CEST.WEST.", []int{1, 0, 5, 2}}, {[]string{"+01", "+0130"}, "+0130.+01.", []int{6, 0}},
		{nil, "", nil}, {[]string{"\xff", "é "}, "é .\xff.", []int{4, 0}}, {[]string{"B", "AB", "B", "CB"}, "AB.CB.", []int{1, 0, 1, 3}}, {[]string{strings.Repeat("x", 254)}, strings.Repeat("x", 254) + ".", []int{0}},
		{[]string{"AB", "ABA", "A"}, "ABA.AB.", []int{4, 0, 2}},
	} {
		pool, places, e := Abbrs(x.l)
		if strings.ReplaceAll(pool, "\x00", ".") != x.pool || !slices.Equal(places, x.places) || e != api.OK {
			t.Errorf("%q: %q %v %v", x.l, pool, places, e)
		}
	}
	var many []string
	for i := range 52 {
		many = append(many, fmt.Sprintf("A%c%cB", 'A'+i/26, 'A'+i%26))
	}
	if pool, _, e := Abbrs(many[:51]); len(pool) != 255 || e != api.OK {
		t.Error(len(pool), e)
	}
	for i, x := range []struct {
		l  []string
		of api.Errno
	}{
		{[]string{""}, api.ErrArg}, {[]string{"A", "B\x00"}, api.ErrArg}, {many, api.ErrMany}, {append(many, ""), api.ErrArg}, {[]string{strings.Repeat("x", 255)}, api.ErrMany}, {[]string{"\x00"}, api.ErrArg},
		{[]string{strings.Repeat("x", 1000), "A"}, api.ErrMany},
	} {
		if pool, places, e := Abbrs(x.l); pool != "" || places != nil || e != x.of {
			t.Error(i, pool, places, e)
		}
	}
}

func TestP39_2Types(t *testing.T) {
	a, b, c := api.Local{Off: 1, Abbr: "A"}, api.Local{Off: 1, Dst: true, Abbr: "A"}, api.Local{Off: 2, Abbr: "A"}
	types, indexes := Types([]api.Local{a, b, a, c, b, {Off: 1, Abbr: "B"}})
	if !slices.Equal(types, []api.Local{a, b, c, {Off: 1, Abbr: "B"}}) || !slices.Equal(indexes, []int{0, 1, 0, 2, 1, 3}) {
		t.Error(types, indexes)
	}
	if types, indexes := Types(nil); len(types) != 0 || len(indexes) != 0 {
		t.Error(types, indexes)
	}
}

// anyList returns a list of short strings, many of which are ends of others.
func anyList(r *rand.Rand) []string {
	l := make([]string, r.Intn(12))
	for i := range l {
		l[i] = "ABABBA"[r.Intn(4):][:1+r.Intn(2)] + "ABB"[:r.Intn(3)]
	}
	return l
}

func TestP39_3To5Properties(t *testing.T) {
	r := rand.New(rand.NewSource(39))
	for range 20000 {
		l := anyList(r)
		pool, places, e := Abbrs(l)
		if e != api.OK || len(places) != len(l) {
			t.Fatal(l, e)
		}
		bytes := 0
		seen := map[string]bool{}
		for i, s := range l {
			if n := strings.IndexByte(pool[places[i]:], 0); pool[places[i]:places[i]+n] != s || strings.Index(pool, s+"\x00") != places[i] {
				t.Fatalf("%q %q %v", l, pool, places)
			}
			isEnd := slices.ContainsFunc(l, func(other string) bool { return len(other) > len(s) && strings.HasSuffix(other, s) })
			if !seen[s] && !isEnd {
				bytes += len(s) + 1
			}
			seen[s] = true
		}
		r.Shuffle(len(l), func(i, j int) { l[i], l[j] = l[j], l[i] })
		if other, _, _ := Abbrs(l); len(pool) != bytes || len(other) != bytes {
			t.Fatalf("%q %q %q", l, pool, other)
		}
	}
}
