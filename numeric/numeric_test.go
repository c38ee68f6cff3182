package numeric

import (
	"fmt"
	"math/rand"
	"strings"
	"testing"

	"analemma/api"
)

const (
	least    = -1 << 63
	greatest = 1<<63 - 1
)

func TestP20_1Text(t *testing.T) {
	for off, want := range map[int64]string{
		0: "+00", 3600: "+01", -12600: "-0330", 20700: "+0545", 1: "+000001", -86399: "-235959", 86399: "+235959", 86400: "", -86400: "", least: "", greatest: "",
		-1: "-000001", 60: "+0001", 3601: "+010001", 36000: "+10", 39661: "+110101",
	} {
		if s := Text(off); s != want {
			t.Error(off, s)
		}
	}
}

func TestP20_2Parse(t *testing.T) {
	for s, want := range map[string]int64{"+0545": 20700, "-03": -10800, "+00": 0, "-235959": -86399, "+000001": 1, "+23": 82800} {
		if off, e := Parse(s); off != want || e != api.OK {
			t.Error(s, off, e)
		}
	}
	for _, s := range []string{
		"-00", "+0000", "05", "+5", "+24", "+0060", "+053000", "", "+", "GMT", "%z", "+05/+06", "+0a", "+ 5", "+000000", "-0000", "-000000", "+0100", "+01000", "+010060",
		" +01", "+01 ", "0100", "*01", "+/0", "+05300000", "+\xff\xff", "++1", "+-1", "+1:00", "+24000",
	} {
		if off, e := Parse(s); off != 0 || e != api.ErrForm {
			t.Error(s, off, e)
		}
	}
}

func rules(saves ...int64) []api.Rule {
	var l []api.Rule
	for _, save := range saves {
		l = append(l, api.Rule{Save: save})
	}
	return l
}

func TestP20_3Expansion(t *testing.T) {
	const hour = 3600
	for i, x := range []struct {
		e    api.Era
		l    []api.Rule
		want string
		of   api.Errno
	}{
		{api.Era{Off: 5 * hour}, nil, "+05", api.OK}, {api.Era{Off: 5 * hour}, rules(1, 2), "+05", api.OK}, {api.Era{Off: 5 * hour, Save: 7}, nil, "+05", api.OK},
		{api.Era{Off: 5 * hour, Kind: api.Fixed, Save: hour}, rules(1, 2), "+06", api.OK}, {api.Era{Off: 5 * hour, Kind: api.Named}, rules(0, hour), "+05/+06", api.OK},
		{api.Era{Off: 5 * hour, Kind: api.Named}, rules(0), "+05", api.OK}, {api.Era{Off: 5 * hour, Kind: api.Named}, nil, "+05", api.OK},
		{api.Era{Off: 5 * hour, Kind: api.Named}, rules(-hour, 0, -hour), "+05/+04", api.OK}, {api.Era{Off: 5 * hour, Kind: api.Named}, rules(hour), "+05/+06", api.OK},
		{api.Era{Off: 5 * hour, Kind: api.Named}, rules(0, hour, 2*hour), "", api.ErrSave}, {api.Era{Off: 23*hour + 1800, Kind: api.Named}, rules(0, hour), "", api.ErrRange},
		{api.Era{Off: 24 * hour, Kind: api.Named}, rules(0, -hour), "", api.ErrRange}, {api.Era{Off: 24 * hour, Kind: api.Named}, rules(1, 2), "", api.ErrSave},
		{api.Era{Off: 24 * hour}, nil, "", api.ErrRange}, {api.Era{Off: 24 * hour, Kind: 3}, rules(1, 2), "", api.ErrArg}, {api.Era{Kind: -1}, nil, "", api.ErrArg},
		{api.Era{Off: greatest, Kind: api.Fixed, Save: greatest}, nil, "", api.ErrRange}, {api.Era{Off: least, Kind: api.Fixed, Save: least}, nil, "", api.ErrRange},
		{api.Era{Off: greatest, Kind: api.Fixed, Save: -greatest + 60}, nil, "+0001", api.OK}, {api.Era{Off: 1, Kind: api.Named}, rules(greatest), "", api.ErrRange},
		{api.Era{Off: -1, Kind: api.Named}, rules(least), "", api.ErrRange},
	} {
		if s, e := Expansion(x.e, x.l); s != x.want || e != x.of {
			t.Error(i, s, e)
		}
	}
}

func TestP20_4Different(t *testing.T) {
	seen := map[string]bool{}
	for off := int64(-86399); off <= 86399; off++ {
		s := Text(off)
		if seen[s] || s[0] != '+' && s[0] != '-' || len(s) != 3 && len(s) != 5 && len(s) != 7 {
			t.Fatal(off, s)
		}
		seen[s] = true
		if back, e := Parse(s); back != off || e != api.OK {
			t.Fatal(off, s, back, e)
		}
	}
	// No other string of the same kind is a number.
	for n := range 100000 {
		for _, s := range []string{fmt.Sprintf("+%02d", n%100), fmt.Sprintf("-%04d", n%10000), fmt.Sprintf("+%06d", n*10+n%10)} {
			if _, e := Parse(s); (e == api.OK) != seen[s] {
				t.Fatal(s, e)
			}
		}
	}
}

func TestP20_5Exchanged(t *testing.T) {
	r := rand.New(rand.NewSource(20))
	for range 5000 {
		off, x := r.Int63n(120000)-60000, r.Int63n(21601)-10800
		if x == 0 {
			continue
		}
		a, e := Expansion(api.Era{Off: off, Kind: api.Named}, rules(0, x))
		b, f := Expansion(api.Era{Off: off + x, Kind: api.Named}, rules(-x, 0))
		front, behind, _ := strings.Cut(a, "/")
		if e != api.OK || f != api.OK || b != behind+"/"+front {
			t.Fatal(off, x, a, b, e, f)
		}
	}
}
