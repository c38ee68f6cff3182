package posix

import (
	"math/rand"
	"strings"
	"testing"

	"analemma/api"
	"analemma/civil"
)

const cycle = 146097 * 86400

func month(m, w, d int, sec int64) api.Date {
	return api.Date{Kind: api.DateMonth, Month: m, Week: w, Day: d, Sec: sec}
}

func julian(d int, sec int64) api.Date { return api.Date{Kind: api.DateJulian, Day: d, Sec: sec} }

func zero(d int, sec int64) api.Date { return api.Date{Kind: api.DateZero, Day: d, Sec: sec} }

// central returns the TZ of central Europe.
func central() api.Posix {
	return api.Posix{Std: "CET", StdOff: 3600, Dst: "CEST", DstOff: 7200, Start: month(3, 5, 0, 7200), End: month(10, 5, 0, 10800)}
}

func TestP37_1CheckAndPrint(t *testing.T) {
	for want, p := range map[string]api.Posix{
		"CET-1CEST,M3.5.0,M10.5.0/3": central(), "CET-1": {Std: "CET", StdOff: 3600}, "<+05>-5": {Std: "+05", StdOff: 18000},
		"IST-1GMT0,M10.5.0,M3.3.0":                                     {Std: "IST", StdOff: 3600, Dst: "GMT", Start: month(10, 5, 0, 7200), End: month(3, 3, 0, 7200)},
		"<-0330>3:30<A1b>2:29:59,J1/0,J365/-0:30":                      {Std: "-0330", StdOff: -12600, Dst: "A1b", DstOff: -8999, Start: julian(1, 0), End: julian(365, -1800)},
		"XXX3EDT4,0/0,J365/23":                                         {Std: "XXX", StdOff: -10800, Dst: "EDT", DstOff: -14400, Start: zero(0, 0), End: julian(365, 82800)},
		"ABC24:59:59ABCDEFG-24:59:59,365/167:59:59,M12.1.6/-167:59:59": {Std: "ABC", StdOff: -89999, Dst: "ABCDEFG", DstOff: 89999, Start: zero(365, 604799), End: month(12, 1, 6, -604799)},
		"GMT0": {Std: "GMT"}, "UTC0:00:01": {Std: "UTC", StdOff: -1}, "ABC0DEF,M1.1.0/10,J60/0:01": {Std: "ABC", Dst: "DEF", DstOff: 3600, Start: month(1, 1, 0, 36000), End: julian(60, 60)},
	} {
		if s, e := Print(p); s != want || e != api.OK || Check(p) != api.OK {
			t.Error(p, s, e, want)
		}
	}
	for i, change := range []func(*api.Posix){
		func(p *api.Posix) { p.Std = "CE" }, func(p *api.Posix) { p.Std = "ABCDEFGH" }, func(p *api.Posix) { p.Std = "C_T" }, func(p *api.Posix) { p.Std = "" },
		func(p *api.Posix) { p.StdOff = 90000 }, func(p *api.Posix) { p.StdOff = -1 << 63 }, func(p *api.Posix) { p.Dst = "CE" }, func(p *api.Posix) { p.Dst = "" },
		func(p *api.Posix) { p.DstOff = -90000 }, func(p *api.Posix) { p.Dst, p.DstOff, p.Start = "", 0, api.Date{} },
		func(p *api.Posix) { *p = api.Posix{Std: "CET", DstOff: 1} }, func(p *api.Posix) { p.Start = api.Date{} }, func(p *api.Posix) { p.Start.Kind = 4 },
		func(p *api.Posix) { p.Start.Sec = 604800 }, func(p *api.Posix) { p.End.Sec = -604800 }, func(p *api.Posix) { p.Start.Month = 0 }, func(p *api.Posix) { p.Start.Month = 13 },
		func(p *api.Posix) { p.End.Week = 0 }, func(p *api.Posix) { p.End.Week = 6 }, func(p *api.Posix) { p.End.Day = 7 }, func(p *api.Posix) { p.End.Day = -1 },
		func(p *api.Posix) { p.End = julian(0, 0) }, func(p *api.Posix) { p.End = julian(366, 0) }, func(p *api.Posix) { p.End = zero(366, 0) }, func(p *api.Posix) { p.End = zero(-1, 0) },
		func(p *api.Posix) { p.End = julian(5, 0); p.End.Month = 1 }, func(p *api.Posix) { p.End = julian(5, 0); p.End.Week = 1 }, func(p *api.Posix) { p.End = zero(5, 0); p.End.Month = 1 },
		func(p *api.Posix) { p.End = zero(5, 0); p.End.Week = -1 }, func(p *api.Posix) { p.Start.Kind = 0 },
	} {
		p := central()
		change(&p)
		if e := Check(p); e != api.ErrArg {
			t.Error(i, e)
		}
		if s, e := Print(p); s != "" || e != api.ErrArg {
			t.Error(i, s, e)
		}
	}
}

func TestP37_2Parse(t *testing.T) {
	for s, want := range map[string]string{
		"IST-1GMT0,M10.5.0,M3.3.0": "", "CET-1CEST-2:00,M3.5.0/2:00,M10.5.0/3": "CET-1CEST,M3.5.0,M10.5.0/3", "CET-1:00:00": "CET-1", "<CET>-1": "CET-1", "<+05>-5": "", "<123>0": "",
		"CET-1CEST,J1,365": "", "CET-1CEST,J1/2,365/2:00:00": "CET-1CEST,J1,365", "ABC24:59:59": "", "abc0DEF,0/-0:30,J60/167": "", "ABC0<DEF>-1,0,1": "ABC0DEF,0,1", "ABC0DEF0:00,0,1": "ABC0DEF0,0,1",
	} {
		if want == "" {
			want = s
		}
		p, e := Parse(s)
		got, f := Print(p)
		if got != want || e != api.OK || f != api.OK {
			t.Error(s, p, e, got)
		}
	}
	if p, e := Parse("IST-1GMT0,M10.5.0,M3.3.0"); p != (api.Posix{Std: "IST", StdOff: 3600, Dst: "GMT", Start: month(10, 5, 0, 7200), End: month(3, 3, 0, 7200)}) || e != api.OK {
		t.Error(p, e)
	}
	for _, s := range []string{
		"", "CET", "CET-1CEST", "CE-1", "CET+1", "CET-25", "CET-1CEST,M13.1.0,J1", "CET-1CEST,M3.5.0", "CET-1CEST,M3.5.0,", "CET-1CEST,M3.5.0,M10.5.0/3,", "CET-1CEST,M3.5.0,M10.5.0/", "-1", "<CET-1",
		"<>0", "<AB>0", "<A_B>0", "ABCDEFGH0", "CET-1 ", " CET-1", "CET-1CEST,J0,J1", "CET-1CEST,J01,J1", "CET-1CEST,J366,J1", "CET-1CEST,366,J1", "CET-1CEST,M03.5.0,J1", "CET-1CEST,M3.0.0,J1", "CET-1CEST,M3.6.0,J1",
		"CET-1CEST,M3.5.7,J1", "CET-1CEST,M3.5,J1", "CET-1CEST,m3.5.0,J1", "CET-1CEST,J,J1", "CET-1CEST,J1/168,J2", "CET-1CEST,J1/02,J2", "CET-1CEST,J1/,J2", "CET-1CEST,,", "CET-01", "CET--1", "CET-0", "CET1:60", "CET1:",
		"CET-1CES_T,J1,J2", "CET-24:30CEST,J1,J2", "CET-1CEST-1-1,J1,J2", "CET-1,J1,J2", "ABC1,0/0,0/0", "CET-1CEST,J1,J2\x00", "<+05>", "é0", "CET-1CEST+2,J1,J2", ":CET-1", "CET-1CEST25,J1,J2", "CET-1CEST,J1000,J2",
	} {
		if p, e := Parse(s); p != (api.Posix{}) || e != api.ErrForm {
			t.Errorf("%q: %v %v", s, p, e)
		}
	}
	for n, want := range map[int]api.Errno{100: api.ErrForm, 101: api.ErrLong, 1 << 20: api.ErrLong} {
		if p, e := Parse(strings.Repeat("A", n)); p != (api.Posix{}) || e != want {
			t.Error(n, e)
		}
	}
}

func TestP37_3At(t *testing.T) {
	local := func(s string, n int64) api.Local {
		p, e := Parse(s)
		l, f := At(p, n)
		if e != api.OK || f != api.OK {
			t.Fatal(s, n, e, f)
		}
		return l
	}
	const europe = "CET-1CEST,M3.5.0,M10.5.0/3"
	for _, x := range []struct {
		s    string
		at   int64
		want string
	}{
		{europe, 1711846799, "CET"}, {europe, 1711846800, "CEST"}, {europe, 1729990800 - 1, "CEST"}, {europe, 1729990800, "CET"}, {europe, api.MaxTime, ""}, {europe, -api.MaxTime, ""},
		{"GMT0", 5, "GMT"}, {"XXX3EDT4,0/0,J365/23", 0, "EDT"},
		// The day 60 of J is always March 1, that of zeros February 29 or March 2.
		{"AAA0BBB0,J60/0,J365/0", 1709251200 - 1, "AAA"}, {"AAA0BBB0,J60/0,J365/0", 1709251200, "BBB"}, {"AAA0BBB0,J59/0,J365/0", 1709078400, "BBB"}, {"AAA0BBB0,J59/0,J365/0", 1709078399, "AAA"},
		{"AAA0BBB0,59/0,J365/0", 1709164800, "BBB"}, {"AAA0BBB0,59/0,J365/0", 1709164799, "AAA"}, {"AAA0BBB0,365/0,J300/0", 1704067199, "AAA"}, {"AAA0BBB0,365/0,J300/0", 1704067200, "BBB"},
		// The second, the third and the fourth Friday of March 2024.
		{"AAA0BBB0,M3.2.5/0,J300", 1709856000 - 1, "AAA"}, {"AAA0BBB0,M3.2.5/0,J300", 1709856000, "BBB"}, {"AAA0BBB0,M3.3.5/0,J300", 1710460800 - 1, "AAA"}, {"AAA0BBB0,M3.3.5/0,J300", 1710460800, "BBB"},
		{"AAA0BBB0,M3.4.5/0,J300", 1711065600 - 1, "AAA"}, {"AAA0BBB0,M3.4.5/0,J300", 1711065600, "BBB"}, {"AAA0BBB0,M3.1.5/0,J300", 1709251200 - 1, "AAA"}, {"AAA0BBB0,M3.1.5/0,J300", 1709251200, "BBB"},
		// Both at the same instant.
		{"AAA0BBB0,J60/0,J60/0", 0, "BBB"}, {"AAA0BBB0,J60/0,J60/0", 1709251200, "BBB"}, {"AAA0BBB0,0/0,0/0", 0, "BBB"}, {"AAA0BBB0,J100/0,0/0", 0, "AAA"}, {"AAA0BBB0,0/0:00:01,0/0", 0, "AAA"},
		{"AAA0BBB0,0/-0:00:01,0/0", 0, "AAA"}, {"AAA0BBB0,J200/0,0/0", 1, "AAA"},
		// Times far from their days.
		{"AAA0BBB0,M1.1.0/-167,M7.1.0", 1703635200 + 3600 + 86400*4, "BBB"}, {"AAA0BBB0,M7.1.0,M12.5.6/167", 1704423600 - 86400, "BBB"}, {"AAA0BBB0,M7.1.0,M12.5.6/167", 1704499200, "AAA"},
	} {
		l := local(x.s, x.at)
		if x.want != "" && l.Abbr != x.want {
			t.Error(x, l)
		}
	}
	if l := local("XXX3EDT4,0/0,J365/23", 1700000000); l != (api.Local{Off: -14400, Dst: true, Abbr: "EDT"}) {
		t.Error(l)
	}
	if l := local(europe, 1711846800); l != (api.Local{Off: 7200, Dst: true, Abbr: "CEST"}) {
		t.Error(l)
	}
	if l := local(europe, 0); l != (api.Local{Off: 3600, Abbr: "CET"}) {
		t.Error(l)
	}
	wrong := central()
	wrong.Std = ""
	for _, x := range []struct {
		p  api.Posix
		at int64
		of api.Errno
	}{{wrong, 0, api.ErrArg}, {wrong, 1<<63 - 1, api.ErrArg}, {central(), api.MaxTime + 1, api.ErrRange}, {central(), -api.MaxTime - 1, api.ErrRange}, {central(), -1 << 63, api.ErrRange}} {
		if l, e := At(x.p, x.at); l != (api.Local{}) || e != x.of {
			t.Error(x, l, e)
		}
	}
}

// anyDate returns a date that is right.
func anyDate(r *rand.Rand) api.Date {
	sec := []int64{0, 7200, 3600, -604799, 604799, r.Int63n(1209599) - 604799, 90000}[r.Intn(7)]
	return []api.Date{julian(1+r.Intn(365), sec), zero(r.Intn(366), sec), month(1+r.Intn(12), 1+r.Intn(5), r.Intn(7), sec)}[r.Intn(3)]
}

// anyTZ returns a TZ that is right.
func anyTZ(r *rand.Rand) api.Posix {
	names := []string{"CET", "+05", "-0330", "ABCDEFG", "a1b", "EST5EDT"}
	off := func() int64 { return []int64{0, 3600, -18000, 89999, -89999, r.Int63n(179999) - 89999}[r.Intn(6)] }
	p := api.Posix{Std: names[r.Intn(6)], StdOff: off()}
	if r.Intn(4) > 0 {
		p.Dst, p.DstOff, p.Start, p.End = names[r.Intn(6)], off(), anyDate(r), anyDate(r)
		if r.Intn(2) > 0 && p.StdOff+3600 <= 89999 {
			p.DstOff = p.StdOff + 3600
		}
	}
	return p
}

func TestP37_4Back(t *testing.T) {
	r := rand.New(rand.NewSource(37))
	for range 20000 {
		p := anyTZ(r)
		s, e := Print(p)
		back, f := Parse(s)
		if e != api.OK || f != api.OK || back != p || len(s) > 74 {
			t.Fatal(p, s, back, e, f)
		}
	}
	longest := api.Posix{Std: "+123456", StdOff: 89999, Dst: "-123456", DstOff: 89999, Start: month(12, 5, 6, -604799), End: month(12, 5, 6, -604799)}
	if s, _ := Print(longest); len(s) != 74 {
		t.Error(s, len(s))
	}
}

// slow finds the local time by the begins of many years.
func slow(p api.Posix, n int64) api.Local {
	year := civil.Year(n)
	at, dst := int64(-1<<63), false
	for y := year - 6; y <= year+6; y++ {
		if x := instant(p.End, y, p.DstOff); x <= n && x > at {
			at, dst = x, false
		}
	}
	for y := year - 6; y <= year+6; y++ {
		if x := instant(p.Start, y, p.StdOff); x <= n && x >= at {
			at, dst = x, true
		}
	}
	if p.Dst != "" && dst {
		return api.Local{Off: p.DstOff, Dst: true, Abbr: p.Dst}
	}
	return api.Local{Off: p.StdOff, Abbr: p.Std}
}

func TestP37_5Cycles(t *testing.T) {
	r := rand.New(rand.NewSource(375))
	for range 20000 {
		p := anyTZ(r)
		n := r.Int63n(1<<36) - 1<<35
		if p.Dst != "" && r.Intn(2) > 0 {
			n = instant(p.Start, 1970+r.Int63n(100), p.StdOff) + int64(r.Intn(3)) - 1
		}
		a, e := At(p, n)
		b, f := At(p, n+cycle)
		c, g := At(p, n-1000*cycle)
		if a != b || a != c || a != slow(p, n) || e != api.OK || f != api.OK || g != api.OK {
			t.Fatal(p, n, a, b, c, slow(p, n))
		}
	}
}

func TestP37_6Always(t *testing.T) {
	r := rand.New(rand.NewSource(376))
	for range 300 {
		p := anyTZ(r)
		p.Dst, p.DstOff = "DST", p.StdOff+r.Int63n(21601)-10800
		if max(p.DstOff, -p.DstOff) > 89999 {
			continue
		}
		p.Start, p.End = zero(0, 0), julian(365, 86400+p.DstOff-p.StdOff)
		for range 30 {
			day, _ := civil.Days(1900+r.Int63n(300), 1, 1)
			n := day*86400 + r.Int63n(400000) - 200000
			if l, e := At(p, n); l != (api.Local{Off: p.DstOff, Dst: true, Abbr: "DST"}) || e != api.OK {
				t.Fatal(p, n, l, e)
			}
		}
	}
}
