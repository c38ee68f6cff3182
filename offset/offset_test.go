package offset

import (
	"fmt"
	"regexp"
	"testing"

	"analemma/api"
)

func TestP4_1Parse(t *testing.T) {
	for s, want := range map[string]int64{
		"0": 0, "1": 3600, "1:30": 5400, "-1:30": -5400, "0:00:01": 1, "-0:00:01": -1, "0:00": 0, "0:00:00": 0,
		"167:59:59": 604799, "-167:59:59": -604799, "10": 36000, "100:00": 360000, "-0:59": -3540, "24": 86400, "9:05:07": 32707,
	} {
		if x, e := Parse(s); x != want || e != api.OK {
			t.Error(s, x, e)
		}
	}
	for _, s := range []string{"168", "999:59:59", "-168", "168:00", "-999", "999"} {
		if x, e := Parse(s); x != 0 || e != api.ErrRange {
			t.Error(s, x, e)
		}
	}
	for _, s := range []string{
		"", "-", "-0", "-0:00", "-0:00:00", "01", "1:5", "1:60", "1:00:", "+1", "1000", "1:00:00:00", "00", "1:", ":30", "1:000",
		"1:00:60", "1:00:5", "1:0a", "1 ", " 1", "--1", "1-", "1:00x", "1.5", "1000000000000000000000000000", "1:00:00:", "1::00", "a",
		"٣", "1:00:00 ", "1:00\n", "012:00", "000",
	} {
		if x, e := Parse(s); x != 0 || e != api.ErrForm {
			t.Error(s, x, e)
		}
	}
}

func TestP4_2Print(t *testing.T) {
	for x, want := range map[int64]string{
		0: "0:00", 3600: "1:00", -5400: "-1:30", 1: "0:00:01", -604799: "-167:59:59", 604799: "167:59:59", -1: "-0:00:01", 60: "0:01",
		36000: "10:00", 32707: "9:05:07", 86400: "24:00",
	} {
		if s, e := Print(x); s != want || e != api.OK {
			t.Error(x, s, e)
		}
	}
	for _, x := range []int64{604800, -604800, -1 << 63, 1<<63 - 1} {
		if s, e := Print(x); s != "" || e != api.ErrRange {
			t.Error(x, s, e)
		}
	}
}

func TestP4_3Back(t *testing.T) {
	seen := map[string]bool{}
	for x := int64(-api.MaxClock); x <= api.MaxClock; x++ {
		if x%7 != 0 && x%60 != 0 && x > -api.MaxClock+4000 && x < api.MaxClock-4000 {
			continue
		}
		s, e := Print(x)
		if e != api.OK || seen[s] {
			t.Fatal(x, s, e)
		}
		seen[s] = true
		if y, e := Parse(s); y != x || e != api.OK {
			t.Fatal(x, s, y, e)
		}
	}
}

func TestP4_4TheSameString(t *testing.T) {
	canonical := regexp.MustCompile(`^-?\d+:\d\d(:(0[1-9]|[1-5]\d))?$`)
	for _, sign := range []string{"", "-"} {
		for _, hours := range []int{0, 1, 9, 10, 99, 100, 167} {
			for _, behind := range []string{"", ":00", ":01", ":59", ":00:00", ":30:00", ":00:01", ":30:59"} {
				s := fmt.Sprint(sign, hours, behind)
				x, e := Parse(s)
				if e != api.OK {
					continue
				}
				p, e := Print(x)
				if e != api.OK || (p == s) != canonical.MatchString(s) || len(p) == len(s) && p != s {
					t.Error(s, x, p, e)
				}
			}
		}
	}
}
