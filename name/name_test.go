package name

import (
	"math/rand"
	"regexp"
	"strings"
	"testing"
)

// expect checks a function against the strings that are names, and those that are not.
func expect(t *testing.T, f func(string) bool, yes, no []string) {
	t.Helper()
	for _, s := range yes {
		if !f(s) {
			t.Errorf("%q is a name", s)
		}
	}
	for _, s := range no {
		if f(s) {
			t.Errorf("%q is no name", s)
		}
	}
}

// bytes checks a function against an expression, for each byte at the beginning and behind it.
func bytes(t *testing.T, f func(string) bool, expression string) {
	t.Helper()
	right := regexp.MustCompile(expression)
	for b := range 256 {
		for _, s := range []string{string([]byte{byte(b)}) + "aa", "a" + string([]byte{byte(b)}) + "a", "aa" + string([]byte{byte(b)})} {
			if f(s) != right.MatchString(s) {
				t.Errorf("%q: %v", s, f(s))
			}
		}
	}
}

const zonePart = `[A-Za-z0-9_+][A-Za-z0-9._+-]{0,13}`

func TestP7_1Zone(t *testing.T) {
	part := strings.Repeat("x", 14)
	four := strings.Repeat(part+"/", 3) + part // 59 bytes
	expect(t, Zone, []string{
		"Europe/Dublin", "Etc/GMT+1", "A", "America/Port-au-Prince", "0", "_a", "+1", "a.b", "a-", "a.", part, four, four[:58] + "/x",
		"A/B/C/D/E/F",
	}, []string{
		"", "/A", "A//B", "A/", ".A", "A/-B", "A B", "Europe/Saint_Petersburg_", "-", ".", "/", "A/.B", part + "x", four + "/", four + "/x", four + "x",
		"A\n", "é", "A\x00", strings.Repeat("A/", 31),
	})
	bytes(t, Zone, `^`+zonePart+`(/`+zonePart+`)*$`)
}

func TestP7_2Set(t *testing.T) {
	thirty := strings.Repeat("x", 30)
	expect(t, Set, []string{"Eire", "C-Eur", "E_2", "a", "Z", thirty, "a-"}, []string{"2E", "-E", "E.U", "", "_E", thirty + "x", "E+", "E/F", "E ", "É"})
	bytes(t, Set, `^[A-Za-z][A-Za-z0-9_-]{0,29}$`)
}

func TestP7_3LetterAndAbbr(t *testing.T) {
	expect(t, Letter, []string{"S", "GMTT", "z", "ab"}, []string{"", "-", "SUMME", "S1", "S ", "é", "\xff"})
	expect(t, Abbr, []string{"GMT", "NZMTST", "abc", "aBcD"}, []string{"GM", "GMTGMTG", "+01", "%z", "", "GM1", "GMT ", "GMé"})
	bytes(t, Letter, `^[A-Za-z]{1,4}$`)
	bytes(t, Abbr, `^[A-Za-z]{3,6}$`)
}

// pick returns a string of some of the characters.
func pick(r *rand.Rand, from string, most int) string {
	b := make([]byte, r.Intn(most+1))
	for i := range b {
		b[i] = from[r.Intn(len(from))]
	}
	return string(b)
}

func TestP7_4Parts(t *testing.T) {
	r := rand.New(rand.NewSource(7))
	for range 50000 {
		a, b := pick(r, "aZ0._+-/", 36), pick(r, "aZ0./", 36)
		if Zone(a) && Zone(b) && Zone(a+"/"+b) != (len(a)+len(b) <= 59) {
			t.Errorf("%q %q", a, b)
		}
		if Zone(a) {
			for _, part := range strings.Split(a, "/") {
				if !Zone(part) {
					t.Errorf("%q in %q", part, a)
				}
			}
		}
	}
	long := strings.Repeat("x/", 14) + "x" // 29 bytes
	if !Zone(long) || !Zone(long+"/"+long+"x") || !Zone(long+"x/"+long) || Zone(long+"x/"+long+"x") {
		t.Error("59 and 60 bytes")
	}
}

func TestP7_5InBetween(t *testing.T) {
	r := rand.New(rand.NewSource(75))
	for range 50000 {
		s := pick(r, "aZb9-", 18)
		if Abbr(s) && len(s) <= 4 && !Letter(s) || Letter(s) && !Set(s) || Set(s) && len(s) <= 14 && !Zone(s) {
			t.Errorf("%q", s)
		}
	}
}
