// Package sample makes texts that are accepted in vanguard form. It serves the tests of several layers.
package sample

import (
	"strconv"
	"strings"
)

// maker writes a text; equal numbers lead to equal texts.
type maker struct {
	text   strings.Builder
	number uint64
}

// Text returns a text with three sets, some zones and some links, which is another one for another number.
func Text(number uint64) string {
	m := &maker{number: number*2654435769 + 12345}
	m.set("Plus", "1:00", "1:00")
	m.set("Minus", "-"+m.one("1:00", "0:30", "2:00"), "")
	m.set("Many", "1:00", "2:00")
	zones := 1 + m.below(3)
	for i := range zones {
		m.zone("Area/Z" + strconv.Itoa(i))
	}
	for i := range m.below(4) {
		m.write("Link ", m.one("Area/Z0", "Area/Z"+strconv.Itoa(m.below(zones)), "L0"), " ", "L"+strconv.Itoa(i), "\n")
	}
	// A link of L0 to itself is none.
	return strings.Replace(m.text.String(), "Link L0 L0\n", "Link Area/Z0 L0\n", 1)
}

// below returns a number from 0 to n - 1.
func (m *maker) below(n int) int {
	m.number = m.number*6364136223846793005 + 1442695040888963407
	return int(m.number>>33) % n
}

// one returns one of some strings.
func (m *maker) one(of ...string) string { return of[m.below(len(of))] }

func (m *maker) write(parts ...string) {
	for _, s := range parts {
		m.text.WriteString(s)
	}
}

// set writes the rules of a set with a save, and sometimes with another one instead, if it is not empty.
func (m *maker) set(name, save, instead string) {
	year := 1905 + m.below(20)
	for range 1 + m.below(3) {
		first := year
		year += m.below(9)
		m.year(name, strconv.Itoa(first), strconv.Itoa(year), save, instead, m.one("lastSun", "lastFri", "Sun>=8", "Mon>=5", "Sat<=20", "17"))
		year += 1 + m.below(12)
	}
	if m.below(3) > 0 {
		year = 1975 + m.below(30)
		m.year(name, strconv.Itoa(year), "max", save, "", m.one("lastSun", "Sun>=1", "Tue>=15", "Fri>=22", "11"))
	}
}

// year writes the two rules of some years.
func (m *maker) year(name, from, to, save, instead, day string) {
	if instead != "" && m.below(3) == 0 {
		save = instead
	}
	times := []string{"0:00", "2:00", "24:00", "25:30", "-1:00", "3:00:30"}
	rule := func(month, save, letter string) {
		m.write("Rule ", name, " ", from, " ", to, " - ", month, " ", day, " ", m.one(times...), m.one("", "s", "u"), " ", save, " ", letter, "\n")
	}
	rule(m.one("Mar", "Apr", "May"), save, "S")
	rule(m.one("Aug", "Sep", "Oct"), "0", "-")
}

// zone writes a zone; its eras end far from all events.
func (m *maker) zone(name string) {
	m.write("Zone ", name, " ", m.one("-0:25:21", "1:02:03", "0", "7"), " - LMT 18", strconv.Itoa(60+m.below(39)), "\n")
	year := 1900
	for range m.below(5) {
		year += 2 + m.below(25)
		m.era()
		m.write(" ", strconv.Itoa(year), " ", m.one("Jan 12", "Jun Sun>=15", "Dec 3", "Jun lastMon", "Dec 9"), m.one("", " 2:00s", " 1:00u", " 0:30", "")+"\n")
	}
	m.era()
	m.write("\n")
}

// era writes an era without its end.
func (m *maker) era() {
	m.write("\t", m.one("-11", "-3:30", "0", "1", "5:45", "12"), " ")
	switch m.below(6) {
	case 0:
		m.write("- ", m.one("%z", "GMT", "ABCDEF"))
	case 1:
		m.write(m.one("1:00", "0:20"), " ", m.one("%z", "BST", "CET/CEST"))
	case 2:
		m.write("Many ", m.one("CE%sT", "CET/CEST", "XXX"))
	case 3:
		m.write("Plus ", m.one("CE%sT", "%z", "CET/CEST", "%sABC"))
	default:
		m.write("Minus ", m.one("%z", "IST/GMT", "GM%sT"))
	}
}
