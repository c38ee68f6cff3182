// Package civil is layer 1: civil dates. See shared/doc/01-civil.md.
package civil

import "analemma/api"

// before is how many days of a year with 365 days are in front of each month, and of the next year.
var before = [13]int{0, 31, 59, 90, 120, 151, 181, 212, 243, 273, 304, 334, 365}

const (
	secondsOfDay = 86400
	daysOfCycle  = 146097  // of 400 years
	dayOfMarch0  = -719468 // March 1 of the year 0
	dayOfYear0   = -719528 // January 1 of the year 0
	cycles       = api.MaxCivil / 400
	firstDay     = dayOfYear0 - cycles*daysOfCycle
	lastDay      = dayOfYear0 + cycles*daysOfCycle + 365
)

// Leap reports whether a year has 366 days.
func Leap(y int64) bool {
	return y%4 == 0 && (y%100 != 0 || y%400 == 0)
}

// Len returns how many days a month has.
func Len(y int64, m int) int {
	if m < 1 || m > 12 {
		return 0
	}
	n := before[m] - before[m-1]
	if m == 2 && Leap(y) {
		n++
	}
	return n
}

// Days returns the number of a day: days from January 1 of 1970 on.
func Days(y int64, m, d int) (int64, api.Errno) {
	if y < -api.MaxCivil || y > api.MaxCivil || d < 1 || d > Len(y, m) {
		return 0, api.ErrRange
	}
	// The leap day of y itself counts only behind February.
	past := y - 1
	days := 365*y + floor(past, 4) - floor(past, 100) + floor(past, 400) + 1
	days += int64(before[m-1] + d - 1)
	if m > 2 && Leap(y) {
		days++
	}
	return days + dayOfYear0, api.OK
}

// Date returns the year, the month and the day of the month of a day.
func Date(days int64) (int64, int, int, api.Errno) {
	if days < firstDay || days > lastDay {
		return 0, 0, 0, api.ErrRange
	}
	// Years that begin in March have their leap day at the end.
	since := days - dayOfMarch0
	cycle := floor(since, daysOfCycle)
	inCycle := since - cycle*daysOfCycle
	year := (inCycle - inCycle/1460 + inCycle/36524 - inCycle/146096) / 365
	inYear := inCycle - (365*year + year/4 - year/100)
	m, d := fromMarch(inYear)
	year += cycle * 400
	if m <= 2 {
		year++
	}
	return year, m, d, api.OK
}

// fromMarch returns the month and the day of the month of a day of a year that begins with March 1, the day 0.
func fromMarch(day int64) (int, int) {
	// From March on, each five months have 153 days.
	month := floor(5*day+2, 153)
	first := floor(153*month+2, 5)
	return int((month+2)%12) + 1, int(day-first) + 1
}

// floor returns a quotient, rounded down, for b above 0.
func floor(a, b int64) int64 {
	q := a / b
	if a%b < 0 {
		q--
	}
	return q
}

// Weekday returns the weekday of a day, from 0, Sunday, to 6.
func Weekday(days int64) int {
	// The 7 lifts remainders below 0; the day 0 is a Thursday.
	return int((days%7 + 7 + 4) % 7)
}

// Year returns the year of a second.
func Year(t int64) int64 {
	day := min(max(floor(t, secondsOfDay), firstDay), lastDay)
	y, _, _, _ := Date(day)
	return y
}
