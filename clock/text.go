package clock

import (
	"strconv"
	"strings"

	"twistlock/api"
)

var weekdays = [7]string{"Mon", "Tue", "Wed", "Thu", "Fri", "Sat", "Sun"}

// Text returns the text of a time.
func Text(time int) (string, api.Errno) {
	if !isTime(time) {
		return "", api.ErrArg
	}
	week, minute := time/WeekMinutes, time%api.DayMinute
	day := weekdays[time%WeekMinutes/api.DayMinute]
	return strconv.Itoa(week) + " " + day + " " + twoDigits(minute/60) + ":" + twoDigits(minute%60), api.OK
}

func twoDigits(n int) string {
	return strconv.Itoa(100 + n)[1:]
}

// Read returns the time that a string writes.
func Read(s string) (int, api.Errno) {
	week, rest, _ := strings.Cut(s, " ")
	day, clock, _ := strings.Cut(rest, " ")
	hour, minute, _ := strings.Cut(clock, ":")
	time := number(week)*WeekMinutes + weekday(day)*api.DayMinute + number(hour)*60 + number(minute)
	// Fields that are wrong may have been read as anything: the text of the time then differs from s.
	if text, e := Text(time); e != api.OK || text != s {
		return 0, ErrText
	}
	return time, api.OK
}

// number returns the number that digits denote, or any other one if they denote none.
func number(digits string) int {
	n, _ := strconv.Atoi(digits)
	return n
}

// weekday returns which day of the week has a name, or any other one if none has it.
func weekday(name string) int {
	for i, known := range weekdays {
		if known == name {
			return i
		}
	}
	return 0
}
