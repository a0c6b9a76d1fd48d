package alarm

import (
	"strconv"

	"soundings/api"
)

const maxTextBytes = 4000 // of a program

// printError is the line for a text that is no program.
func printError(line int) string {
	return "error " + strconv.Itoa(line) + "\n"
}

// printAlarm is the line of an alarm.
func printAlarm(a api.Alarm) string {
	return strconv.Itoa(a.At) + " " + word(a.Kind) + "\n"
}

// word for a kind of alarms.
func word(kind int) string {
	switch kind {
	case api.AlarmWrong:
		return "wrong"
	case api.AlarmFailed:
		return "failed"
	}
	return "idle"
}
