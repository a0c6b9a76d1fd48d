package run

import (
	"strconv"

	"soundings/api"
)

// number is the value of a number, or of what a sum, difference or product of two comes to: it is brought within Least and Most over 2 to the power of 32.
func number(n int) api.Value {
	return api.Value{Kind: api.ValueNumber, N: int(int32(n))}
}

// truth is the value of a truth.
func truth(is bool) api.Value {
	v := api.Value{Kind: api.ValueTruth}
	if is {
		v.N = 1
	}
	return v
}

// counts: does a value count as true?
func counts(v api.Value) bool {
	return v != api.Value{} && v != truth(false) && v != number(0)
}

// isValue: is it a value of a run that has so many things?
func isValue(v api.Value, things int) bool {
	switch v.Kind {
	case api.ValueNull:
		return v == api.Value{}
	case api.ValueNumber:
		return v.N >= api.Least && v.N <= api.Most
	case api.ValueTruth:
		return v == truth(false) || v == truth(true)
	case api.ValueThing:
		return v.N >= 0 && v.N < things
	}
	return false
}

// text of a value, as it is printed.
func text(v api.Value) string {
	switch {
	case v.Kind == api.ValueNumber:
		return strconv.Itoa(v.N)
	case v.Kind == api.ValueThing:
		return "thing"
	case v == truth(true):
		return "true"
	case v == truth(false):
		return "false"
	}
	return "null"
}
