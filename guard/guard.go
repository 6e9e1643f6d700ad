// Package guard lets a decoder report an error from any depth: it panics, and the exported function that called it recovers the error.
package guard

import "tollway/api"

// failure is what a decoder panics with; its own type keeps it apart from other panics.
type failure struct{ why api.Errno }

// Fail ends the function that Run called with the error why.
func Fail(why api.Errno) { panic(failure{why}) }

// Run calls f and returns the error that it failed with, or OK.
func Run(f func()) (e api.Errno) {
	defer func() {
		switch x := recover().(type) {
		case nil:
		case failure:
			e = x.why
		default: // an exported function must not panic, whatever went wrong
			e = api.ErrForm
		}
	}()
	f()
	return api.OK
}
