package guard

import (
	"testing"

	"tollway/api"
)

func TestRun(t *testing.T) {
	ran := false
	if e := Run(func() { ran = true }); e != api.OK || !ran {
		t.Error(e, ran)
	}
	if e := Run(func() { Fail(api.ErrSum); t.Error("it goes on after Fail") }); e != api.ErrSum {
		t.Error(e)
	}
	if e := Run(func() { var l []int; _ = l[len(l)] }); e != api.ErrForm {
		t.Error("another panic:", e)
	}
	if e := Run(func() {
		if e := Run(func() { Fail(api.ErrLong) }); e != api.ErrLong {
			t.Error("inner:", e)
		}
	}); e != api.OK {
		t.Error("outer:", e)
	}
}
