package source

import (
	"testing"

	"tollway/api"
)

func TestCompare(t *testing.T) {
	l := []api.Source{{Device: "", Seq: 9}, {Device: "a", Seq: -5}, {Device: "a", Seq: 10}, {Device: "b", Seq: 2}}
	for i, a := range l {
		for k, b := range l {
			if n := Compare(a, b); (n < 0) != (i < k) || (n > 0) != (i > k) {
				t.Error(a, b, n)
			}
		}
	}
}

func TestName(t *testing.T) {
	for want, s := range map[string]api.Source{"cam.7": {Device: "cam", Seq: 7}, ".-1": {Seq: -1}} {
		if n := Name(s); n != want {
			t.Error(s, n)
		}
	}
}
