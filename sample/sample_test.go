package sample

import (
	"math/rand"
	"testing"

	"tollway/api"
	"tollway/batch"
	"tollway/event"
)

func TestConfig(t *testing.T) {
	if e := batch.Check(Config()); e != api.OK {
		t.Error(int(e))
	}
}

// The events lead to results of every kind.
func TestEvents(t *testing.T) {
	r := rand.New(rand.NewSource(1))
	whys := map[int]bool{}
	var sums [6]int
	for range 60 {
		var es []api.Event
		for range 120 {
			e := Event(r.Intn)
			if !event.Right(e) {
				t.Fatal(e)
			}
			es = append(es, e)
		}
		x, e := batch.Run(Config(), es)
		if e != api.OK {
			t.Fatal(int(e))
		}
		for i, n := range []int{len(x.Passages), len(x.Rejects), len(x.Trips), len(x.Stays), len(x.Charges), len(x.Exclusions)} {
			sums[i] += n
		}
		for _, y := range x.Exclusions {
			whys[y.Why] = true
		}
		for _, y := range x.Rejects {
			whys[y.Why] = true
		}
	}
	for i, n := range sums {
		if n < 60 {
			t.Error("few results", i, n)
		}
	}
	for why := api.WhyForm; why <= api.WhyPaid; why++ {
		never := why == api.WhyTime || why == api.WhyBlocked || why == api.WhyCap || why == api.WhyNoAccount
		if !whys[why] && !never {
			t.Error("no exclusion or reject for the reason", why)
		}
	}
}
