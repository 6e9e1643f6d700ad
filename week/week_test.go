package week

import (
	"math"
	"testing"

	"tollway/api"
)

func TestValid(t *testing.T) {
	for w, want := range map[api.Window]bool{
		{Days: 1, From: 0, To: 1}: true, {Days: 127, From: 1439, To: 1440}: true, {Days: 127, From: 0, To: 1440}: true,
		{Days: 0, From: 0, To: 1}: false, {Days: 128, From: 0, To: 1}: false, {Days: -1, From: 0, To: 1}: false, {Days: 1, From: -1, To: 1}: false, {Days: 1, From: 5, To: 5}: false, {Days: 1, From: 6, To: 5}: false, {Days: 1, From: 0, To: 1441}: false, {}: false, {Days: math.MaxInt, From: math.MinInt, To: math.MaxInt}: false,
	} {
		if Valid(w) != want {
			t.Error(w)
		}
	}
}
