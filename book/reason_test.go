package book

import (
	"errors"
	"testing"

	"vendmeter/api"
)

// panics: what a function throws.
func panics(do func()) (thrown any) {
	defer func() { thrown = recover() }()
	do()
	return nil
}

func TestReason(t *testing.T) {
	if e := reason(nil); e != api.OK {
		t.Errorf("reason of nothing: %v", e)
	}
	for e := api.ErrSize; e <= api.ErrKey; e++ {
		if got := reason(panics(func() { insist(e) })); got != e {
			t.Errorf("reason of %v: %v", e, got)
		}
	}
	if thrown := panics(func() { insist(api.OK) }); thrown != nil {
		t.Errorf("insist on nothing: %v", thrown)
	}
	if text := (refusal{api.ErrTwice}).Error(); text != "refused 21" {
		t.Errorf("the text of a refusal: %s", text)
	}
}

// TestReasonGoesOn: a fault of the program is not told as a refusal.
func TestReasonGoesOn(t *testing.T) {
	other := errors.New("another")
	if thrown := panics(func() { reason(other) }); thrown != other {
		t.Errorf("an error that is no refusal: %v", thrown)
	}
	if thrown := panics(func() { reason(api.ErrTwice) }); thrown != api.ErrTwice {
		t.Errorf("a number that was not thrown as a refusal: %v", thrown)
	}
	if thrown := panics(func() { reason("a text") }); thrown == nil {
		t.Errorf("what is no error: nothing was thrown")
	}
}
