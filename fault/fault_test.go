package fault

import (
	"errors"
	"testing"

	"bags/api"
)

func TestCatchAnswers(t *testing.T) {
	answer, err := Catch(api.ErrData, func() int { return 7 })
	if answer != 7 || err != nil {
		t.Errorf("Catch = %d, %v, want 7 and no error", answer, err)
	}
}

func TestCatchTellsWhatWasThrown(t *testing.T) {
	answer, err := Catch(api.ErrData, func() string {
		Throw(api.ErrLex, 12)
		return "behind the fault"
	})
	var f *api.Fault
	if answer != "" || !errors.As(err, &f) || *f != (api.Fault{Kind: api.ErrLex, At: 12}) {
		t.Errorf("Catch = %q, %v, want ErrLex at 12", answer, err)
	}
	if !errors.Is(err, api.ErrLex) || errors.Is(err, api.ErrData) {
		t.Errorf("errors.Is does not find ErrLex alone in %v", err)
	}
}

func TestCatchLetsNoPanicOut(t *testing.T) {
	var empty []int
	for _, work := range []func() int{
		func() int { return empty[len(empty)] },
		func() int { panic("some other") },
		func() int { panic(nil) },
	} {
		answer, err := Catch(api.ErrSyntax, work)
		if answer != 0 || !errors.Is(err, api.ErrSyntax) {
			t.Errorf("Catch = %d, %v, want ErrSyntax", answer, err)
		}
	}
}

func TestAgain(t *testing.T) {
	_, first := Catch(api.ErrData, func() int { panic("some other") })
	_, second := Catch(api.ErrData, func() int {
		Throw(api.ErrLex, 12)
		return 0
	})
	for _, c := range []struct {
		list []error
		want error
	}{
		{nil, nil},
		{[]error{nil, nil}, nil},
		{[]error{nil, second, first}, second},
		{[]error{first, second}, first},
	} {
		_, err := Catch(api.ErrSyntax, func() int {
			Again(c.list...)
			return 0
		})
		if err != c.want {
			t.Errorf("of %v the fault %v is thrown again, want %v", c.list, err, c.want)
		}
	}
}
