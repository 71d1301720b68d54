package need_test

import (
	"strconv"
	"strings"
	"testing"

	"pantry/api"
	"pantry/need"
)

// Which lists of needs are refused, for K1, Q1 and Q2.
func TestFault(t *testing.T) {
	long := strings.Repeat("a", 30)
	for _, c := range []struct {
		about string
		l     []api.Need
		want  api.Errno
	}{
		{"none", nil, api.OK},
		{"one", []api.Need{{Name: "a", Range: "^1"}}, api.OK},
		{"an empty range", []api.Need{{Name: "a"}}, api.OK},
		{"names that begin one another", []api.Need{{Name: "a"}, {Name: "aa"}, {Name: "a-"}, {Name: long}}, api.OK},
		{"a range of 200 bytes", []api.Need{{Name: "a", Range: "*" + strings.Repeat(" ", 199)}}, api.OK},
		{"no name", []api.Need{{Range: "*"}}, api.ErrText},
		{"a great letter", []api.Need{{Name: "a"}, {Name: "A"}}, api.ErrText},
		{"a name of 31 bytes", []api.Need{{Name: long + "a"}}, api.ErrText},
		{"half a range", []api.Need{{Name: "a", Range: "^"}}, api.ErrText},
		{"a range with a number that is too great", []api.Need{{Name: "a", Range: "1000000000"}}, api.ErrText},
		{"a range of 201 bytes", []api.Need{{Name: "a", Range: "*" + strings.Repeat(" ", 200)}}, api.ErrText},
		{"twice", []api.Need{{Name: "a", Range: "1"}, {Name: "b"}, {Name: "a", Range: "2"}}, api.ErrTwice},
		{"twice, then no range", []api.Need{{Name: "a"}, {Name: "a"}, {Name: "b", Range: "y"}}, api.ErrText},
		{"twice, then no name", []api.Need{{Name: "a"}, {Name: "a"}, {Name: ""}}, api.ErrText},
		{"no name twice", []api.Need{{}, {}}, api.ErrText},
	} {
		if got := need.Fault(c.l); got != c.want {
			t.Errorf("%s: Fault = %d, want %d", c.about, got, c.want)
		}
	}
}

// A project's needs may be of any number.
func TestFaultLong(t *testing.T) {
	l := make([]api.Need, 100000)
	for i := range l {
		l[i] = api.Need{Name: "p" + strconv.Itoa(i), Range: "1"}
	}
	if got := need.Fault(l); got != api.OK {
		t.Errorf("Fault = %d", got)
	}
	l[len(l)-1].Name = "p0"
	if got := need.Fault(l); got != api.ErrTwice {
		t.Errorf("the last one is the first one: Fault = %d, want ErrTwice", got)
	}
	l[len(l)-1].Range = "-"
	if got := need.Fault(l); got != api.ErrText {
		t.Errorf("the last one has no range: Fault = %d, want ErrText", got)
	}
}
