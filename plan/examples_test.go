package plan_test

import (
	"encoding/hex"
	"reflect"
	"strings"
	"testing"

	"netplan/api"
	"netplan/plan"
)

// example: the plan of bytes as the document writes them.
func example(t *testing.T, digits string) *plan.Plan {
	t.Helper()
	s, err := hex.DecodeString(strings.ReplaceAll(digits, " ", ""))
	if err != nil {
		t.Fatal(err)
	}
	p, e := plan.Compile("tfl1" + string(s))
	if e != api.OK {
		t.Fatalf("%s: Compile: %d", digits, e)
	}
	return p
}

// says: the plan must tell just this. A list without members may be nil.
func says(t *testing.T, what string, p *plan.Plan, want told) {
	t.Helper()
	got := tells(p)
	same := len(got.buffers) == len(want.buffers) && len(got.steps) == len(want.steps) && len(got.ins) == len(want.ins)
	for i := range want.buffers {
		same = same && got.buffers[i] == want.buffers[i]
	}
	for i := range want.steps {
		same = same && reflect.DeepEqual(got.steps[i], want.steps[i])
	}
	for i := range want.ins {
		same = same && got.ins[i] == want.ins[i]
	}
	if !same || got.arena != want.arena || !reflect.DeepEqual(got.outs, want.outs) {
		t.Errorf("%s: the plan tells %+v, want %+v", what, got, want)
	}
}

func TestP10Examples(t *testing.T) {
	p := example(t, "01 00 01 01 02 00 00 01 00")
	says(t, "an Input", p, told{arena: 2, buffers: []api.Buffer{{At: 0, Cells: 2}}, ins: []int{0}, outs: []int{0}})
	p = example(t, "01 01 01 01 02 00 07 f9 00 01 00")
	says(t, "a Const", p, told{outs: []int{-1}})
	p = example(t, "02 00 01 01 02 00 03 01 01 02 00 01 07 00 01 fd 03 01 01")
	says(t, "a Clamp", p, told{4, []api.Buffer{{At: 0, Cells: 2}, {At: 2, Cells: 2}}, []api.Step{{Kind: 7, From: []int{0}, To: 1}}, []int{0}, []int{1}})
}

func TestP11Examples(t *testing.T) {
	p := example(t, "03 00 01 01 02 00 03 01 01 02 00 03 01 01 02 00 02 07 00 01 fd 03 07 01 02 00 09 01 02")
	says(t, "two Clamps", p, told{4, []api.Buffer{{At: 0, Cells: 2}, {At: 2, Cells: 2}}, []api.Step{{Kind: 7, From: []int{0}, To: 1}}, []int{0}, []int{1}})
	for x, want := range map[int]int{-9: 0, -1: 0, 0: 0, 2: 2, 3: 3, 4: 3, 100: 3} {
		out, e := p.Run([][]int{{x, 0}})
		if e != api.OK || !reflect.DeepEqual(out, [][]int{{want, 0}}) {
			t.Errorf("from 0 to 3: Run(%d) = %v, %d", x, out, e)
		}
	}
}

func TestP12Examples(t *testing.T) {
	pool := "05 %0 %1 01 01 80 7f "
	s := "05 00 01 0a 01 00 03 01 0a 01 00 03 01 0a 01 00 03 01 0a 01 00 03 01 0a 01 00 04 "
	for _, r := range []string{"00", "01", "02", "03"} {
		s += strings.NewReplacer("%0", r, "%1", "0"+string(r[1]+1)).Replace(pool)
	}
	p := example(t, s+"01 04")
	w := sound(t, "four MaxPools", p, 4)
	if w.arena > 20 {
		t.Errorf("four MaxPools: Arena() = %d", w.arena)
	}
}
