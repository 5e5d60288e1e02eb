package plan_test

import (
	"math/rand"
	"reflect"
	"testing"

	"netplan/api"
	"netplan/plan"
)

// unfit: Run must refuse these lists, and answer nothing beside the error.
func unfit(t *testing.T, what string, p *plan.Plan, in [][]int) {
	t.Helper()
	out, e := p.Run(in)
	if e != api.ErrInput || out != nil {
		t.Errorf("%s: Run(%v) = %v, %d, want ErrInput", what, in, out, e)
	}
}

func TestP9NoInputs(t *testing.T) {
	p := compiled(t, net{tensors: []tensor{in(1, 1, 2), in(1, 3, 1)}, outs: []int{0, 1}})
	a, b := []int{1, 2}, []int{3, 4, 5}
	unfit(t, "nil", p, nil)
	unfit(t, "no list", p, [][]int{})
	unfit(t, "a list too few", p, [][]int{a})
	unfit(t, "a list too many", p, [][]int{a, b, b})
	unfit(t, "an empty list too many", p, [][]int{a, b, nil})
	unfit(t, "the other order", p, [][]int{b, a})
	unfit(t, "a cell too few", p, [][]int{a[:1], b})
	unfit(t, "a cell too many", p, [][]int{{1, 2, 3}, b})
	unfit(t, "a cell too few, last", p, [][]int{a, b[:2]})
	unfit(t, "a cell too many, last", p, [][]int{a, {3, 4, 5, 6}})
	unfit(t, "one is nil", p, [][]int{nil, b})
	unfit(t, "the last is nil", p, [][]int{a, nil})
	unfit(t, "one is empty", p, [][]int{a, {}})
	for _, v := range []int{128, -129, 129, 255, 256, 1 << 31, 1 << 32, 1<<32 + 5, -1 << 32, 1<<63 - 1, -1 << 63} {
		for i := 0; i < 2; i++ {
			unfit(t, "a cell out of range", p, [][]int{with(a, i, v), b})
		}
		for i := 0; i < 3; i++ {
			unfit(t, "a cell out of range, last", p, [][]int{a, with(b, i, v)})
		}
	}
	ends := [][]int{{-128, 127}, {127, -128, 0}}
	out, e := p.Run(ends)
	if e != api.OK || !reflect.DeepEqual(out, ends) {
		t.Errorf("behind refusals: Run(%v) = %v, %d", ends, out, e)
	}
}

// with: a copy, with another cell.
func with(list []int, i, v int) []int {
	list = append([]int{}, list...)
	list[i] = v
	return list
}

// Inputs are looked at also where nothing of them comes out.
func TestP9InputsThatNobodyReads(t *testing.T) {
	p := compiled(t, net{tensors: []tensor{in(1, 1, 1), consts(1, 1, 1).of(0, 6)}, outs: []int{1}})
	unfit(t, "no list", p, nil)
	unfit(t, "no cell", p, [][]int{{}})
	unfit(t, "out of range", p, [][]int{{128}})
	out, e := p.Run([][]int{{127}})
	if e != api.OK || !reflect.DeepEqual(out, [][]int{{6}}) {
		t.Errorf("Run = %v, %d", out, e)
	}
}

func TestP9WithoutInputs(t *testing.T) {
	n := net{tensors: []tensor{consts(1, 1, 2).of(0, 7, -7)}, outs: []int{0}}
	makes(t, n, nil, [][]int{{7, -7}})
	makes(t, n, [][]int{}, [][]int{{7, -7}})
	p := compiled(t, n)
	unfit(t, "a list", p, [][]int{{1, 2}})
	unfit(t, "nil as a list", p, [][]int{nil})
	unfit(t, "an empty list", p, [][]int{{}})
}

// Inputs go by the order of their numbers, outputs by the model's.
func TestP9Order(t *testing.T) {
	n := net{tensors: []tensor{inner(1, 1, 1), in(1, 1, 1), consts(1, 1, 1).of(0, 4), in(1, 1, 1), biases(1), in(1, 1, 1)}}
	n.ops = []op{{kind: api.Reshape, from: []int{3}, to: 0}}
	n.outs = []int{5, 0, 1, 2, 3, 5, 0}
	makes(t, n, [][]int{{10}, {20}, {30}}, [][]int{{30}, {20}, {10}, {4}, {20}, {30}, {20}})
}

// eachTwice: a model with each kind of output, each of them twice.
func eachTwice() net {
	n := net{tensors: []tensor{in(1, 1, 2), consts(1, 1, 2).of(0, 7, -7), inner(1, 1, 2), inner(1, 1, 2)}}
	n.ops = []op{{kind: api.Reshape, from: []int{0}, to: 2}, {kind: api.Reshape, from: []int{1}, to: 3}}
	n.outs = []int{0, 1, 2, 3, 0, 1, 2, 3}
	return n
}

func TestP9FreshLists(t *testing.T) {
	p := compiled(t, eachTwice())
	want := [][]int{{5, 6}, {7, -7}, {5, 6}, {7, -7}, {5, 6}, {7, -7}, {5, 6}, {7, -7}}
	given := [][]int{{5, 6}}
	before, e := p.Run(given)
	if e != api.OK || !reflect.DeepEqual(before, want) {
		t.Fatalf("Run = %v, %d", before, e)
	}
	for i := range want {
		out, _ := p.Run(given)
		out[i][0], out[i][1] = 99, 98
		for k := range want {
			if k != i && !reflect.DeepEqual(out[k], want[k]) {
				t.Errorf("what is written into output %d shows in output %d", i, k)
			}
		}
		if !reflect.DeepEqual(given, [][]int{{5, 6}}) {
			t.Fatalf("what is written into output %d shows in the inputs", i)
		}
		out[i] = nil
	}
	again, _ := p.Run(given)
	if !reflect.DeepEqual(before, want) || !reflect.DeepEqual(again, want) {
		t.Errorf("what is written into answers shows in others: %v, %v", before, again)
	}
	given[0][0] = 1
	if !reflect.DeepEqual(again, want) {
		t.Errorf("what is written into the inputs shows in answers")
	}
}

func roomless(t *testing.T, what string, out [][]int) {
	t.Helper()
	if cap(out) != len(out) {
		t.Errorf("%s: a list of %d lists has room for %d", what, len(out), cap(out))
	}
	for _, list := range out {
		if cap(list) != len(list) {
			t.Errorf("%s: a list of %d cells has room for %d", what, len(list), cap(list))
		}
	}
}

func TestP9NoSpareRoom(t *testing.T) {
	for cells := 1; cells < 70; cells++ {
		n := net{tensors: []tensor{in(1, cells, 1), consts(1, cells, 1), inner(1, cells, 1)}}
		n.ops = []op{{kind: api.Clamp, from: []int{0}, to: 2, lo: -3, hi: 3}}
		for outs := 1; outs < 14; outs++ {
			n.outs = append(n.outs, outs%3)
			p := compiled(t, n)
			out, e := p.Run([][]int{make([]int, cells)})
			if e != api.OK || len(out) != outs {
				t.Fatalf("Run: %d lists, %d", len(out), e)
			}
			roomless(t, "Run", out)
		}
	}
}

// The inputs lie in longer lists: neither they nor what lies behind them changes.
func TestP9InputsAreOnlyRead(t *testing.T) {
	for seed := int64(0); seed < 300; seed++ {
		n := draw(seed)
		p := compiled(t, n)
		in := n.inputs(rand.New(rand.NewSource(seed)))
		long := make([][]int, len(in)+2)
		for i := range in {
			list := append(append([]int{}, in[i]...), 1000, 1001, 1002)
			long[i] = list[:len(in[i])]
		}
		long[len(in)] = []int{1003}
		out, e := p.Run(long[:len(in)])
		if e != api.OK || !reflect.DeepEqual(out, expected(n, in)) {
			t.Fatalf("draw %d: %d", seed, e)
		}
		for i := range in {
			list := long[i][:len(in[i])+3]
			if !reflect.DeepEqual(list, append(append([]int{}, in[i]...), 1000, 1001, 1002)) {
				t.Fatalf("draw %d: input %d became %v", seed, i, list)
			}
		}
		if len(long[len(in)]) != 1 || long[len(in)][0] != 1003 || long[len(in)+1] != nil {
			t.Fatalf("draw %d: the list of lists changed", seed)
		}
	}
}

// One list may stand for several inputs.
func TestP9OneListForTwoInputs(t *testing.T) {
	n := summed(in(1, 1, 2), in(1, 1, 2), inner(1, 1, 2), unit, unit, scale{two30, -19})
	list := []int{3, -4}
	makes(t, n, [][]int{list, list}, [][]int{{6, -8}})
}

// Runs of several plans, one between the other, and runs that are refused between them, change nothing.
func TestP2Runs(t *testing.T) {
	var nets []net
	var plans []*plan.Plan
	for seed := int64(0); seed < 40; seed++ {
		n := draw(seed)
		nets = append(nets, n)
		plans = append(plans, compiled(t, n))
	}
	for round := int64(0); round < 3; round++ {
		for i, n := range nets {
			in := n.inputs(rand.New(rand.NewSource(round)))
			unfit(t, "one list too many", plans[i], append(in, nil))
			out, e := plans[i].Run(in)
			if e != api.OK || !reflect.DeepEqual(out, expected(n, in)) {
				t.Fatalf("draw %d, round %d: %d", i, round, e)
			}
		}
	}
}

func TestP1RunWithoutPlan(t *testing.T) {
	var none *plan.Plan
	for _, p := range []*plan.Plan{none, {}} {
		unfit(t, "no plan", p, nil)
		unfit(t, "no plan", p, [][]int{})
		unfit(t, "no plan", p, [][]int{{1}})
	}
}
