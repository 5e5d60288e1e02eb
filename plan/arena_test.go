package plan_test

import (
	"fmt"
	"testing"

	"netplan/api"
)

// flat: a tensor of k cells, in one row if a byte can tell it.
func flat(kind, k int) tensor {
	if k > 255 {
		return tensor{kind: kind, h: k / 128, w: 128, c: 1}
	}
	return tensor{kind: kind, h: 1, w: k, c: 1}
}

// link: one operator, from a tensor to the next, that keeps how many cells there are; constants stand ahead of all.
func link(kind, from, to int) op {
	o := op{kind: kind, from: []int{from}, to: to, size: 1, stride: 1, lo: -120 + from, hi: 120 - from, scales: []scale{unit}}
	switch kind {
	case api.Conv, api.Depth:
		o.from = []int{from, 0, 1}
	case api.Add:
		o.from = []int{from, from}
		o.scales = []scale{unit, unit, {two30, -19}}
	case api.MaxPool, api.AvgPool, api.Clamp, api.Pad, api.Reshape:
		o.scales = nil
	}
	return o
}

// chain: n operators over tensors of k cells; which kinds follow each other a list says.
func chain(n, k int, kinds []int) net {
	c := net{tensors: []tensor{consts(1, 1, 1).of(0, 1), biases(1).of(0, 1), flat(api.Input, k)}}
	for i := 0; i < n; i++ {
		c.tensors = append(c.tensors, flat(api.Inner, k))
		c.ops = append(c.ops, link(kinds[i%len(kinds)], i+2, i+3))
	}
	c.outs = []int{n + 2}
	c.name = fmt.Sprint("a chain of ", n, " over ", k, " cells, kinds ", kinds)
	return c
}

func TestP12Chains(t *testing.T) {
	rows := [][]int{{api.Conv}, {api.Depth}, {api.Add}, {api.MaxPool}, {api.AvgPool}, {api.Clamp}, {api.Pad}, {api.Reshape},
		{api.Conv, api.Clamp}, {api.Reshape, api.Clamp, api.Clamp}, {api.Pad, api.MaxPool, api.Add}, {api.Clamp, api.Depth, api.Clamp, api.Pad}}
	for _, kinds := range rows {
		for n := 1; n <= api.MaxOps; n++ {
			for _, k := range []int{1, 2, 10, 17, 120} {
				c := chain(n, k, kinds)
				w := planned(t, c)
				if w.arena > 2*k {
					t.Errorf("%s: Arena() = %d", c.name, w.arena)
				}
				in := [][]int{make([]int, k)}
				for i := range in[0] {
					in[0][i] = i*7%256 - 128
				}
				makes(t, c, in, expected(c, in))
			}
		}
	}
}

// The largest tensors; what nobody wants behind the output; the output twice.
func TestP12ChainsAtTheEdges(t *testing.T) {
	c := chain(3, 512, []int{api.MaxPool})
	if w := planned(t, c); w.arena > 1024 {
		t.Errorf("%s: Arena() = %d", c.name, w.arena)
	}
	for out := 2; out <= 16; out++ {
		c := chain(14, 100, []int{api.AvgPool, api.Reshape})
		c.outs = []int{out, out}
		w := planned(t, c)
		if w.arena > 200 || len(w.steps) != out-2 {
			t.Errorf("%s, output %d: Arena() = %d, %d steps", c.name, out, w.arena, len(w.steps))
		}
	}
}

// Tensors of one size in other shapes are of one size.
func TestP12ChainOfShapes(t *testing.T) {
	c := net{name: "shapes", tensors: []tensor{in(2, 3, 4), inner(6, 4, 1), inner(1, 24, 1), inner(3, 2, 4), inner(24, 1, 1)}, outs: []int{4}}
	for i := 0; i < 4; i++ {
		c.ops = append(c.ops, op{kind: api.Reshape, from: []int{i}, to: i + 1})
	}
	if w := planned(t, c); w.arena > 48 {
		t.Errorf("%s: Arena() = %d", c.name, w.arena)
	}
}

// An Input that nobody reads lives at the beginning, beside all other Inputs, and needs no room behind that.
func TestP12InputsThatNobodyReads(t *testing.T) {
	n := net{name: "Inputs alone", tensors: []tensor{in(1, 3, 1), in(2, 2, 2), in(1, 1, 1), consts(1, 1, 1)}, outs: []int{3}}
	if w := planned(t, n); w.arena != 12 || len(w.buffers) != 3 {
		t.Errorf("%s: %+v", n.name, w)
	}
	n.outs = []int{1}
	if w := planned(t, n); w.arena != 12 || len(w.buffers) != 3 {
		t.Errorf("%s, one an output: %+v", n.name, w)
	}
	for _, k := range []int{1, 5, 10} {
		for turn := 0; turn < 2; turn++ {
			c := net{name: fmt.Sprint("an Input of ", k, " beside a chain"), tensors: []tensor{in(1, 10, 1), in(1, 10, 1)}, outs: []int{6}}
			c.tensors[turn].w = k
			from := 1 - turn
			for i := 2; i <= 6; i++ {
				c.tensors = append(c.tensors, flat(api.Inner, 10))
				c.ops = append(c.ops, link(api.MaxPool, from, i))
				from = i
			}
			if w := planned(t, c); w.arena > 20 {
				t.Errorf("%s: Arena() = %d", c.name, w.arena)
			}
		}
	}
}

// An Input that only operators read which nobody wants is one that nobody reads.
func TestP12InputOfUnwantedOperators(t *testing.T) {
	n := net{name: "unwanted", tensors: []tensor{in(1, 4, 1), in(1, 4, 1)}}
	n.behind(0, -3, 3)
	x := n.behind(1, -3, 3)
	n.outs = []int{x}
	if w := works(t, "unwanted", n, api.Clamp); w.arena != 8 || len(w.buffers) != 3 {
		t.Errorf("unwanted: %+v", w)
	}
}

// Outputs live to the end: all of them lie apart, and so do Inputs that are outputs.
func TestP12OutputsLiveToTheEnd(t *testing.T) {
	c := chain(10, 7, []int{api.MaxPool})
	for out := 12; out >= 2; out-- {
		c.outs = append(c.outs, out)
	}
	if w := planned(t, c); w.arena != 77 {
		t.Errorf("all are outputs: Arena() = %d", w.arena)
	}
	c.outs = []int{2, 12}
	if w := planned(t, c); w.arena != 21 {
		t.Errorf("the Input is an output: Arena() = %d", w.arena)
	}
	c.outs = []int{12, 4}
	if w := planned(t, c); w.arena != 21 {
		t.Errorf("one between is an output: Arena() = %d", w.arena)
	}
}

// A tensor lives up to its last reader.
func TestP12LivesToTheLastReader(t *testing.T) {
	for last := 0; last < 10; last++ {
		c := chain(10, 7, []int{api.Reshape})
		o := link(api.Add, last+2, last+3)
		o.from[1] = 2
		c.ops[last] = o
		want := 21
		if last < 2 {
			want = 14 + 7*last
		}
		w := works(t, fmt.Sprint("reader ", last), c, kindsOf(c)...)
		if w.arena != want {
			t.Errorf("read by operator %d: Arena() = %d, want %d", last, w.arena, want)
		}
	}
}

func kindsOf(n net) []int {
	var list []int
	for _, o := range n.ops {
		list = append(list, o.kind)
	}
	return list
}
