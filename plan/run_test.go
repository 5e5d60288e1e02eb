package plan_test

import (
	"math/rand"
	"reflect"
	"testing"

	"netplan/api"
	"netplan/plan"
)

// compiled: the plan of a net that must be one.
func compiled(t *testing.T, n net) *plan.Plan {
	t.Helper()
	p, e := plan.Compile(n.bytes())
	if e != api.OK {
		t.Fatalf("%s: Compile: %d", n.name, e)
	}
	return p
}

// makes: Run must answer just this.
func makes(t *testing.T, n net, in [][]int, want [][]int) {
	t.Helper()
	p := compiled(t, n)
	out, e := p.Run(in)
	if e != api.OK || !reflect.DeepEqual(out, want) {
		t.Errorf("%s: Run(%v) = %v, %d, want %v", n.name, in, out, e, want)
	}
}

// lone: a net of one operator over Inputs and constants; what it makes is the last tensor and the output.
func lone(name string, o op, tensors ...tensor) net {
	for i := range tensors[:len(tensors)-1] {
		o.from = append(o.from, i)
	}
	o.to = len(tensors) - 1
	return net{name, tensors, []op{o}, []int{o.to}}
}

func (t tensor) of(zero int, data ...int) tensor {
	t.zero = zero
	t.data = data
	return t
}

func TestP8P9AsTheDocumentSays(t *testing.T) {
	kinds := make([]int, 11)
	for seed := int64(0); seed < 2500; seed++ {
		n := draw(seed)
		for _, o := range n.ops {
			kinds[o.kind]++
		}
		p := compiled(t, n)
		r := rand.New(rand.NewSource(seed))
		for k := 0; k < 2; k++ {
			in := n.inputs(r)
			out, e := p.Run(in)
			want := expected(n, in)
			if e != api.OK || !reflect.DeepEqual(out, want) {
				t.Fatalf("draw %d: %+v: Run(%v) = %v, %d, want %v", seed, n, in, out, e, want)
			}
		}
	}
	for k := api.Conv; k <= api.Concat; k++ {
		if kinds[k] < 300 {
			t.Errorf("kind %d was drawn %d times", k, kinds[k])
		}
	}
}
