package plan_test

import (
	"strings"
	"testing"

	"netplan/api"
)

// full: a model of just so many bytes, the most of them cells of constants; 4096 and 4097 can be had.
func full(last tensor) string {
	n := net{outs: []int{0}}
	for i := 0; i < 7; i++ {
		n.tensors = append(n.tensors, consts(16, 32, 1))
	}
	n.tensors = append(n.tensors, last)
	return n.bytes()
}

func TestP3Long(t *testing.T) {
	s := full(consts(16, 29, 1))
	if len(s) != api.MaxBytes {
		t.Fatalf("%d bytes", len(s))
	}
	refused(t, "4096 bytes of a model", s, api.OK)
	s = full(consts(15, 31, 1))
	if len(s) != api.MaxBytes+1 {
		t.Fatalf("%d bytes", len(s))
	}
	refused(t, "4097 bytes of a model", s, api.ErrLong)
	refused(t, "4096 bytes of no model", strings.Repeat("x", 4096), api.ErrFormat)
	refused(t, "4097 bytes of no model", strings.Repeat("x", 4097), api.ErrLong)
}

func TestP3Head(t *testing.T) {
	good := sample(api.Clamp).bytes()
	for i := 0; i < 4; i++ {
		s := []byte(good)
		s[i]++
		refused(t, "another head", string(s), api.ErrFormat)
	}
	refused(t, "nothing", "", api.ErrFormat)
	refused(t, "no head", good[4:], api.ErrFormat)
	refused(t, "two heads", "tfl1"+good, api.ErrFormat)
}

func TestP3BytesMissingOrLeft(t *testing.T) {
	for _, n := range samples() {
		n.tensors = append(n.tensors, consts(2, 2, 2), biases(3))
		n.outs = append(n.outs, n.outs[0])
		s := n.bytes()
		refused(t, n.name, s, api.OK)
		for i := range s {
			refused(t, n.name+", cut", s[:i], api.ErrFormat)
		}
		refused(t, n.name+", a byte more", s+"\x00", api.ErrFormat)
	}
	refused(t, "more cells than bytes can be", "tfl1\x01\x01\xff\xff\xff\x00\x00\x01\x00", api.ErrFormat)
	refused(t, "more biases than bytes can be", "tfl1\x01\x02\xff\xff\xff\x00\x00\x01\x00", api.ErrFormat)
}

func TestP3Kinds(t *testing.T) {
	for k := 4; k < 256; k++ {
		n := sample(api.Clamp)
		n.tensors = append(n.tensors, tensor{kind: k, h: 1, w: 1, c: 1})
		refused(t, "a kind of tensors that there is not", n.bytes(), api.ErrFormat)
	}
	for k := 0; k < 256; k++ {
		if k >= api.Conv && k <= api.Concat {
			continue
		}
		n := sample(api.Reshape)
		n.ops[0].kind = k
		refused(t, "a kind of operators that there is not", n.bytes(), api.ErrFormat)
	}
}

func TestP3Same(t *testing.T) {
	for _, kind := range []int{api.Conv, api.Depth} {
		for same := 2; same < 256; same++ {
			n := sample(kind)
			n.ops[0].same = same
			refused(t, n.name+" with a 'same' above 1", n.bytes(), api.ErrFormat)
		}
	}
}
