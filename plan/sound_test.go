package plan_test

import (
	"fmt"
	"testing"

	"netplan/api"
	"netplan/plan"
)

// told: all that a plan tells.
type told struct {
	arena   int
	buffers []api.Buffer
	steps   []api.Step
	ins     []int
	outs    []int
}

func tells(p *plan.Plan) told {
	return told{p.Arena(), p.Buffers(), p.Steps(), p.Ins(), p.Outs()}
}

// life: from which step to which a buffer is needed; the beginning is -1.
type life struct {
	from, to int
	there    bool
}

// lives: of each buffer; a fault: one that nobody fills, or two do, or that is read ahead of that, or a number that is no buffer.
func (w told) lives() ([]life, string) {
	list := make([]life, len(w.buffers))
	fill := func(b, at int) bool {
		if b < 0 || b >= len(list) || list[b].there {
			return false
		}
		list[b] = life{at, at, true}
		return true
	}
	need := func(b, at int) bool {
		if b == -1 {
			return true
		}
		if b < -1 || b >= len(list) || !list[b].there {
			return false
		}
		list[b].to = at
		return true
	}
	for i, b := range w.ins {
		if !fill(b, -1) {
			return nil, fmt.Sprint("P10: the buffer of Input ", i)
		}
	}
	for i, s := range w.steps {
		for _, b := range s.From {
			if !need(b, i) {
				return nil, fmt.Sprint("P10: what is read by step ", i)
			}
		}
		if !fill(s.To, i) {
			return nil, fmt.Sprint("P10: what is written by step ", i)
		}
	}
	for i, b := range w.outs {
		if !need(b, len(w.steps)) {
			return nil, fmt.Sprint("P10: the buffer of output ", i)
		}
	}
	for b := range list {
		if !list[b].there {
			return nil, fmt.Sprint("P10: nobody fills buffer ", b)
		}
	}
	return list, ""
}

// uses: how often a buffer is read by a Clamp, by other steps, is an output.
func (w told) uses(b int) (clamps, others, outs int) {
	for _, s := range w.steps {
		for _, k := range s.From {
			if k == b && s.Kind == api.Clamp {
				clamps++
			} else if k == b {
				others++
			}
		}
	}
	for _, k := range w.outs {
		if k == b {
			outs++
		}
	}
	return clamps, others, outs
}

// stepFault: what P11 says of steps, whatever the model is.
func (w told) stepFault() string {
	for i, s := range w.steps {
		reads := 0
		for _, b := range s.From {
			if b >= 0 {
				reads++
			}
		}
		if reads == 0 {
			return fmt.Sprint("P11: no buffer is read by step ", i)
		}
		clamps, others, outs := w.uses(s.To)
		if clamps+others+outs == 0 {
			return fmt.Sprint("P11: nobody wants what is written by step ", i)
		}
		if s.Kind <= api.Clamp && clamps == 1 && others+outs == 0 {
			return fmt.Sprint("P11: a Clamp alone reads what is written by step ", i)
		}
	}
	return ""
}

// formFault: what P10 says of the form of steps. How many lists a kind reads stands in the document's table.
func (w told) formFault() string {
	reads := [11]int{0, 3, 3, 3, 2, 1, 1, 1, 1, 1, 2}
	for i, s := range w.steps {
		if s.Kind < api.Conv || s.Kind > api.Concat || len(s.From) != reads[s.Kind] {
			return fmt.Sprint("P10: the form of step ", i)
		}
		if s.Kind <= api.Dense && (s.From[1] != -1 || s.From[2] != -1) {
			return fmt.Sprint("P10: weights or biases of step ", i)
		}
	}
	return ""
}

// arenaFault: P12.
func (w told) arenaFault(lives []life) string {
	end, sum := 0, 0
	for i, b := range w.buffers {
		if b.At < 0 || b.Cells < 1 {
			return fmt.Sprint("P12: buffer ", i)
		}
		sum += b.Cells
		end = max(end, b.At+b.Cells)
		for k, c := range w.buffers[:i] {
			apart := b.At+b.Cells <= c.At || c.At+c.Cells <= b.At
			never := lives[i].to < lives[k].from || lives[k].to < lives[i].from
			if !apart && !never {
				return fmt.Sprint("P12: buffers ", k, " and ", i)
			}
		}
	}
	if w.arena != end || w.arena > sum {
		return fmt.Sprint("P12: the arena; buffers end at ", end, " and have in all ", sum)
	}
	return ""
}

// roomFault: P13.
func (w told) roomFault() string {
	if cap(w.buffers) != len(w.buffers) || cap(w.steps) != len(w.steps) || cap(w.ins) != len(w.ins) || cap(w.outs) != len(w.outs) {
		return "P13: a list has spare room"
	}
	for i, s := range w.steps {
		if cap(s.From) != len(s.From) {
			return fmt.Sprint("P13: spare room in step ", i)
		}
	}
	return ""
}

// fault: what of P10 to P13 does not hold of a plan, whatever its model is.
func (w told) fault() string {
	lives, fault := w.lives()
	if fault != "" {
		return fault
	}
	for _, fault := range []string{w.formFault(), w.stepFault(), w.arenaFault(lives), w.roomFault()} {
		if fault != "" {
			return fault
		}
	}
	return ""
}

// sound: a plan of some model must be one, and have so many steps at most.
func sound(t *testing.T, what string, p *plan.Plan, most int) told {
	t.Helper()
	w := tells(p)
	fault := w.fault()
	if len(w.steps) > most {
		fault = fmt.Sprint("P11: more than ", most, " steps")
	}
	if len(w.ins) != p.Inputs() {
		fault = "P10: not as many buffers as Inputs"
	}
	for i, b := range w.ins {
		if fault == "" && w.buffers[b].Cells != p.Length(i) {
			fault = fmt.Sprint("P10: the length of the buffer of Input ", i)
		}
	}
	if fault != "" {
		t.Fatalf("%s: %s: %+v", what, fault, w)
	}
	return w
}
