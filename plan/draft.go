package plan

import (
	"netplan/api"
	"netplan/layout"
	"netplan/model"
)

// draft is what is known of a plan before its buffers are laid out. Time 0 is the beginning, step i has time i + 1.
type draft struct {
	inputs  int
	numbers []int
	lives   []layout.Life
}

// drafted gives buffers to the Inputs and to what the operators make, and finds out how long each is needed.
func drafted(m *model.Model) *draft {
	d := &draft{numbers: make([]int, len(m.Tensors))}
	for n, t := range m.Tensors {
		d.numbers[n] = -1
		if t.Kind == api.Input {
			d.begin(n, t, 0)
		}
	}
	d.inputs = len(d.lives)
	for i, o := range m.Ops {
		for _, n := range o.Reads() {
			d.reach(n, i+1)
		}
		t := m.Tensor(o.To)
		d.begin(o.To, t, i+1)
	}
	for _, n := range m.Outs {
		d.reach(n, len(m.Ops)+1)
	}
	return d
}

// begin gives a tensor a buffer that lives from a time on.
func (d *draft) begin(n int, t model.Tensor, time int) {
	if n < 0 || n >= len(d.numbers) {
		return
	}
	d.numbers[n] = len(d.lives)
	life := layout.Life{From: time, To: time}
	life.Cells = t.Cells()
	d.lives = append(d.lives, life)
}

// reach makes the buffer of a tensor, if it has one, live up to a time.
func (d *draft) reach(n int, time int) {
	if n < 0 || n >= len(d.numbers) {
		return
	}
	i := d.numbers[n]
	if i >= 0 && i < len(d.lives) {
		d.lives[i].To = time
	}
}
