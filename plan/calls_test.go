package plan_test

import (
	"netplan/api"
	"netplan/plan"
)

// The calls of the document are there, as it writes them.
var (
	_ func(string) (*plan.Plan, api.Errno)           = plan.Compile
	_ func(*plan.Plan, [][]int) ([][]int, api.Errno) = (*plan.Plan).Run
	_ func(*plan.Plan) int                           = (*plan.Plan).Inputs
	_ func(*plan.Plan, int) int                      = (*plan.Plan).Length
	_ func(*plan.Plan) int                           = (*plan.Plan).Arena
	_ func(*plan.Plan) []api.Buffer                  = (*plan.Plan).Buffers
	_ func(*plan.Plan) []api.Step                    = (*plan.Plan).Steps
	_ func(*plan.Plan) []int                         = (*plan.Plan).Ins
	_ func(*plan.Plan) []int                         = (*plan.Plan).Outs
)
