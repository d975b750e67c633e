package probe

import (
	"cmp"
	"slices"

	"tourbillon/api"
)

const (
	maxWeights = 64
	maxWeight  = 1000000
)

// node is a node of a code: the sum of the weights beneath it, and their numbers.
type node struct {
	weight  int
	beneath set
}

// Codes returns the lengths of an optimal code, and its sum.
func Codes(weights []int) ([]int, int, api.Errno) {
	if !validWeights(weights) {
		return nil, 0, api.ErrArg
	}
	lengths, sum := make([]int, len(weights)), 0
	nodes := leaves(weights)
	for len(nodes) > 1 {
		joined := node{nodes[0].weight + nodes[1].weight, nodes[0].beneath | nodes[1].beneath}
		for _, number := range joined.beneath.numbers() {
			lengths[number]++
		}
		sum += joined.weight // every weight beneath it has become longer by 1
		nodes = insert(nodes[2:], joined)
	}
	return lengths, sum, api.OK
}

// Floor returns a lower bound of the cost. A test that splits a part of the faults splits all faults too, so that no plan does a cheaper test than those that split all; and how many tests a plan does for each class are the lengths of a code.
func Floor(faults []api.Fault, tests []api.Test) (int, api.Errno) {
	d, e := diagnose(faults, tests)
	if e != api.OK {
		return 0, e
	}
	splitters := d.splitters(d.all())
	if len(splitters) == 0 {
		return 0, api.OK
	}
	least := api.MaxCost
	for _, test := range splitters {
		least = min(least, tests[test].Cost)
	}
	var weights []int
	for _, class := range d.classes() {
		weights = append(weights, d.weight(class))
	}
	_, sum, _ := Codes(weights)
	return sum * least, api.OK
}

// leaves returns the nodes of single weights, in order.
func leaves(weights []int) []node {
	var nodes []node
	for number, weight := range weights {
		nodes = insert(nodes, node{weight, one(number)})
	}
	return nodes
}

// insert puts a node at its place among nodes in order.
func insert(nodes []node, n node) []node {
	at, _ := slices.BinarySearchFunc(nodes, n, compare)
	return slices.Insert(nodes, at, n)
}

// compare says which of two nodes is joined first.
func compare(a, b node) int {
	return cmp.Or(cmp.Compare(a.weight, b.weight), cmp.Compare(a.beneath.least(), b.beneath.least()))
}

func validWeights(weights []int) bool {
	if len(weights) < 1 || len(weights) > maxWeights {
		return false
	}
	for _, weight := range weights {
		if weight < 1 || weight > maxWeight {
			return false
		}
	}
	return true
}
