package tests

import (
	"math"
	"slices"
	"testing"

	"loop.example/g00505/impl"
)

// withSpare returns a copy of l with spare capacity that is filled with mark.
func withSpare[T any](l []T, mark T) []T {
	c := slices.Clip(slices.Concat(l, slices.Repeat([]T{mark}, 64)))
	return c[:len(l)]
}

// expectUntouched fails if l, made by withSpare, is not want any more, or if its spare capacity has been written.
func expectUntouched[T comparable](t *testing.T, l []T, want []T, mark T) {
	t.Helper()
	if !slices.Equal(l, want) {
		t.Errorf("an argument is now %v; it was %v", l, want)
	}
	for _, x := range l[:cap(l)][len(l):] {
		if x != mark {
			t.Errorf("the spare capacity of an argument has been written: %v", x)
			return
		}
	}
}

// expectUnshared fails if a change of result, of its spare capacity too, is seen in arg.
func expectUnshared[T comparable](t *testing.T, result []T, arg []T, mark T) {
	t.Helper()
	all := arg[:cap(arg)]
	before := slices.Clone(all)
	for i := range result[:cap(result)] {
		result[:cap(result)][i] = mark
	}
	if !slices.Equal(all, before) {
		t.Errorf("a result shares memory with an argument: %v", arg)
	}
}

func expectInts(t *testing.T, what string, got []int, want ...int) {
	t.Helper()
	if !slices.Equal(got, want) {
		t.Errorf("%s = %v; want %v", what, got, want)
	}
}

func expectInt(t *testing.T, what string, got int, want int) {
	t.Helper()
	if got != want {
		t.Errorf("%s = %d; want %d", what, got, want)
	}
}

func expectText(t *testing.T, what string, got string, want string) {
	t.Helper()
	if got != want {
		t.Errorf("%s = %q; want %q", what, got, want)
	}
}

func expectBool(t *testing.T, what string, got bool, want bool) {
	t.Helper()
	if got != want {
		t.Errorf("%s = %v; want %v", what, got, want)
	}
}

// strange holds numbers that are hardly valid anywhere.
func strange() []int {
	return []int{math.MinInt, math.MinInt + 1, -impl.MaxInt, -65536, -17, -16, -2, -1, 64, 100, 65536, impl.MaxInt + 1, math.MaxInt - 1, math.MaxInt}
}

// family has two core ASes, each with one child, and a child of the first child.
func family() impl.Topology {
	return impl.Topology{
		ASes: []impl.AS{{Core: true, Key: 11}, {Core: true, Key: 12}, {Key: 13}, {Key: 14}, {Key: 15}},
		Links: []impl.Link{
			{A: 0, AInterface: 1, B: 1, BInterface: 1, Kind: impl.LkCore},
			{A: 0, AInterface: 2, B: 2, BInterface: 1, Kind: impl.LkChild},
			{A: 1, AInterface: 2, B: 3, BInterface: 1, Kind: impl.LkChild},
			{A: 2, AInterface: 2, B: 4, BInterface: 1, Kind: impl.LkChild},
		},
	}
}

// world has as many ASes as there may be, in all ISDs, with links of each kind: a ring of three core ASes (0, 1, 2) and a fourth one behind it (7); AS 3 is a child of 0 and 1, AS 4 one of 3 (over two links) and 0, AS 5 one of 2, and AS 6 one of 5; 3 and 5, and 4 and 6, are peers.
func world() impl.Topology {
	return impl.Topology{
		ASes: []impl.AS{
			{ISD: 0, Core: true, Key: 101}, {ISD: 0, Core: true, Key: 102}, {ISD: 1, Core: true, Key: 103}, {ISD: 0, Key: 104},
			{ISD: 0, Key: 105}, {ISD: 1, Key: 106}, {ISD: 1, Key: 107}, {ISD: 2, Core: true, Key: impl.Prime - 1},
		},
		Links: []impl.Link{
			{A: 0, AInterface: 1, B: 1, BInterface: 1, Kind: impl.LkCore},
			{A: 1, AInterface: 2, B: 2, BInterface: 1, Kind: impl.LkCore},
			{A: 0, AInterface: 2, B: 2, BInterface: 2, Kind: impl.LkCore},
			{A: 2, AInterface: 6, B: 7, BInterface: 3, Kind: impl.LkCore},
			{A: 0, AInterface: 3, B: 3, BInterface: 1, Kind: impl.LkChild},
			{A: 1, AInterface: 3, B: 3, BInterface: 2, Kind: impl.LkChild},
			{A: 3, AInterface: 3, B: 4, BInterface: 1, Kind: impl.LkChild},
			{A: 3, AInterface: 4, B: 4, BInterface: 2, Kind: impl.LkChild},
			{A: 2, AInterface: 3, B: 5, BInterface: 1, Kind: impl.LkChild},
			{A: 5, AInterface: 2, B: 6, BInterface: 1, Kind: impl.LkChild},
			{A: 3, AInterface: 6, B: 5, BInterface: 6, Kind: impl.LkPeer},
			{A: 4, AInterface: 3, B: 6, BInterface: 3, Kind: impl.LkPeer},
			{A: 0, AInterface: 4, B: 4, BInterface: 4, Kind: impl.LkChild},
		},
	}
}

// cloneTopology returns a copy of t that can be changed.
func cloneTopology(t impl.Topology) impl.Topology {
	return impl.Topology{ASes: slices.Clone(t.ASes), Links: slices.Clone(t.Links)}
}
