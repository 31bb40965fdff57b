package tests

import (
	"math"
	"math/big"
	"math/rand"
	"slices"
	"testing"

	"loop.example/g00505/impl"
)

// residues holds valid chaining values.
func residues() []int {
	return []int{0, 1, 2, 3, 500, 1000003, impl.Prime / 2, impl.Prime/2 + 1, impl.Prime - 3, impl.Prime - 2, impl.Prime - 1}
}

// noResidues holds values that no chain has.
func noResidues() []int {
	return []int{-1, -2, -impl.Prime, -impl.Prime + 1, impl.Prime, impl.Prime + 1, 2 * impl.Prime, 1 << 32, math.MinInt, math.MaxInt}
}

func TestPrime(t *testing.T) {
	if impl.Prime != 1<<31-1 {
		t.Error(impl.Prime)
	}
}

func TestAddModAndSubModOfWrittenNumbers(t *testing.T) {
	last := impl.Prime - 1
	cases := []struct{ b, s, sum, difference int }{
		{0, 0, 0, 0}, {0, 1, 1, last}, {1, 0, 1, 1}, {2, 3, 5, last}, {3, 2, 5, 1},
		{last, 0, last, last}, {0, last, last, 1}, {last, 1, 0, last - 1}, {1, last, 0, 2}, {last, 3, 2, last - 3}, {last, last, last - 1, 0},
	}
	for _, c := range cases {
		if n := impl.AddMod(c.b, c.s); n != c.sum {
			t.Errorf("AddMod(%d, %d) = %d; want %d", c.b, c.s, n, c.sum)
		}
		if n := impl.SubMod(c.b, c.s); n != c.difference {
			t.Errorf("SubMod(%d, %d) = %d; want %d", c.b, c.s, n, c.difference)
		}
	}
}

func TestAddModAndSubModOutsideTheirRanges(t *testing.T) {
	for _, x := range noResidues() {
		for _, y := range append(residues(), noResidues()...) {
			for _, p := range [][2]int{{x, y}, {y, x}} {
				if n := impl.AddMod(p[0], p[1]); n != 0 {
					t.Errorf("AddMod(%d, %d) = %d", p[0], p[1], n)
				}
				if n := impl.SubMod(p[0], p[1]); n != 0 {
					t.Errorf("SubMod(%d, %d) = %d", p[0], p[1], n)
				}
			}
		}
	}
}

func TestSubModUndoesAddMod(t *testing.T) {
	for _, b := range residues() {
		for _, s := range residues() {
			if n := impl.SubMod(impl.AddMod(b, s), s); n != b {
				t.Errorf("SubMod of AddMod(%d, %d) = %d", b, s, n)
			}
			if n := impl.AddMod(impl.SubMod(b, s), s); n != b {
				t.Errorf("AddMod of SubMod(%d, %d) = %d", b, s, n)
			}
		}
	}
}

// modelDigest computes with integers of any size, whose Mod is never negative.
func modelDigest(l []int) int {
	p := big.NewInt(impl.Prime)
	d := big.NewInt(7)
	for _, x := range l {
		d.Mul(d, big.NewInt(1000003))
		d.Add(d, new(big.Int).Mod(big.NewInt(int64(x)), p))
		d.Add(d, big.NewInt(11))
		d.Mod(d, p)
	}
	return int(d.Int64())
}

func TestDigestOfWrittenLists(t *testing.T) {
	expectInt(t, "Digest of nothing", impl.Digest(nil), 7)
	expectInt(t, "Digest of an empty list", impl.Digest([]int{}), 7)
	expectInt(t, "Digest of 5", impl.Digest([]int{5}), 7000037)
	expectInt(t, "Digest of 0", impl.Digest([]int{0}), 7000032)
	expectInt(t, "Digest of -1", impl.Digest([]int{-1}), 7000031)
	expectInt(t, "Digest of Prime - 1", impl.Digest([]int{impl.Prime - 1}), 7000031)
	expectInt(t, "Digest of 5, 1", impl.Digest([]int{5, 1}), modelDigest([]int{5, 1}))
}

func TestDigestOfManyLists(t *testing.T) {
	r := rand.New(rand.NewSource(3))
	elements := numbers()
	for range 20000 {
		l := make([]int, r.Intn(8))
		for i := range l {
			l[i] = elements[r.Intn(len(elements))]
		}
		if d := impl.Digest(l); d != modelDigest(l) {
			t.Fatalf("Digest(%v) = %d; want %d", l, d, modelDigest(l))
		}
	}
}

func TestDigestDependsOnElementsModuloPrime(t *testing.T) {
	for _, x := range residues() {
		d := impl.Digest([]int{1, x, 2})
		for _, k := range []int{-4000000000, -2, -1, 1, 2, 4000000000} {
			if e := impl.Digest([]int{1, x + k*impl.Prime, 2}); e != d {
				t.Errorf("Digest with %d and %d primes more = %d; want %d", x, k, e, d)
			}
		}
		for _, y := range residues() {
			if e := impl.Digest([]int{1, y, 2}); (e == d) != (x == y) {
				t.Errorf("Digest with %d = %d, with %d = %d", x, d, y, e)
			}
		}
	}
}

func TestDigestDependsOnOrderAndLength(t *testing.T) {
	seen := map[int]int{}
	lists := [][]int{{}, {0}, {0, 0}, {0, 0, 0}, {1}, {1, 2}, {2, 1}, {1, 2, 3}, {3, 2, 1}, {2, 1, 3}, {0, 1}, {1, 0}}
	for i, l := range lists {
		d := impl.Digest(l)
		if k, ok := seen[d]; ok {
			t.Errorf("the lists %v and %v have the digest %d", lists[k], l, d)
		}
		seen[d] = i
	}
}

func TestComputeMAC(t *testing.T) {
	lists := [][]int{nil, {}, {2}, {1, 2, 3}, {-1, math.MaxInt, math.MinInt}, {7, 100, 2, 1, 2, 50}}
	for _, key := range append(residues(), noResidues()...) {
		for _, l := range lists {
			want := modelDigest(slices.Concat([]int{key}, l, []int{key}))
			if m := impl.ComputeMAC(key, l); m != want {
				t.Errorf("ComputeMAC(%d, %v) = %d; want %d", key, l, m, want)
			}
		}
	}
	expectInt(t, "ComputeMAC of nothing", impl.ComputeMAC(1, nil), impl.Digest([]int{1, 1}))
}

func TestValidKey(t *testing.T) {
	for _, key := range []int{1, 2, 11, impl.Prime - 2, impl.Prime - 1} {
		expectBool(t, "ValidKey("+impl.FormatInt(key)+")", impl.ValidKey(key), true)
	}
	for _, key := range append(noResidues(), 0) {
		expectBool(t, "ValidKey("+impl.FormatInt(key)+")", impl.ValidKey(key), false)
	}
}

func TestChainsOfWrittenNumbers(t *testing.T) {
	cases := []struct {
		b        int
		l        []int
		add, sub int
	}{
		{5, nil, 5, 5}, {5, []int{}, 5, 5}, {-1, nil, -1, -1}, {impl.Prime, nil, impl.Prime, impl.Prime}, {math.MinInt, []int{}, math.MinInt, math.MinInt},
		{5, []int{1, 2}, 8, 2}, {5, []int{impl.Prime - 1}, 4, 6}, {0, []int{1, 2, 3}, 6, impl.Prime - 6},
		{-1, []int{3}, 0, 0}, {impl.Prime, []int{3}, 0, 0}, {5, []int{-1}, 0, 0}, {5, []int{impl.Prime}, 0, 0},
		// What is out of range makes 0; the elements behind it still count, for ChainSub those before it.
		{-1, []int{3, 4}, 4, impl.Prime - 3}, {5, []int{1, -1, 2}, 2, impl.Prime - 1}, {5, []int{impl.Prime, 7, 9}, 16, 0}, {5, []int{7, 9, -3}, 0, impl.Prime - 16},
	}
	for _, c := range cases {
		if n := impl.ChainAdd(c.b, c.l); n != c.add {
			t.Errorf("ChainAdd(%d, %v) = %d; want %d", c.b, c.l, n, c.add)
		}
		if n := impl.ChainSub(c.b, c.l); n != c.sub {
			t.Errorf("ChainSub(%d, %v) = %d; want %d", c.b, c.l, n, c.sub)
		}
	}
}

func TestChainSubUndoesChainAdd(t *testing.T) {
	r := rand.New(rand.NewSource(4))
	for range 5000 {
		b := r.Intn(impl.Prime)
		l := make([]int, r.Intn(12))
		for i := range l {
			l[i] = r.Intn(impl.Prime)
		}
		x := impl.ChainAdd(b, l)
		if n := impl.ChainSub(x, l); n != b {
			t.Fatalf("ChainSub(ChainAdd(%d, %v)) = %d", b, l, n)
		}
		// A chain is undone from its end, element by element.
		for i := len(l); i > 0; i-- {
			x = impl.SubMod(x, l[i-1])
			if n := impl.ChainAdd(b, l[:i-1]); n != x {
				t.Fatalf("ChainAdd(%d, %v) = %d; want %d", b, l[:i-1], n, x)
			}
		}
	}
}

func TestEqualInts(t *testing.T) {
	cases := []struct {
		a, b []int
		want bool
	}{
		{nil, nil, true}, {nil, []int{}, true}, {[]int{}, nil, true}, {[]int{1}, []int{1}, true}, {[]int{1, 2}, []int{1, 2}, true},
		{[]int{1}, []int{2}, false}, {[]int{1}, nil, false}, {nil, []int{0}, false}, {[]int{1, 2}, []int{1}, false}, {[]int{1}, []int{1, 2}, false},
		{[]int{1, 2}, []int{2, 1}, false}, {[]int{1, 2}, []int{1, 3}, false}, {[]int{1, 2}, []int{3, 2}, false}, {[]int{1}, []int{1 + impl.Prime}, false},
	}
	for _, c := range cases {
		if ok := impl.EqualInts(c.a, c.b); ok != c.want {
			t.Errorf("EqualInts(%v, %v) = %v", c.a, c.b, ok)
		}
	}
}

func TestMixingLeavesArgumentsAlone(t *testing.T) {
	plain := []int{3, 1, 2}
	l := withSpare(plain, 77)
	impl.Digest(l)
	impl.ComputeMAC(5, l)
	impl.ChainAdd(5, l)
	impl.ChainSub(5, l)
	impl.EqualInts(l, l)
	expectUntouched(t, l, plain, 77)
}
