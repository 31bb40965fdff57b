package tests

import (
	"math"
	"math/rand"
	"slices"
	"testing"

	"loop.example/g00505/impl"
)

// modelSign signs by the words of the document.
func modelSign(key int, l []int) int {
	return modelDigest(slices.Concat([]int{key, 77}, l, []int{key}))
}

// texts are lists of integers that are signed.
func texts() [][]int {
	return [][]int{nil, {}, {0}, {77}, {5, 6}, {-1, -2}, {impl.Prime, impl.Prime + 1, math.MaxInt, math.MinInt}, {1, 2, 3, 4, 5, 6, 7, 8, 9, 10}}
}

func TestSignLists(t *testing.T) {
	for _, key := range append(strange(), 0, 1, 11, impl.Prime-1, impl.Prime) {
		for _, l := range texts() {
			expectInt(t, "Sign", impl.Sign(key, l), modelSign(key, l))
		}
	}
	expectInt(t, "Sign of an empty list", impl.Sign(11, nil), modelDigest([]int{11, 77, 11}))
	r := rand.New(rand.NewSource(25))
	for range 500 {
		l := make([]int, r.Intn(9))
		for i := range l {
			l[i] = int(r.Uint64())
		}
		key := r.Intn(impl.Prime)
		expectInt(t, "Sign", impl.Sign(key, l), modelSign(key, l))
	}
}

func TestSignAsEachAS(t *testing.T) {
	p := world()
	for r, a := range p.ASes {
		for _, l := range texts() {
			expectSame(t, "SignAs", impl.SignAs(p, r, l), impl.Signature{AS: r, Value: modelSign(a.Key, l)})
		}
	}
	for _, r := range append(strange(), 8, 16) {
		expectSame(t, "SignAs of no AS", impl.SignAs(p, r, []int{5}), impl.Signature{AS: -1})
	}
	expectSame(t, "SignAs without ASes", impl.SignAs(impl.Topology{}, 0, []int{5}), impl.Signature{AS: -1})
	// Neither the topology nor the key need be valid, and an AS may be beyond all sets.
	large := largeTopology()
	last := len(large.ASes) - 1
	large.ASes[last].Key = -3
	expectSame(t, "SignAs of a late AS", impl.SignAs(large, last, []int{5}), impl.Signature{AS: last, Value: modelSign(-3, []int{5})})
	expectBool(t, "VerifySignature of a late AS", impl.VerifySignature(large, impl.SignAs(large, last, []int{5}), []int{5}), true)
}

func TestASignatureBelongsToItsSignerOnly(t *testing.T) {
	p := world()
	for r, a := range p.ASes {
		for i, l := range texts() {
			v := impl.Signature{AS: r, Value: modelSign(a.Key, l)}
			expectBool(t, "VerifySignature", impl.VerifySignature(p, v, l), true)
			for other := range p.ASes {
				expectBool(t, "VerifySignature of another AS", impl.VerifySignature(p, impl.Signature{AS: other, Value: v.Value}, l), other == r)
			}
			for k, m := range texts() {
				expectBool(t, "VerifySignature of another list", impl.VerifySignature(p, v, m), k == i || len(l)+len(m) == 0)
			}
			for _, by := range []int{1, -1, impl.Prime, -impl.Prime} {
				expectBool(t, "VerifySignature of another value", impl.VerifySignature(p, impl.Signature{AS: r, Value: v.Value + by}, l), false)
			}
			for k := range l {
				m := slices.Clone(l)
				m[k] ^= 1
				expectBool(t, "VerifySignature with another element", impl.VerifySignature(p, v, m), false)
			}
		}
	}
}

func TestDataWithTheSameDigestHaveTheSameSignature(t *testing.T) {
	p := world()
	v := impl.SignAs(p, 3, []int{5, -1})
	expectBool(t, "VerifySignature", impl.VerifySignature(p, v, []int{5 + impl.Prime, impl.Prime - 1}), true)
	expectBool(t, "VerifySignature", impl.VerifySignature(p, v, []int{5 + impl.Prime, impl.Prime}), false)
}

func TestSignaturesOfASesThatDoNotExist(t *testing.T) {
	p := world()
	for _, r := range append(strange(), 8, 9) {
		for _, key := range []int{0, 1, 101, p.ASes[7].Key} {
			expectBool(t, "VerifySignature of no AS", impl.VerifySignature(p, impl.Signature{AS: r, Value: modelSign(key, []int{5})}, []int{5}), false)
		}
		expectBool(t, "VerifySignature of no AS", impl.VerifySignature(p, impl.Signature{AS: r}, []int{5}), false)
		expectBool(t, "VerifySignature of what SignAs returns", impl.VerifySignature(p, impl.SignAs(p, r, []int{5}), []int{5}), false)
	}
	expectBool(t, "VerifySignature without ASes", impl.VerifySignature(impl.Topology{}, impl.Signature{Value: modelSign(0, nil)}, nil), false)
	expectBool(t, "VerifySignature of nobody without ASes", impl.VerifySignature(impl.Topology{}, impl.Signature{AS: -1}, nil), false)
}

func TestSigners(t *testing.T) {
	p := world()
	l := []int{5, 6}
	v := []impl.Signature{impl.SignAs(p, 4, l), impl.SignAs(p, 0, l), impl.SignAs(p, 7, []int{5}), impl.SignAs(p, 2, l), {AS: -1}, {AS: 8, Value: 3}, impl.SignAs(p, 0, l)}
	cases := map[int]int{0: 0, 1: 1, 1 + 4: 1 + 4, 1 + 4 + 16: 1 + 4 + 16, fullSet: 1 + 4 + 16, 128: 0, 2 + 8: 0, 256: 0, 2 + 4: 4, -1: 0, fullSet + 1: 0, 65536 + 1: 0, math.MaxInt: 0, math.MinInt: 0}
	for voters, want := range cases {
		expectInt(t, "Signers among "+impl.FormatInt(voters), impl.Signers(p, v, voters, l), want)
	}
	expectInt(t, "Signers of nothing", impl.Signers(p, nil, fullSet, l), 0)
	expectInt(t, "Signers without ASes", impl.Signers(impl.Topology{}, v, fullSet, l), 0)
	expectInt(t, "Signers of another list", impl.Signers(p, v, fullSet, []int{5}), 128)
	// One of two signatures of the same AS is enough.
	good, bad := impl.SignAs(p, 3, l), impl.Signature{AS: 3, Value: 9}
	for _, w := range [][]impl.Signature{{good, bad}, {bad, good}, {bad, good, bad}} {
		expectInt(t, "Signers with two signatures", impl.Signers(p, w, fullSet, l), 8)
	}
	expectInt(t, "Signers with a wrong signature", impl.Signers(p, []impl.Signature{bad, bad}, fullSet, l), 0)
}

// ASes beyond 15 are in no set, although their signatures verify.
func TestSignersBeyondAllSets(t *testing.T) {
	p := impl.Topology{}
	for i := range 20 {
		p.ASes = append(p.ASes, impl.AS{Key: i + 1})
	}
	v := []impl.Signature{}
	for r := range p.ASes {
		v = append(v, impl.SignAs(p, r, nil))
	}
	expectInt(t, "Signers", impl.Signers(p, v, fullSet, nil), fullSet)
	expectInt(t, "Signers", impl.Signers(p, v[14:], fullSet, nil), 3<<14)
	expectInt(t, "Signers", impl.Signers(p, v[16:], fullSet, nil), 0)
}

func TestAddSignature(t *testing.T) {
	x := impl.Signature{AS: 3, Value: 9}
	a, b, c := impl.Signature{AS: 3, Value: 1}, impl.Signature{AS: 4, Value: 2}, impl.Signature{AS: 3, Value: 5}
	cases := [][2][]impl.Signature{
		{nil, {x}}, {{}, {x}}, {{a}, {x}}, {{b}, {b, x}}, {{a, b}, {x, b}}, {{b, a}, {b, x}}, {{a, b, c}, {x, b, c}}, {{b, c, a}, {b, x, a}}, {{x}, {x}}, {{b, b}, {b, b, x}},
	}
	for _, l := range cases {
		expectSame(t, "AddSignature", impl.AddSignature(l[0], x), l[1])
	}
	// The AS need not exist.
	none := impl.Signature{AS: -1, Value: 7}
	expectSame(t, "AddSignature of nobody", impl.AddSignature([]impl.Signature{b, {AS: -1}}, none), []impl.Signature{b, none})
}

func TestEqualSignatures(t *testing.T) {
	a, b := impl.Signature{AS: 3, Value: 1}, impl.Signature{AS: 4, Value: 2}
	l := []impl.Signature{a, b}
	expectBool(t, "EqualSignatures", impl.EqualSignatures(l, slices.Clone(l)), true)
	expectBool(t, "EqualSignatures of nil and empty", impl.EqualSignatures(nil, []impl.Signature{}), true)
	expectBool(t, "EqualSignatures of empty and nil", impl.EqualSignatures([]impl.Signature{}, nil), true)
	for _, m := range [][]impl.Signature{nil, {a}, {b}, {b, a}, {a, b, b}, {a, {AS: 4, Value: 3}}, {a, {AS: 5, Value: 2}}, {{AS: 4, Value: 1}, b}, {{AS: 3}, b}} {
		expectBool(t, "EqualSignatures", impl.EqualSignatures(l, m), false)
		expectBool(t, "EqualSignatures", impl.EqualSignatures(m, l), false)
	}
}

func TestSignedData(t *testing.T) {
	s := impl.Segment{Timestamp: 10, Beta: 500, Hops: []impl.Hop{{AS: 1, Ingress: 2, Egress: 3, Expiry: 4, MAC: 5}, {AS: 6, Ingress: 7, Egress: 8, Expiry: 9, MAC: -10}}}
	expectInts(t, "SignedData of 0 hops", impl.SignedData(s, 0), 10, 500, 0)
	expectInts(t, "SignedData of 1 hop", impl.SignedData(s, 1), 10, 500, 1, 1, 2, 3, 4, 5)
	expectInts(t, "SignedData of 2 hops", impl.SignedData(s, 2), 10, 500, 2, 1, 2, 3, 4, 5, 6, 7, 8, 9, -10)
	for _, i := range append(strange(), 3, 4) {
		expectInts(t, "SignedData of other hops", impl.SignedData(s, i))
	}
	s.Hops = nil
	expectInts(t, "SignedData without hops", impl.SignedData(s, 0), 10, 500, 0)
	expectInts(t, "SignedData without hops", impl.SignedData(s, 1))
	expectInts(t, "SignedData without hops", impl.SignedData(s, -1))
}

func TestSigningSharesNoMemory(t *testing.T) {
	p, l := world(), []int{5, 6, 7}
	v := []impl.Signature{impl.SignAs(p, 4, l), impl.SignAs(p, 0, l)}
	expectPure(t, "Sign", impl.Sign, 11, l)
	expectPure(t, "SignAs", impl.SignAs, p, 4, l)
	expectPure(t, "VerifySignature", impl.VerifySignature, p, v[0], l)
	expectPure(t, "Signers", impl.Signers, p, v, fullSet, l)
	expectPure(t, "EqualSignatures", impl.EqualSignatures, v, v)
	for _, w := range [][]impl.Signature{v, v[1:], nil, {}} {
		expectPure(t, "AddSignature", impl.AddSignature, w, impl.SignAs(p, 4, []int{1}))
	}
	for i := -1; i <= 4; i++ {
		expectPure(t, "SignedData", impl.SignedData, along(p, "0:0>3 3:1>3 4:1>0"), i)
	}
}
