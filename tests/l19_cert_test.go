package tests

import (
	"math"
	"slices"
	"testing"

	"loop.example/g00505/impl"
)

// certified returns the certificate of AS r of the council, signed by the AS by; both exist.
func certified(r int, by int, version int, from int, until int) impl.Certificate {
	p := council()
	x := impl.Certificate{AS: r, KeyDigest: modelDigest([]int{p.ASes[r].Key}), RootVersion: version, NotBefore: from, NotAfter: until}
	return resigned(x, by)
}

// resigned returns x with a signature by this AS of the council.
func resigned(x impl.Certificate, by int) impl.Certificate {
	l := []int{x.AS, x.KeyDigest, x.RootVersion, x.NotBefore, x.NotAfter}
	x.Signature = impl.Signature{AS: by, Value: modelSign(council().ASes[by].Key, l)}
	return x
}

func expectCertificate(t *testing.T, what string, l []impl.TrustRoot, x impl.Certificate, now int, want bool) {
	t.Helper()
	if ok := impl.CertificateValid(council(), l, x, now); ok != want {
		t.Errorf("%s: CertificateValid(%+v, %d) = %v", what, x, now, ok)
	}
}

func TestCertificateData(t *testing.T) {
	x := impl.Certificate{AS: 1, KeyDigest: 2, RootVersion: 3, NotBefore: 4, NotAfter: -5, Signature: impl.Signature{AS: 6, Value: 7}}
	expectInts(t, "CertificateData", impl.CertificateData(x), 1, 2, 3, 4, -5)
	expectInts(t, "CertificateData of the zero certificate", impl.CertificateData(impl.Certificate{}), 0, 0, 0, 0, 0)
}

func TestIssueCertificate(t *testing.T) {
	p := council()
	for r := range p.ASes {
		for by := range p.ASes {
			expectSame(t, "IssueCertificate", impl.IssueCertificate(p, r, by, 2, 160, 280), certified(r, by, 2, 160, 280))
		}
	}
	// The other fields are taken as they are.
	expectSame(t, "IssueCertificate", impl.IssueCertificate(p, 4, 0, math.MinInt, 9, -9), certified(4, 0, math.MinInt, 9, -9))
	for _, r := range append(strange(), 7, 8) {
		expectSame(t, "IssueCertificate of no AS", impl.IssueCertificate(p, r, 0, 1, 100, 200), impl.Certificate{})
		expectSame(t, "IssueCertificate by no AS", impl.IssueCertificate(p, 0, r, 1, 100, 200), impl.Certificate{})
	}
	expectSame(t, "IssueCertificate without ASes", impl.IssueCertificate(impl.Topology{}, 0, 0, 1, 100, 200), impl.Certificate{})
}

func TestCertificatesOfEachRootAtEachTime(t *testing.T) {
	l := threeRoots()
	// The first and the last time at which certificates of a root are valid: as long as it is, or as it is the one before the active one.
	times := map[int][2]int{1: {100, 249}, 2: {150, 400}, 3: {250, 400}}
	for version := -1; version <= 5; version++ {
		for by := range council().ASes {
			x := certified(4, by, version, -1000, impl.MaxTime+1000)
			for _, now := range []int{-1, 0, 99, 100, 149, 150, 200, 201, 249, 250, 300, 301, 400, 401, impl.MaxTime} {
				from, to := 1, 0
				if span, ok := times[version]; ok && impl.Contains(l[version-1].Voters, by) {
					from, to = span[0], span[1]
				}
				expectCertificate(t, "all roots", l, x, now, from <= now && now <= to)
			}
		}
	}
	for _, version := range strange() {
		expectCertificate(t, "no root", l, certified(4, 0, version, 0, 500), 150, false)
	}
}

func TestCertificatesOfAnEarlierRootThatIsValid(t *testing.T) {
	first, second, third := firstRoot(), secondRoot(), thirdRoot()
	first.NotAfter, second.NotAfter = 280, 260
	l := []impl.TrustRoot{voted(first, 0, 1, 2), voted(second, 0, 1), third}
	// From 250 on, the first root is two before the active one, but valid up to 280.
	for now, want := range map[int]bool{249: true, 250: true, 280: true, 281: false} {
		expectCertificate(t, "the first root", l, certified(4, 0, 1, 0, 500), now, want)
	}
	// The second root is before the active one.
	for now, want := range map[int]bool{260: true, 261: true, 400: true, 401: false} {
		expectCertificate(t, "the second root", l, certified(4, 3, 2, 0, 500), now, want)
	}
	// If the active one is the first root, there is none before it; nor is there if none is active.
	expectCertificate(t, "the last root", l[:1], certified(4, 0, 1, 0, 500), 280, true)
	expectCertificate(t, "the last root", l[:1], certified(4, 0, 1, 0, 500), 281, false)
	expectCertificate(t, "the last root", l, certified(4, 0, 3, 0, 500), 401, false)
	expectCertificate(t, "the root before the last", l, certified(4, 3, 2, 0, 500), 401, false)
	// Behind its end, the second root is before no active one: the first one is active again.
	second.NotAfter = 160
	l = []impl.TrustRoot{voted(first, 0, 1, 2), voted(second, 0, 1)}
	for now, want := range map[int]bool{149: false, 150: true, 160: true, 161: false} {
		expectCertificate(t, "a short root", l, certified(4, 3, 2, 0, 500), now, want)
	}
}

func TestCertificateValidAtTheEndsOfItsTime(t *testing.T) {
	l := threeRoots()
	x := certified(4, 3, 2, 160, 280)
	for now, want := range map[int]bool{159: false, 160: true, 161: true, 279: true, 280: true, 281: false} {
		expectCertificate(t, "a certificate", l, x, now, want)
	}
	expectCertificate(t, "a certificate of one time", l, certified(4, 3, 2, 160, 160), 160, true)
	expectCertificate(t, "a certificate of no time", l, certified(4, 3, 2, 161, 160), 160, false)
	for _, now := range strange() {
		if now < 160 || now > 280 {
			expectCertificate(t, "a strange time", l, x, now, false)
		}
	}
}

func TestCertificateValidWithOneConditionBroken(t *testing.T) {
	l := threeRoots()
	x := certified(4, 0, 1, 0, 500)
	expectCertificate(t, "all conditions", l, x, 130, true)
	unsigned := threeRoots()
	unsigned[2] = voted(unsigned[2])
	for _, chain := range [][]impl.TrustRoot{nil, {}, unsigned, l[1:], {l[0], l[0]}, {l[1], l[0]}} {
		expectCertificate(t, "an invalid chain", chain, x, 130, false)
	}
	for r := range council().ASes {
		expectCertificate(t, "an AS", l, certified(r, 0, 1, 0, 500), 130, r < 5)
	}
	for _, r := range append(strange(), 7) {
		y := x
		y.AS = r
		expectCertificate(t, "no AS", l, resigned(y, 0), 130, false)
	}
	for _, digest := range []int{x.KeyDigest + 1, x.KeyDigest + impl.Prime, modelDigest([]int{21}), 25, 0, -1} {
		y := x
		y.KeyDigest = digest
		expectCertificate(t, "another key", l, resigned(y, 0), 130, false)
	}
	for _, by := range append(strange(), 7) {
		y := x
		y.Signature.AS = by
		expectCertificate(t, "a signature by no AS", l, y, 130, false)
	}
	y := x
	y.Signature.Value++
	expectCertificate(t, "a wrong signature", l, y, 130, false)
	y = x
	y.Signature.AS = 1
	expectCertificate(t, "another signer", l, y, 130, false)
	y = x
	y.NotAfter++
	expectCertificate(t, "other data", l, y, 130, false)
	expectCertificate(t, "a voter of another root", l, certified(4, 3, 1, 0, 500), 160, false)
	expectCertificate(t, "a voter of another root", l, certified(4, 0, 2, 0, 500), 160, false)
	expectCertificate(t, "an AS that votes for itself", l, certified(4, 4, 1, 0, 500), 130, false)
	expectCertificate(t, "a voter that certifies itself", l, certified(0, 0, 1, 0, 500), 130, true)
	expectBool(t, "CertificateValid without ASes", impl.CertificateValid(impl.Topology{}, l, x, 130), false)
}

// someCertificates are the following at the time 160: not valid, valid, not valid, valid for the same AS as before, valid for another.
func someCertificates() []impl.Certificate {
	forged := certified(4, 0, 1, 0, 500)
	forged.Signature.Value++
	return []impl.Certificate{forged, certified(4, 0, 1, 0, 500), certified(2, 0, 1, 0, 159), certified(4, 3, 2, 100, 500), certified(0, 3, 2, 0, 500), certified(5, 3, 2, 0, 500), {}}
}

func TestFindCertificate(t *testing.T) {
	p, l, m := council(), threeRoots(), someCertificates()
	for r, want := range map[int]int{0: 4, 1: -1, 2: -1, 3: -1, 4: 1, 5: -1, 6: -1, 7: -1} {
		expectInt(t, "FindCertificate of "+impl.FormatInt(r), impl.FindCertificate(p, l, m, r, 160), want)
	}
	expectInt(t, "FindCertificate at an earlier time", impl.FindCertificate(p, l, m, 2, 159), 2)
	expectInt(t, "FindCertificate at a later time", impl.FindCertificate(p, l, m, 4, 260), 3)
	expectInt(t, "FindCertificate of the other one first", impl.FindCertificate(p, l, []impl.Certificate{m[3], m[1]}, 4, 160), 0)
	for _, r := range strange() {
		expectInt(t, "FindCertificate of no AS", impl.FindCertificate(p, l, m, r, 160), -1)
		expectInt(t, "FindCertificate at a strange time", impl.FindCertificate(p, l, m, 4, r), map[bool]int{true: 1, false: -1}[r == 100])
	}
	expectInt(t, "FindCertificate of nothing", impl.FindCertificate(p, l, nil, 4, 160), -1)
	expectInt(t, "FindCertificate with an invalid chain", impl.FindCertificate(p, l[1:], m, 4, 160), -1)
	many := slices.Concat(slices.Repeat(m[:1], 300), m[1:2], slices.Repeat(m[3:4], 300))
	expectInt(t, "FindCertificate among many", impl.FindCertificate(p, l, many, 4, 160), 300)
}

func TestCertifiedASes(t *testing.T) {
	p, l, m := council(), threeRoots(), someCertificates()
	for now, want := range map[int]int{99: 0, 100: 4 + 16, 149: 4 + 16, 150: 1 + 4 + 16, 159: 1 + 4 + 16, 160: 1 + 16, 300: 1 + 16, 400: 1 + 16, 401: 0} {
		expectInt(t, "CertifiedASes at "+impl.FormatInt(now), impl.CertifiedASes(p, l, m, now), want)
	}
	expectInt(t, "CertifiedASes of nothing", impl.CertifiedASes(p, l, nil, 160), 0)
	expectInt(t, "CertifiedASes with an invalid chain", impl.CertifiedASes(p, nil, m, 160), 0)
	expectInt(t, "CertifiedASes without ASes", impl.CertifiedASes(impl.Topology{}, l, m, 160), 0)
}

// ASes beyond 15 may have a certificate, but are in no set.
func TestCertifiedASesBeyondAllSets(t *testing.T) {
	p := impl.Topology{ASes: []impl.AS{{Core: true, Key: 1}}}
	for key := 2; key <= 20; key++ {
		p.ASes = append(p.ASes, impl.AS{Key: key})
	}
	x := impl.TrustRoot{Version: 1, NotAfter: 50, Voters: 1, Quorum: 1}
	x.Signatures = []impl.Signature{impl.SignAs(p, 0, impl.RootData(x))}
	l := []impl.TrustRoot{x}
	m := []impl.Certificate{}
	for r := 14; r < 20; r++ {
		m = append(m, impl.IssueCertificate(p, r, 0, 1, 0, 50))
		expectInt(t, "FindCertificate", impl.FindCertificate(p, l, m, r, 9), r-14)
	}
	expectInt(t, "CertifiedASes", impl.CertifiedASes(p, l, m, 9), 3<<14)
	expectInt(t, "CertifiedASes", impl.CertifiedASes(p, l, m[2:], 9), 0)
}

func TestFormatCertificate(t *testing.T) {
	p := council()
	expectText(t, "FormatCertificate", impl.FormatCertificate(p, certified(4, 3, 2, 0, 9)), "1-4@2<1-3")
	expectText(t, "FormatCertificate of the zero certificate", impl.FormatCertificate(p, impl.Certificate{}), "1-0@0<1-0")
	expectText(t, "FormatCertificate of no AS", impl.FormatCertificate(p, impl.Certificate{AS: 7, RootVersion: -5, Signature: impl.Signature{AS: 5}}), "?@-5<2-5")
	expectText(t, "FormatCertificate by no AS", impl.FormatCertificate(p, impl.Certificate{AS: 6, RootVersion: 12, Signature: impl.Signature{AS: -1}}), "0-6@12<?")
	expectText(t, "FormatCertificate without ASes", impl.FormatCertificate(impl.Topology{}, impl.Certificate{}), "?@0<?")
}

func TestCertificatesAreLeftAlone(t *testing.T) {
	p, l, m := council(), threeRoots(), someCertificates()
	expectPure(t, "CertificateData", impl.CertificateData, m[1])
	expectPure(t, "IssueCertificate", impl.IssueCertificate, p, 4, 0, 1, 100, 200)
	expectPure(t, "FormatCertificate", impl.FormatCertificate, p, m[1])
	for range 20 {
		expectPure(t, "CertificateValid", impl.CertificateValid, p, l, m[1], 160)
		expectPure(t, "FindCertificate", impl.FindCertificate, p, l, m, 4, 160)
		expectPure(t, "CertifiedASes", impl.CertifiedASes, p, l, m, 160)
	}
}
