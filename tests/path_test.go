package tests

import (
	"math/rand"
	"slices"
	"strings"
	"testing"

	"loop.example/g00505/impl"
)

// partAlong returns a part for a text of the form "up 0:0>3 3:1>0": the kind (up, core, back or down), and the hops in the direction in which the segment was built. With a number behind the kind, as in "up1", the part begins or ends at this hop.
func partAlong(p impl.Topology, text string) impl.PathPart {
	word, hops, _ := strings.Cut(text, " ")
	name := strings.TrimRight(word, "0123456789")
	from, _ := impl.ParseInt(word[len(name):])
	kind := 1 + slices.Index([]string{"up", "core", "back", "down"}, name)
	return modelPart(along(p, hops), kind, from)
}

// pathAlong returns a path with a part for each text. From 10 to 100, its hops are valid.
func pathAlong(p impl.Topology, texts ...string) impl.Path {
	path := impl.Path{}
	for _, text := range texts {
		path.Parts = append(path.Parts, partAlong(p, text))
	}
	return path
}

// longPath leads through the world from AS 4 up to 0, over to 2, and down to 6.
func longPath() impl.Path {
	return pathAlong(world(), "up 0:0>3 3:1>3 4:1>0", "core 0:0>2 2:2>0", "down 2:0>3 5:1>2 6:1>0")
}

// worldPaths are usable paths of the world, with all kinds of parts, whole segments and parts of them.
func worldPaths() []impl.Path {
	texts := [][]string{
		{"up 0:0>3 3:1>3 4:1>0"}, {"up1 0:0>3 3:1>3 4:1>0"}, {"down 2:0>3 5:1>2 6:1>0"}, {"down1 2:0>3 5:1>2 6:1>0"},
		{"core 0:0>1 1:1>2 2:1>6 7:3>0"}, {"back 0:0>1 1:1>2 2:1>6 7:3>0"}, {"core 0:0>2 2:2>0"},
		{"up 0:0>3 3:1>0", "down 0:0>4 4:4>0"}, {"up 0:0>4 4:4>0", "down 0:0>3 3:1>0"},
		{"up 0:0>3 3:1>3 4:1>0", "back 7:0>3 2:6>2 0:2>0"}, {"back 1:0>2 2:1>0", "down 1:0>3 3:2>4 4:2>0"},
		{"up 0:0>3 3:1>3 4:1>0", "core 0:0>2 2:2>0", "down 2:0>3 5:1>2 6:1>0"},
		{"up 2:0>3 5:1>0", "back 0:0>2 2:2>0", "down 0:0>3 3:1>4 4:2>0"},
		{"up 2:0>3 5:1>2 6:1>0", "core 2:0>1 1:2>0", "down 1:0>3 3:2>0"},
	}
	l := []impl.Path{}
	for _, text := range texts {
		l = append(l, pathAlong(world(), text...))
	}
	return l
}

// modelSteps finds the steps by the words of the document.
func modelSteps(p impl.Path) []impl.Step {
	l := []impl.Step{}
	for i, part := range p.Parts {
		for k, h := range part.Hops {
			s := impl.Step{AS: h.AS, Ingress: h.Ingress, Egress: h.Egress}
			if modelReversed(part.Kind) {
				s.Ingress, s.Egress = h.Egress, h.Ingress
			}
			if i > 0 && k == 0 && len(l) > 0 && l[len(l)-1].AS == h.AS {
				l[len(l)-1].Egress = s.Egress
			} else {
				l = append(l, s)
			}
		}
	}
	if len(l) > 0 {
		l[0].Ingress, l[len(l)-1].Egress = 0, 0
	}
	return l
}

// stepsAlong reads steps from a text of the form "0>4>1 3>3>0", which has the AS in the middle.
func stepsAlong(text string) []impl.Step {
	l := []impl.Step{}
	for _, word := range strings.Fields(text) {
		n := [3]int{}
		for i, number := range strings.Split(word, ">") {
			n[i], _ = impl.ParseInt(number)
		}
		l = append(l, impl.Step{AS: n[1], Ingress: n[0], Egress: n[2]})
	}
	return l
}

// manyPaths calls f with combinations of segments of many valid topologies, which are valid from 10 to 110.
func manyPaths(t *testing.T, seed int64, f func(r *rand.Rand, p impl.Topology, path impl.Path)) {
	t.Helper()
	r := rand.New(rand.NewSource(seed))
	parts := map[int]int{}
	for i := range 120 {
		p := randomValidTopology(r)
		if i%30 == 0 {
			p = world()
		}
		k := impl.BuildDatabase(p, nil, impl.RunBeaconing(p, nil, 10))
		for a := range p.ASes {
			for b := range p.ASes {
				l := impl.CombinePaths(p, k, a, b)
				for range min(len(l), 6) {
					path := l[r.Intn(len(l))]
					parts[len(path.Parts)]++
					f(r, p, path)
				}
			}
		}
	}
	if parts[1] < 300 || parts[2] < 300 || parts[3] < 100 {
		t.Errorf("too few paths of some numbers of parts: %v", parts)
	}
}
