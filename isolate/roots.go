package isolate

import (
	"iter"

	"orrery/api"
	"orrery/poly"
	"orrery/ratio"
)

// apart gives, in ascending order, disjoint parts of s with exactly one root of p each, together all roots in s; p is squarefree, or 0, which counts as having no roots.
func apart(p api.Poly, s span) iter.Seq[span] {
	return func(yield func(part span) bool) {
		if s.empty() {
			return
		}
		// The lowest one of those still to be searched is the last one.
		left := []span{s}
		for len(left) > 0 {
			part := left[len(left)-1]
			left = left[:len(left)-1]
			switch ceiling(p, part) {
			case 0:
			case 1:
				if !yield(part) {
					return
				}
			default:
				mid := part.cut()
				left = append(left, span{mid, part.hi}, span{part.lo, mid})
			}
		}
	}
}

// ceiling returns the number of p's roots in s, or a greater one. A result of 0 or 1 is the number itself, and in a span that is short enough it is one of these.
func ceiling(p api.Poly, s span) int {
	width := ratio.Sub(s.hi, s.lo)
	// With t for lo + 1 / (x + 1 / width), the roots between lo and hi are those for an x above 0. By Descartes's rule they are as many as the sign changes, or fewer by an even number. x = 0 stands for hi; lo is at no x, and a root there only lowers the degree.
	p, _ = poly.Move(p, s.lo.Int, s.lo.D)
	p, _ = poly.Move(reversed(p), width.D, width.Int)
	n := changes(p)
	if len(p) > 0 && p[0].Zero() {
		n++
	}
	return n
}

// reversed returns t^k p(1 / t), where k is the degree of p; zeros at p's low end stay on top.
func reversed(p api.Poly) api.Poly {
	out := make(api.Poly, len(p))
	for i, x := range p {
		out[len(p)-1-i] = x
	}
	return out
}

// changes returns the number of sign changes in the list of p's coefficients, zeros left out.
func changes(p api.Poly) int {
	n, last := 0, 0
	for _, x := range p {
		s := x.Sign()
		if s == 0 {
			continue
		}
		if s == -last {
			n++
		}
		last = s
	}
	return n
}

// rootsIn gives the roots of p in s in ascending order, each as new memory; p is as for apart.
func rootsIn(p api.Poly, s span) iter.Seq[api.Alg] {
	return func(yield func(a api.Alg) bool) {
		for part := range apart(p, s) {
			if !yield(rootIn(p, part)) {
				return
			}
		}
	}
}

// rootIn returns the only root of p in s as new memory: the number itself where it is plain to see.
func rootIn(p api.Poly, s span) api.Alg {
	if p.Deg() == 1 {
		t, _ := ratio.Make(p[0], p[1])
		s.hi = ratio.Neg(t)
	}
	if poly.Sign(p, s.hi) == 0 {
		s.lo = s.hi
	}
	// The greatest of one number is this number, as new memory.
	return api.Alg{P: poly.Norm(p), Lo: ratio.Max(s.lo), Hi: ratio.Max(s.hi)}
}

// onlyOne tells whether l gives exactly one span.
func onlyOne(l iter.Seq[span]) bool {
	n := 0
	for range l {
		n++
		if n > 1 {
			break
		}
	}
	return n == 1
}
