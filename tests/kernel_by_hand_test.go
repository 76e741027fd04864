package tests

import (
	"fmt"
	"strings"

	"loop.example/g00313/impl"
)

const lastNow = 500000000

// kernelOf has a channel of each word such as 1.2>3.4: from the port 2 of the
// partition 1 to the port 4 of 3.
func kernelOf(now int64, frame string, chans string, parts ...lines) impl.Kernel {
	k := impl.Kernel{Now: now, Chans: chansOf(chans)}
	f, ok := impl.ReadFrame(frame)
	if !ok {
		panic("no frame: " + frame)
	}
	k.Frame = f
	for _, l := range parts {
		k.Parts = append(k.Parts, l.over(impl.Part{}))
	}
	return k
}

func chansOf(s string) []impl.Chan {
	var l []impl.Chan
	for _, word := range strings.Fields(s) {
		var c impl.Chan
		if _, err := fmt.Sscanf(word, "%d.%d>%d.%d", &c.From, &c.FromPort, &c.To, &c.ToPort); err != nil {
			panic("no channel: " + word)
		}
		l = append(l, c)
	}
	return l
}

func kernelText(k impl.Kernel) string {
	s := fmt.Sprintln(k.Now, k.Frame, k.Chans)
	for _, p := range k.Parts {
		s += impl.PartText(p)
	}
	return s
}

func partAt(k *impl.Kernel, id int64) *impl.Part {
	return at(k.Parts, id, func(p impl.Part) int64 { return p.Id })
}

func portAt(k *impl.Kernel, part, id int64) *impl.Port {
	p := partAt(k, part)
	if p == nil {
		return nil
	}
	return at(p.Ports, id, func(q impl.Port) int64 { return q.Id })
}

// ends are the ports that a channel of a right kernel joins.
func ends(k *impl.Kernel, c impl.Chan) (*impl.Port, *impl.Port) {
	return portAt(k, c.From, c.FromPort), portAt(k, c.To, c.ToPort)
}

// ruledKernel is KernelOk as chapter 6 has it, sentence by sentence.
func ruledKernel(k impl.Kernel) bool {
	ok := within(k.Now, 0, lastNow) && impl.FrameOk(k.Frame) && len(k.Parts) <= 6
	for i, p := range k.Parts {
		ok = ok && ruledPart(p) && (i == 0 || k.Parts[i-1].Id < p.Id)
	}
	return ok && ruledChans(k)
}

func ruledChans(k impl.Kernel) bool {
	ok := len(k.Chans) <= 10
	for i, c := range k.Chans {
		from, to := ends(&k, c)
		ok = ok && from != nil && to != nil && c.From != c.To && from.Out && !to.Out && from.Queue == to.Queue
		for _, e := range k.Chans[:i] {
			ok = ok && (e.To != c.To || e.ToPort != c.ToPort)
			ok = ok && (e.From != c.From || e.FromPort != c.FromPort || !from.Queue)
		}
	}
	return ok
}

// carriedByHand is Carried of a right kernel with such a partition.
func carriedByHand(k impl.Kernel, id int64) impl.Kernel {
	k = copied(k)
	for _, c := range k.Chans {
		from, to := ends(&k, c)
		switch {
		case c.From != id || len(from.Items) == 0:
		case !from.Queue:
			to.Items = []string{from.Items[0]}
		default:
			for len(from.Items) > 0 && int64(len(to.Items)) < to.Max {
				to.Items, from.Items = append(to.Items, from.Items[0]), from.Items[1:]
			}
		}
	}
	return k
}

func ownerByHand(k impl.Kernel) int64 { return ownersOf(k.Frame)[k.Now%k.Frame.Major] }

// steppedByHand is Stepped of a right kernel.
func steppedByHand(k impl.Kernel) (impl.Kernel, bool) {
	if k.Now == lastNow {
		return impl.Kernel{}, false
	}
	k = copied(k)
	owner := ownerByHand(k)
	if p := partAt(&k, owner); p != nil {
		if p.Next > impl.MaxTime-20 {
			return impl.Kernel{}, false
		}
		*p = tickedByHand(*p, k.Now)
		k = carriedByHand(k, owner)
	}
	k.Now++
	return k, true
}

func ranByHand(k impl.Kernel, n int64) (impl.Kernel, bool) {
	k = copied(k)
	for range n {
		next, ok := steppedByHand(k)
		if !ok {
			return impl.Kernel{}, false
		}
		k = next
	}
	return k, true
}

// rolledKernel is a right kernel whose windows are short, so that many
// partitions go on within a few steps.
func rolledKernel(d *dice) impl.Kernel {
	k := impl.Kernel{Now: d.below(6), Frame: rolledFrame(d)}
	for id := int64(1); id <= 6; id++ {
		if d.below(3) > 0 {
			p := rolledForTicks(d)
			p.Id = id
			k.Parts = append(k.Parts, p)
		}
	}
	return linkedBy(d, k, d.below(80))
}

// linkedBy lays channels into k as they are rolled, where they are right.
func linkedBy(d *dice, k impl.Kernel, tries int64) impl.Kernel {
	for range tries {
		c := impl.Chan{From: 1 + d.below(6), FromPort: 1 + d.below(5), To: 1 + d.below(6), ToPort: 1 + d.below(5)}
		more := k
		more.Chans = append(more.Chans[:len(k.Chans):len(k.Chans)], c)
		if ruledChans(more) {
			k = more
		}
	}
	return k
}

// spoilKernel changes one thing of k, mostly to a wrong one.
func spoilKernel(d *dice, k *impl.Kernel) {
	n := edgeNumbers[d.below(int64(len(edgeNumbers)))]
	if d.below(2) == 0 {
		n = d.below(9) - 1
	}
	parts, chans := int64(len(k.Parts)), int64(len(k.Chans))
	switch d.below(8) {
	case 0:
		k.Now = lastNow - 1 + d.below(3)
	case 1:
		k.Now = n
	case 2:
		k.Frame.Major = n
	case 3:
		if parts > 0 {
			spoil(d, &k.Parts[d.below(parts)])
		}
	case 4:
		if parts > 0 {
			i, j := d.below(parts), d.below(parts)
			k.Parts[i], k.Parts[j] = k.Parts[j], k.Parts[i]
		}
	case 5:
		if parts > 0 {
			k.Parts = append(k.Parts, k.Parts[d.below(parts)])
		}
	case 6:
		k.Chans = append(k.Chans, impl.Chan{From: 1 + d.below(6), FromPort: 1 + d.below(5), To: 1 + d.below(6), ToPort: 1 + d.below(5)})
	default:
		if chans > 0 {
			c := &k.Chans[d.below(chans)]
			*[]*int64{&c.From, &c.FromPort, &c.To, &c.ToPort}[d.below(4)] = n
		}
	}
}
