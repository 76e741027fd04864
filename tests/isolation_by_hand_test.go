package tests

import (
	"slices"
	"strings"

	"loop.example/g00313/impl"
)

// fedKernel has the empty partitions ids and a channel of each word, with
// ports of its own: 1>2 is without Queue, 1=2 with it.
func fedKernel(words string, ids ...int64) impl.Kernel {
	k := impl.Kernel{Frame: frame(1), Parts: emptyParts(ids...)}
	for _, word := range strings.Fields(words) {
		queue := word[1] == '='
		from, to := partAt(&k, int64(word[0]-'0')), partAt(&k, int64(word[2]-'0'))
		fromPort, toPort := int64(len(from.Ports)+1), int64(len(to.Ports)+1)
		from.Ports = append(from.Ports, impl.Port{Id: fromPort, Out: true, Queue: queue, Max: 1})
		to.Ports = append(to.Ports, impl.Port{Id: toPort, Queue: queue, Max: 1})
		k.Chans = append(k.Chans, impl.Chan{From: from.Id, FromPort: fromPort, To: to.Id, ToPort: toPort})
	}
	return k
}

// partSet has the partition id where the bit 1 << id is 1.
type partSet uint

func (s partSet) has(id int64) bool { return s>>id&1 == 1 }

// isFed says that whatever feeds one of s is in s.
func (s partSet) isFed(k impl.Kernel) bool {
	for _, c := range k.Chans {
		from, _ := ends(&k, c)
		if s.has(c.To) && !s.has(c.From) || from.Queue && s.has(c.From) && !s.has(c.To) {
			return false
		}
	}
	return true
}

// feedsByHand is FeedsInto of a right kernel: what all sets have in common
// that have part and whatever feeds one of them.
func feedsByHand(k impl.Kernel, part int64) []int64 {
	if partAt(&k, part) == nil {
		return nil
	}
	least := ^partSet(0)
	for s := range partSet(1 << 7) {
		if s.has(part) && s.isFed(k) {
			least &= s
		}
	}
	var l []int64
	for _, p := range k.Parts {
		if least.has(p.Id) {
			l = append(l, p.Id)
		}
	}
	return l
}

// swappedByHand is Swapped, whatever the arguments are.
func swappedByHand(k impl.Kernel, p impl.Part) (impl.Kernel, bool) {
	if !ruledKernel(k) || !ruledPart(p) {
		return impl.Kernel{}, false
	}
	k = copied(k)
	old := partAt(&k, p.Id)
	if old == nil {
		return impl.Kernel{}, false
	}
	*old = copied(p)
	if !ruledKernel(k) {
		return impl.Kernel{}, false
	}
	return k, true
}

// runnerByHand is who does an op in the next step of a right kernel.
func runnerByHand(k impl.Kernel) int64 {
	p := partAt(&k, ownerByHand(k))
	if p == nil {
		return 0
	}
	var ready []*impl.Proc
	woken := wokenByHand(*p, k.Now)
	for i := range woken.Procs {
		if woken.Procs[i].State == impl.PsReady {
			ready = append(ready, &woken.Procs[i])
		}
	}
	if len(ready) == 0 {
		return 0
	}
	return 1000*p.Id + bestFirst(ready)[0].Id
}

// runnersByHand is RunnersOf of a right kernel and of 0 .. 200 steps.
func runnersByHand(k impl.Kernel, n int64) ([]int64, bool) {
	var l []int64
	for range n {
		next, ok := steppedByHand(k)
		if !ok {
			return nil, false
		}
		l = append(l, runnerByHand(k))
		k = next
	}
	return l, true
}

// hasChannel says whether a channel of k comes from that port or leads to it.
func hasChannel(k impl.Kernel, part, port int64) bool {
	return slices.ContainsFunc(k.Chans, func(c impl.Chan) bool {
		return c.From == part && c.FromPort == port || c.To == part && c.ToPort == port
	})
}

// stranger is a partition for the place of id that has the ports that its
// channels need, and no more than that in common with the one that is there.
func stranger(d *dice, k impl.Kernel, id int64) impl.Part {
	p := rolledForTicks(d)
	p.Id, p.Ports = id, nil
	for _, q := range partAt(&k, id).Ports {
		if !hasChannel(k, id, q.Id) && d.below(2) == 0 {
			continue
		}
		if q.Queue {
			q.Max = 1 + d.below(5)
		}
		q.Items = rolledItems(d, q.Max)
		p.Ports = append(p.Ports, q)
	}
	return p
}
