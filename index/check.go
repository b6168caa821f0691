package index

import (
	"satchel/api"
	"satchel/pack"
)

// Check tells whether an index may be.
func Check(l []api.Packed) api.Errno {
	switch {
	case isLong(l):
		return api.ErrLong
	case !hasBounds(l):
		return api.ErrRange
	case !hasOrder(l):
		return api.ErrArg
	}
	return api.OK
}

// isLong tells whether there are more packs, or more chunks in all, than there may be.
func isLong(l []api.Packed) bool {
	if len(l) > api.MaxPacks {
		return true
	}
	left := api.MaxHeld
	for _, p := range l {
		if len(p.L) > left {
			return true
		}
		left -= len(p.L)
	}
	return false
}

// hasBounds tells whether each number, Size and At is within its bounds.
func hasBounds(l []api.Packed) bool {
	for _, p := range l {
		if !isNumber(p.Number) || p.Size < 0 || p.Size > api.MaxPack {
			return false
		}
		for _, h := range p.L {
			if pack.Size(h.Size) == 0 || h.At < 0 {
				return false
			}
		}
	}
	return true
}

// hasOrder tells whether the packs' numbers rise, and the chunks of each lie in it one behind the other.
func hasOrder(l []api.Packed) bool {
	last := 0
	for _, p := range l {
		if p.Number <= last || !holdsAll(p) {
			return false
		}
		last = p.Number
	}
	return true
}

// holdsAll tells whether a pack's chunks lie within it, each behind the one ahead of it. An At may be as great as any number, so nothing is added to it ahead of knowing that it is within the pack.
func holdsAll(p api.Packed) bool {
	end := 0
	for _, h := range p.L {
		size := pack.Size(h.Size)
		if h.At < end || h.At > p.Size-size {
			return false
		}
		end = h.At + size
	}
	return true
}
