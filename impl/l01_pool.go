package impl

import "slices"

// Constants, see chapter 1.
const (
	OK        = 0
	ErrForm   = 1
	ErrSize   = 2
	ErrSyntax = 3
	ErrNone   = 4
	ErrThere  = 5
	ErrFull   = 6
	ErrState  = 7
	ErrRange  = 8
	MaxBytes  = 8000
	MaxList   = 400
	MaxTime   = 1000000
)

// Constants, see chapter 2.
const (
	MaxSlots = 200
	PageSize = 16
	Fan      = 8
)

const maxName = 20

// Ptr is a thing of chapter 2.
type Ptr struct {
	Slot  int64
	Birth int64
}

// Slot is a thing of chapter 2.
type Slot struct {
	Birth int64
	Kids  []Ptr
	Data  string
}

// Pool is a thing of chapter 2.
type Pool struct {
	Slots []Slot
	Held  []int64
}

// PoolOut is a thing of chapter 2.
type PoolOut struct {
	Pool Pool
	Ptr  Ptr
	Code int64
}

// NameRight: see chapter 2. (What is longer than MaxBytes is no name anyway.)
func NameRight(t string) bool {
	if len(t) < 1 || len(t) > maxName || !isLetter(t[0]) {
		return false
	}
	for i := range len(t) {
		if !isLetter(t[i]) && !isDigit(t[i]) && t[i] != '_' {
			return false
		}
	}
	return true
}

func isLetter(b byte) bool {
	return b >= 'a' && b <= 'z'
}

func isDigit(b byte) bool {
	return b >= '0' && b <= '9'
}

// PoolNew: see chapter 2.
func PoolNew(slots int64) Pool {
	if slots < 0 || slots > MaxSlots {
		return Pool{}
	}
	return Pool{Slots: make([]Slot, slots)}
}

// PoolRight: see chapter 2. The lengths come first, so that a huge list is refused without a walk.
func PoolRight(p Pool) bool {
	if len(p.Slots) > MaxSlots || len(p.Held) > len(p.Slots) {
		return false
	}
	for _, s := range p.Slots {
		if !slotRight(p.Slots, s) {
			return false
		}
	}
	return heldRight(p)
}

// PoolAt: see chapter 2.
func PoolAt(p Pool, x Ptr) Slot {
	if !PoolRight(p) || !isPtr(p.Slots, x) {
		return Slot{}
	}
	return cloneSlot(p.Slots[x.Slot])
}

// PoolTake: see chapter 2.
func PoolTake(p Pool, s Slot) PoolOut {
	if !PoolRight(p) || isFree(s) || !slotRight(p.Slots, s) {
		return PoolOut{Code: ErrForm}
	}
	at := slices.IndexFunc(p.Slots, isFree)
	if at < 0 {
		return PoolOut{Code: ErrFull}
	}
	return PoolOut{Pool: withSlot(p, at, s), Ptr: Ptr{Slot: int64(at), Birth: s.Birth}}
}

// PoolHold: see chapter 2. The cut leaves no room behind Held, so that append lays the list anew.
func PoolHold(p Pool, x Ptr) PoolOut {
	if !PoolRight(p) {
		return PoolOut{Code: ErrForm}
	}
	if !isPtr(p.Slots, x) || slices.Contains(p.Held, x.Slot) {
		return PoolOut{Code: ErrNone}
	}
	n := len(p.Held)
	return PoolOut{Pool: Pool{Slots: cloneSlots(p.Slots), Held: append(p.Held[:n:n], x.Slot)}}
}

// PoolSync: see chapter 2.
func PoolSync(p Pool) Pool {
	out := clonePool(p)
	if !PoolRight(p) || heldNeeded(p) {
		return out
	}
	for _, number := range p.Held {
		out.Slots[number] = Slot{}
	}
	out.Held = nil
	return out
}

// PoolRoom: see chapter 2.
func PoolRoom(p Pool) int64 {
	if !PoolRight(p) {
		return 0
	}
	room := int64(0)
	for _, s := range p.Slots {
		if isFree(s) {
			room++
		}
	}
	return room
}

func isFree(s Slot) bool {
	return s.Birth == 0 && len(s.Kids) == 0 && s.Data == ""
}

func isPage(s Slot) bool {
	return birthRight(s.Birth) && len(s.Kids) == 0 && len(s.Data) == PageSize
}

func isNode(s Slot) bool {
	return birthRight(s.Birth) && len(s.Kids) == Fan && s.Data == ""
}

func birthRight(birth int64) bool {
	return birth >= 1 && birth <= MaxTime
}

func slotRight(slots []Slot, s Slot) bool {
	return isFree(s) || isPage(s) || isNode(s) && kidsThere(slots, s)
}

// kidsOf lays a node's Kids into an array, so that one comparison holds all of them against others.
func kidsOf(node Slot) [Fan]Ptr {
	var kids [Fan]Ptr
	copy(kids[:], node.Kids)
	return kids
}

// kidsThere: a Kid that is not found as it is told to be differs from the one that is found in its place.
func kidsThere(slots []Slot, node Slot) bool {
	kids := kidsOf(node)
	var found [Fan]Ptr
	for i, kid := range kids {
		found[i] = kidFound(slots, kid, node.Birth)
	}
	return found == kids
}

// kidFound is none for a Kid that is none, too: a none's Slot would else be taken for the slot 0.
func kidFound(slots []Slot, kid Ptr, birth int64) Ptr {
	found := ptrOf(slots, kid.Slot)
	if kid == (Ptr{}) || found.Birth > birth {
		return Ptr{}
	}
	return found
}

// ptrOf is none where there is no such slot, or a free one.
func ptrOf(slots []Slot, number int64) Ptr {
	if number < 0 || number >= int64(len(slots)) || isFree(slots[number]) {
		return Ptr{}
	}
	return Ptr{Slot: number, Birth: slots[number].Birth}
}

func isPtr(slots []Slot, x Ptr) bool {
	return x != (Ptr{}) && x == ptrOf(slots, x.Slot)
}

func heldRight(p Pool) bool {
	for i, number := range p.Held {
		if ptrOf(p.Slots, number) == (Ptr{}) || slices.Contains(p.Held[:i:i], number) {
			return false
		}
	}
	return true
}

// heldNeeded: were such a slot freed, the node that stays would point at nothing.
func heldNeeded(p Pool) bool {
	for i, s := range p.Slots {
		if !slices.Contains(p.Held, int64(i)) && kidsOf(s) != kidsKept(s, p.Held) {
			return true
		}
	}
	return false
}

func kidsKept(node Slot, held []int64) [Fan]Ptr {
	kids := kidsOf(node)
	for i, kid := range kids {
		if slices.Contains(held, kid.Slot) {
			kids[i] = Ptr{}
		}
	}
	return kids
}

// withSlot cuts the list ahead of the place without room behind it, so that append leaves p as it is.
func withSlot(p Pool, at int, s Slot) Pool {
	slots := append(p.Slots[:at:at], s)
	slots = append(slots, p.Slots[at+1:]...)
	return clonePool(Pool{Slots: slots, Held: p.Held})
}

func clonePool(p Pool) Pool {
	return Pool{Slots: cloneSlots(p.Slots), Held: slices.Clone(p.Held)}
}

func cloneSlots(slots []Slot) []Slot {
	out := slices.Clone(slots)
	for i, s := range out {
		out[i] = cloneSlot(s)
	}
	return out
}

func cloneSlot(s Slot) Slot {
	s.Kids = slices.Clone(s.Kids)
	return s
}
