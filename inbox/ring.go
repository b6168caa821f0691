package inbox

import "satchel/api"

// body is what waits, and its number, by which it is told from one that lies at the same place of a ring another time round. A place at which nothing waits has the number 0, which no body has.
type body struct {
	seq int
	b   []byte
}

// ring holds bodies at places that go round: numbers that may wait together lie so close that no two of them have the same place. Its functions stand for numbers from 1 on.
type ring [api.MaxWindow]body

func (r *ring) place(seq int) *body { return &r[seq%len(r)] }

func (r *ring) has(seq int) bool { return r.place(seq).seq == seq }

func (r *ring) hold(seq int, b []byte) { *r.place(seq) = body{seq, b} }

// letGo tells a body, which is not held any more.
func (r *ring) letGo(seq int) []byte {
	p := r.place(seq)
	b := p.b
	*p = body{}
	return b
}

// count tells how many bodies are held.
func (r *ring) count() int {
	n := 0
	for i := range r {
		if r[i].seq > 0 {
			n++
		}
	}
	return n
}
