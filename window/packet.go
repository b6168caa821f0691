package window

import (
	"bytes"

	"satchel/api"
)

// packet is what is under way: how often it was sent, when last, and how long is waited since then.
type packet struct {
	held           api.Packet
	sent, at, wait int
}

// next tells when a packet that was sent is due again.
func (p *packet) next() int { return p.at + p.wait }

func (p *packet) isDue(now int) bool { return p.sent == 0 || p.next() <= now }

// mark marks a packet as sent once more. How long is waited is told here, once: what answers take from then on does not move it.
func (p *packet) mark(now int, t times) {
	p.sent++
	p.at = now
	p.wait = t.wait(p.sent)
}

// told tells a packet with bytes of its own, since it may be told again.
func (p *packet) told() api.Packet {
	return api.Packet{Seq: p.held.Seq, Body: bytes.Clone(p.held.Body)}
}
