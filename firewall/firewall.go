// Package firewall: frames, a small machine, rules, flows: see DOC.md.
package firewall

import (
	"firewall/api"
	"firewall/frame"
	"firewall/machine"
	"firewall/rules"
)

// Parse takes a frame apart (P3).
func Parse(data []byte) (api.Header, api.Class) { return frame.Parse(data) }

// Build makes a frame (P4).
func Build(h api.Header, pay []byte) ([]byte, error) { return frame.Build(h, pay) }

// Check tells whether a code is safe (P6).
func Check(code []byte) error { return machine.Check(code) }

// Exec runs a code over a frame (P7).
func Exec(code []byte, data []byte, meta [api.Metas]uint32) (api.Verdict, int, error) {
	return machine.Exec(code, data, meta)
}

// Print writes rules in one way (P9).
func Print(text string) (string, error) { return rules.Print(text) }

// Compile makes a code of rules (P10).
func Compile(text string) ([]byte, error) { return rules.Compile(text) }

// Gate is a firewall at work.
type Gate struct{}

// New makes one (P11).
func New(capacity int, log func(api.Event)) (*Gate, error) { return &Gate{}, nil }

// Load takes rules (P11).
func (g *Gate) Load(text string) error { return nil }

// Frame judges a frame (P12).
func (g *Gate) Frame(iface uint8, data []byte) api.Verdict { return api.Drop }

// Tick lets time pass (P13).
func (g *Gate) Tick(n uint64) {}

// Now tells the time (P13).
func (g *Gate) Now() uint64 { return 0 }

// Flows goes over the flows (P13).
func (g *Gate) Flows() func(yield func(api.Flow) bool) {
	return func(yield func(api.Flow) bool) {}
}

// List gives the flows (P13).
func (g *Gate) List() []api.Flow { return nil }

// Counts tells how many frames there were (P13).
func (g *Gate) Counts() api.Counts { return api.Counts{} }
