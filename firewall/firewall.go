// Package firewall: frames, a small machine, rules, flows: see DOC.md.
package firewall

import (
	"firewall/api"
	"firewall/frame"
	"firewall/machine"
	"firewall/rules"
)

// Parse takes a frame apart (P3).
func Parse(data []byte) (api.Header, api.Class) { return frame.Parse(data) }

// Build makes a frame (P4).
func Build(h api.Header, pay []byte) ([]byte, error) { return frame.Build(h, pay) }

// Check tells whether a code is safe (P6).
func Check(code []byte) error { return machine.Check(code) }

// Exec runs a code over a frame (P7).
func Exec(code []byte, data []byte, meta [api.Metas]uint32) (api.Verdict, int, error) {
	return machine.Exec(code, data, meta)
}

// Print writes rules in one way (P9).
func Print(text string) (string, error) { return rules.Print(text) }

// Compile makes a code of rules (P10).
func Compile(text string) ([]byte, error) { return rules.Compile(text) }
