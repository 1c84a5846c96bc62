package core

import (
	"atlas/api"
	"atlas/machine"
)

// bus: a machine as a processor asks it; its registers are asked by the machine's own methods.
type bus struct{ *machine.Machine }

// Access: what the machine answers. It takes whatever a processor asks for, so there is no error.
func (b bus) Access(a api.Access) api.Answer {
	answer, _ := b.Do(a)
	return answer
}
