package decode_test

import "ravelin/api"

// What the published manual's assembler, or the chapter's table, makes of lines: each line stands behind its word, or its half.

// laid is a word, or a half, and the instruction that it was laid for, but for Len and Raw.
type laid struct {
	w uint32
	x api.Insn
}

// plainWords is long ones that layer 7 knows: each of its classes, in their order.
func plainWords() []laid {
	return []laid{
		{0x80000537, api.Insn{Op: api.OLui, Rd: 10, Imm: -2147483648}},                                 // lui x10, 524288
		{0x12345897, api.Insn{Op: api.OAuipc, Rd: 17, Imm: 305418240}},                                 // auipc x17, 74565
		{0xFFFFF2EF, api.Insn{Op: api.OJal, Rd: 5, Imm: -2}},                                           // jal x5, .+-2
		{0x7FFF8FE7, api.Insn{Op: api.OJalr, Rd: 31, Rs1: 31, Imm: 2047}},                              // jalr x31, 2047(x31)
		{0xFE000EE3, api.Insn{Op: api.OBranch, Fn: api.BEq, Imm: -4}},                                  // beq x0, x0, .+-4
		{0x0062F463, api.Insn{Op: api.OBranch, Fn: api.BGeu, Rs1: 5, Rs2: 6, Imm: 8}},                  // bgeu x5, x6, .+8
		{0x0042B303, api.Insn{Op: api.OLoad, Width: api.Long, Rd: 6, Rs1: 5, Imm: 4}},                  // ld x6, 4(x5)
		{0xFFC36C83, api.Insn{Op: api.OLoad, Width: api.WideU, Rd: 25, Rs1: 6, Imm: -4}},               // lwu x25, -4(x6)
		{0x01F00023, api.Insn{Op: api.OStore, Width: api.Byte, Rs2: 31}},                               // sb x31, 0(x0)
		{0xFFC1B023, api.Insn{Op: api.OStore, Width: api.Long, Rs1: 3, Rs2: 28, Imm: -32}},             // sd x28, -32(x3)
		{0x00A00513, api.Insn{Op: api.OAluImm, Fn: api.AAdd, Rd: 10, Imm: 10}},                         // addi x10, x0, 10
		{0x43FFD013, api.Insn{Op: api.OAluImm, Fn: api.ASra, Rs1: 31, Imm: 63}},                        // srai x0, x31, 63
		{0x41005F9B, api.Insn{Op: api.OAluImm, Word: true, Fn: api.ASra, Rd: 31, Imm: 16}},             // sraiw x31, x0, 16
		{0x40C58533, api.Insn{Op: api.OAlu, Fn: api.ASub, Rd: 10, Rs1: 11, Rs2: 12}},                   // sub x10, x11, x12
		{0x00C5853B, api.Insn{Op: api.OAlu, Word: true, Fn: api.AAdd, Rd: 10, Rs1: 11, Rs2: 12}},       // addw x10, x11, x12
		{0x02C58533, api.Insn{Op: api.OMul, Fn: api.MMul, Rd: 10, Rs1: 11, Rs2: 12}},                   // mul x10, x11, x12
		{0x02C5F53B, api.Insn{Op: api.OMul, Word: true, Fn: api.MRemu, Rd: 10, Rs1: 11, Rs2: 12}},      // remuw x10, x11, x12
		{0x0FF0000F, api.Insn{Op: api.OFence}},                                                         // fence
		{0x0000100F, api.Insn{Op: api.OFenceI}},                                                        // fence.i
		{0x00000073, api.Insn{Op: api.OEcall}},                                                         // ecall
		{0x00100073, api.Insn{Op: api.OEbreak}},                                                        // ebreak
		{0x30200073, api.Insn{Op: api.OMret}},                                                          // mret
		{0x10200073, api.Insn{Op: api.OSret}},                                                          // sret
		{0x10500073, api.Insn{Op: api.OWfi}},                                                           // wfi
		{0x12B50073, api.Insn{Op: api.OSfence, Rs1: 10, Rs2: 11}},                                      // sfence.vma x10, x11
		{0x30059573, api.Insn{Op: api.OCsr, Fn: 1, Rd: 10, Rs1: 11, Imm: 0x300}},                       // csrrw x10, 0x300, x11
		{0xFFF8F1F3, api.Insn{Op: api.OCsr, Fn: 3, Use: true, Rd: 3, Rs1: 17, Imm: 0xFFF}},             // csrrci x3, 0xFFF, 17
		{0x1005B52F, api.Insn{Op: api.OLr, Width: api.Long, Rd: 10, Rs1: 11}},                          // lr.d x10, (x11)
		{0x18C5A52F, api.Insn{Op: api.OSc, Width: api.Wide, Rd: 10, Rs1: 11, Rs2: 12}},                 // sc.w x10, x12, (x11)
		{0xE0C5B52F, api.Insn{Op: api.OAmo, Fn: api.XMaxu, Width: api.Long, Rd: 10, Rs1: 11, Rs2: 12}}, // amomaxu.d x10, x12, (x11)
	}
}

// capabilityWords is those that layer 9 knows, of each of its rows.
func capabilityWords() []laid {
	return []laid{
		{0xFE25055B, api.Insn{Op: api.OCapGet, Fn: api.GBase, Rd: 10, Rs1: 10}},                 // f7 0x7F, rs2 2
		{0xFF8F8FDB, api.Insn{Op: api.OCapGet, Fn: api.GTop, Rd: 31, Rs1: 31}},                  // f7 0x7F, rs2 24
		{0x10C5855B, api.Insn{Op: api.OCapOp, Fn: api.CSetBounds, Rd: 10, Rs1: 11, Rs2: 12}},    // f7 8
		{0x40C5855B, api.Insn{Op: api.OCapOp, Fn: api.CSubset, Rd: 10, Rs1: 11, Rs2: 12}},       // f7 32
		{0x8001115B, api.Insn{Op: api.OCapImm, Fn: api.IInc, Rd: 2, Rs1: 2, Imm: -2048}},        // f3 1
		{0xFFFFAFDB, api.Insn{Op: api.OCapImm, Fn: api.ISetBounds, Rd: 31, Rs1: 31, Imm: 4095}}, // f3 2
		{0xFEC280DB, api.Insn{Op: api.OCjalr, Rd: 1, Rs1: 5}},                                   // f7 0x7F, rs2 12
		{0x03C3805B, api.Insn{Op: api.OSpecial, Imm: api.SMtcc, Rs1: 7}},                        // f7 1
		{0xFA5101DB, api.Insn{Op: api.OLoadVia, Width: api.HalfU, Rd: 3, Rs1: 2}},               // f7 0x7D, rs2 5
		{0xFAFF8FDB, api.Insn{Op: api.OLoadVia, Width: api.Quad, Use: true, Rd: 31, Rs1: 31}},   // f7 0x7D, rs2 15
		{0xF8C581DB, api.Insn{Op: api.OStoreVia, Width: api.Long, Rs1: 11, Rs2: 12}},            // f7 0x7C, rd 3
		{0xF81107DB, api.Insn{Op: api.OStoreVia, Width: api.Quad, Use: true, Rs1: 2, Rs2: 1}},   // f7 0x7C, rd 15
		{0x0105250F, api.Insn{Op: api.OLoad, Width: api.Quad, Rd: 10, Rs1: 10, Imm: 16}},        // op 0x0F, f3 2
		{0xFE944FA3, api.Insn{Op: api.OStore, Width: api.Quad, Rs1: 8, Rs2: 9, Imm: -1}},        // op 0x23, f3 4
		{0x00004023, api.Insn{Op: api.OStore, Width: api.Quad}},                                 // likewise
		{0x0000200F, api.Insn{Op: api.OLoad, Width: api.Quad}},                                  // op 0x0F, f3 2
		{0x0000105B, api.Insn{Op: api.OCapImm, Fn: api.IInc}},                                   // f3 1
		{0xFE00005B, api.Insn{Op: api.OCapGet, Fn: api.GPerms}},                                 // f7 0x7F, rs2 0
	}
}

// unknownWords is long ones that are of no row in the chapters 7 and 9.
func unknownWords() []uint32 {
	return []uint32{
		0xFFFFFFFF, 0x00007003, // nothing at all; a load of the width 7
		0x0000707F, 0x00000007, 0x0000000B, 0x0000001F, 0x00000027, 0x0000002B, 0x0000003F, 0x00000043, 0x00000047, // of no opcode
		0x0000004B, 0x0000004F, 0x00000053, 0x00000057, 0x0000005F, 0x0000006B, 0x00000077, 0x0000007B, 0x0000007F,
		0x00005023, 0x00006023, 0x00007023, // stores of the widths 5 and more
		0x0000300F, 0x0000700F, // neither fences, nor loads of capabilities
		0x00002063, 0x00003063, 0x00001067, 0x00007067, // branches, jumps
		0x04001013, 0x0200101B, 0x0000201B, 0x40001033, 0x04000033, 0x0000203B, 0x0200103B, // on numbers
		0x0000002F, 0x0000402F, 0x1010A52F, 0xF800202F, // atomics
		0x00004073, 0x00200073, 0x30300073, 0x7B200073, 0x120000F3, // of the system
		0x0000005B, 0x0000305B, 0x0000705B, // for capabilities: no function
		0x1450005B, 0x0E50005B, 0xFED0005B, 0xFFF0005B, 0xFB00005B, 0xF800025B, 0xF800085B, // nor what is asked, done, loaded, stored
	}
}

// halves is those of each row of chapter 8's table, in its order, and what they are by chapter 7's.
func halves() []laid {
	return []laid{
		{0x0040, api.Insn{Op: api.OAluImm, Rd: 8, Rs1: 2, Imm: 4}},                           // addi x8, x2, 4
		{0x1FFC, api.Insn{Op: api.OAluImm, Rd: 15, Rs1: 2, Imm: 1020}},                       // addi x15, x2, 1020
		{0x5FFC, api.Insn{Op: api.OLoad, Width: api.Wide, Rd: 15, Rs1: 15, Imm: 124}},        // lw x15, 124(x15)
		{0x6704, api.Insn{Op: api.OLoad, Width: api.Long, Rd: 9, Rs1: 14, Imm: 8}},           // ld x9, 8(x14)
		{0xC344, api.Insn{Op: api.OStore, Width: api.Wide, Rs1: 14, Rs2: 9, Imm: 4}},         // sw x9, 4(x14)
		{0xE0B8, api.Insn{Op: api.OStore, Width: api.Long, Rs1: 9, Rs2: 14, Imm: 64}},        // sd x14, 64(x9)
		{0x0001, api.Insn{Op: api.OAluImm}},                                                  // addi x0, x0, 0
		{0x0005, api.Insn{Op: api.OAluImm, Imm: 1}},                                          // addi x0, x0, 1
		{0x1141, api.Insn{Op: api.OAluImm, Rd: 2, Rs1: 2, Imm: -16}},                         // addi x2, x2, -16
		{0x3501, api.Insn{Op: api.OAluImm, Word: true, Rd: 10, Rs1: 10, Imm: -32}},           // addiw x10, x10, -32
		{0x4529, api.Insn{Op: api.OAluImm, Rd: 10, Imm: 10}},                                 // addi x10, x0, 10
		{0x517D, api.Insn{Op: api.OAluImm, Rd: 2, Imm: -1}},                                  // addi x2, x0, -1
		{0x7101, api.Insn{Op: api.OAluImm, Rd: 2, Rs1: 2, Imm: -512}},                        // addi x2, x2, -512
		{0x6FFD, api.Insn{Op: api.OLui, Rd: 31, Imm: 126976}},                                // lui x31, 31
		{0x71FD, api.Insn{Op: api.OLui, Rd: 3, Imm: -4096}},                                  // lui x3, 0xFFFFF
		{0x93FD, api.Insn{Op: api.OAluImm, Fn: api.ASrl, Rd: 15, Rs1: 15, Imm: 63}},          // srli x15, x15, 63
		{0x8405, api.Insn{Op: api.OAluImm, Fn: api.ASra, Rd: 8, Rs1: 8, Imm: 1}},             // srai x8, x8, 1
		{0x98FD, api.Insn{Op: api.OAluImm, Fn: api.AAnd, Rd: 9, Rs1: 9, Imm: -1}},            // andi x9, x9, -1
		{0x8C1D, api.Insn{Op: api.OAlu, Fn: api.ASub, Rd: 8, Rs1: 8, Rs2: 15}},               // sub x8, x8, x15
		{0x8FA1, api.Insn{Op: api.OAlu, Fn: api.AXor, Rd: 15, Rs1: 15, Rs2: 8}},              // xor x15, x15, x8
		{0x8CC9, api.Insn{Op: api.OAlu, Fn: api.AOr, Rd: 9, Rs1: 9, Rs2: 10}},                // or x9, x9, x10
		{0x8DF1, api.Insn{Op: api.OAlu, Fn: api.AAnd, Rd: 11, Rs1: 11, Rs2: 12}},             // and x11, x11, x12
		{0x9E99, api.Insn{Op: api.OAlu, Word: true, Fn: api.ASub, Rd: 13, Rs1: 13, Rs2: 14}}, // subw x13, x13, x14
		{0x9F35, api.Insn{Op: api.OAlu, Word: true, Rd: 14, Rs1: 14, Rs2: 13}},               // addw x14, x14, x13
		{0xB001, api.Insn{Op: api.OJal, Imm: -2048}},                                         // jal x0, .+-2048
		{0xD381, api.Insn{Op: api.OBranch, Fn: api.BEq, Rs1: 15, Imm: -256}},                 // beq x15, x0, .+-256
		{0xECFD, api.Insn{Op: api.OBranch, Fn: api.BNe, Rs1: 9, Imm: 254}},                   // bne x9, x0, .+254
		{0x1FFE, api.Insn{Op: api.OAluImm, Fn: api.ASll, Rd: 31, Rs1: 31, Imm: 63}},          // slli x31, x31, 63
		{0x5FFE, api.Insn{Op: api.OLoad, Width: api.Wide, Rd: 31, Rs1: 2, Imm: 252}},         // lw x31, 252(x2)
		{0x7FFE, api.Insn{Op: api.OLoad, Width: api.Long, Rd: 31, Rs1: 2, Imm: 504}},         // ld x31, 504(x2)
		{0x8082, api.Insn{Op: api.OJalr, Rs1: 1}},                                            // jalr x0, 0(x1)
		{0x852E, api.Insn{Op: api.OAlu, Rd: 10, Rs2: 11}},                                    // add x10, x0, x11
		{0x9002, api.Insn{Op: api.OEbreak}},                                                  // ebreak
		{0x9F82, api.Insn{Op: api.OJalr, Rd: 1, Rs1: 31}},                                    // jalr x1, 0(x31)
		{0x952E, api.Insn{Op: api.OAlu, Rd: 10, Rs1: 10, Rs2: 11}},                           // add x10, x10, x11
		{0xDFFE, api.Insn{Op: api.OStore, Width: api.Wide, Rs1: 2, Rs2: 31, Imm: 252}},       // sw x31, 252(x2)
		{0xFFFE, api.Insn{Op: api.OStore, Width: api.Long, Rs1: 2, Rs2: 31, Imm: 504}},       // sd x31, 504(x2)
	}
}

// unknownHalves is those that are not long, and stand for none.
func unknownHalves() []uint32 {
	return []uint32{
		0x0000, 0x0004, 0x001C, // a place on the stack: its number is 0
		0x2000, 0x3FFC, 0x8000, 0xA000, 0xBFFC, 0x2002, 0xA002, 0xBFFE, // of no row
		0x2001, 0x2005, 0x4002, 0x4012, 0x6002, 0x6022, // their register is 0
		0x6001, 0x6101, 0x6F81, // their number is 0
		0x9C41, 0x9C61, 0x9FFD, // what there is of two near registers, but not so
		0x8002, // a jump to the register 0
	}
}
