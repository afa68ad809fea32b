package base_test

import "ravelin/api"

// What the published manual's assembler makes of lines of it: the words are as it lays them, and each line stands behind its word.

// laid is a word, and the instruction that it was laid for, but for Len and Raw.
type laid struct {
	w uint32
	x api.Insn
}

// upperAndJumps is those of upper bits, of jumps and of branches.
func upperAndJumps() []laid {
	return []laid{
		{0x00000037, api.Insn{Op: api.OLui}},                                          // lui x0, 0
		{0x7FFFFFB7, api.Insn{Op: api.OLui, Rd: 31, Imm: 2147479552}},                 // lui x31, 524287
		{0x80000537, api.Insn{Op: api.OLui, Rd: 10, Imm: -2147483648}},                // lui x10, 524288
		{0xFFFFF0B7, api.Insn{Op: api.OLui, Rd: 1, Imm: -4096}},                       // lui x1, 1048575
		{0x123458B7, api.Insn{Op: api.OLui, Rd: 17, Imm: 305418240}},                  // lui x17, 74565
		{0x00000017, api.Insn{Op: api.OAuipc}},                                        // auipc x0, 0
		{0x7FFFFF97, api.Insn{Op: api.OAuipc, Rd: 31, Imm: 2147479552}},               // auipc x31, 524287
		{0x80000517, api.Insn{Op: api.OAuipc, Rd: 10, Imm: -2147483648}},              // auipc x10, 524288
		{0xFFFFF097, api.Insn{Op: api.OAuipc, Rd: 1, Imm: -4096}},                     // auipc x1, 1048575
		{0x12345897, api.Insn{Op: api.OAuipc, Rd: 17, Imm: 305418240}},                // auipc x17, 74565
		{0x0000006F, api.Insn{Op: api.OJal}},                                          // jal x0, .+0
		{0x7FFFFFEF, api.Insn{Op: api.OJal, Rd: 31, Imm: 1048574}},                    // jal x31, .+1048574
		{0x800000EF, api.Insn{Op: api.OJal, Rd: 1, Imm: -1048576}},                    // jal x1, .+-1048576
		{0xFFFFF2EF, api.Insn{Op: api.OJal, Rd: 5, Imm: -2}},                          // jal x5, .+-2
		{0x554550EF, api.Insn{Op: api.OJal, Rd: 1, Imm: 349524}},                      // jal x1, .+349524
		{0x001004EF, api.Insn{Op: api.OJal, Rd: 9, Imm: 2048}},                        // jal x9, .+2048
		{0x000014EF, api.Insn{Op: api.OJal, Rd: 9, Imm: 4096}},                        // jal x9, .+4096
		{0x00008067, api.Insn{Op: api.OJalr, Rs1: 1}},                                 // jalr x0, 0(x1)
		{0x7FFF8FE7, api.Insn{Op: api.OJalr, Rd: 31, Rs1: 31, Imm: 2047}},             // jalr x31, 2047(x31)
		{0x800000E7, api.Insn{Op: api.OJalr, Rd: 1, Imm: -2048}},                      // jalr x1, -2048(x0)
		{0xFFF201E7, api.Insn{Op: api.OJalr, Rd: 3, Rs1: 4, Imm: -1}},                 // jalr x3, -1(x4)
		{0x01F00063, api.Insn{Op: api.OBranch, Fn: api.BEq, Rs2: 31}},                 // beq x0, x31, .+0
		{0x7E0F8FE3, api.Insn{Op: api.OBranch, Fn: api.BEq, Rs1: 31, Imm: 4094}},      // beq x31, x0, .+4094
		{0x00628463, api.Insn{Op: api.OBranch, Fn: api.BEq, Rs1: 5, Rs2: 6, Imm: 8}},  // beq x5, x6, .+8
		{0x7FF01FE3, api.Insn{Op: api.OBranch, Fn: api.BNe, Rs2: 31, Imm: 4094}},      // bne x0, x31, .+4094
		{0x800F9063, api.Insn{Op: api.OBranch, Fn: api.BNe, Rs1: 31, Imm: -4096}},     // bne x31, x0, .+-4096
		{0x00629463, api.Insn{Op: api.OBranch, Fn: api.BNe, Rs1: 5, Rs2: 6, Imm: 8}},  // bne x5, x6, .+8
		{0x81F04063, api.Insn{Op: api.OBranch, Fn: api.BLt, Rs2: 31, Imm: -4096}},     // blt x0, x31, .+-4096
		{0xFE0FCFE3, api.Insn{Op: api.OBranch, Fn: api.BLt, Rs1: 31, Imm: -2}},        // blt x31, x0, .+-2
		{0x0062C463, api.Insn{Op: api.OBranch, Fn: api.BLt, Rs1: 5, Rs2: 6, Imm: 8}},  // blt x5, x6, .+8
		{0xFFF05FE3, api.Insn{Op: api.OBranch, Fn: api.BGe, Rs2: 31, Imm: -2}},        // bge x0, x31, .+-2
		{0x7E0FDF63, api.Insn{Op: api.OBranch, Fn: api.BGe, Rs1: 31, Imm: 2046}},      // bge x31, x0, .+2046
		{0x0062D463, api.Insn{Op: api.OBranch, Fn: api.BGe, Rs1: 5, Rs2: 6, Imm: 8}},  // bge x5, x6, .+8
		{0x7FF06F63, api.Insn{Op: api.OBranch, Fn: api.BLtu, Rs2: 31, Imm: 2046}},     // bltu x0, x31, .+2046
		{0x000FE0E3, api.Insn{Op: api.OBranch, Fn: api.BLtu, Rs1: 31, Imm: 2048}},     // bltu x31, x0, .+2048
		{0x0062E463, api.Insn{Op: api.OBranch, Fn: api.BLtu, Rs1: 5, Rs2: 6, Imm: 8}}, // bltu x5, x6, .+8
		{0x01F070E3, api.Insn{Op: api.OBranch, Fn: api.BGeu, Rs2: 31, Imm: 2048}},     // bgeu x0, x31, .+2048
		{0xFE0FFF63, api.Insn{Op: api.OBranch, Fn: api.BGeu, Rs1: 31, Imm: -2050}},    // bgeu x31, x0, .+-2050
		{0x0062F463, api.Insn{Op: api.OBranch, Fn: api.BGeu, Rs1: 5, Rs2: 6, Imm: 8}}, // bgeu x5, x6, .+8
	}
}

// memory is loads and stores.
func memory() []laid {
	return []laid{
		{0x00000F83, api.Insn{Op: api.OLoad, Width: api.Byte, Rd: 31}},                       // lb x31, 0(x0)
		{0x7FF09F03, api.Insn{Op: api.OLoad, Width: api.Half, Rd: 30, Rs1: 1, Imm: 2047}},    // lh x30, 2047(x1)
		{0x80012E83, api.Insn{Op: api.OLoad, Width: api.Wide, Rd: 29, Rs1: 2, Imm: -2048}},   // lw x29, -2048(x2)
		{0xFFF1BE03, api.Insn{Op: api.OLoad, Width: api.Long, Rd: 28, Rs1: 3, Imm: -1}},      // ld x28, -1(x3)
		{0x00424D83, api.Insn{Op: api.OLoad, Width: api.ByteU, Rd: 27, Rs1: 4, Imm: 4}},      // lbu x27, 4(x4)
		{0x0012DD03, api.Insn{Op: api.OLoad, Width: api.HalfU, Rd: 26, Rs1: 5, Imm: 1}},      // lhu x26, 1(x5)
		{0xFFC36C83, api.Insn{Op: api.OLoad, Width: api.WideU, Rd: 25, Rs1: 6, Imm: -4}},     // lwu x25, -4(x6)
		{0x01F00023, api.Insn{Op: api.OStore, Width: api.Byte, Rs2: 31}},                     // sb x31, 0(x0)
		{0x7FF00FA3, api.Insn{Op: api.OStore, Width: api.Byte, Rs2: 31, Imm: 2047}},          // sb x31, 2047(x0)
		{0x81E09023, api.Insn{Op: api.OStore, Width: api.Half, Rs1: 1, Rs2: 30, Imm: -2048}}, // sh x30, -2048(x1)
		{0x01E09FA3, api.Insn{Op: api.OStore, Width: api.Half, Rs1: 1, Rs2: 30, Imm: 31}},    // sh x30, 31(x1)
		{0xFFD12FA3, api.Insn{Op: api.OStore, Width: api.Wide, Rs1: 2, Rs2: 29, Imm: -1}},    // sw x29, -1(x2)
		{0x03D12023, api.Insn{Op: api.OStore, Width: api.Wide, Rs1: 2, Rs2: 29, Imm: 32}},    // sw x29, 32(x2)
		{0xFFC1B023, api.Insn{Op: api.OStore, Width: api.Long, Rs1: 3, Rs2: 28, Imm: -32}},   // sd x28, -32(x3)
		{0x01C1B423, api.Insn{Op: api.OStore, Width: api.Long, Rs1: 3, Rs2: 28, Imm: 8}},     // sd x28, 8(x3)
	}
}

// numbers is operations on a register and a number.
func numbers() []laid {
	return []laid{
		{0x7FFF8013, api.Insn{Op: api.OAluImm, Fn: api.AAdd, Rs1: 31, Imm: 2047}},                   // addi x0, x31, 2047
		{0x80000F93, api.Insn{Op: api.OAluImm, Fn: api.AAdd, Rd: 31, Imm: -2048}},                   // addi x31, x0, -2048
		{0xFFF58513, api.Insn{Op: api.OAluImm, Fn: api.AAdd, Rd: 10, Rs1: 11, Imm: -1}},             // addi x10, x11, -1
		{0x7FFFA013, api.Insn{Op: api.OAluImm, Fn: api.ASlt, Rs1: 31, Imm: 2047}},                   // slti x0, x31, 2047
		{0x80002F93, api.Insn{Op: api.OAluImm, Fn: api.ASlt, Rd: 31, Imm: -2048}},                   // slti x31, x0, -2048
		{0xFFF5A513, api.Insn{Op: api.OAluImm, Fn: api.ASlt, Rd: 10, Rs1: 11, Imm: -1}},             // slti x10, x11, -1
		{0x7FFFB013, api.Insn{Op: api.OAluImm, Fn: api.ASltu, Rs1: 31, Imm: 2047}},                  // sltiu x0, x31, 2047
		{0x80003F93, api.Insn{Op: api.OAluImm, Fn: api.ASltu, Rd: 31, Imm: -2048}},                  // sltiu x31, x0, -2048
		{0xFFF5B513, api.Insn{Op: api.OAluImm, Fn: api.ASltu, Rd: 10, Rs1: 11, Imm: -1}},            // sltiu x10, x11, -1
		{0x7FFFC013, api.Insn{Op: api.OAluImm, Fn: api.AXor, Rs1: 31, Imm: 2047}},                   // xori x0, x31, 2047
		{0x80004F93, api.Insn{Op: api.OAluImm, Fn: api.AXor, Rd: 31, Imm: -2048}},                   // xori x31, x0, -2048
		{0xFFF5C513, api.Insn{Op: api.OAluImm, Fn: api.AXor, Rd: 10, Rs1: 11, Imm: -1}},             // xori x10, x11, -1
		{0x7FFFE013, api.Insn{Op: api.OAluImm, Fn: api.AOr, Rs1: 31, Imm: 2047}},                    // ori x0, x31, 2047
		{0x80006F93, api.Insn{Op: api.OAluImm, Fn: api.AOr, Rd: 31, Imm: -2048}},                    // ori x31, x0, -2048
		{0xFFF5E513, api.Insn{Op: api.OAluImm, Fn: api.AOr, Rd: 10, Rs1: 11, Imm: -1}},              // ori x10, x11, -1
		{0x7FFFF013, api.Insn{Op: api.OAluImm, Fn: api.AAnd, Rs1: 31, Imm: 2047}},                   // andi x0, x31, 2047
		{0x80007F93, api.Insn{Op: api.OAluImm, Fn: api.AAnd, Rd: 31, Imm: -2048}},                   // andi x31, x0, -2048
		{0xFFF5F513, api.Insn{Op: api.OAluImm, Fn: api.AAnd, Rd: 10, Rs1: 11, Imm: -1}},             // andi x10, x11, -1
		{0x03FF9013, api.Insn{Op: api.OAluImm, Fn: api.ASll, Rs1: 31, Imm: 63}},                     // slli x0, x31, 63
		{0x02001F93, api.Insn{Op: api.OAluImm, Fn: api.ASll, Rd: 31, Imm: 32}},                      // slli x31, x0, 32
		{0x00159513, api.Insn{Op: api.OAluImm, Fn: api.ASll, Rd: 10, Rs1: 11, Imm: 1}},              // slli x10, x11, 1
		{0x00059513, api.Insn{Op: api.OAluImm, Fn: api.ASll, Rd: 10, Rs1: 11}},                      // slli x10, x11, 0
		{0x01FF901B, api.Insn{Op: api.OAluImm, Word: true, Fn: api.ASll, Rs1: 31, Imm: 31}},         // slliw x0, x31, 31
		{0x01001F9B, api.Insn{Op: api.OAluImm, Word: true, Fn: api.ASll, Rd: 31, Imm: 16}},          // slliw x31, x0, 16
		{0x0005951B, api.Insn{Op: api.OAluImm, Word: true, Fn: api.ASll, Rd: 10, Rs1: 11}},          // slliw x10, x11, 0
		{0x03FFD013, api.Insn{Op: api.OAluImm, Fn: api.ASrl, Rs1: 31, Imm: 63}},                     // srli x0, x31, 63
		{0x02005F93, api.Insn{Op: api.OAluImm, Fn: api.ASrl, Rd: 31, Imm: 32}},                      // srli x31, x0, 32
		{0x0015D513, api.Insn{Op: api.OAluImm, Fn: api.ASrl, Rd: 10, Rs1: 11, Imm: 1}},              // srli x10, x11, 1
		{0x0005D513, api.Insn{Op: api.OAluImm, Fn: api.ASrl, Rd: 10, Rs1: 11}},                      // srli x10, x11, 0
		{0x01FFD01B, api.Insn{Op: api.OAluImm, Word: true, Fn: api.ASrl, Rs1: 31, Imm: 31}},         // srliw x0, x31, 31
		{0x01005F9B, api.Insn{Op: api.OAluImm, Word: true, Fn: api.ASrl, Rd: 31, Imm: 16}},          // srliw x31, x0, 16
		{0x0005D51B, api.Insn{Op: api.OAluImm, Word: true, Fn: api.ASrl, Rd: 10, Rs1: 11}},          // srliw x10, x11, 0
		{0x43FFD013, api.Insn{Op: api.OAluImm, Fn: api.ASra, Rs1: 31, Imm: 63}},                     // srai x0, x31, 63
		{0x42005F93, api.Insn{Op: api.OAluImm, Fn: api.ASra, Rd: 31, Imm: 32}},                      // srai x31, x0, 32
		{0x4015D513, api.Insn{Op: api.OAluImm, Fn: api.ASra, Rd: 10, Rs1: 11, Imm: 1}},              // srai x10, x11, 1
		{0x4005D513, api.Insn{Op: api.OAluImm, Fn: api.ASra, Rd: 10, Rs1: 11}},                      // srai x10, x11, 0
		{0x41FFD01B, api.Insn{Op: api.OAluImm, Word: true, Fn: api.ASra, Rs1: 31, Imm: 31}},         // sraiw x0, x31, 31
		{0x41005F9B, api.Insn{Op: api.OAluImm, Word: true, Fn: api.ASra, Rd: 31, Imm: 16}},          // sraiw x31, x0, 16
		{0x4005D51B, api.Insn{Op: api.OAluImm, Word: true, Fn: api.ASra, Rd: 10, Rs1: 11}},          // sraiw x10, x11, 0
		{0x7FFF801B, api.Insn{Op: api.OAluImm, Word: true, Fn: api.AAdd, Rs1: 31, Imm: 2047}},       // addiw x0, x31, 2047
		{0x80000F9B, api.Insn{Op: api.OAluImm, Word: true, Fn: api.AAdd, Rd: 31, Imm: -2048}},       // addiw x31, x0, -2048
		{0xFFF5851B, api.Insn{Op: api.OAluImm, Word: true, Fn: api.AAdd, Rd: 10, Rs1: 11, Imm: -1}}, // addiw x10, x11, -1
	}
}

// registers is operations on two registers.
func registers() []laid {
	return []laid{
		{0x007F8033, api.Insn{Op: api.OAlu, Fn: api.AAdd, Rs1: 31, Rs2: 7}},                      // add x0, x31, x7
		{0x00038FBB, api.Insn{Op: api.OAlu, Word: true, Fn: api.AAdd, Rd: 31, Rs1: 7}},           // addw x31, x7, x0
		{0x008F10B3, api.Insn{Op: api.OAlu, Fn: api.ASll, Rd: 1, Rs1: 30, Rs2: 8}},               // sll x1, x30, x8
		{0x00141F3B, api.Insn{Op: api.OAlu, Word: true, Fn: api.ASll, Rd: 30, Rs1: 8, Rs2: 1}},   // sllw x30, x8, x1
		{0x009EA133, api.Insn{Op: api.OAlu, Fn: api.ASlt, Rd: 2, Rs1: 29, Rs2: 9}},               // slt x2, x29, x9
		{0x00AE31B3, api.Insn{Op: api.OAlu, Fn: api.ASltu, Rd: 3, Rs1: 28, Rs2: 10}},             // sltu x3, x28, x10
		{0x00BDC233, api.Insn{Op: api.OAlu, Fn: api.AXor, Rd: 4, Rs1: 27, Rs2: 11}},              // xor x4, x27, x11
		{0x00CD52B3, api.Insn{Op: api.OAlu, Fn: api.ASrl, Rd: 5, Rs1: 26, Rs2: 12}},              // srl x5, x26, x12
		{0x00565D3B, api.Insn{Op: api.OAlu, Word: true, Fn: api.ASrl, Rd: 26, Rs1: 12, Rs2: 5}},  // srlw x26, x12, x5
		{0x00DCE333, api.Insn{Op: api.OAlu, Fn: api.AOr, Rd: 6, Rs1: 25, Rs2: 13}},               // or x6, x25, x13
		{0x00EC73B3, api.Insn{Op: api.OAlu, Fn: api.AAnd, Rd: 7, Rs1: 24, Rs2: 14}},              // and x7, x24, x14
		{0x40FB8433, api.Insn{Op: api.OAlu, Fn: api.ASub, Rd: 8, Rs1: 23, Rs2: 15}},              // sub x8, x23, x15
		{0x40878BBB, api.Insn{Op: api.OAlu, Word: true, Fn: api.ASub, Rd: 23, Rs1: 15, Rs2: 8}},  // subw x23, x15, x8
		{0x410B54B3, api.Insn{Op: api.OAlu, Fn: api.ASra, Rd: 9, Rs1: 22, Rs2: 16}},              // sra x9, x22, x16
		{0x40985B3B, api.Insn{Op: api.OAlu, Word: true, Fn: api.ASra, Rd: 22, Rs1: 16, Rs2: 9}},  // sraw x22, x16, x9
		{0x027F8033, api.Insn{Op: api.OMul, Fn: api.MMul, Rs1: 31, Rs2: 7}},                      // mul x0, x31, x7
		{0x02038FBB, api.Insn{Op: api.OMul, Word: true, Fn: api.MMul, Rd: 31, Rs1: 7}},           // mulw x31, x7, x0
		{0x028F10B3, api.Insn{Op: api.OMul, Fn: api.MMulh, Rd: 1, Rs1: 30, Rs2: 8}},              // mulh x1, x30, x8
		{0x029EA133, api.Insn{Op: api.OMul, Fn: api.MMulhsu, Rd: 2, Rs1: 29, Rs2: 9}},            // mulhsu x2, x29, x9
		{0x02AE31B3, api.Insn{Op: api.OMul, Fn: api.MMulhu, Rd: 3, Rs1: 28, Rs2: 10}},            // mulhu x3, x28, x10
		{0x02BDC233, api.Insn{Op: api.OMul, Fn: api.MDiv, Rd: 4, Rs1: 27, Rs2: 11}},              // div x4, x27, x11
		{0x0245CDBB, api.Insn{Op: api.OMul, Word: true, Fn: api.MDiv, Rd: 27, Rs1: 11, Rs2: 4}},  // divw x27, x11, x4
		{0x02CD52B3, api.Insn{Op: api.OMul, Fn: api.MDivu, Rd: 5, Rs1: 26, Rs2: 12}},             // divu x5, x26, x12
		{0x02565D3B, api.Insn{Op: api.OMul, Word: true, Fn: api.MDivu, Rd: 26, Rs1: 12, Rs2: 5}}, // divuw x26, x12, x5
		{0x02DCE333, api.Insn{Op: api.OMul, Fn: api.MRem, Rd: 6, Rs1: 25, Rs2: 13}},              // rem x6, x25, x13
		{0x0266ECBB, api.Insn{Op: api.OMul, Word: true, Fn: api.MRem, Rd: 25, Rs1: 13, Rs2: 6}},  // remw x25, x13, x6
		{0x02EC73B3, api.Insn{Op: api.OMul, Fn: api.MRemu, Rd: 7, Rs1: 24, Rs2: 14}},             // remu x7, x24, x14
		{0x02777C3B, api.Insn{Op: api.OMul, Word: true, Fn: api.MRemu, Rd: 24, Rs1: 14, Rs2: 7}}, // remuw x24, x14, x7
	}
}

// rest is fences, control registers and what is of privilege.
func rest() []laid {
	return []laid{
		{0x0FF0000F, api.Insn{Op: api.OFence}},                                             // fence
		{0x0310000F, api.Insn{Op: api.OFence}},                                             // fence rw, w
		{0x0840000F, api.Insn{Op: api.OFence}},                                             // fence i, o
		{0x8330000F, api.Insn{Op: api.OFence}},                                             // fence.tso
		{0x0000100F, api.Insn{Op: api.OFenceI}},                                            // fence.i
		{0x00000073, api.Insn{Op: api.OEcall}},                                             // ecall
		{0x00100073, api.Insn{Op: api.OEbreak}},                                            // ebreak
		{0x30200073, api.Insn{Op: api.OMret}},                                              // mret
		{0x10200073, api.Insn{Op: api.OSret}},                                              // sret
		{0x10500073, api.Insn{Op: api.OWfi}},                                               // wfi
		{0x12000073, api.Insn{Op: api.OSfence}},                                            // sfence.vma x0, x0
		{0x120F8073, api.Insn{Op: api.OSfence, Rs1: 31}},                                   // sfence.vma x31, x0
		{0x13F00073, api.Insn{Op: api.OSfence, Rs2: 31}},                                   // sfence.vma x0, x31
		{0x12B50073, api.Insn{Op: api.OSfence, Rs1: 10, Rs2: 11}},                          // sfence.vma x10, x11
		{0x305F9073, api.Insn{Op: api.OCsr, Fn: 1, Rs1: 31, Imm: 773}},                     // csrrw x0, 773, x31
		{0xB050DFF3, api.Insn{Op: api.OCsr, Fn: 1, Use: true, Rd: 31, Rs1: 1, Imm: 2821}},  // csrrwi x31, 2821, 1
		{0xFFF827F3, api.Insn{Op: api.OCsr, Fn: 2, Rd: 15, Rs1: 16, Imm: 4095}},            // csrrs x15, 4095, x16
		{0x7FF86873, api.Insn{Op: api.OCsr, Fn: 2, Use: true, Rd: 16, Rs1: 16, Imm: 2047}}, // csrrsi x16, 2047, 16
		{0x0000BF73, api.Insn{Op: api.OCsr, Fn: 3, Rd: 30, Rs1: 1}},                        // csrrc x30, 0, x1
		{0x800FF0F3, api.Insn{Op: api.OCsr, Fn: 3, Use: true, Rd: 1, Rs1: 31, Imm: 2048}},  // csrrci x1, 2048, 31
	}
}

// atomics is atomic ones.
func atomics() []laid {
	return []laid{
		{0x10002FAF, api.Insn{Op: api.OLr, Width: api.Wide, Rd: 31}},                                  // lr.w x31, (x0)
		{0x19F4A02F, api.Insn{Op: api.OSc, Width: api.Wide, Rs1: 9, Rs2: 31}},                         // sc.w x0, x31, (x9)
		{0x10003FAF, api.Insn{Op: api.OLr, Width: api.Long, Rd: 31}},                                  // lr.d x31, (x0)
		{0x19F4B02F, api.Insn{Op: api.OSc, Width: api.Long, Rs1: 9, Rs2: 31}},                         // sc.d x0, x31, (x9)
		{0x1400AF2F, api.Insn{Op: api.OLr, Width: api.Wide, Rd: 30, Rs1: 1}},                          // lr.w.aq x30, (x1)
		{0x1DE520AF, api.Insn{Op: api.OSc, Width: api.Wide, Rd: 1, Rs1: 10, Rs2: 30}},                 // sc.w.aq x1, x30, (x10)
		{0x1400BF2F, api.Insn{Op: api.OLr, Width: api.Long, Rd: 30, Rs1: 1}},                          // lr.d.aq x30, (x1)
		{0x1DE530AF, api.Insn{Op: api.OSc, Width: api.Long, Rd: 1, Rs1: 10, Rs2: 30}},                 // sc.d.aq x1, x30, (x10)
		{0x12012EAF, api.Insn{Op: api.OLr, Width: api.Wide, Rd: 29, Rs1: 2}},                          // lr.w.rl x29, (x2)
		{0x1BD5A12F, api.Insn{Op: api.OSc, Width: api.Wide, Rd: 2, Rs1: 11, Rs2: 29}},                 // sc.w.rl x2, x29, (x11)
		{0x12013EAF, api.Insn{Op: api.OLr, Width: api.Long, Rd: 29, Rs1: 2}},                          // lr.d.rl x29, (x2)
		{0x1BD5B12F, api.Insn{Op: api.OSc, Width: api.Long, Rd: 2, Rs1: 11, Rs2: 29}},                 // sc.d.rl x2, x29, (x11)
		{0x1601AE2F, api.Insn{Op: api.OLr, Width: api.Wide, Rd: 28, Rs1: 3}},                          // lr.w.aqrl x28, (x3)
		{0x1FC621AF, api.Insn{Op: api.OSc, Width: api.Wide, Rd: 3, Rs1: 12, Rs2: 28}},                 // sc.w.aqrl x3, x28, (x12)
		{0x1601BE2F, api.Insn{Op: api.OLr, Width: api.Long, Rd: 28, Rs1: 3}},                          // lr.d.aqrl x28, (x3)
		{0x1FC631AF, api.Insn{Op: api.OSc, Width: api.Long, Rd: 3, Rs1: 12, Rs2: 28}},                 // sc.d.aqrl x3, x28, (x12)
		{0x01F4A02F, api.Insn{Op: api.OAmo, Fn: api.XAdd, Width: api.Wide, Rs1: 9, Rs2: 31}},          // amoadd.w x0, x31, (x9)
		{0x05F4B02F, api.Insn{Op: api.OAmo, Fn: api.XAdd, Width: api.Long, Rs1: 9, Rs2: 31}},          // amoadd.d.aq x0, x31, (x9)
		{0x0DE520AF, api.Insn{Op: api.OAmo, Fn: api.XSwap, Width: api.Wide, Rd: 1, Rs1: 10, Rs2: 30}}, // amoswap.w.aq x1, x30, (x10)
		{0x0BE530AF, api.Insn{Op: api.OAmo, Fn: api.XSwap, Width: api.Long, Rd: 1, Rs1: 10, Rs2: 30}}, // amoswap.d.rl x1, x30, (x10)
		{0x23D5A12F, api.Insn{Op: api.OAmo, Fn: api.XXor, Width: api.Wide, Rd: 2, Rs1: 11, Rs2: 29}},  // amoxor.w.rl x2, x29, (x11)
		{0x27D5B12F, api.Insn{Op: api.OAmo, Fn: api.XXor, Width: api.Long, Rd: 2, Rs1: 11, Rs2: 29}},  // amoxor.d.aqrl x2, x29, (x11)
		{0x47C621AF, api.Insn{Op: api.OAmo, Fn: api.XOr, Width: api.Wide, Rd: 3, Rs1: 12, Rs2: 28}},   // amoor.w.aqrl x3, x28, (x12)
		{0x41C631AF, api.Insn{Op: api.OAmo, Fn: api.XOr, Width: api.Long, Rd: 3, Rs1: 12, Rs2: 28}},   // amoor.d x3, x28, (x12)
		{0x61B6A22F, api.Insn{Op: api.OAmo, Fn: api.XAnd, Width: api.Wide, Rd: 4, Rs1: 13, Rs2: 27}},  // amoand.w x4, x27, (x13)
		{0x65B6B22F, api.Insn{Op: api.OAmo, Fn: api.XAnd, Width: api.Long, Rd: 4, Rs1: 13, Rs2: 27}},  // amoand.d.aq x4, x27, (x13)
		{0x85A722AF, api.Insn{Op: api.OAmo, Fn: api.XMin, Width: api.Wide, Rd: 5, Rs1: 14, Rs2: 26}},  // amomin.w.aq x5, x26, (x14)
		{0x83A732AF, api.Insn{Op: api.OAmo, Fn: api.XMin, Width: api.Long, Rd: 5, Rs1: 14, Rs2: 26}},  // amomin.d.rl x5, x26, (x14)
		{0xA397A32F, api.Insn{Op: api.OAmo, Fn: api.XMax, Width: api.Wide, Rd: 6, Rs1: 15, Rs2: 25}},  // amomax.w.rl x6, x25, (x15)
		{0xA797B32F, api.Insn{Op: api.OAmo, Fn: api.XMax, Width: api.Long, Rd: 6, Rs1: 15, Rs2: 25}},  // amomax.d.aqrl x6, x25, (x15)
		{0xC78823AF, api.Insn{Op: api.OAmo, Fn: api.XMinu, Width: api.Wide, Rd: 7, Rs1: 16, Rs2: 24}}, // amominu.w.aqrl x7, x24, (x16)
		{0xC18833AF, api.Insn{Op: api.OAmo, Fn: api.XMinu, Width: api.Long, Rd: 7, Rs1: 16, Rs2: 24}}, // amominu.d x7, x24, (x16)
		{0xE178A42F, api.Insn{Op: api.OAmo, Fn: api.XMaxu, Width: api.Wide, Rd: 8, Rs1: 17, Rs2: 23}}, // amomaxu.w x8, x23, (x17)
		{0xE578B42F, api.Insn{Op: api.OAmo, Fn: api.XMaxu, Width: api.Long, Rd: 8, Rs1: 17, Rs2: 23}}, // amomaxu.d.aq x8, x23, (x17)
	}
}
