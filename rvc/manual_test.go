package rvc_test

// What the published manual's assembler makes of lines of it, once of 16 bits, and once of 32: each line stands behind its half and its word.

// laid is a half, and the word for which it stands.
type laid struct {
	h uint16
	w uint32
}

// lowest0 is those whose lowest two bits are 0.
func lowest0() []laid {
	return []laid{
		{0x0040, 0x00410413}, // addi x8, x2, 4
		{0x1FFC, 0x3FC10793}, // addi x15, x2, 1020
		{0x0024, 0x00810493}, // addi x9, x2, 8
		{0x0804, 0x01010493}, // addi x9, x2, 16
		{0x1008, 0x02010513}, // addi x10, x2, 32
		{0x0088, 0x04010513}, // addi x10, x2, 64
		{0x040C, 0x20010593}, // addi x11, x2, 512
		{0x4000, 0x00042403}, // lw x8, 0(x8)
		{0x5FFC, 0x07C7A783}, // lw x15, 124(x15)
		{0x4344, 0x00472483}, // lw x9, 4(x14)
		{0x40B8, 0x0404A703}, // lw x14, 64(x9)
		{0x4588, 0x0085A503}, // lw x10, 8(x11)
		{0x5188, 0x0205A503}, // lw x10, 32(x11)
		{0x6000, 0x00043403}, // ld x8, 0(x8)
		{0x7FFC, 0x0F87B783}, // ld x15, 248(x15)
		{0x6704, 0x00873483}, // ld x9, 8(x14)
		{0x60B8, 0x0404B703}, // ld x14, 64(x9)
		{0x61C8, 0x0805B503}, // ld x10, 128(x11)
		{0x7188, 0x0205B503}, // ld x10, 32(x11)
		{0xC000, 0x00842023}, // sw x8, 0(x8)
		{0xDFFC, 0x06F7AE23}, // sw x15, 124(x15)
		{0xC344, 0x00972223}, // sw x9, 4(x14)
		{0xC0B8, 0x04E4A023}, // sw x14, 64(x9)
		{0xE000, 0x00843023}, // sd x8, 0(x8)
		{0xFFFC, 0x0EF7BC23}, // sd x15, 248(x15)
		{0xE704, 0x00973423}, // sd x9, 8(x14)
		{0xE0B8, 0x04E4B023}, // sd x14, 64(x9)
		{0xE1C8, 0x08A5B023}, // sd x10, 128(x11)
	}
}

// lowest1 is those whose lowest two bits are 1.
func lowest1() []laid {
	return []laid{
		{0x0001, 0x00000013}, // addi x0, x0, 0
		{0x0085, 0x00108093}, // addi x1, x1, 1
		{0x0FFD, 0x01FF8F93}, // addi x31, x31, 31
		{0x1F81, 0xFE0F8F93}, // addi x31, x31, -32
		{0x1141, 0xFF010113}, // addi x2, x2, -16
		{0x187D, 0xFFF80813}, // addi x16, x16, -1
		{0x2081, 0x0000809B}, // addiw x1, x1, 0
		{0x2FFD, 0x01FF8F9B}, // addiw x31, x31, 31
		{0x3501, 0xFE05051B}, // addiw x10, x10, -32
		{0x357D, 0xFFF5051B}, // addiw x10, x10, -1
		{0x4081, 0x00000093}, // addi x1, x0, 0
		{0x4FFD, 0x01F00F93}, // addi x31, x0, 31
		{0x5501, 0xFE000513}, // addi x10, x0, -32
		{0x517D, 0xFFF00113}, // addi x2, x0, -1
		{0x7101, 0xE0010113}, // addi x2, x2, -512
		{0x617D, 0x1F010113}, // addi x2, x2, 496
		{0x6141, 0x01010113}, // addi x2, x2, 16
		{0x6105, 0x02010113}, // addi x2, x2, 32
		{0x6121, 0x04010113}, // addi x2, x2, 64
		{0x6109, 0x08010113}, // addi x2, x2, 128
		{0x6111, 0x10010113}, // addi x2, x2, 256
		{0x717D, 0xFF010113}, // addi x2, x2, -16
		{0x6085, 0x000010B7}, // lui x1, 1
		{0x6FFD, 0x0001FFB7}, // lui x31, 31
		{0x7F81, 0xFFFE0FB7}, // lui x31, 0xfffe0
		{0x71FD, 0xFFFFF1B7}, // lui x3, 0xfffff
		{0x6241, 0x00010237}, // lui x4, 16
		{0x8005, 0x00145413}, // srli x8, x8, 1
		{0x93FD, 0x03F7D793}, // srli x15, x15, 63
		{0x9081, 0x0204D493}, // srli x9, x9, 32
		{0x8405, 0x40145413}, // srai x8, x8, 1
		{0x97FD, 0x43F7D793}, // srai x15, x15, 63
		{0x9481, 0x4204D493}, // srai x9, x9, 32
		{0x8801, 0x00047413}, // andi x8, x8, 0
		{0x8BFD, 0x01F7F793}, // andi x15, x15, 31
		{0x9B81, 0xFE07F793}, // andi x15, x15, -32
		{0x98FD, 0xFFF4F493}, // andi x9, x9, -1
		{0x8C1D, 0x40F40433}, // sub x8, x8, x15
		{0x8FA1, 0x0087C7B3}, // xor x15, x15, x8
		{0x8CC9, 0x00A4E4B3}, // or x9, x9, x10
		{0x8DF1, 0x00C5F5B3}, // and x11, x11, x12
		{0x9E99, 0x40E686BB}, // subw x13, x13, x14
		{0x9F35, 0x00D7073B}, // addw x14, x14, x13
		{0xA001, 0x0000006F}, // jal x0, .
		{0xB001, 0x801FF06F}, // jal x0, .-2048
		{0xAFFD, 0x7FE0006F}, // jal x0, .+2046
		{0xBFFD, 0xFFFFF06F}, // jal x0, .-2
		{0xA009, 0x0020006F}, // jal x0, .+2
		{0xA021, 0x0080006F}, // jal x0, .+8
		{0xA801, 0x0100006F}, // jal x0, .+16
		{0xA005, 0x0200006F}, // jal x0, .+32
		{0xA081, 0x0400006F}, // jal x0, .+64
		{0xA041, 0x0800006F}, // jal x0, .+128
		{0xA201, 0x1000006F}, // jal x0, .+256
		{0xA401, 0x2000006F}, // jal x0, .+512
		{0xA101, 0x4000006F}, // jal x0, .+1024
		{0xC001, 0x00040063}, // beq x8, x0, .
		{0xD381, 0xF00780E3}, // beq x15, x0, .-256
		{0xCCFD, 0x0E048F63}, // beq x9, x0, .+254
		{0xDCFD, 0xFE048FE3}, // beq x9, x0, .-2
		{0xC501, 0x00050463}, // beq x10, x0, .+8
		{0xC105, 0x02050063}, // beq x10, x0, .+32
		{0xC121, 0x04050063}, // beq x10, x0, .+64
		{0xE001, 0x00041063}, // bne x8, x0, .
		{0xF381, 0xF00790E3}, // bne x15, x0, .-256
		{0xECFD, 0x0E049F63}, // bne x9, x0, .+254
		{0xFCFD, 0xFE049FE3}, // bne x9, x0, .-2
		{0xE141, 0x08051063}, // bne x10, x0, .+128
	}
}

// lowest2 is those whose lowest two bits are 2.
func lowest2() []laid {
	return []laid{
		{0x0086, 0x00109093}, // slli x1, x1, 1
		{0x1FFE, 0x03FF9F93}, // slli x31, x31, 63
		{0x1502, 0x02051513}, // slli x10, x10, 32
		{0x4082, 0x00012083}, // lw x1, 0(x2)
		{0x5FFE, 0x0FC12F83}, // lw x31, 252(x2)
		{0x4512, 0x00412503}, // lw x10, 4(x2)
		{0x5502, 0x02012503}, // lw x10, 32(x2)
		{0x4506, 0x04012503}, // lw x10, 64(x2)
		{0x450A, 0x08012503}, // lw x10, 128(x2)
		{0x60A2, 0x00813083}, // ld x1, 8(x2)
		{0x7FFE, 0x1F813F83}, // ld x31, 504(x2)
		{0x7502, 0x02013503}, // ld x10, 32(x2)
		{0x6506, 0x04013503}, // ld x10, 64(x2)
		{0x6512, 0x10013503}, // ld x10, 256(x2)
		{0x8082, 0x00008067}, // jalr x0, 0(x1)
		{0x8F82, 0x000F8067}, // jalr x0, 0(x31)
		{0x852E, 0x00B00533}, // add x10, x0, x11
		{0x8F86, 0x00100FB3}, // add x31, x0, x1
		{0x80FE, 0x01F000B3}, // add x1, x0, x31
		{0x9002, 0x00100073}, // ebreak
		{0x9082, 0x000080E7}, // jalr x1, 0(x1)
		{0x9F82, 0x000F80E7}, // jalr x1, 0(x31)
		{0x952E, 0x00B50533}, // add x10, x10, x11
		{0x9F86, 0x001F8FB3}, // add x31, x31, x1
		{0x90FE, 0x01F080B3}, // add x1, x1, x31
		{0xC002, 0x00012023}, // sw x0, 0(x2)
		{0xDFFE, 0x0FF12E23}, // sw x31, 252(x2)
		{0xC22A, 0x00A12223}, // sw x10, 4(x2)
		{0xD02A, 0x02A12023}, // sw x10, 32(x2)
		{0xC0AA, 0x04A12023}, // sw x10, 64(x2)
		{0xC12A, 0x08A12023}, // sw x10, 128(x2)
		{0xE406, 0x00113423}, // sd x1, 8(x2)
		{0xFFFE, 0x1FF13C23}, // sd x31, 504(x2)
		{0xF02A, 0x02A13023}, // sd x10, 32(x2)
		{0xE0AA, 0x04A13023}, // sd x10, 64(x2)
		{0xE22A, 0x10A13023}, // sd x10, 256(x2)
	}
}
