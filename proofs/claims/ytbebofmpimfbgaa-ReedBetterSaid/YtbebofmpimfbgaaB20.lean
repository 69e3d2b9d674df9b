/- Part 20 of the proof: TabA, TabB, FactL, FactC. -/
import Derived.Test.YtbebofmpimfbgaaProg
import Derived.RangeFuncLeaves
import Derived.Test.YtbebofmpimfbgaaB04
import Derived.Test.YtbebofmpimfbgaaB05
namespace Go.Sim
set_option linter.all false
open Go
set_option maxRecDepth 1000000
def k0 : Nat := nat_lit 0
def k1 : Nat := nat_lit 1
def k2 : Nat := nat_lit 2
def k3 : Nat := nat_lit 3
def k4 : Nat := nat_lit 4
def k5 : Nat := nat_lit 5
def k6 : Nat := nat_lit 6
def k7 : Nat := nat_lit 7
def k8 : Nat := nat_lit 8
def k9 : Nat := nat_lit 9
def k10 : Nat := nat_lit 10
def k11 : Nat := nat_lit 11
def k12 : Nat := nat_lit 12
def k13 : Nat := nat_lit 13
def k14 : Nat := nat_lit 14
def k15 : Nat := nat_lit 15
def k16 : Nat := nat_lit 16
def k17 : Nat := nat_lit 17
def k18 : Nat := nat_lit 18
def k19 : Nat := nat_lit 19
def k20 : Nat := nat_lit 20
def k21 : Nat := nat_lit 21
def k22 : Nat := nat_lit 22
def k23 : Nat := nat_lit 23
def k24 : Nat := nat_lit 24
def k25 : Nat := nat_lit 25
def k26 : Nat := nat_lit 26
def k27 : Nat := nat_lit 27
def k28 : Nat := nat_lit 28
def k29 : Nat := nat_lit 29
def k30 : Nat := nat_lit 30
def k31 : Nat := nat_lit 31
def k32 : Nat := nat_lit 32
def k33 : Nat := nat_lit 33
def k34 : Nat := nat_lit 34
def k35 : Nat := nat_lit 35
def k36 : Nat := nat_lit 36
def k37 : Nat := nat_lit 37
def k38 : Nat := nat_lit 38
def k39 : Nat := nat_lit 39
def k40 : Nat := nat_lit 40
def k41 : Nat := nat_lit 41
def k42 : Nat := nat_lit 42
def k43 : Nat := nat_lit 43
def k44 : Nat := nat_lit 44
def k45 : Nat := nat_lit 45
def k46 : Nat := nat_lit 46
def k47 : Nat := nat_lit 47
def k48 : Nat := nat_lit 48
def k49 : Nat := nat_lit 49
def k50 : Nat := nat_lit 50
def k51 : Nat := nat_lit 51
def k52 : Nat := nat_lit 52
def k53 : Nat := nat_lit 53
def k54 : Nat := nat_lit 54
def k55 : Nat := nat_lit 55
def k56 : Nat := nat_lit 56
def k57 : Nat := nat_lit 57
def k58 : Nat := nat_lit 58
def k59 : Nat := nat_lit 59
def k60 : Nat := nat_lit 60
def k61 : Nat := nat_lit 61
def k62 : Nat := nat_lit 62
def k63 : Nat := nat_lit 63
def k64 : Nat := nat_lit 64
def k65 : Nat := nat_lit 65
def k66 : Nat := nat_lit 66
def k67 : Nat := nat_lit 67
def k68 : Nat := nat_lit 68
def k69 : Nat := nat_lit 69
def k70 : Nat := nat_lit 70
def k71 : Nat := nat_lit 71
def k72 : Nat := nat_lit 72
def k73 : Nat := nat_lit 73
def k74 : Nat := nat_lit 74
def k75 : Nat := nat_lit 75
def k76 : Nat := nat_lit 76
def k77 : Nat := nat_lit 77
def k78 : Nat := nat_lit 78
def k79 : Nat := nat_lit 79
def k80 : Nat := nat_lit 80
def k81 : Nat := nat_lit 81
def k82 : Nat := nat_lit 82
def k83 : Nat := nat_lit 83
def k84 : Nat := nat_lit 84
def k85 : Nat := nat_lit 85
def k86 : Nat := nat_lit 86
def k87 : Nat := nat_lit 87
def k88 : Nat := nat_lit 88
def k89 : Nat := nat_lit 89
def k90 : Nat := nat_lit 90
def k91 : Nat := nat_lit 91
def k92 : Nat := nat_lit 92
def k93 : Nat := nat_lit 93
def k94 : Nat := nat_lit 94
def k96 : Nat := nat_lit 96
def k97 : Nat := nat_lit 97
def k100 : Nat := nat_lit 100
def k112 : Nat := nat_lit 112
def k118 : Nat := nat_lit 118
def k127 : Nat := nat_lit 127
def k192 : Nat := nat_lit 192
def k246 : Nat := nat_lit 246
def k252 : Nat := nat_lit 252
def k255 : Nat := nat_lit 255
def k256 : Nat := nat_lit 256
def k510 : Nat := nat_lit 510
def k511 : Nat := nat_lit 511
def k512 : Nat := nat_lit 512
def k758 : Nat := nat_lit 758
def k768 : Nat := nat_lit 768
def k1022 : Nat := nat_lit 1022
def k1023 : Nat := nat_lit 1023
def k1782 : Nat := nat_lit 1782
def k2046 : Nat := nat_lit 2046
def k2047 : Nat := nat_lit 2047
def k4095 : Nat := nat_lit 4095
def k4096 : Nat := nat_lit 4096
def k8191 : Nat := nat_lit 8191
def k12288 : Nat := nat_lit 12288
def k16383 : Nat := nat_lit 16383
def k32767 : Nat := nat_lit 32767
def k65535 : Nat := nat_lit 65535
def k65536 : Nat := nat_lit 65536
def k131071 : Nat := nat_lit 131071
def k196608 : Nat := nat_lit 196608
def k262143 : Nat := nat_lit 262143
def k524287 : Nat := nat_lit 524287
def k1048576 : Nat := nat_lit 1048576
def k2097151 : Nat := nat_lit 2097151
def k3145728 : Nat := nat_lit 3145728
def k4194303 : Nat := nat_lit 4194303
def k8388607 : Nat := nat_lit 8388607
def k16777215 : Nat := nat_lit 16777215
def k16777216 : Nat := nat_lit 16777216
def k50331647 : Nat := nat_lit 50331647
def k50331648 : Nat := nat_lit 50331648
def k117440511 : Nat := nat_lit 117440511
def k134217727 : Nat := nat_lit 134217727
def k251658239 : Nat := nat_lit 251658239
def k268435456 : Nat := nat_lit 268435456
def k536870911 : Nat := nat_lit 536870911
def k805306368 : Nat := nat_lit 805306368
def k1073741823 : Nat := nat_lit 1073741823
def k2147483647 : Nat := nat_lit 2147483647
def k4294967295 : Nat := nat_lit 4294967295
def k8589934591 : Nat := nat_lit 8589934591
def k17179869183 : Nat := nat_lit 17179869183
def k34359738367 : Nat := nat_lit 34359738367
def k68719476735 : Nat := nat_lit 68719476735
def k137438953471 : Nat := nat_lit 137438953471
def k274877906943 : Nat := nat_lit 274877906943
def k549755813887 : Nat := nat_lit 549755813887
def k1099511627775 : Nat := nat_lit 1099511627775
def k2199023255551 : Nat := nat_lit 2199023255551
def k4398046511103 : Nat := nat_lit 4398046511103
def k8796093022207 : Nat := nat_lit 8796093022207
def k17592186044415 : Nat := nat_lit 17592186044415
def k70368744177663 : Nat := nat_lit 70368744177663
def k140737488355327 : Nat := nat_lit 140737488355327
def k281474976710655 : Nat := nat_lit 281474976710655
def ti0 : Value := .int .i64 (.ofNat k0)
def ti1 : Value := .int .i64 (.ofNat k1)
def ti2 : Value := .int .i64 (.ofNat k2)
def ti3 : Value := .int .i64 (.ofNat k4)
def ti4 : Value := .int .i64 (.ofNat k6)
def ti5 : Value := .int .i64 (.negSucc k2)
def ti6 : Value := .int .i64 (.negSucc k11)
def ti7 : Value := .int .i64 (.negSucc k5)
def ti8 : Value := .int .i64 (.ofNat k28)
def ti9 : Value := .int .i64 (.ofNat k31)
def ti10 : Value := .int .i64 (.ofNat k39)
def ti11 : Value := .int .i64 (.ofNat k40)
def ti12 : Value := .int .i64 (.ofNat k3)
def ti13 : Value := .int .i64 (.negSucc k15)
def ti14 : Value := .int .i64 (.ofNat k16)
def ti15 : Value := .int .i64 (.negSucc k59)
def ti16 : Value := .int .i64 (.ofNat k60)
def ti17 : Value := .int .i64 (.ofNat k20)
def ti18 : Value := .int .i64 (.ofNat k100)
def ti19 : Value := .int .i64 (.ofNat k12)
def ti20 : Value := .int .i64 (.ofNat k10)
def ti21 : Value := .int .i64 (.ofNat k30)
def ti22 : Value := .int .i64 (.ofNat k5)
def ti23 : Value := .int .i64 (.ofNat k11)
def ti24 : Value := .int .i64 (.ofNat k7)
def ti25 : Value := .int .i64 (.negSucc k7)
def ti26 : Value := .int .i64 (.negSucc k8)
def ti27 : Value := .int .i64 (.ofNat k32)
def ti28 : Value := .int .i64 (.ofNat k41)
def ti29 : Value := .int .i64 (.negSucc k1)
def ti30 : Value := .int .i64 (.ofNat k8)
def s0 : Option Nat := some k0
def s1 : Option Nat := some k13
def s2 : Option Nat := some k14
def s3 : Option Nat := some k12
def s4 : Option Nat := some k15
def s5 : Option Nat := some k16
def s6 : Option Nat := some k1
def s7 : Option Nat := some k2
def s8 : Option Nat := some k18
def s9 : Option Nat := some k19
def s10 : Option Nat := some k20
def s11 : Option Nat := some k17
def s12 : Option Nat := some k21
def s13 : Option Nat := some k22
def s14 : Option Nat := some k3
def s15 : Option Nat := some k4
def s16 : Option Nat := some k24
def s17 : Option Nat := some k25
def s18 : Option Nat := some k23
def s19 : Option Nat := some k26
def s20 : Option Nat := some k27
def s21 : Option Nat := some k5
def s22 : Option Nat := some k6
def s23 : Option Nat := some k29
def s24 : Option Nat := some k30
def s25 : Option Nat := some k28
def s26 : Option Nat := some k31
def s27 : Option Nat := some k32
def s28 : Option Nat := some k7
def s29 : Option Nat := some k8
def s30 : Option Nat := some k34
def s31 : Option Nat := some k35
def s32 : Option Nat := some k36
def s33 : Option Nat := some k33
def s34 : Option Nat := some k37
def s35 : Option Nat := some k38
def s36 : Option Nat := some k39
def s37 : Option Nat := some k9
def s38 : Option Nat := some k10
def s39 : Option Nat := some k11
def s40 : Option Nat := some k40
def s41 : Option Nat := some k41
def s42 : Option Nat := some k42
def s43 : Option Nat := some k43
def s44 : Option Nat := some k44
def s45 : Option Nat := some k45
def s46 : Option Nat := some k46
def s47 : Option Nat := some k47
def s48 : Option Nat := some k48
def s49 : Option Nat := some k49
def s50 : Option Nat := some k50
def s51 : Option Nat := some k51
def s52 : Option Nat := some k52
def s53 : Option Nat := some k53
def s54 : Option Nat := some k54
def s55 : Option Nat := some k55
def s56 : Option Nat := some k56
def s57 : Option Nat := some k57
def s58 : Option Nat := some k58
def s59 : Option Nat := some k59
def s60 : Option Nat := some k60
def s61 : Option Nat := some k61
def s62 : Option Nat := some k62
def s63 : Option Nat := some k63
def s64 : Option Nat := some k64
def s65 : Option Nat := some k65
def s66 : Option Nat := some k66
def s67 : Option Nat := some k67
def s68 : Option Nat := some k68
def s69 : Option Nat := some k69
def s70 : Option Nat := some k70
def s71 : Option Nat := some k71
def s72 : Option Nat := some k72
def s73 : Option Nat := some k73
def s74 : Option Nat := some k74
def s75 : Option Nat := some k75
def s76 : Option Nat := some k76
def s77 : Option Nat := some k77
def s78 : Option Nat := some k78
def s79 : Option Nat := some k79
def s80 : Option Nat := some k80
def s81 : Option Nat := some k81
def s82 : Option Nat := some k82
def s83 : Option Nat := some k83
def s84 : Option Nat := some k84
def s85 : Option Nat := some k85
def s86 : Option Nat := some k86
def s87 : Option Nat := some k87
def t11 : FI := ⟨(.seq (.ops [⟨s0,(.p (.mov (.v (.bool .false)))),none⟩]) (.seq (.ops [⟨s1,(.call (.v (.func (.func k46) ⟨[]⟩ ⟨[]⟩)) []),none⟩,⟨s2,(.call (.v (.func (.func k34) ⟨[]⟩ ⟨[]⟩)) [(.t k13)]),none⟩,⟨s3,(.p (.mov (.t k14))),none⟩,⟨s4,(.p (.ext (.t k12) k0)),none⟩,⟨s5,(.p (.ext (.t k12) k1)),none⟩,⟨s6,(.a (.new [ti0,ti0])),none⟩,⟨none,(.w (.st k2 (.t k1) (.t k15))),none⟩,⟨s7,(.p (.mov (.t k16))),none⟩]) (.seq (.ops [⟨s8,(.call (.v (.func (.func k46) ⟨[]⟩ ⟨[]⟩)) []),none⟩,⟨s9,(.a (.bsl [ti0,ti0] k2 [(k0,k1,(.v ti1)),(k1,k1,(.v ti2))])),none⟩,⟨s10,(.call (.v (.func (.func k28) ⟨[]⟩ ⟨[]⟩)) [(.t k18),(.t k19)]),none⟩,⟨s11,(.p (.mov (.t k20))),none⟩,⟨s12,(.p (.ext (.t k17) k0)),none⟩,⟨s13,(.p (.ext (.t k17) k1)),none⟩,⟨s14,(.a (.new [ti0,ti0,ti0,ti0,ti0,ti0])),none⟩,⟨none,(.w (.st k6 (.t k3) (.t k21))),none⟩,⟨s15,(.p (.mov (.t k22))),none⟩]) (.seq (.ops [⟨s16,(.call (.v (.func (.func k47) ⟨[]⟩ ⟨[]⟩)) []),none⟩,⟨s17,(.call (.v (.func (.func k44) ⟨[]⟩ ⟨[]⟩)) [(.t k24)]),none⟩,⟨s18,(.p (.mov (.t k25))),none⟩,⟨s19,(.p (.ext (.t k23) k0)),none⟩,⟨s20,(.p (.ext (.t k23) k1)),none⟩,⟨s21,(.p (.mov (.t k26))),none⟩,⟨s22,(.p (.mov (.t k27))),none⟩]) (.seq (.ops [⟨s23,(.call (.v (.func (.func k46) ⟨[]⟩ ⟨[]⟩)) []),none⟩,⟨s24,(.call (.v (.func (.func k15) ⟨[]⟩ ⟨[]⟩)) [(.t k29)]),none⟩,⟨s25,(.p (.mov (.t k30))),none⟩,⟨s26,(.p (.ext (.t k28) k0)),none⟩,⟨s27,(.p (.ext (.t k28) k1)),none⟩,⟨s28,(.p (.mov (.t k31))),none⟩,⟨s29,(.p (.mov (.t k32))),none⟩]) (.seq (.ops [⟨s30,(.call (.v (.func (.func k35) ⟨[]⟩ ⟨[]⟩)) [(.v ti3),(.v ti4)]),none⟩,⟨s31,(.call (.v (.func (.func k48) ⟨[]⟩ ⟨[]⟩)) [(.t k34)]),none⟩,⟨s32,(.call (.v (.func (.func k17) ⟨[]⟩ ⟨[]⟩)) [(.t k35)]),none⟩,⟨s33,(.p (.mov (.t k36))),none⟩,⟨s34,(.p (.ext (.t k33) k0)),none⟩,⟨s35,(.p (.ext (.t k33) k1)),none⟩,⟨s36,(.p (.ext (.t k33) k2)),none⟩,⟨s37,(.p (.mov (.t k37))),none⟩,⟨s38,(.p (.mov (.t k38))),none⟩,⟨s39,(.p (.mov (.t k39))),none⟩]) (.seq (.draw [⟨⟨s40,(.p (.mov (.t k2))),none⟩,k0,[k0]⟩,⟨⟨s41,(.p (.bin .eql (.t k40) (.v ti0))),none⟩,k1,[k0]⟩,⟨⟨s42,(.p (.mov (.t k41))),none⟩,k3,[k0]⟩,⟨⟨s43,(.p (.mov (.t k4))),(some (k42,.true))⟩,k7,[k0]⟩,⟨⟨s44,(.p (.bin .eql (.t k43) (.v ti0))),(some (k42,.true))⟩,k15,[k0]⟩,⟨⟨s45,(.p (.pick (.t k42) (.t k44) (.v (.bool .false)))),none⟩,k31,[k0]⟩,⟨⟨s46,(.p (.mov (.t k45))),none⟩,k63,[k0]⟩,⟨⟨s47,(.p (.mov (.t k6))),(some (k46,.true))⟩,k127,[k0]⟩,⟨⟨s48,(.p (.bin .eql (.t k47) (.v ti0))),(some (k46,.true))⟩,k255,[k0]⟩,⟨⟨s49,(.p (.pick (.t k46) (.t k48) (.v (.bool .false)))),none⟩,k511,[k0]⟩,⟨⟨s50,(.p (.mov (.t k49))),none⟩,k1023,[k0]⟩,⟨⟨s51,(.p (.mov (.t k8))),(some (k50,.true))⟩,k2047,[k0]⟩,⟨⟨s52,(.p (.bin .eql (.t k51) (.v ti0))),(some (k50,.true))⟩,k4095,[k0]⟩,⟨⟨s53,(.p (.pick (.t k50) (.t k52) (.v (.bool .false)))),none⟩,k8191,[k0]⟩,⟨⟨s54,(.p (.mov (.t k53))),none⟩,k16383,[k0]⟩,⟨⟨s55,(.p (.mov (.t k11))),(some (k54,.true))⟩,k32767,[k0]⟩,⟨⟨s56,(.p (.bin .eql (.t k55) (.v ti0))),(some (k54,.true))⟩,k65535,[k0]⟩,⟨⟨s57,(.p (.pick (.t k54) (.t k56) (.v (.bool .false)))),none⟩,k131071,[k0]⟩,⟨⟨s58,(.p (.mov (.t k57))),none⟩,k262143,[k0]⟩,⟨⟨s59,(.r (.ldn k2 (.t k1))),(some (k58,.true))⟩,k524287,[k0,k21]⟩,⟨⟨s60,(.call (.v (.func (.func k35) ⟨[]⟩ ⟨[]⟩)) [(.v ti5),(.v ti2)]),(some (k58,.true))⟩,k524287,[k0,k21]⟩,⟨⟨s61,(.p (.eqG .false k2 (.t k59) (.t k60))),(some (k58,.true))⟩,k2097151,[k21]⟩,⟨⟨s62,(.p (.pick (.t k58) (.t k61) (.v (.bool .false)))),none⟩,k4194303,[k21]⟩,⟨⟨s63,(.p (.mov (.t k62))),none⟩,k8388607,[k21]⟩,⟨⟨s64,(.r (.ldn k6 (.t k3))),(some (k63,.true))⟩,k16777215,[k21,k26,k27,k28]⟩,⟨⟨s65,(.call (.v (.func (.func k35) ⟨[]⟩ ⟨[]⟩)) [(.v ti6),(.v ti7)]),(some (k63,.true))⟩,k16777215,[k21,k26]⟩,⟨⟨s66,(.call (.v (.func (.func k35) ⟨[]⟩ ⟨[]⟩)) [(.v ti8),(.v ti9)]),(some (k63,.true))⟩,k50331647,[k26,k27]⟩,⟨⟨s67,(.call (.v (.func (.func k35) ⟨[]⟩ ⟨[]⟩)) [(.v ti10),(.v ti11)]),(some (k63,.true))⟩,k117440511,[k27,k28]⟩,⟨⟨s68,(.p (.build [ti0,ti0,ti0,ti0,ti0,ti0] [(k0,k2,(.t k65)),(k2,k2,(.t k66)),(k4,k2,(.t k67))])),(some (k63,.true))⟩,k251658239,[k28]⟩,⟨⟨s69,(.p (.eqG .false k6 (.t k64) (.t k68))),(some (k63,.true))⟩,k536870911,[k28]⟩,⟨⟨s70,(.p (.pick (.t k63) (.t k69) (.v (.bool .false)))),none⟩,k1073741823,[k28]⟩,⟨⟨s71,(.p (.mov (.t k70))),none⟩,k2147483647,[k28]⟩,⟨⟨s72,(.p (.mov (.t k7))),(some (k71,.true))⟩,k4294967295,[k28]⟩,⟨⟨s73,(.p (.bin .eql (.t k72) (.v ti12))),(some (k71,.true))⟩,k8589934591,[k28]⟩,⟨⟨s74,(.p (.pick (.t k71) (.t k73) (.v (.bool .false)))),none⟩,k17179869183,[k28]⟩,⟨⟨s75,(.p (.mov (.t k74))),none⟩,k34359738367,[k28]⟩,⟨⟨s76,(.p (.mov (.t k9))),(some (k75,.true))⟩,k68719476735,[k28]⟩,⟨⟨s77,(.p (.bin .eql (.t k76) (.v ti2))),(some (k75,.true))⟩,k137438953471,[k28]⟩,⟨⟨s78,(.p (.pick (.t k75) (.t k77) (.v (.bool .false)))),none⟩,k274877906943,[k28]⟩,⟨⟨s79,(.p (.mov (.t k78))),none⟩,k549755813887,[k28]⟩,⟨⟨s80,(.p (.mov (.t k10))),(some (k79,.true))⟩,k1099511627775,[k28]⟩,⟨⟨s81,(.p (.bin .eql (.t k80) (.v ti2))),(some (k79,.true))⟩,k2199023255551,[k28]⟩,⟨⟨s82,(.p (.pick (.t k79) (.t k81) (.v (.bool .false)))),none⟩,k4398046511103,[k28]⟩,⟨⟨s83,(.p (.mov (.t k82))),none⟩,k8796093022207,[k28]⟩,⟨⟨s84,(.p (.mov (.t k5))),(some (k83,.true))⟩,k17592186044415,[k28]⟩,⟨⟨s85,(.a (.bsl [ti0,ti0] k2 [(k0,k1,(.v ti1)),(k1,k1,(.v ti1))])),(some (k83,.true))⟩,k17592186044415,[k28]⟩,⟨⟨s86,(.call (.v (.func (.func k49) ⟨[]⟩ ⟨[]⟩)) [(.t k84),(.t k85)]),(some (k83,.true))⟩,k70368744177663,[k28,k47]⟩,⟨⟨s87,(.p (.pick (.t k83) (.t k86) (.v (.bool .false)))),none⟩,k140737488355327,[k47]⟩,⟨⟨s0,(.p (.mov (.t k87))),none⟩,k281474976710655,[k47]⟩]) .ret))))))),k88,[(.t k0)]⟩
def t13 : FI := ⟨(.seq (.ops [⟨s22,(.a (.new [ti0,ti0,ti0,ti0,ti0,ti0,ti0,ti0,ti0,ti0,ti0,ti0,ti0,ti0,ti0,(.slice none k0 k0),ti0,ti0])),none⟩]) (.seq (.ops [⟨s38,(.p (.mov (.t k0))),none⟩,⟨s39,(.call (.v (.func (.func k20) ⟨[]⟩ ⟨[]⟩)) [(.t k10),(.v ti1),(.v ti4)]),none⟩,⟨s3,(.p (.mov (.t k0))),none⟩,⟨s1,(.p (.mov (.t k0))),none⟩,⟨s2,(.call (.v (.func (.func k25) ⟨[]⟩ ⟨[]⟩)) [(.t k13),(.v ti12)]),none⟩,⟨s4,(.a (.bsl [ti0,ti0,ti0] k3 [(k0,k1,(.v ti0)),(k1,k1,(.v ti1)),(k2,k1,(.t k14))])),none⟩,⟨s5,(.call (.v (.func (.func k24) ⟨[]⟩ ⟨[]⟩)) [(.t k12),(.t k15)]),none⟩,⟨s11,(.p (.build [ti0,ti0,ti0,ti0,ti0,ti0,ti0,ti0,ti0,ti0,ti0,ti0,ti0,ti0,ti0,(.slice none k0 k0),ti0,ti0] [(k16,k1,(.t k11)),(k17,k1,(.t k16))])),none⟩,⟨s28,(.a (.new [ti0,ti0,ti0,ti0,ti0,ti0,ti0,ti0,ti0,ti0,ti0,ti0,ti0,ti0,ti0,(.slice none k0 k0),ti0,ti0])),none⟩,⟨none,(.w (.st k18 (.t k7) (.t k17))),none⟩]) (.seq (.ops [⟨s8,(.p (.mov (.t k0))),none⟩,⟨s9,(.call (.v (.func (.func k20) ⟨[]⟩ ⟨[]⟩)) [(.t k18),(.v ti13),(.v ti14)]),none⟩,⟨s29,(.p (.mov (.t k19))),none⟩]) (.seq (.ops [⟨s10,(.p (.mov (.t k0))),none⟩,⟨s12,(.p (.mov (.t k8))),none⟩,⟨s13,(.p (.mov (.t k1))),none⟩,⟨s18,(.call (.v (.func (.func k50) ⟨[]⟩ ⟨[]⟩)) [(.t k20),(.t k21),(.v ti15),(.v ti16),(.t k22)]),none⟩,⟨s16,(.p (.fad k0 (.t k7))),none⟩,⟨s17,(.p (.fad k0 (.t k24))),none⟩,⟨none,(.w (.st k2 (.t k25) (.t k23))),none⟩]) (.seq (.ops [⟨s19,(.p (.mov (.t k0))),none⟩,⟨s20,(.p (.mov (.t k0))),none⟩,⟨s25,(.call (.v (.func (.func k20) ⟨[]⟩ ⟨[]⟩)) [(.t k27),(.v ti17),(.v ti11)]),none⟩,⟨s23,(.call (.v (.func (.func k50) ⟨[]⟩ ⟨[]⟩)) [(.t k26),(.t k28),(.v ti0),(.v ti18),(.v ti2)]),none⟩,⟨s24,(.p (.mov (.t k0))),none⟩,⟨s26,(.p (.mov (.t k0))),none⟩,⟨s27,(.call (.v (.func (.func k20) ⟨[]⟩ ⟨[]⟩)) [(.t k31),(.v ti17),(.v ti11)]),none⟩,⟨s33,(.call (.v (.func (.func k50) ⟨[]⟩ ⟨[]⟩)) [(.t k30),(.t k32),(.v ti0),(.v ti18),(.v ti2)]),none⟩,⟨s30,(.p (.fad k0 (.t k7))),none⟩,⟨s31,(.p (.fad k2 (.t k34))),none⟩,⟨none,(.w (.st k2 (.t k35) (.t k29))),none⟩,⟨s32,(.p (.fad k0 (.t k7))),none⟩,⟨s34,(.p (.fad k4 (.t k36))),none⟩,⟨none,(.w (.st k2 (.t k37) (.t k33))),none⟩]) (.seq (.ops [⟨s35,(.p (.mov (.t k0))),none⟩,⟨s36,(.p (.mov (.t k0))),none⟩,⟨s40,(.call (.v (.func (.func k20) ⟨[]⟩ ⟨[]⟩)) [(.t k39),(.v ti1),(.v ti4)]),none⟩,⟨s41,(.p (.mov (.t k2))),none⟩,⟨s42,(.call (.v (.func (.func k50) ⟨[]⟩ ⟨[]⟩)) [(.t k38),(.t k40),(.v ti0),(.v ti19),(.t k41)]),none⟩,⟨s43,(.p (.mov (.t k0))),none⟩,⟨s44,(.p (.mov (.t k0))),none⟩,⟨s45,(.call (.v (.func (.func k20) ⟨[]⟩ ⟨[]⟩)) [(.t k44),(.v ti1),(.v ti4)]),none⟩,⟨s46,(.p (.mov (.t k2))),none⟩,⟨s47,(.call (.v (.func (.func k50) ⟨[]⟩ ⟨[]⟩)) [(.t k43),(.t k45),(.v ti0),(.v ti19),(.t k46)]),none⟩,⟨s48,(.p (.fad k6 (.t k7))),none⟩,⟨s49,(.p (.fad k0 (.t k48))),none⟩,⟨none,(.w (.st k2 (.t k49) (.t k42))),none⟩,⟨s50,(.p (.fad k6 (.t k7))),none⟩,⟨s51,(.p (.fad k2 (.t k50))),none⟩,⟨none,(.w (.st k2 (.t k51) (.t k47))),none⟩]) (.seq (.ops [⟨s52,(.p (.mov (.t k0))),none⟩,⟨s53,(.p (.mov (.t k0))),none⟩,⟨s54,(.call (.v (.func (.func k25) ⟨[]⟩ ⟨[]⟩)) [(.t k53),(.v ti3)]),none⟩,⟨s55,(.call (.v (.func (.func k50) ⟨[]⟩ ⟨[]⟩)) [(.t k52),(.t k54),(.v ti0),(.v ti19),(.v ti1)]),none⟩,⟨s56,(.p (.mov (.t k0))),none⟩,⟨s57,(.p (.mov (.t k0))),none⟩,⟨s58,(.call (.v (.func (.func k25) ⟨[]⟩ ⟨[]⟩)) [(.t k57),(.v ti3)]),none⟩,⟨s59,(.call (.v (.func (.func k50) ⟨[]⟩ ⟨[]⟩)) [(.t k56),(.t k58),(.v ti0),(.v ti19),(.v ti1)]),none⟩,⟨s60,(.p (.fad k6 (.t k7))),none⟩,⟨s61,(.p (.fad k4 (.t k60))),none⟩,⟨none,(.w (.st k2 (.t k61) (.t k55))),none⟩,⟨s62,(.p (.fad k6 (.t k7))),none⟩,⟨s63,(.p (.fad k6 (.t k62))),none⟩,⟨none,(.w (.st k2 (.t k63) (.t k59))),none⟩]) (.seq (.ops [⟨s64,(.p (.mov (.t k0))),none⟩,⟨s65,(.call (.v (.func (.func k20) ⟨[]⟩ ⟨[]⟩)) [(.t k64),(.v ti20),(.v ti21)]),none⟩,⟨s66,(.p (.fad k6 (.t k7))),none⟩,⟨s67,(.p (.fad k8 (.t k66))),none⟩,⟨none,(.w (.st k1 (.t k67) (.t k65))),none⟩]) (.seq (.seq (.ops [⟨s68,(.p (.mov (.t k0))),none⟩,⟨s69,(.call (.v (.func (.func k25) ⟨[]⟩ ⟨[]⟩)) [(.t k68),(.v ti12)]),none⟩,⟨s37,(.p (.mov (.t k69))),none⟩]) (.block k0 (.loop (.seq (.seq (.ops [⟨s70,(.p (.mov (.t k9))),none⟩,⟨s71,(.p (.bin .gtr (.t k70) (.v ti0))),none⟩]) (.cond (.t k71) .skip (.exit k0))) (.seq (.block k1 (.draw [⟨⟨s74,(.p (.fad k15 (.t k7))),none⟩,k0,[k0,k5,k6]⟩,⟨⟨s75,(.r (.ld1 (.t k74))),none⟩,k1,[k0,k5,k6]⟩,⟨⟨s76,(.p (.mov (.t k0))),none⟩,k0,[k0,k5]⟩,⟨⟨s77,(.p (.mov (.t k0))),none⟩,k0,[k0]⟩,⟨⟨s78,(.call (.v (.func (.func k20) ⟨[]⟩ ⟨[]⟩)) [(.t k77),(.v ti5),(.v ti12)]),none⟩,k8,[k0,k5]⟩,⟨⟨s79,(.call (.v (.func (.func k50) ⟨[]⟩ ⟨[]⟩)) [(.t k76),(.t k78),(.v ti15),(.v ti16),(.v ti2)]),none⟩,k28,[k5,k6]⟩,⟨⟨s80,(.a (.bsl [ti0,ti0] k1 [(k0,k2,(.t k79))])),none⟩,k60,[k6]⟩,⟨⟨s81,(.w (.app k2 [ti0,ti0] (.t k75) (.t k80))),none⟩,k127,[k6,k8]⟩,⟨⟨s82,(.p (.fad k15 (.t k7))),none⟩,k255,[k8]⟩,⟨⟨none,(.w (.st k1 (.t k82) (.t k81))),none⟩,k511,[k8,k10]⟩])) (.ops [⟨s72,(.p (.mov (.t k9))),none⟩,⟨s73,(.p (.bin .sub (.t k72) (.v ti1))),none⟩,⟨s37,(.p (.mov (.t k73))),none⟩])))))) (.seq (.ops [⟨s83,(.r (.ldn k18 (.t k7))),none⟩,⟨none,(.w (.st k18 (.t k6) (.t k83))),none⟩]) .ret)))))))))),k84,[(.c .true k18 k6)]⟩
def t15 : FI := ⟨(.seq (.ops [⟨s6,(.a (.box (.t k0))),none⟩,⟨s7,(.a (.new [ti0])),none⟩,⟨s14,(.a (.new [ti0])),none⟩]) (.seq (.seq (.ops [⟨s37,(.r (.ldn k18 (.t k1))),none⟩,⟨s38,(.call (.v (.func (.func k52) ⟨[]⟩ ⟨[]⟩)) [(.t k9)]),none⟩,⟨s15,(.p (.mov (.t k10))),none⟩]) (.seq (.ops [⟨s39,(.p (.mov (.t k4))),none⟩,⟨s3,(.p (.bin .neq (.t k11) (.v ti0))),none⟩]) (.cond (.t k12) (.seq (.ops [⟨s1,(.p (.mov (.t k4))),none⟩,⟨none,(.w (.st k1 (.t k2) (.v ti0))),none⟩,⟨none,(.w (.st k1 (.t k3) (.t k13))),none⟩]) .ret) .skip))) (.seq (.ops [⟨s2,(.r (.ldn k18 (.t k1))),none⟩,⟨s4,(.call (.v (.func (.func k53) ⟨[]⟩ ⟨[]⟩)) [(.t k14)]),none⟩,⟨s21,(.a (.new [.nilFunc])),none⟩,⟨none,(.w (.st k1 (.t k5) (.t k15))),none⟩]) (.seq (.ops [⟨s22,(.a (.new [ti0])),none⟩,⟨none,(.w (.st k1 (.t k6) (.v ti0))),none⟩]) (.seq (.seq (.ops [⟨s5,(.p (.fad k0 (.t k1))),none⟩,⟨s11,(.p (.fad k0 (.t k16))),none⟩,⟨s8,(.r (.ldn k2 (.t k17))),none⟩,⟨s9,(.p (.fad k17 (.t k1))),none⟩,⟨s10,(.r (.ld1 (.t k19))),none⟩,⟨s12,(.call (.v (.func (.func k54) ⟨[]⟩ ⟨[]⟩)) [(.t k18),(.t k20)]),none⟩]) (.block k0 (.rng (.t k21) [k22] (.ops [⟨s28,(.a (.new [ti0,ti0])),none⟩,⟨none,(.w (.st k2 (.t k7) (.t k22))),none⟩]) (.block k1 (.seq (.ops [⟨s18,(.p (.fad k0 (.t k1))),none⟩,⟨s16,(.r (.ldn k6 (.t k23))),none⟩,⟨s29,(.a (.new [ti0,ti0,ti0,ti0,ti0,ti0])),none⟩,⟨none,(.w (.st k6 (.t k8) (.t k24))),none⟩]) (.seq (.ops [⟨s17,(.r (.ldn k2 (.t k7))),none⟩,⟨s19,(.p (.fad k0 (.t k8))),none⟩,⟨none,(.w (.st k2 (.t k26) (.t k25))),none⟩]) (.seq (.draw [⟨⟨s20,(.r (.ld1 (.t k6))),none⟩,k0,[k0,k5]⟩,⟨⟨s25,(.r (.ld1 (.t k5))),none⟩,k0,[k0]⟩,⟨⟨s23,(.r (.ldn k6 (.t k8))),none⟩,k0,[k0]⟩,⟨⟨s24,(.p (.build [ti0,ti0,ti0,ti0,ti0,ti0,ti0] [(k0,k6,(.t k29)),(k6,k1,(.v ti3))])),none⟩,k4,[k0]⟩,⟨⟨s26,(.call (.t k28) [(.t k30)]),none⟩,k14,[k0,k5]⟩,⟨⟨s27,(.p (.fld .false k1 k1 (.t k31))),none⟩,k30,[k5]⟩,⟨⟨s33,(.p (.max [(.t k27),(.t k32)])),none⟩,k63,[k5]⟩,⟨⟨none,(.w (.st k1 (.t k6) (.t k33))),none⟩,k127,[k5,k8]⟩]) (.seq (.ops [⟨s30,(.r (.ld1 (.t k6))),none⟩,⟨s31,(.p (.bin .eql (.t k34) (.v ti22))),none⟩]) (.cond (.t k35) (.seq (.ops [⟨none,(.w (.st k1 (.t k2) (.v ti0))),none⟩,⟨none,(.w (.st k1 (.t k3) (.v ti23))),none⟩]) .ret) .skip))))))))) (.seq (.ops [⟨s32,(.r (.ld1 (.t k6))),none⟩,⟨none,(.w (.st k1 (.t k2) (.t k36))),none⟩,⟨none,(.w (.st k1 (.t k3) (.v ti0))),none⟩]) .ret)))))),k37,[(.c .false k1 k2),(.c .false k1 k3)]⟩
def t17 : FI := ⟨(.seq (.ops [⟨s6,(.a (.box (.t k0))),none⟩,⟨s7,(.p (.mov (.v ti0))),none⟩,⟨s14,(.p (.mov (.v ti0))),none⟩,⟨s15,(.p (.mov (.v ti0))),none⟩]) (.seq (.seq (.ops [⟨s28,(.r (.ldn k18 (.t k1))),none⟩,⟨s29,(.call (.v (.func (.func k52) ⟨[]⟩ ⟨[]⟩)) [(.t k7)]),none⟩,⟨s21,(.p (.mov (.t k8))),none⟩]) (.seq (.ops [⟨s37,(.p (.mov (.t k5))),none⟩,⟨s38,(.p (.bin .neq (.t k9) (.v ti0))),none⟩]) (.cond (.t k10) (.seq (.ops [⟨s39,(.p (.mov (.t k5))),none⟩,⟨s7,(.p (.mov (.v ti0))),none⟩,⟨s14,(.p (.mov (.v ti0))),none⟩,⟨s15,(.p (.mov (.t k11))),none⟩]) .ret) .skip))) (.seq (.draw [⟨⟨s3,(.r (.ldn k18 (.t k1))),none⟩,k0,[k0]⟩,⟨⟨s1,(.call (.v (.func (.func k53) ⟨[]⟩ ⟨[]⟩)) [(.t k12)]),none⟩,k1,[k0,k2]⟩,⟨⟨s2,(.p (.fad k0 (.t k1))),none⟩,k0,[k0,k2]⟩,⟨⟨s4,(.r (.ldn k6 (.t k14))),none⟩,k4,[k0,k2]⟩,⟨⟨s5,(.p (.build [ti0,ti0,ti0,ti0,ti0,ti0,ti0] [(k0,k6,(.t k15)),(k6,k1,(.v ti3))])),none⟩,k12,[k0,k2]⟩,⟨⟨s11,(.call (.t k13) [(.t k16)]),none⟩,k31,[k2,k6]⟩,⟨⟨s22,(.a (.new [ti0,ti0])),none⟩,k0,[k0,k2,k6]⟩,⟨⟨none,(.w (.st k2 (.t k6) (.t k17))),none⟩,k127,[k6,k8]⟩]) (.seq (.seq (.ops [⟨s8,(.p (.fad k1 (.t k6))),none⟩,⟨s9,(.r (.ld1 (.t k18))),none⟩,⟨s10,(.p (.bin .eql (.t k19) (.v ti22))),none⟩]) (.cond (.t k20) (.seq (.ops [⟨s7,(.p (.mov (.v ti0))),none⟩,⟨s14,(.p (.mov (.v ti0))),none⟩,⟨s15,(.p (.mov (.v ti23))),none⟩]) .ret) .skip)) (.seq (.draw [⟨⟨s12,(.p (.fad k0 (.t k6))),none⟩,k0,[k0]⟩,⟨⟨s13,(.r (.ld1 (.t k21))),none⟩,k1,[k0]⟩,⟨⟨s18,(.p (.fad k1 (.t k6))),none⟩,k0,[k0]⟩,⟨⟨s16,(.r (.ld1 (.t k23))),none⟩,k4,[k0]⟩,⟨⟨s7,(.p (.mov (.t k22))),none⟩,k3,[k0]⟩,⟨⟨s14,(.p (.mov (.t k24))),none⟩,k31,[k0]⟩,⟨⟨s15,(.p (.mov (.v ti0))),none⟩,k63,[k0]⟩]) .ret))))),k25,[(.t k2),(.t k3),(.t k4)]⟩
def t20 : FI := ⟨(.seq (.ops [⟨s22,(.p (.mov (.v ti0))),none⟩]) (.seq (.ops [⟨s28,(.p (.mov (.t k1))),none⟩,⟨s29,(.p (.mov (.t k0))),none⟩,⟨s37,(.p (.mov (.t k2))),none⟩,⟨s38,(.p (.mov (.t k1))),none⟩,⟨s39,(.p (.bin .sub (.t k9) (.t k10))),none⟩,⟨s3,(.call (.v (.func (.func k25) ⟨[]⟩ ⟨[]⟩)) [(.t k8),(.t k11)]),none⟩,⟨s1,(.p (.bin .add (.t k7) (.t k12))),none⟩,⟨s22,(.p (.mov (.t k13))),none⟩]) .ret)),k14,[(.t k6)]⟩
def t28 : FI := ⟨(.seq (.ops [⟨s7,(.a (.box (.t k0))),none⟩,⟨s15,(.a (.new [ti0,ti0,ti0,ti0,ti0,ti0])),none⟩,⟨s21,(.p (.mov (.v ti0))),none⟩]) (.seq (.ops [⟨s37,(.r (.ldn k18 (.t k2))),none⟩,⟨s38,(.p (.mov (.t k1))),none⟩,⟨s39,(.call (.v (.func (.func k65) ⟨[]⟩ ⟨[]⟩)) [(.t k9),(.t k10)]),none⟩,⟨s29,(.p (.mov (.t k11))),none⟩,⟨s3,(.p (.ext (.t k8) k0)),none⟩,⟨s1,(.p (.ext (.t k8) k1)),none⟩,⟨s22,(.a (.new [ti0,ti0,ti0,ti0,ti0,ti0,ti0,ti0,ti0,ti0,ti0,ti0,ti0,ti0,ti0,(.slice none k0 k0),ti0,ti0])),none⟩,⟨none,(.w (.st k18 (.t k6) (.t k12))),none⟩,⟨s28,(.p (.mov (.t k13))),none⟩]) (.seq (.ops [⟨s2,(.p (.fad k0 (.t k6))),none⟩,⟨s4,(.p (.fad k0 (.t k14))),none⟩,⟨s5,(.r (.ldn k6 (.t k15))),none⟩,⟨s11,(.p (.mov (.t k7))),none⟩,⟨none,(.w (.st k6 (.t k4) (.t k16))),none⟩,⟨s21,(.p (.mov (.t k17))),none⟩]) .ret))),k18,[(.c .true k6 k4),(.t k5)]⟩
def t34 : FI := ⟨(.seq (.ops [⟨s6,(.a (.box (.t k0))),none⟩,⟨s7,(.a (.new [ti0,ti0])),none⟩,⟨s14,(.p (.mov (.v ti0))),none⟩]) (.seq (.seq (.ops [⟨s28,(.r (.ldn k18 (.t k1))),none⟩,⟨s29,(.call (.v (.func (.func k52) ⟨[]⟩ ⟨[]⟩)) [(.t k7)]),none⟩,⟨s15,(.p (.mov (.t k8))),none⟩]) (.seq (.ops [⟨s37,(.p (.mov (.t k4))),none⟩,⟨s38,(.p (.bin .neq (.t k9) (.v ti0))),none⟩]) (.cond (.t k10) (.seq (.ops [⟨s39,(.p (.build [ti0,ti0] [])),none⟩,⟨s3,(.p (.mov (.t k4))),none⟩,⟨none,(.w (.st k2 (.t k2) (.t k11))),none⟩,⟨s14,(.p (.mov (.t k12))),none⟩]) .ret) .skip))) (.seq (.ops [⟨s2,(.r (.ldn k18 (.t k1))),none⟩,⟨s4,(.call (.v (.func (.func k70) ⟨[]⟩ ⟨[]⟩)) [(.t k14)]),none⟩,⟨s1,(.p (.mov (.t k15))),none⟩,⟨s5,(.p (.ext (.t k13) k0)),none⟩,⟨s11,(.p (.ext (.t k13) k1)),none⟩,⟨s21,(.a (.new [ti0,ti0])),none⟩,⟨s22,(.a (.new [ti0,ti0])),none⟩,⟨none,(.w (.st k2 (.t k5) (.t k16))),none⟩,⟨none,(.w (.st k2 (.t k6) (.t k17))),none⟩]) (.seq (.seq (.ops [⟨s8,(.r (.ldn k2 (.t k5))),none⟩,⟨s9,(.call (.v (.func (.func k71) ⟨[]⟩ ⟨[]⟩)) [(.t k18)]),none⟩]) (.cond (.t k19) (.seq (.ops [⟨s10,(.p (.build [ti0,ti0] [])),none⟩,⟨none,(.w (.st k2 (.t k2) (.t k20))),none⟩,⟨s14,(.p (.mov (.v ti23))),none⟩]) .ret) .skip)) (.seq (.ops [⟨s12,(.r (.ldn k2 (.t k5))),none⟩,⟨none,(.w (.st k2 (.t k2) (.t k21))),none⟩,⟨s14,(.p (.mov (.v ti0))),none⟩]) .ret))))),k22,[(.c .true k2 k2),(.t k3)]⟩
def t35 : FI := ⟨(.seq (.ops [⟨s15,(.a (.new [ti0,ti0])),none⟩]) (.seq (.ops [⟨s21,(.p (.mov (.t k0))),none⟩,⟨s22,(.p (.mov (.t k1))),none⟩,⟨s28,(.p (.build [ti0,ti0] [(k0,k1,(.t k5)),(k1,k1,(.t k6))])),none⟩,⟨none,(.w (.st k2 (.t k4) (.t k7))),none⟩]) .ret)),k8,[(.c .true k2 k4)]⟩
def t44 : FI := ⟨(.seq (.ops [⟨s6,(.a (.box (.t k0))),none⟩,⟨s7,(.a (.new [(.slice none k0 k0)])),none⟩,⟨s14,(.a (.new [ti0])),none⟩]) (.seq (.seq (.ops [⟨s29,(.r (.ldn k18 (.t k1))),none⟩,⟨s37,(.call (.v (.func (.func k52) ⟨[]⟩ ⟨[]⟩)) [(.t k8)]),none⟩,⟨s15,(.p (.mov (.t k9))),none⟩]) (.seq (.ops [⟨s38,(.p (.mov (.t k4))),none⟩,⟨s39,(.p (.bin .neq (.t k10) (.v ti0))),none⟩]) (.cond (.t k11) (.seq (.ops [⟨s3,(.p (.mov (.t k4))),none⟩,⟨none,(.w (.st k1 (.t k2) (.v (.slice none k0 k0)))),none⟩,⟨none,(.w (.st k1 (.t k3) (.t k12))),none⟩]) .ret) .skip))) (.seq (.ops [⟨s1,(.r (.ldn k18 (.t k1))),none⟩,⟨s2,(.p (.build [ti0,ti0,ti0,ti0,ti0,ti0,ti0,ti0,ti0,ti0,ti0,ti0,ti0,ti0,ti0,(.slice none k0 k0),ti0,ti0] [(k0,k18,(.t k13))])),none⟩,⟨s4,(.p (.mkf (.func k73) [(.t k14)] [])),none⟩,⟨s21,(.a (.new [.nilFunc])),none⟩,⟨none,(.w (.st k1 (.t k5) (.t k15))),none⟩]) (.seq (.seq (.ops [⟨s5,(.p (.mov (.v ti0))),none⟩]) (.block k0 (.loop (.seq (.ops [⟨s11,(.p (.bin .lss (.t k16) (.v ti24))),none⟩]) (.seq (.cond (.t k17) .skip (.exit k0)) (.seq (.block k1 (.seq (.ops [⟨s8,(.p (.mov (.t k16))),none⟩,⟨s22,(.p (.mov (.t k18))),none⟩]) (.seq (.ops [⟨s9,(.p (.mov (.t k6))),none⟩,⟨s10,(.call (.v (.func (.func k74) ⟨[]⟩ ⟨[]⟩)) [(.t k19)]),none⟩]) (.block k2 (.rng (.t k20) [k21] (.ops [⟨s28,(.p (.mov (.t k21))),none⟩]) (.block k3 (.seq (.ops [⟨s13,(.r (.ld1 (.t k5))),none⟩,⟨s18,(.p (.mov (.t k7))),none⟩,⟨s16,(.call (.t k22) [(.t k23)]),none⟩,⟨s17,(.call (.v (.func (.func k68) ⟨[]⟩ ⟨[]⟩)) [(.t k24)]),none⟩,⟨s19,(.p (.bin .eql (.t k25) (.v ti1))),none⟩]) (.cond (.t k26) (.seq (.ops [⟨s20,(.p (.mov (.t k7))),none⟩,⟨none,(.w (.st k1 (.t k2) (.t k27))),none⟩,⟨none,(.w (.st k1 (.t k3) (.v ti0))),none⟩]) .ret) .skip)))))))) (.ops [⟨s25,(.p (.bin .add (.t k16) (.v ti1))),none⟩,⟨s5,(.p (.mov (.t k28))),none⟩]))))))) (.seq (.ops [⟨none,(.w (.st k1 (.t k2) (.v (.slice none k0 k0)))),none⟩,⟨none,(.w (.st k1 (.t k3) (.v ti23))),none⟩]) .ret))))),k29,[(.c .false k1 k2),(.c .false k1 k3)]⟩
def t46 : FI := ⟨(.seq (.ops [⟨s0,(.a (.new [ti0,ti0,ti0,ti0,ti0,ti0,ti0,ti0,ti0,ti0,ti0,ti0,ti0,ti0,ti0,(.slice none k0 k0),ti0,ti0])),none⟩]) (.seq (.ops [⟨s6,(.call (.v (.func (.func k35) ⟨[]⟩ ⟨[]⟩)) [(.v ti6),(.v ti25)]),none⟩,⟨s7,(.call (.v (.func (.func k48) ⟨[]⟩ ⟨[]⟩)) [(.t k1)]),none⟩,⟨none,(.w (.st k18 (.t k0) (.t k2))),none⟩]) .ret)),k3,[(.c .true k18 k0)]⟩
def t47 : FI := ⟨(.seq (.ops [⟨s0,(.a (.new [ti0,ti0,ti0,ti0,ti0,ti0,ti0,ti0,ti0,ti0,ti0,ti0,ti0,ti0,ti0,(.slice none k0 k0),ti0,ti0])),none⟩]) (.seq (.ops [⟨s6,(.call (.v (.func (.func k35) ⟨[]⟩ ⟨[]⟩)) [(.v ti26),(.v ti26)]),none⟩,⟨s7,(.call (.v (.func (.func k48) ⟨[]⟩ ⟨[]⟩)) [(.t k1)]),none⟩,⟨none,(.w (.st k18 (.t k0) (.t k2))),none⟩]) .ret)),k3,[(.c .true k18 k0)]⟩
def t48 : FI := ⟨(.seq (.ops [⟨s6,(.a (.box (.t k0))),none⟩,⟨s7,(.a (.new [ti0,ti0,ti0,ti0,ti0,ti0,ti0,ti0,ti0,ti0,ti0,ti0,ti0,ti0,ti0,(.slice none k0 k0),ti0,ti0])),none⟩]) (.seq (.draw [⟨⟨s14,(.r (.ldn k2 (.t k1))),none⟩,k0,[k0,k2,k3,k5,k6,k7,k8,k10,k11]⟩,⟨⟨s15,(.call (.v (.func (.func k35) ⟨[]⟩ ⟨[]⟩)) [(.v ti21),(.v ti27)]),none⟩,k0,[k0,k2]⟩,⟨⟨s21,(.call (.v (.func (.func k35) ⟨[]⟩ ⟨[]⟩)) [(.v ti11),(.v ti28)]),none⟩,k2,[k2,k3]⟩,⟨⟨s22,(.p (.build [ti0,ti0,ti0,ti0,ti0,ti0] [(k0,k2,(.t k3)),(k2,k2,(.t k4)),(k4,k2,(.t k5))])),none⟩,k7,[k3,k5,k6,k7,k8,k10,k11]⟩,⟨⟨s28,(.call (.v (.func (.func k35) ⟨[]⟩ ⟨[]⟩)) [(.v ti12),(.v ti3)]),none⟩,k6,[k3,k5]⟩,⟨⟨s29,(.call (.v (.func (.func k35) ⟨[]⟩ ⟨[]⟩)) [(.v ti2),(.v ti12)]),none⟩,k22,[k5,k6]⟩,⟨⟨s37,(.call (.v (.func (.func k35) ⟨[]⟩ ⟨[]⟩)) [(.v ti1),(.v ti2)]),none⟩,k54,[k6,k7]⟩,⟨⟨s38,(.call (.v (.func (.func k35) ⟨[]⟩ ⟨[]⟩)) [(.v ti1),(.v ti1)]),none⟩,k118,[k7,k8]⟩,⟨⟨s39,(.p (.build [ti0,ti0,ti0,ti0,ti0,ti0,ti0,ti0,ti0] [(k0,k2,(.t k7)),(k2,k2,(.t k8)),(k4,k2,(.t k9)),(k6,k2,(.t k10)),(k8,k1,(.v ti17))])),none⟩,k246,[k8,k10,k11]⟩,⟨⟨s3,(.call (.v (.func (.func k35) ⟨[]⟩ ⟨[]⟩)) [(.v ti29),(.v ti1)]),none⟩,k246,[k8,k10]⟩,⟨⟨s1,(.call (.v (.func (.func k35) ⟨[]⟩ ⟨[]⟩)) [(.v ti0),(.v ti12)]),none⟩,k758,[k10,k11]⟩,⟨⟨s2,(.a (.bsl [ti0,ti0,ti0,ti0] k2 [(k0,k2,(.t k12)),(k2,k2,(.t k13))])),none⟩,k1782,[k11]⟩,⟨⟨s4,(.p (.build [ti0,ti0,ti0,ti0,ti0,ti0,ti0,ti0,ti0,ti0,ti0,ti0,ti0,ti0,ti0,(.slice none k0 k0),ti0,ti0] [(k0,k6,(.t k6)),(k6,k9,(.t k11)),(k15,k1,(.t k14)),(k16,k1,(.v ti22)),(k17,k1,(.v ti1))])),none⟩,k4095,[k11]⟩,⟨⟨none,(.w (.st k18 (.t k2) (.t k15))),none⟩,k8191,[k11,k14]⟩]) .ret)),k16,[(.c .true k18 k2)]⟩
def t49 : FI := ⟨(.seq (.ops [⟨s15,(.p (.mov (.v (.bool .false)))),none⟩]) (.seq (.ops [⟨s28,(.p (.mov (.t k0))),none⟩,⟨s29,(.p (.lenS (.t k7))),none⟩,⟨s37,(.p (.mov (.t k1))),none⟩,⟨s38,(.p (.lenS (.t k9))),none⟩,⟨s39,(.p (.bin .eql (.t k8) (.t k10))),none⟩,⟨s21,(.p (.mov (.t k11))),none⟩]) (.seq (.seq (.ops [⟨s22,(.p (.mov (.v ti0))),none⟩]) (.block k0 (.loop (.seq (.seq (.ops [⟨s3,(.p (.mov (.t k5))),none⟩,⟨s1,(.p (.mov (.t k12))),none⟩,⟨s2,(.p (.mov (.t k6))),(some (k13,.true))⟩,⟨s4,(.p (.mov (.t k0))),(some (k13,.true))⟩,⟨s5,(.p (.lenS (.t k15))),(some (k13,.true))⟩,⟨s11,(.p (.bin .lss (.t k14) (.t k16))),(some (k13,.true))⟩,⟨s8,(.p (.pick (.t k13) (.t k17) (.v (.bool .false)))),none⟩]) (.cond (.t k18) .skip (.exit k0))) (.seq (.block k1 (.draw [⟨⟨s12,(.p (.mov (.t k0))),none⟩,k0,[k0]⟩,⟨⟨s13,(.p (.mov (.t k6))),none⟩,k0,[k0]⟩,⟨⟨s18,(.p (.iadS k1 (.t k21) (.t k22))),none⟩,k3,[k0]⟩,⟨⟨s16,(.r (.ld1 (.t k23))),none⟩,k7,[k0]⟩,⟨⟨s17,(.p (.mov (.t k1))),none⟩,k0,[k0]⟩,⟨⟨s19,(.p (.mov (.t k6))),none⟩,k0,[k0]⟩,⟨⟨s20,(.p (.iadS k1 (.t k25) (.t k26))),none⟩,k48,[k0]⟩,⟨⟨s25,(.r (.ld1 (.t k27))),none⟩,k112,[k0]⟩,⟨⟨s23,(.p (.bin .eql (.t k24) (.t k28))),none⟩,k255,[k0]⟩,⟨⟨s21,(.p (.mov (.t k29))),none⟩,k511,[k0]⟩])) (.ops [⟨s9,(.p (.mov (.t k6))),none⟩,⟨s10,(.p (.bin .add (.t k19) (.v ti1))),none⟩,⟨s22,(.p (.mov (.t k20))),none⟩])))))) (.seq (.ops [⟨s24,(.p (.mov (.t k5))),none⟩,⟨s15,(.p (.mov (.t k30))),none⟩]) .ret)))),k31,[(.t k4)]⟩
def t50 : FI := ⟨(.seq (.ops [⟨s38,(.a (.new [ti0,ti0])),none⟩]) (.seq (.ops [⟨s39,(.p (.mov (.t k2))),none⟩,⟨s3,(.p (.mov (.t k1))),none⟩,⟨s1,(.p (.mov (.t k0))),none⟩,⟨s2,(.p (.mov (.t k0))),none⟩,⟨s4,(.p (.mov (.t k4))),none⟩,⟨s5,(.call (.v (.func (.func k25) ⟨[]⟩ ⟨[]⟩)) [(.t k14),(.t k15)]),none⟩,⟨s11,(.a (.bsl [ti0,ti0,ti0] k3 [(k0,k1,(.v ti0)),(k1,k1,(.v ti0)),(k2,k1,(.t k16))])),none⟩,⟨s8,(.call (.v (.func (.func k24) ⟨[]⟩ ⟨[]⟩)) [(.t k13),(.t k17)]),none⟩,⟨s9,(.p (.bin .sub (.t k12) (.t k18))),none⟩,⟨s10,(.p (.max [(.t k11),(.t k19)])),none⟩,⟨s12,(.p (.mov (.t k3))),none⟩,⟨s13,(.p (.mov (.t k1))),none⟩,⟨s18,(.p (.mov (.t k0))),none⟩,⟨s16,(.p (.mov (.t k0))),none⟩,⟨s17,(.p (.mov (.t k4))),none⟩,⟨s19,(.call (.v (.func (.func k25) ⟨[]⟩ ⟨[]⟩)) [(.t k24),(.t k25)]),none⟩,⟨s20,(.a (.bsl [ti0,ti0,ti0] k3 [(k0,k1,(.v ti0)),(k1,k1,(.v ti0)),(k2,k1,(.t k26))])),none⟩,⟨s25,(.call (.v (.func (.func k24) ⟨[]⟩ ⟨[]⟩)) [(.t k23),(.t k27)]),none⟩,⟨s23,(.p (.bin .add (.t k22) (.t k28))),none⟩,⟨s24,(.p (.min [(.t k21),(.t k29)])),none⟩,⟨s26,(.p (.build [ti0,ti0] [(k0,k1,(.t k20)),(k1,k1,(.t k30))])),none⟩,⟨none,(.w (.st k2 (.t k10) (.t k31))),none⟩]) .ret)),k32,[(.c .true k2 k10)]⟩
def t52 : FI := ⟨(.seq (.ops [⟨s6,(.a (.box (.t k0))),none⟩,⟨s7,(.p (.mov (.v ti0))),none⟩]) (.seq (.draw [⟨⟨s28,(.p (.fad k0 (.t k1))),none⟩,k0,[k0]⟩,⟨⟨s29,(.p (.fad k0 (.t k7))),none⟩,k1,[k0]⟩,⟨⟨s37,(.r (.ldn k2 (.t k8))),none⟩,k3,[k0]⟩,⟨⟨s38,(.call (.v (.func (.func k79) ⟨[]⟩ ⟨[]⟩)) [(.t k9),(.v ti15),(.v ti16)]),none⟩,k7,[k0,k4]⟩,⟨⟨s39,(.p (.fad k0 (.t k1))),none⟩,k0,[k0,k4]⟩,⟨⟨s3,(.p (.fad k2 (.t k11))),none⟩,k16,[k0,k4]⟩,⟨⟨s1,(.r (.ldn k2 (.t k12))),none⟩,k48,[k0,k4]⟩,⟨⟨s2,(.call (.v (.func (.func k79) ⟨[]⟩ ⟨[]⟩)) [(.t k13),(.v ti0),(.v ti18)]),none⟩,k127,[k4,k8]⟩,⟨⟨s4,(.p (.fad k0 (.t k1))),none⟩,k0,[k0,k4,k8]⟩,⟨⟨s5,(.p (.fad k4 (.t k15))),none⟩,k256,[k0,k4,k8]⟩,⟨⟨s11,(.r (.ldn k2 (.t k16))),none⟩,k768,[k0,k4,k8]⟩,⟨⟨s8,(.call (.v (.func (.func k79) ⟨[]⟩ ⟨[]⟩)) [(.t k17),(.v ti0),(.v ti18)]),none⟩,k2047,[k8,k12]⟩,⟨⟨s9,(.p (.fad k6 (.t k1))),none⟩,k0,[k0,k4,k8,k12]⟩,⟨⟨s10,(.p (.fad k0 (.t k19))),none⟩,k4096,[k0,k4,k8,k12]⟩,⟨⟨s12,(.r (.ldn k2 (.t k20))),none⟩,k12288,[k0,k4,k8,k12]⟩,⟨⟨s13,(.call (.v (.func (.func k79) ⟨[]⟩ ⟨[]⟩)) [(.t k21),(.v ti0),(.v ti19)]),none⟩,k32767,[k12,k16]⟩,⟨⟨s18,(.p (.fad k6 (.t k1))),none⟩,k0,[k0,k4,k8,k12,k16]⟩,⟨⟨s16,(.p (.fad k2 (.t k23))),none⟩,k65536,[k0,k4,k8,k12,k16]⟩,⟨⟨s17,(.r (.ldn k2 (.t k24))),none⟩,k196608,[k0,k4,k8,k12,k16]⟩,⟨⟨s19,(.call (.v (.func (.func k79) ⟨[]⟩ ⟨[]⟩)) [(.t k25),(.v ti0),(.v ti19)]),none⟩,k524287,[k16,k20]⟩,⟨⟨s20,(.p (.fad k6 (.t k1))),none⟩,k0,[k0,k4,k8,k12,k16,k20]⟩,⟨⟨s25,(.p (.fad k4 (.t k27))),none⟩,k1048576,[k0,k4,k8,k12,k16,k20]⟩,⟨⟨s23,(.r (.ldn k2 (.t k28))),none⟩,k3145728,[k0,k4,k8,k12,k16,k20]⟩,⟨⟨s24,(.call (.v (.func (.func k79) ⟨[]⟩ ⟨[]⟩)) [(.t k29),(.v ti0),(.v ti19)]),none⟩,k8388607,[k20,k24]⟩,⟨⟨s26,(.p (.fad k6 (.t k1))),none⟩,k0,[k0,k4,k8,k12,k16,k20,k24]⟩,⟨⟨s27,(.p (.fad k6 (.t k31))),none⟩,k16777216,[k0,k4,k8,k12,k16,k20,k24]⟩,⟨⟨s33,(.r (.ldn k2 (.t k32))),none⟩,k50331648,[k0,k4,k8,k12,k16,k20,k24]⟩,⟨⟨s30,(.call (.v (.func (.func k79) ⟨[]⟩ ⟨[]⟩)) [(.t k33),(.v ti0),(.v ti19)]),none⟩,k134217727,[k24,k28]⟩,⟨⟨s31,(.p (.fad k6 (.t k1))),none⟩,k0,[k0,k4,k8,k12,k16,k20,k24,k28]⟩,⟨⟨s32,(.p (.fad k8 (.t k35))),none⟩,k268435456,[k0,k4,k8,k12,k16,k20,k24,k28]⟩,⟨⟨s34,(.r (.ld1 (.t k36))),none⟩,k805306368,[k0,k4,k8,k12,k16,k20,k24,k28]⟩,⟨⟨s35,(.call (.v (.func (.func k80) ⟨[]⟩ ⟨[]⟩)) [(.t k37),(.v ti0),(.v ti18)]),none⟩,k2147483647,[k28,k32]⟩,⟨⟨s36,(.a (.bsl [ti0,ti0,ti0,ti0,ti0,ti0,ti0,ti0] k8 [(k0,k1,(.t k10)),(k1,k1,(.t k14)),(k2,k1,(.t k18)),(k3,k1,(.t k22)),(k4,k1,(.t k26)),(k5,k1,(.t k30)),(k6,k1,(.t k34)),(k7,k1,(.t k38))])),none⟩,k4294967295,[k32]⟩,⟨⟨s40,(.call (.v (.func (.func k78) ⟨[]⟩ ⟨[]⟩)) [(.t k39)]),none⟩,k8589934591,[k32,k34]⟩,⟨⟨s14,(.p (.mov (.t k40))),none⟩,k17179869183,[k34]⟩]) (.seq (.seq (.ops [⟨s41,(.p (.mov (.t k3))),none⟩,⟨s42,(.p (.bin .neq (.t k41) (.v ti0))),none⟩]) (.cond (.t k42) (.seq (.ops [⟨s43,(.p (.mov (.t k3))),none⟩,⟨s7,(.p (.mov (.t k43))),none⟩]) .ret) .skip)) (.seq (.seq (.ops [⟨s44,(.p (.fad k15 (.t k1))),none⟩,⟨s45,(.r (.ld1 (.t k44))),none⟩,⟨s46,(.p (.lenS (.t k45))),none⟩,⟨s47,(.p (.bin .gtr (.t k46) (.v ti3))),none⟩]) (.cond (.t k47) (.seq (.ops [⟨s7,(.p (.mov (.v ti4))),none⟩]) .ret) .skip)) (.seq (.seq (.ops [⟨s48,(.p (.fad k15 (.t k1))),none⟩,⟨s49,(.r (.ld1 (.t k48))),none⟩,⟨s50,(.p (.lenS (.t k49))),none⟩,⟨s51,(.p (.mov (.v ti0))),none⟩]) (.block k0 (.loop (.seq (.ops [⟨s52,(.p (.bin .lss (.t k51) (.t k50))),none⟩]) (.seq (.cond (.t k52) .skip (.exit k0)) (.seq (.block k1 (.seq (.ops [⟨s53,(.p (.iadS k2 (.t k49) (.t k51))),none⟩,⟨s54,(.r (.ldn k2 (.t k53))),none⟩,⟨s21,(.a (.new [ti0,ti0])),none⟩,⟨none,(.w (.st k2 (.t k5) (.t k54))),none⟩]) (.seq (.ops [⟨s55,(.r (.ldn k2 (.t k5))),none⟩,⟨s56,(.call (.v (.func (.func k79) ⟨[]⟩ ⟨[]⟩)) [(.t k55),(.v ti15),(.v ti16)]),none⟩,⟨s22,(.p (.mov (.t k56))),none⟩]) (.seq (.ops [⟨s57,(.p (.mov (.t k6))),none⟩,⟨s58,(.p (.bin .neq (.t k57) (.v ti0))),none⟩]) (.cond (.t k58) (.seq (.ops [⟨s59,(.p (.mov (.t k6))),none⟩,⟨s7,(.p (.mov (.t k59))),none⟩]) .ret) .skip))))) (.ops [⟨s60,(.p (.bin .add (.t k51) (.v ti1))),none⟩,⟨s51,(.p (.mov (.t k60))),none⟩]))))))) (.seq (.draw [⟨⟨s61,(.p (.fad k16 (.t k1))),none⟩,k0,[k0]⟩,⟨⟨s62,(.r (.ld1 (.t k61))),none⟩,k1,[k0]⟩,⟨⟨s63,(.call (.v (.func (.func k80) ⟨[]⟩ ⟨[]⟩)) [(.t k62),(.v ti0),(.v ti16)]),none⟩,k3,[k0,k3]⟩,⟨⟨s64,(.p (.fad k17 (.t k1))),none⟩,k0,[k0,k3]⟩,⟨⟨s65,(.r (.ld1 (.t k64))),none⟩,k8,[k0,k3]⟩,⟨⟨s66,(.call (.v (.func (.func k80) ⟨[]⟩ ⟨[]⟩)) [(.t k65),(.v ti0),(.v ti4)]),none⟩,k31,[k3,k6]⟩,⟨⟨s67,(.a (.bsl [ti0,ti0] k2 [(k0,k1,(.t k63)),(k1,k1,(.t k66))])),none⟩,k63,[k6]⟩,⟨⟨s68,(.call (.v (.func (.func k78) ⟨[]⟩ ⟨[]⟩)) [(.t k67)]),none⟩,k127,[k6,k8]⟩,⟨⟨s7,(.p (.mov (.t k68))),none⟩,k255,[k8]⟩]) .ret)))))),k69,[(.t k2)]⟩
def t53 : FI := ⟨(.seq (.ops [⟨s6,(.a (.box (.t k0))),none⟩,⟨s7,(.p (.mov (.v .nilFunc))),none⟩]) (.seq (.ops [⟨s29,(.r (.ldn k18 (.t k1))),none⟩,⟨s37,(.call (.v (.func (.func k70) ⟨[]⟩ ⟨[]⟩)) [(.t k8)]),none⟩,⟨s28,(.p (.mov (.t k9))),none⟩,⟨s38,(.p (.ext (.t k7) k0)),none⟩,⟨s39,(.p (.ext (.t k7) k1)),none⟩,⟨s14,(.a (.new [ti0,ti0])),none⟩,⟨s15,(.a (.new [ti0,ti0])),none⟩,⟨none,(.w (.st k2 (.t k3) (.t k10))),none⟩,⟨none,(.w (.st k2 (.t k4) (.t k11))),none⟩]) (.seq (.ops [⟨s3,(.a (.mkm k7 .true)),none⟩,⟨s21,(.a (.new [(.map none)])),none⟩,⟨none,(.w (.st k1 (.t k5) (.t k12))),none⟩]) (.seq (.ops [⟨s22,(.a (.new [.nilFunc])),none⟩]) (.seq (.ops [⟨s1,(.p (.mkf (.func k81) [] [(.t k3),(.t k5),(.t k1),(.t k6)])),none⟩,⟨none,(.w (.st k1 (.t k6) (.t k13))),none⟩]) (.seq (.ops [⟨s2,(.r (.ld1 (.t k6))),none⟩,⟨s7,(.p (.mov (.t k14))),none⟩]) .ret)))))),k15,[(.t k2)]⟩
def t54 : FI := ⟨(.seq (.ops [⟨s7,(.a (.box (.t k0))),none⟩,⟨s14,(.a (.box (.t k1))),none⟩,⟨s15,(.p (.mov (.v .nilFunc))),none⟩]) (.seq (.ops [⟨s21,(.p (.mkf (.func k83) [] [(.t k2),(.t k3)])),none⟩,⟨s15,(.p (.mov (.t k5))),none⟩]) .ret)),k6,[(.t k4)]⟩
def t65 : FI := ⟨(.seq (.ops [⟨s7,(.a (.box (.t k0))),none⟩,⟨s15,(.a (.new [ti0,ti0,ti0,ti0,ti0,ti0,ti0,ti0,ti0,ti0,ti0,ti0,ti0,ti0,ti0,(.slice none k0 k0),ti0,ti0])),none⟩,⟨s21,(.p (.mov (.v ti0))),none⟩]) (.seq (.seq (.ops [⟨s28,(.r (.ldn k18 (.t k2))),none⟩,⟨s29,(.call (.v (.func (.func k52) ⟨[]⟩ ⟨[]⟩)) [(.t k7)]),none⟩,⟨s37,(.p (.mov (.t k1))),none⟩,⟨s38,(.call (.v (.func (.func k89) ⟨[]⟩ ⟨[]⟩)) [(.t k9)]),none⟩,⟨s39,(.a (.bsl [ti0,ti0] k2 [(k0,k1,(.t k8)),(k1,k1,(.t k10))])),none⟩,⟨s3,(.call (.v (.func (.func k78) ⟨[]⟩ ⟨[]⟩)) [(.t k11)]),none⟩,⟨s22,(.p (.mov (.t k12))),none⟩]) (.seq (.ops [⟨s1,(.p (.mov (.t k6))),none⟩,⟨s2,(.p (.bin .neq (.t k13) (.v ti0))),none⟩]) (.cond (.t k14) (.seq (.ops [⟨s4,(.p (.build [ti0,ti0,ti0,ti0,ti0,ti0,ti0,ti0,ti0,ti0,ti0,ti0,ti0,ti0,ti0,(.slice none k0 k0),ti0,ti0] [])),none⟩,⟨s5,(.p (.mov (.t k6))),none⟩,⟨none,(.w (.st k18 (.t k4) (.t k15))),none⟩,⟨s21,(.p (.mov (.t k16))),none⟩]) .ret) .skip))) (.seq (.ops [⟨s11,(.r (.ldn k18 (.t k2))),none⟩,⟨s8,(.p (.build [ti0,ti0,ti0,ti0,ti0,ti0,ti0,ti0,ti0,ti0,ti0,ti0,ti0,ti0,ti0,(.slice none k0 k0),ti0,ti0] [(k0,k18,(.t k17))])),none⟩,⟨s9,(.p (.mov (.t k1))),none⟩,⟨s10,(.call (.v (.func (.func k73) ⟨[]⟩ ⟨[]⟩)) [(.t k18),(.t k19)]),none⟩,⟨none,(.w (.st k18 (.t k4) (.t k20))),none⟩,⟨s21,(.p (.mov (.v ti0))),none⟩]) .ret))),k21,[(.c .true k18 k4),(.t k5)]⟩
def t67 : FI := ⟨(.seq (.ops [⟨s6,(.a (.box (.t k0))),none⟩,⟨s7,(.p (.mov (.v ti0))),none⟩]) (.seq (.block k0 (.seq (.ops [⟨s15,(.p (.fad k0 (.t k1))),none⟩,⟨s21,(.p (.fad k0 (.t k4))),none⟩,⟨s22,(.p (.fad k2 (.t k5))),none⟩,⟨s28,(.p (.fad k1 (.t k6))),none⟩,⟨s29,(.r (.ld1 (.t k7))),none⟩,⟨s37,(.p (.fad k0 (.t k1))),none⟩,⟨s38,(.p (.fad k6 (.t k9))),none⟩,⟨s39,(.p (.fad k8 (.t k10))),none⟩,⟨s3,(.r (.ld1 (.t k11))),none⟩,⟨s1,(.p (.bin .lss (.t k8) (.t k12))),none⟩,⟨s2,(.p (.mov (.t k13))),none⟩,⟨s4,(.p (.fad k0 (.t k1))),(some (k14,.false))⟩,⟨s5,(.p (.fad k0 (.t k15))),(some (k14,.false))⟩,⟨s11,(.p (.fad k4 (.t k16))),(some (k14,.false))⟩,⟨s8,(.p (.fad k1 (.t k17))),(some (k14,.false))⟩,⟨s9,(.r (.ld1 (.t k18))),(some (k14,.false))⟩,⟨s10,(.p (.fad k0 (.t k1))),(some (k14,.false))⟩,⟨s12,(.p (.fad k6 (.t k20))),(some (k14,.false))⟩,⟨s13,(.p (.fad k8 (.t k21))),(some (k14,.false))⟩,⟨s18,(.r (.ld1 (.t k22))),(some (k14,.false))⟩,⟨s16,(.p (.bin .lss (.t k19) (.t k23))),(some (k14,.false))⟩,⟨s17,(.p (.pick (.t k14) (.v (.bool .true)) (.t k24))),none⟩,⟨s14,(.p (.mov (.t k25))),none⟩]) (.cond (.t k3) (.seq (.ops [⟨s7,(.p (.mov (.v ti1))),none⟩]) .ret) (.seq (.ops [⟨s20,(.p (.fad k0 (.t k1))),none⟩,⟨s25,(.p (.fad k0 (.t k27))),none⟩,⟨s23,(.p (.fad k2 (.t k28))),none⟩,⟨s24,(.p (.fad k0 (.t k29))),none⟩,⟨s26,(.r (.ld1 (.t k30))),none⟩,⟨s27,(.p (.fad k0 (.t k1))),none⟩,⟨s33,(.p (.fad k6 (.t k32))),none⟩,⟨s30,(.p (.fad k8 (.t k33))),none⟩,⟨s31,(.r (.ld1 (.t k34))),none⟩,⟨s32,(.p (.bin .geq (.t k31) (.t k35))),none⟩,⟨s34,(.p (.mov (.t k36))),none⟩,⟨s35,(.p (.fad k0 (.t k1))),(some (k37,.true))⟩,⟨s36,(.p (.fad k0 (.t k38))),(some (k37,.true))⟩,⟨s40,(.p (.fad k4 (.t k39))),(some (k37,.true))⟩,⟨s41,(.p (.fad k0 (.t k40))),(some (k37,.true))⟩,⟨s42,(.r (.ld1 (.t k41))),(some (k37,.true))⟩,⟨s43,(.p (.fad k0 (.t k1))),(some (k37,.true))⟩,⟨s44,(.p (.fad k6 (.t k43))),(some (k37,.true))⟩,⟨s45,(.p (.fad k8 (.t k44))),(some (k37,.true))⟩,⟨s46,(.r (.ld1 (.t k45))),(some (k37,.true))⟩,⟨s47,(.p (.bin .geq (.t k42) (.t k46))),(some (k37,.true))⟩,⟨s48,(.p (.pick (.t k37) (.t k47) (.v (.bool .false)))),none⟩,⟨s19,(.p (.mov (.t k48))),none⟩]) (.cond (.t k26) (.seq (.ops [⟨s7,(.p (.mov (.v ti2))),none⟩]) .ret) .skip))))) (.seq (.ops [⟨s7,(.p (.mov (.v ti12))),none⟩]) .ret))),k49,[(.t k2)]⟩
def t68 : FI := ⟨(.seq (.ops [⟨s6,(.a (.box (.t k0))),none⟩,⟨s7,(.p (.mov (.v ti0))),none⟩]) (.seq (.draw [⟨⟨s21,(.p (.fad k0 (.t k1))),none⟩,k0,[k0]⟩,⟨⟨s22,(.r (.ldn k18 (.t k5))),none⟩,k1,[k0]⟩,⟨⟨s28,(.call (.v (.func (.func k69) ⟨[]⟩ ⟨[]⟩)) [(.t k6)]),none⟩,k3,[k0,k3]⟩,⟨⟨s29,(.r (.ldn k18 (.t k1))),none⟩,k0,[k0,k3]⟩,⟨⟨s37,(.call (.v (.func (.func k67) ⟨[]⟩ ⟨[]⟩)) [(.t k8)]),none⟩,k15,[k3,k5]⟩,⟨⟨s14,(.p (.mov (.t k7))),none⟩,k31,[k5]⟩,⟨⟨s15,(.p (.mov (.t k9))),none⟩,k63,[k5]⟩]) (.seq (.block k0 (.seq (.ops [⟨s39,(.p (.mov (.t k3))),none⟩,⟨s3,(.p (.bin .eql (.t k11) (.v ti1))),none⟩,⟨s1,(.p (.mov (.t k12))),none⟩,⟨s2,(.p (.mov (.t k4))),(some (k13,.true))⟩,⟨s4,(.p (.bin .eql (.t k14) (.v ti2))),(some (k13,.true))⟩,⟨s5,(.p (.pick (.t k13) (.t k15) (.v (.bool .false)))),none⟩,⟨s38,(.p (.mov (.t k16))),none⟩]) (.cond (.t k10) (.seq (.ops [⟨s7,(.p (.mov (.v ti1))),none⟩]) .ret) (.seq (.ops [⟨s8,(.p (.mov (.t k3))),none⟩,⟨s9,(.p (.bin .eql (.t k18) (.v ti2))),none⟩,⟨s10,(.p (.mov (.t k19))),none⟩,⟨s12,(.p (.mov (.t k4))),(some (k20,.false))⟩,⟨s13,(.p (.bin .eql (.t k21) (.v ti1))),(some (k20,.false))⟩,⟨s18,(.p (.pick (.t k20) (.v (.bool .true)) (.t k22))),none⟩,⟨s11,(.p (.mov (.t k23))),none⟩]) (.cond (.t k17) (.seq (.ops [⟨s7,(.p (.mov (.v ti2))),none⟩]) .ret) .skip))))) (.seq (.ops [⟨s7,(.p (.mov (.v ti12))),none⟩]) .ret)))),k24,[(.t k2)]⟩
def t69 : FI := ⟨(.seq (.ops [⟨s6,(.a (.box (.t k0))),none⟩,⟨s7,(.p (.mov (.v ti0))),none⟩]) (.seq (.ops [⟨s22,(.r (.ldn k18 (.t k1))),none⟩,⟨s28,(.call (.v (.func (.func k70) ⟨[]⟩ ⟨[]⟩)) [(.t k6)]),none⟩,⟨s21,(.p (.mov (.t k7))),none⟩,⟨s29,(.p (.ext (.t k5) k0)),none⟩,⟨s37,(.p (.ext (.t k5) k1)),none⟩,⟨s14,(.a (.new [ti0,ti0])),none⟩,⟨s15,(.a (.new [ti0,ti0])),none⟩,⟨none,(.w (.st k2 (.t k3) (.t k8))),none⟩,⟨none,(.w (.st k2 (.t k4) (.t k9))),none⟩]) (.seq (.block k0 (.seq (.ops [⟨s39,(.r (.ldn k2 (.t k3))),none⟩,⟨s3,(.p (.fad k0 (.t k1))),none⟩,⟨s1,(.p (.fad k0 (.t k12))),none⟩,⟨s2,(.r (.ldn k2 (.t k13))),none⟩,⟨s4,(.call (.v (.func (.func k82) ⟨[]⟩ ⟨[]⟩)) [(.t k11),(.t k14)]),none⟩,⟨s38,(.p (.mov (.t k15))),none⟩]) (.cond (.t k10) (.seq (.ops [⟨s7,(.p (.mov (.v ti1))),none⟩]) .ret) (.seq (.ops [⟨s11,(.r (.ldn k2 (.t k4))),none⟩,⟨s8,(.p (.fad k0 (.t k1))),none⟩,⟨s9,(.p (.fad k0 (.t k18))),none⟩,⟨s10,(.r (.ldn k2 (.t k19))),none⟩,⟨s12,(.a (.bsl [ti0,ti0] k1 [(k0,k2,(.t k20))])),none⟩,⟨s13,(.call (.v (.func (.func k92) ⟨[]⟩ ⟨[]⟩)) [(.t k17),(.t k21)]),none⟩,⟨s18,(.call (.v (.func (.func k71) ⟨[]⟩ ⟨[]⟩)) [(.t k22)]),none⟩,⟨s5,(.p (.mov (.t k23))),none⟩]) (.cond (.t k16) (.seq (.ops [⟨s7,(.p (.mov (.v ti2))),none⟩]) .ret) .skip))))) (.seq (.ops [⟨s7,(.p (.mov (.v ti12))),none⟩]) .ret)))),k24,[(.t k2)]⟩
def t70 : FI := ⟨(.seq (.ops [⟨s6,(.a (.box (.t k0))),none⟩,⟨s7,(.a (.new [ti0,ti0])),none⟩,⟨s14,(.a (.new [ti0,ti0])),none⟩]) (.seq (.ops [⟨s15,(.p (.mov (.v (.slice none k0 k0)))),none⟩,⟨s21,(.p (.mov (.v (.slice none k0 k0)))),none⟩]) (.seq (.seq (.ops [⟨s29,(.r (.ldn k18 (.t k1))),none⟩,⟨s37,(.call (.v (.func (.func k90) ⟨[]⟩ ⟨[]⟩)) [(.t k8)]),none⟩,⟨s38,(.p (.lenS (.t k9))),none⟩,⟨s39,(.p (.mov (.v ti0))),none⟩]) (.block k0 (.loop (.seq (.ops [⟨s3,(.p (.bin .lss (.t k11) (.t k10))),none⟩]) (.seq (.cond (.t k12) .skip (.exit k0)) (.seq (.block k1 (.seq (.ops [⟨s1,(.p (.iadS k2 (.t k9) (.t k11))),none⟩,⟨s2,(.r (.ldn k2 (.t k13))),none⟩,⟨s28,(.a (.new [ti0,ti0])),none⟩,⟨none,(.w (.st k2 (.t k7) (.t k14))),none⟩]) (.seq (.ops [⟨s4,(.p (.mov (.t k4))),none⟩,⟨s5,(.p (.fad k16 (.t k1))),none⟩,⟨s11,(.r (.ld1 (.t k16))),none⟩,⟨s8,(.p (.neg (.t k17))),none⟩,⟨s9,(.p (.fad k0 (.t k7))),none⟩,⟨s10,(.r (.ld1 (.t k19))),none⟩,⟨s12,(.p (.bin .sub (.t k18) (.t k20))),none⟩,⟨s13,(.p (.fad k16 (.t k1))),none⟩,⟨s18,(.r (.ld1 (.t k22))),none⟩,⟨s16,(.p (.fad k1 (.t k7))),none⟩,⟨s17,(.r (.ld1 (.t k24))),none⟩,⟨s19,(.p (.bin .sub (.t k23) (.t k25))),none⟩,⟨s20,(.p (.build [ti0,ti0] [(k0,k1,(.t k21)),(k1,k1,(.t k26))])),none⟩,⟨s25,(.a (.bsl [ti0,ti0] k1 [(k0,k2,(.t k27))])),none⟩,⟨s23,(.w (.app k2 [ti0,ti0] (.t k15) (.t k28))),none⟩,⟨s15,(.p (.mov (.t k29))),none⟩]) (.ops [⟨s24,(.p (.mov (.t k5))),none⟩,⟨s26,(.p (.fad k16 (.t k1))),none⟩,⟨s27,(.r (.ld1 (.t k31))),none⟩,⟨s33,(.p (.neg (.t k32))),none⟩,⟨s30,(.p (.fad k1 (.t k7))),none⟩,⟨s31,(.r (.ld1 (.t k34))),none⟩,⟨s32,(.p (.bin .sub (.t k33) (.t k35))),none⟩,⟨s34,(.p (.fad k16 (.t k1))),none⟩,⟨s35,(.r (.ld1 (.t k37))),none⟩,⟨s36,(.p (.fad k0 (.t k7))),none⟩,⟨s40,(.r (.ld1 (.t k39))),none⟩,⟨s41,(.p (.bin .sub (.t k38) (.t k40))),none⟩,⟨s42,(.p (.build [ti0,ti0] [(k0,k1,(.t k36)),(k1,k1,(.t k41))])),none⟩,⟨s43,(.a (.bsl [ti0,ti0] k1 [(k0,k2,(.t k42))])),none⟩,⟨s44,(.w (.app k2 [ti0,ti0] (.t k30) (.t k43))),none⟩,⟨s21,(.p (.mov (.t k44))),none⟩])))) (.ops [⟨s45,(.p (.bin .add (.t k11) (.v ti1))),none⟩,⟨s39,(.p (.mov (.t k45))),none⟩]))))))) (.seq (.draw [⟨⟨s46,(.p (.mov (.t k4))),none⟩,k0,[k0]⟩,⟨⟨s47,(.p (.iadS k2 (.t k46) (.v ti0))),none⟩,k1,[k0]⟩,⟨⟨s48,(.r (.ldn k2 (.t k47))),none⟩,k3,[k0]⟩,⟨⟨s49,(.p (.mov (.t k4))),none⟩,k0,[k0]⟩,⟨⟨s50,(.p (.slcS k2 (.t k49) (some (.v ti1)) none)),none⟩,k8,[k0]⟩,⟨⟨s51,(.call (.v (.func (.func k92) ⟨[]⟩ ⟨[]⟩)) [(.t k48),(.t k50)]),none⟩,k31,[k0,k6]⟩,⟨⟨s52,(.p (.mov (.t k5))),none⟩,k0,[k0,k6]⟩,⟨⟨s53,(.p (.iadS k2 (.t k52) (.v ti0))),none⟩,k64,[k0,k6]⟩,⟨⟨s54,(.r (.ldn k2 (.t k53))),none⟩,k192,[k0,k6]⟩,⟨⟨s55,(.p (.mov (.t k5))),none⟩,k0,[k0,k6]⟩,⟨⟨s56,(.p (.slcS k2 (.t k55) (some (.v ti1)) none)),none⟩,k512,[k0,k6]⟩,⟨⟨s57,(.call (.v (.func (.func k92) ⟨[]⟩ ⟨[]⟩)) [(.t k54),(.t k56)]),none⟩,k2047,[k6,k12]⟩,⟨⟨none,(.w (.st k2 (.t k2) (.t k51))),none⟩,k4095,[k12,k13]⟩,⟨⟨none,(.w (.st k2 (.t k3) (.t k57))),none⟩,k8191,[k13,k14]⟩]) .ret)))),k58,[(.c .true k2 k2),(.c .true k2 k3)]⟩
def t71 : FI := ⟨(.seq (.ops [⟨s6,(.a (.box (.t k0))),none⟩,⟨s7,(.p (.mov (.v (.bool .false)))),none⟩]) (.seq (.ops [⟨s14,(.p (.fad k0 (.t k1))),none⟩,⟨s15,(.r (.ld1 (.t k3))),none⟩,⟨s21,(.p (.fad k1 (.t k1))),none⟩,⟨s22,(.r (.ld1 (.t k5))),none⟩,⟨s28,(.p (.bin .gtr (.t k4) (.t k6))),none⟩,⟨s7,(.p (.mov (.t k7))),none⟩]) .ret)),k8,[(.t k2)]⟩
def t72 : FI := ⟨(.seq (.ops [⟨s14,(.a (.box (.t k0))),none⟩,⟨s22,(.a (.new [ti0,ti0])),none⟩]) (.seq (.ops [⟨s28,(.r (.ldn k2 (.t k3))),none⟩,⟨s29,(.p (.mov (.t k1))),none⟩,⟨s37,(.p (.mov (.t k2))),none⟩,⟨s38,(.p (.bin .sub (.t k8) (.t k9))),none⟩,⟨s39,(.p (.mov (.t k1))),none⟩,⟨s3,(.p (.mov (.t k2))),none⟩,⟨s1,(.p (.bin .add (.t k11) (.t k12))),none⟩,⟨s2,(.p (.build [ti0,ti0] [(k0,k1,(.t k10)),(k1,k1,(.t k13))])),none⟩,⟨s4,(.a (.bsl [ti0,ti0] k1 [(k0,k2,(.t k14))])),none⟩,⟨s5,(.call (.v (.func (.func k92) ⟨[]⟩ ⟨[]⟩)) [(.t k7),(.t k15)]),none⟩,⟨none,(.w (.st k2 (.t k6) (.t k16))),none⟩]) .ret)),k17,[(.c .true k2 k6)]⟩
def t73 : FI := ⟨(.seq (.ops [⟨s7,(.a (.box (.t k0))),none⟩,⟨s15,(.a (.new [ti0,ti0,ti0,ti0,ti0,ti0,ti0,ti0,ti0,ti0,ti0,ti0,ti0,ti0,ti0,(.slice none k0 k0),ti0,ti0])),none⟩]) (.seq (.seq (.ops [⟨s28,(.p (.mov (.t k1))),none⟩,⟨s29,(.p (.lenS (.t k7))),none⟩,⟨s37,(.p (.mov (.v ti0))),none⟩]) (.block k0 (.loop (.seq (.ops [⟨s38,(.p (.bin .lss (.t k9) (.t k8))),none⟩]) (.seq (.cond (.t k10) .skip (.exit k0)) (.seq (.block k1 (.seq (.ops [⟨s39,(.p (.iadS k1 (.t k7) (.t k9))),none⟩,⟨s3,(.r (.ld1 (.t k11))),none⟩,⟨s22,(.p (.mov (.t k12))),none⟩]) (.ops [⟨s1,(.r (.ldn k18 (.t k2))),none⟩,⟨s2,(.p (.mov (.t k6))),none⟩,⟨s4,(.call (.v (.func (.func k93) ⟨[]⟩ ⟨[]⟩)) [(.t k13),(.t k14)]),none⟩,⟨s5,(.p (.fad k0 (.t k2))),none⟩,⟨s11,(.p (.fad k0 (.t k16))),none⟩,⟨none,(.w (.st k6 (.t k17) (.t k15))),none⟩]))) (.ops [⟨s8,(.p (.bin .add (.t k9) (.v ti1))),none⟩,⟨s37,(.p (.mov (.t k18))),none⟩]))))))) (.seq (.ops [⟨s9,(.r (.ldn k18 (.t k2))),none⟩,⟨none,(.w (.st k18 (.t k4) (.t k19))),none⟩]) .ret))),k20,[(.c .true k18 k4)]⟩
def t74 : FI := ⟨(.seq (.ops [⟨s6,(.a (.box (.t k0))),none⟩,⟨s7,(.p (.mov (.v .nilFunc))),none⟩]) (.seq (.ops [⟨s14,(.p (.mkf (.func k94) [] [(.t k1)])),none⟩,⟨s7,(.p (.mov (.t k3))),none⟩]) .ret)),k4,[(.t k2)]⟩
def t78 : FI := ⟨(.seq (.ops [⟨s7,(.p (.mov (.v ti0))),none⟩]) (.seq (.seq (.ops [⟨s21,(.p (.mov (.t k0))),none⟩,⟨s22,(.p (.lenS (.t k5))),none⟩,⟨s28,(.p (.mov (.v ti0))),none⟩]) (.block k0 (.loop (.seq (.ops [⟨s29,(.p (.bin .lss (.t k7) (.t k6))),none⟩]) (.seq (.cond (.t k8) .skip (.exit k0)) (.seq (.block k1 (.seq (.ops [⟨s37,(.p (.iadS k1 (.t k5) (.t k7))),none⟩,⟨s38,(.r (.ld1 (.t k9))),none⟩,⟨s15,(.p (.mov (.t k10))),none⟩]) (.seq (.ops [⟨s39,(.p (.mov (.t k4))),none⟩,⟨s3,(.p (.bin .neq (.t k11) (.v ti0))),none⟩]) (.cond (.t k12) (.seq (.ops [⟨s1,(.p (.mov (.t k4))),none⟩,⟨s7,(.p (.mov (.t k13))),none⟩]) .ret) .skip)))) (.ops [⟨s2,(.p (.bin .add (.t k7) (.v ti1))),none⟩,⟨s28,(.p (.mov (.t k14))),none⟩]))))))) (.seq (.ops [⟨s7,(.p (.mov (.v ti0))),none⟩]) .ret))),k15,[(.t k2)]⟩
def t79 : FI := ⟨(.seq (.ops [⟨s14,(.a (.box (.t k0))),none⟩,⟨s22,(.p (.mov (.v ti0))),none⟩]) (.seq (.draw [⟨⟨s29,(.p (.fad k0 (.t k3))),none⟩,k0,[k0]⟩,⟨⟨s37,(.r (.ld1 (.t k8))),none⟩,k1,[k0]⟩,⟨⟨s38,(.p (.mov (.t k1))),none⟩,k0,[k0]⟩,⟨⟨s39,(.p (.mov (.t k2))),none⟩,k0,[k0]⟩,⟨⟨s3,(.call (.v (.func (.func k80) ⟨[]⟩ ⟨[]⟩)) [(.t k9),(.t k10),(.t k11)]),none⟩,k15,[k0,k5]⟩,⟨⟨s1,(.p (.fad k1 (.t k3))),none⟩,k0,[k0,k5]⟩,⟨⟨s2,(.r (.ld1 (.t k13))),none⟩,k32,[k0,k5]⟩,⟨⟨s4,(.p (.mov (.t k1))),none⟩,k0,[k0,k5]⟩,⟨⟨s5,(.p (.mov (.t k2))),none⟩,k0,[k0,k5]⟩,⟨⟨s11,(.call (.v (.func (.func k80) ⟨[]⟩ ⟨[]⟩)) [(.t k14),(.t k15),(.t k16)]),none⟩,k511,[k5,k10]⟩,⟨⟨s8,(.a (.bsl [ti0,ti0] k2 [(k0,k1,(.t k12)),(k1,k1,(.t k17))])),none⟩,k1023,[k10]⟩,⟨⟨s9,(.call (.v (.func (.func k78) ⟨[]⟩ ⟨[]⟩)) [(.t k18)]),none⟩,k2047,[k10,k12]⟩,⟨⟨s28,(.p (.mov (.t k19))),none⟩,k4095,[k12]⟩]) (.seq (.seq (.ops [⟨s10,(.p (.mov (.t k7))),none⟩,⟨s12,(.p (.bin .eql (.t k20) (.v ti0))),none⟩,⟨s13,(.p (.mov (.t k21))),none⟩,⟨s18,(.r (.ldn k2 (.t k3))),(some (k22,.true))⟩,⟨s16,(.call (.v (.func (.func k71) ⟨[]⟩ ⟨[]⟩)) [(.t k23)]),(some (k22,.true))⟩,⟨s17,(.p (.pick (.t k22) (.t k24) (.v (.bool .false)))),none⟩]) (.cond (.t k25) (.seq (.ops [⟨s22,(.p (.mov (.v ti22))),none⟩]) .ret) .skip)) (.seq (.ops [⟨s19,(.p (.mov (.t k7))),none⟩,⟨s22,(.p (.mov (.t k26))),none⟩]) .ret)))),k27,[(.t k6)]⟩
def t80 : FI := ⟨(.seq (.ops [⟨s22,(.p (.mov (.v ti0))),none⟩]) (.seq (.seq (.ops [⟨s28,(.p (.mov (.t k0))),none⟩,⟨s29,(.p (.mov (.t k1))),none⟩,⟨s37,(.p (.bin .lss (.t k7) (.t k8))),none⟩,⟨s38,(.p (.mov (.t k9))),none⟩,⟨s39,(.p (.mov (.t k0))),(some (k10,.false))⟩,⟨s3,(.p (.mov (.t k2))),(some (k10,.false))⟩,⟨s1,(.p (.bin .gtr (.t k11) (.t k12))),(some (k10,.false))⟩,⟨s2,(.p (.pick (.t k10) (.v (.bool .true)) (.t k13))),none⟩]) (.cond (.t k14) (.seq (.ops [⟨s22,(.p (.mov (.v ti1))),none⟩]) .ret) .skip)) (.seq (.ops [⟨s22,(.p (.mov (.v ti0))),none⟩]) .ret))),k15,[(.t k6)]⟩
def t81 : FI := ⟨(.seq (.ops [⟨s21,(.a (.box (.t k0))),none⟩,⟨s22,(.a (.new [ti0,ti0])),none⟩]) (.scope (.seq (.seq (.ops [⟨s4,(.r (.ldn k2 (.t k1))),none⟩,⟨s5,(.p (.fad k0 (.t k5))),none⟩,⟨s11,(.p (.fad k0 (.t k16))),none⟩,⟨s8,(.r (.ldn k2 (.t k17))),none⟩,⟨s9,(.call (.v (.func (.func k82) ⟨[]⟩ ⟨[]⟩)) [(.t k15),(.t k18)]),none⟩]) (.cond (.t k19) (.seq (.ops [⟨s10,(.p (.build [ti0,ti0] [])),none⟩,⟨none,(.w (.st k2 (.t k6) (.t k20))),none⟩]) .ret) .skip)) (.seq (.seq (.ops [⟨s12,(.p (.fad k6 (.t k5))),none⟩,⟨s13,(.r (.ld1 (.t k21))),none⟩,⟨s18,(.p (.bin .eql (.t k22) (.v ti0))),none⟩]) (.cond (.t k23) (.seq (.ops [⟨s16,(.p (.build [ti0,ti0] [(k1,k1,(.v ti22))])),none⟩,⟨none,(.w (.st k2 (.t k6) (.t k24))),none⟩]) .ret) .skip)) (.seq (.ops [⟨s19,(.r (.ld1 (.t k2))),none⟩,⟨s20,(.r (.ldn k7 (.t k5))),none⟩,⟨s25,(.r (.lkp k7 .true (.agg ⟨[ti0,ti0]⟩) .true (.t k26) (.t k27))),none⟩,⟨s17,(.p (.mov (.t k28))),none⟩,⟨s23,(.p (.ext (.t k25) k0)),none⟩,⟨s24,(.p (.ext (.t k25) k1)),none⟩,⟨s28,(.a (.new [ti0,ti0])),none⟩,⟨none,(.w (.st k2 (.t k7) (.t k29))),none⟩,⟨s29,(.p (.mov (.t k30))),none⟩]) (.seq (.seq (.ops [⟨s26,(.p (.mov (.t k8))),none⟩]) (.cond (.t k31) (.seq (.ops [⟨s27,(.r (.ldn k2 (.t k7))),none⟩,⟨none,(.w (.st k2 (.t k6) (.t k32))),none⟩]) .ret) .skip)) (.seq (.ops [⟨s33,(.p (.build [ti0,ti0] [(k1,k1,(.v ti22))])),none⟩,⟨none,(.w (.st k2 (.t k7) (.t k33))),none⟩]) (.seq (.ops [⟨s30,(.r (.ldn k18 (.t k3))),none⟩,⟨s31,(.p (.build [ti0,ti0,ti0,ti0,ti0,ti0,ti0,ti0,ti0,ti0,ti0,ti0,ti0,ti0,ti0,(.slice none k0 k0),ti0,ti0] [(k0,k18,(.t k34))])),none⟩,⟨s37,(.a (.new [ti0,ti0,ti0,ti0,ti0,ti0,ti0,ti0,ti0,ti0,ti0,ti0,ti0,ti0,ti0,(.slice none k0 k0),ti0,ti0])),none⟩,⟨none,(.w (.st k18 (.t k9) (.t k35))),none⟩]) (.seq (.ops [⟨s32,(.p (.fad k0 (.t k5))),none⟩,⟨s34,(.r (.ldn k6 (.t k36))),none⟩,⟨s35,(.p (.fad k0 (.t k9))),none⟩,⟨s36,(.p (.fad k0 (.t k38))),none⟩,⟨none,(.w (.st k6 (.t k39) (.t k37))),none⟩]) (.seq .skip (.seq (.seq (.ops [⟨s40,(.p (.build [ti0,ti0] [(k0,k1,(.v ti1)),(k1,k1,(.v ti2))])),none⟩,⟨s41,(.p (.mov (.v ti0))),none⟩]) (.block k0 (.loop (.seq (.ops [⟨s42,(.p (.bin .lss (.t k41) (.v ti2))),none⟩]) (.seq (.cond (.t k42) .skip (.exit k0)) (.seq (.block k1 (.seq (.ops [⟨s43,(.p (.idxA .false k2 k1 (.t k40) (.t k41))),none⟩,⟨s39,(.p (.mov (.t k43))),none⟩]) (.seq (.ops [⟨s44,(.r (.ldn k18 (.t k9))),none⟩,⟨s45,(.p (.mov (.t k11))),none⟩,⟨s46,(.a (.bsl [ti0] k1 [(k0,k1,(.t k45))])),none⟩,⟨s47,(.call (.v (.func (.func k73) ⟨[]⟩ ⟨[]⟩)) [(.t k44),(.t k46)]),none⟩,⟨s3,(.a (.new [ti0,ti0,ti0,ti0,ti0,ti0,ti0,ti0,ti0,ti0,ti0,ti0,ti0,ti0,ti0,(.slice none k0 k0),ti0,ti0])),none⟩,⟨none,(.w (.st k18 (.t k12) (.t k47))),none⟩]) (.seq (.seq (.ops [⟨s48,(.r (.ldn k18 (.t k12))),none⟩,⟨s49,(.call (.v (.func (.func k67) ⟨[]⟩ ⟨[]⟩)) [(.t k48)]),none⟩,⟨s50,(.p (.bin .neq (.t k49) (.v ti2))),none⟩]) (.cond (.t k50) (.exit k1) .skip)) (.seq (.ops [⟨s1,(.a (.new [ti0])),none⟩,⟨none,(.w (.st k1 (.t k13) (.v ti0))),none⟩]) (.seq (.seq (.ops [⟨s51,(.p (.fad k0 (.t k12))),none⟩,⟨s52,(.p (.fad k0 (.t k51))),none⟩,⟨s53,(.p (.fad k0 (.t k52))),none⟩,⟨s54,(.r (.ldn k2 (.t k53))),none⟩,⟨s55,(.p (.fad k17 (.t k3))),none⟩,⟨s56,(.r (.ld1 (.t k55))),none⟩,⟨s57,(.call (.v (.func (.func k54) ⟨[]⟩ ⟨[]⟩)) [(.t k54),(.t k56)]),none⟩]) (.block k2 (.rng (.t k57) [k58] (.ops [⟨s2,(.a (.new [ti0,ti0])),none⟩,⟨none,(.w (.st k2 (.t k14) (.t k58))),none⟩]) (.block k3 (.seq (.ops [⟨s59,(.r (.ldn k2 (.t k14))),none⟩,⟨s60,(.p (.fad k0 (.t k12))),none⟩,⟨s61,(.p (.fad k0 (.t k60))),none⟩,⟨s62,(.p (.fad k0 (.t k61))),none⟩,⟨none,(.w (.st k2 (.t k62) (.t k59))),none⟩]) (.seq (.draw [⟨⟨s63,(.r (.ld1 (.t k13))),none⟩,k0,[k0,k10]⟩,⟨⟨s64,(.r (.ld1 (.t k4))),none⟩,k0,[k0]⟩,⟨⟨s65,(.p (.fad k0 (.t k12))),none⟩,k0,[k0]⟩,⟨⟨s66,(.p (.fad k0 (.t k65))),none⟩,k4,[k0]⟩,⟨⟨s67,(.r (.ldn k6 (.t k66))),none⟩,k12,[k0]⟩,⟨⟨s68,(.p (.fad k6 (.t k5))),none⟩,k0,[k0]⟩,⟨⟨s69,(.r (.ld1 (.t k68))),none⟩,k32,[k0]⟩,⟨⟨s70,(.p (.bin .sub (.t k69) (.v ti1))),none⟩,k96,[k0]⟩,⟨⟨s71,(.p (.build [ti0,ti0,ti0,ti0,ti0,ti0,ti0] [(k0,k6,(.t k67)),(k6,k1,(.t k70))])),none⟩,k252,[k0]⟩,⟨⟨s72,(.call (.t k64) [(.t k71)]),none⟩,k510,[k0,k10]⟩,⟨⟨s73,(.p (.fld .false k1 k1 (.t k72))),none⟩,k1022,[k10]⟩,⟨⟨s74,(.p (.bin .add (.v ti1) (.t k73))),none⟩,k2046,[k10]⟩,⟨⟨s75,(.p (.max [(.t k63),(.t k74)])),none⟩,k4095,[k10]⟩,⟨⟨none,(.w (.st k1 (.t k13) (.t k75))),none⟩,k8191,[k10,k14]⟩]) (.seq (.ops [⟨s76,(.r (.ld1 (.t k13))),none⟩,⟨s77,(.p (.fad k1 (.t k7))),none⟩,⟨s78,(.r (.ld1 (.t k77))),none⟩,⟨s79,(.p (.bin .geq (.t k76) (.t k78))),none⟩]) (.cond (.t k79) (.exit k1) .skip)))))))) (.ops [⟨s80,(.p (.mov (.t k11))),none⟩,⟨s81,(.r (.ld1 (.t k13))),none⟩,⟨s82,(.p (.build [ti0,ti0] [(k0,k1,(.t k80)),(k1,k1,(.t k81))])),none⟩,⟨none,(.w (.st k2 (.t k7) (.t k82))),none⟩]))))))) (.ops [⟨s83,(.p (.bin .add (.t k41) (.v ti1))),none⟩,⟨s41,(.p (.mov (.t k83))),none⟩]))))))) (.seq (.ops [⟨s84,(.r (.ld1 (.t k2))),none⟩,⟨s85,(.r (.ldn k7 (.t k5))),none⟩,⟨s86,(.r (.ldn k2 (.t k7))),none⟩,⟨none,(.w (.mup k7 .true (.t k84) (.t k85) (.t k86))),none⟩]) (.seq (.ops [⟨s87,(.r (.ldn k2 (.t k7))),none⟩,⟨none,(.w (.st k2 (.t k6) (.t k87))),none⟩]) .ret))))))))))))),k88,[(.c .true k2 k6)]⟩
def t82 : FI := ⟨(.seq (.ops [⟨s7,(.a (.box (.t k0))),none⟩,⟨s14,(.a (.box (.t k1))),none⟩,⟨s15,(.p (.mov (.v (.bool .false)))),none⟩]) (.seq (.ops [⟨s21,(.p (.fad k0 (.t k2))),none⟩,⟨s22,(.r (.ld1 (.t k5))),none⟩,⟨s28,(.p (.fad k0 (.t k3))),none⟩,⟨s29,(.r (.ld1 (.t k7))),none⟩,⟨s37,(.p (.bin .leq (.t k6) (.t k8))),none⟩,⟨s38,(.p (.mov (.t k9))),none⟩,⟨s39,(.p (.fad k1 (.t k3))),(some (k10,.true))⟩,⟨s3,(.r (.ld1 (.t k11))),(some (k10,.true))⟩,⟨s1,(.p (.fad k1 (.t k2))),(some (k10,.true))⟩,⟨s2,(.r (.ld1 (.t k13))),(some (k10,.true))⟩,⟨s4,(.p (.bin .leq (.t k12) (.t k14))),(some (k10,.true))⟩,⟨s5,(.p (.pick (.t k10) (.t k15) (.v (.bool .false)))),none⟩,⟨s15,(.p (.mov (.t k16))),none⟩]) .ret)),k17,[(.t k4)]⟩
def t83 : FI := ⟨(.seq (.ops [⟨s21,(.p (.fad k0 (.t k1))),none⟩,⟨s22,(.r (.ld1 (.t k5))),none⟩,⟨s28,(.r (.ld1 (.t k2))),none⟩,⟨s29,(.p (.bin .sub (.t k6) (.t k7))),none⟩,⟨s15,(.p (.mov (.t k8))),none⟩]) (.block k0 (.loop (.seq (.seq (.ops [⟨s37,(.p (.mov (.t k4))),none⟩,⟨s38,(.p (.fad k1 (.t k1))),none⟩,⟨s39,(.r (.ld1 (.t k10))),none⟩,⟨s3,(.r (.ld1 (.t k2))),none⟩,⟨s1,(.p (.bin .add (.t k11) (.t k12))),none⟩,⟨s2,(.p (.bin .leq (.t k9) (.t k13))),none⟩]) (.cond (.t k14) .skip (.exit k0))) (.seq (.block k1 (.seq (.ops [⟨s11,(.p (.mov (.t k0))),none⟩,⟨s8,(.r (.ldn k2 (.t k1))),none⟩,⟨s9,(.p (.mov (.t k4))),none⟩,⟨s10,(.r (.ld1 (.t k2))),none⟩,⟨s12,(.call (.v (.func (.func k72) ⟨[]⟩ ⟨[]⟩)) [(.t k18),(.t k19),(.t k20)]),none⟩,⟨s13,(.call (.t k17) [(.t k21)]),none⟩,⟨s18,(.p (.not (.t k22))),none⟩]) (.cond (.t k23) .ret .skip))) (.ops [⟨s4,(.p (.mov (.t k4))),none⟩,⟨s5,(.p (.bin .add (.t k15) (.v ti1))),none⟩,⟨s15,(.p (.mov (.t k16))),none⟩])))))),k24,[]⟩
def t89 : FI := ⟨(.seq (.ops [⟨s7,(.p (.mov (.v ti0))),none⟩]) (.seq (.seq (.ops [⟨s21,(.p (.mov (.t k0))),none⟩,⟨s22,(.p (.lenS (.t k5))),none⟩,⟨s28,(.p (.bin .gtr (.t k6) (.v ti4))),none⟩]) (.cond (.t k7) (.seq (.ops [⟨s7,(.p (.mov (.v ti4))),none⟩]) .ret) .skip)) (.seq (.seq (.ops [⟨s29,(.p (.mov (.t k0))),none⟩,⟨s37,(.p (.lenS (.t k8))),none⟩,⟨s38,(.p (.mov (.v ti0))),none⟩]) (.block k0 (.loop (.seq (.ops [⟨s39,(.p (.bin .lss (.t k10) (.t k9))),none⟩]) (.seq (.cond (.t k11) .skip (.exit k0)) (.seq (.block k1 (.seq (.ops [⟨s3,(.p (.iadS k1 (.t k8) (.t k10))),none⟩,⟨s1,(.r (.ld1 (.t k12))),none⟩,⟨s15,(.p (.mov (.t k13))),none⟩]) (.seq (.ops [⟨s2,(.p (.mov (.t k4))),none⟩]) (.block k2 (.seq (.seq (.ops [⟨s5,(.p (.bin .eql (.t k14) (.v ti1))),none⟩,⟨s4,(.p (.mov (.t k16))),none⟩]) (.cond (.t k15) .skip (.ops [⟨s11,(.p (.bin .eql (.t k14) (.v ti2))),none⟩,⟨s4,(.p (.mov (.t k17))),none⟩]))) (.cond (.t k15) .skip (.seq (.ops [⟨s7,(.p (.mov (.v ti30))),none⟩]) .ret))))))) (.ops [⟨s8,(.p (.bin .add (.t k10) (.v ti1))),none⟩,⟨s38,(.p (.mov (.t k18))),none⟩]))))))) (.seq (.ops [⟨s7,(.p (.mov (.v ti0))),none⟩]) .ret)))),k19,[(.t k2)]⟩
def t90 : FI := ⟨(.seq (.ops [⟨s6,(.a (.box (.t k0))),none⟩,⟨s7,(.p (.mov (.v (.slice none k0 k0)))),none⟩]) (.seq (.seq (.ops [⟨s14,(.p (.fad k15 (.t k1))),none⟩,⟨s15,(.r (.ld1 (.t k3))),none⟩,⟨s21,(.p (.lenS (.t k4))),none⟩,⟨s22,(.p (.bin .eql (.t k5) (.v ti0))),none⟩]) (.cond (.t k6) (.seq (.ops [⟨s28,(.p (.build [ti0,ti0] [])),none⟩,⟨s29,(.a (.bsl [ti0,ti0] k1 [(k0,k2,(.t k7))])),none⟩,⟨s7,(.p (.mov (.t k8))),none⟩]) .ret) .skip)) (.seq (.ops [⟨s37,(.p (.fad k15 (.t k1))),none⟩,⟨s38,(.r (.ld1 (.t k9))),none⟩,⟨s7,(.p (.mov (.t k10))),none⟩]) .ret))),k11,[(.t k2)]⟩
def t91 : FI := ⟨(.seq (.ops [⟨s7,(.a (.box (.t k0))),none⟩,⟨s14,(.a (.box (.t k1))),none⟩,⟨s15,(.a (.new [ti0,ti0])),none⟩]) (.seq (.ops [⟨s21,(.p (.fad k0 (.t k2))),none⟩,⟨s22,(.r (.ld1 (.t k5))),none⟩,⟨s28,(.p (.fad k0 (.t k3))),none⟩,⟨s29,(.r (.ld1 (.t k7))),none⟩,⟨s37,(.p (.bin .add (.t k6) (.t k8))),none⟩,⟨s38,(.p (.fad k1 (.t k2))),none⟩,⟨s39,(.r (.ld1 (.t k10))),none⟩,⟨s3,(.p (.fad k1 (.t k3))),none⟩,⟨s1,(.r (.ld1 (.t k12))),none⟩,⟨s2,(.p (.bin .add (.t k11) (.t k13))),none⟩,⟨s4,(.p (.build [ti0,ti0] [(k0,k1,(.t k9)),(k1,k1,(.t k14))])),none⟩,⟨none,(.w (.st k2 (.t k4) (.t k15))),none⟩]) .ret)),k16,[(.c .true k2 k4)]⟩
def t92 : FI := ⟨(.seq (.ops [⟨s7,(.a (.box (.t k0))),none⟩,⟨s15,(.a (.new [ti0,ti0])),none⟩]) (.seq (.seq (.ops [⟨s28,(.p (.mov (.t k1))),none⟩,⟨s29,(.p (.lenS (.t k7))),none⟩,⟨s37,(.p (.mov (.v ti0))),none⟩]) (.block k0 (.loop (.seq (.ops [⟨s38,(.p (.bin .lss (.t k9) (.t k8))),none⟩]) (.seq (.cond (.t k10) .skip (.exit k0)) (.seq (.block k1 (.seq (.ops [⟨s39,(.p (.iadS k2 (.t k7) (.t k9))),none⟩,⟨s3,(.r (.ldn k2 (.t k11))),none⟩,⟨s22,(.a (.new [ti0,ti0])),none⟩,⟨none,(.w (.st k2 (.t k6) (.t k12))),none⟩]) (.ops [⟨s1,(.p (.fad k0 (.t k2))),none⟩,⟨s2,(.r (.ld1 (.t k13))),none⟩,⟨s4,(.p (.fad k0 (.t k6))),none⟩,⟨s5,(.r (.ld1 (.t k15))),none⟩,⟨s11,(.p (.max [(.t k14),(.t k16)])),none⟩,⟨s8,(.p (.fad k1 (.t k2))),none⟩,⟨s9,(.r (.ld1 (.t k18))),none⟩,⟨s10,(.p (.fad k1 (.t k6))),none⟩,⟨s12,(.r (.ld1 (.t k20))),none⟩,⟨s13,(.p (.min [(.t k19),(.t k21)])),none⟩,⟨s18,(.p (.build [ti0,ti0] [(k0,k1,(.t k17)),(k1,k1,(.t k22))])),none⟩,⟨none,(.w (.st k2 (.t k2) (.t k23))),none⟩]))) (.ops [⟨s16,(.p (.bin .add (.t k9) (.v ti1))),none⟩,⟨s37,(.p (.mov (.t k24))),none⟩]))))))) (.seq (.ops [⟨s17,(.r (.ldn k2 (.t k2))),none⟩,⟨none,(.w (.st k2 (.t k4) (.t k25))),none⟩]) .ret))),k26,[(.c .true k2 k4)]⟩
def t93 : FI := ⟨(.seq (.ops [⟨s7,(.a (.box (.t k0))),none⟩,⟨s15,(.a (.new [ti0,ti0,ti0,ti0,ti0,ti0])),none⟩]) (.seq (.ops [⟨s22,(.p (.fad k0 (.t k2))),none⟩,⟨s28,(.p (.fad k0 (.t k6))),none⟩,⟨s29,(.r (.ldn k6 (.t k7))),none⟩,⟨s21,(.a (.new [ti0,ti0,ti0,ti0,ti0,ti0])),none⟩,⟨none,(.w (.st k6 (.t k5) (.t k8))),none⟩]) (.seq (.seq (.ops [⟨s37,(.p (.mov (.t k1))),none⟩]) (.block k0 (.seq (.ops [⟨s39,(.p (.bin .eql (.t k9) (.v ti1))),none⟩,⟨s38,(.p (.mov (.t k11))),none⟩]) (.cond (.t k10) (.seq (.ops [⟨s3,(.p (.fad k0 (.t k5))),none⟩,⟨s1,(.r (.ldn k2 (.t k12))),none⟩,⟨s2,(.p (.fad k0 (.t k2))),none⟩,⟨s4,(.p (.fad k6 (.t k14))),none⟩,⟨s5,(.p (.fad k0 (.t k15))),none⟩,⟨s11,(.r (.ldn k2 (.t k16))),none⟩,⟨s8,(.call (.v (.func (.func k91) ⟨[]⟩ ⟨[]⟩)) [(.t k13),(.t k17)]),none⟩,⟨s9,(.p (.fad k0 (.t k5))),none⟩,⟨none,(.w (.st k2 (.t k19) (.t k18))),none⟩]) (.ops [⟨s10,(.p (.fad k2 (.t k5))),none⟩,⟨s12,(.r (.ldn k2 (.t k20))),none⟩,⟨s13,(.p (.fad k0 (.t k2))),none⟩,⟨s18,(.p (.fad k6 (.t k22))),none⟩,⟨s16,(.p (.fad k4 (.t k23))),none⟩,⟨s17,(.r (.ldn k2 (.t k24))),none⟩,⟨s19,(.call (.v (.func (.func k97) ⟨[]⟩ ⟨[]⟩)) [(.t k21),(.t k25)]),none⟩,⟨s20,(.p (.fad k2 (.t k5))),none⟩,⟨none,(.w (.st k2 (.t k27) (.t k26))),none⟩])) (.seq (.ops [⟨s23,(.p (.bin .eql (.t k9) (.v ti2))),none⟩,⟨s25,(.p (.mov (.t k29))),none⟩]) (.cond (.t k28) (.seq (.ops [⟨s24,(.p (.fad k0 (.t k5))),none⟩,⟨s26,(.r (.ldn k2 (.t k30))),none⟩,⟨s27,(.p (.fad k0 (.t k2))),none⟩,⟨s33,(.p (.fad k6 (.t k32))),none⟩,⟨s30,(.p (.fad k2 (.t k33))),none⟩,⟨s31,(.r (.ldn k2 (.t k34))),none⟩,⟨s32,(.call (.v (.func (.func k97) ⟨[]⟩ ⟨[]⟩)) [(.t k31),(.t k35)]),none⟩,⟨s34,(.p (.fad k0 (.t k5))),none⟩,⟨none,(.w (.st k2 (.t k37) (.t k36))),none⟩]) (.ops [⟨s35,(.p (.fad k4 (.t k5))),none⟩,⟨s36,(.r (.ldn k2 (.t k38))),none⟩,⟨s40,(.p (.fad k0 (.t k2))),none⟩,⟨s41,(.p (.fad k6 (.t k40))),none⟩,⟨s42,(.p (.fad k6 (.t k41))),none⟩,⟨s43,(.r (.ldn k2 (.t k42))),none⟩,⟨s44,(.call (.v (.func (.func k97) ⟨[]⟩ ⟨[]⟩)) [(.t k39),(.t k43)]),none⟩,⟨s45,(.p (.fad k4 (.t k5))),none⟩,⟨none,(.w (.st k2 (.t k45) (.t k44))),none⟩])) .skip)))))) (.seq (.ops [⟨s46,(.r (.ldn k6 (.t k5))),none⟩,⟨none,(.w (.st k6 (.t k4) (.t k46))),none⟩]) .ret)))),k47,[(.c .true k6 k4)]⟩
def t94 : FI := ⟨(.seq (.ops [⟨s22,(.r (.ld1 (.t k1))),none⟩,⟨s28,(.p (.bin .add (.t k6) (.v ti1))),none⟩,⟨s29,(.p (.mov (.v ti0))),none⟩]) (.block k0 (.loop (.seq (.ops [⟨s37,(.p (.bin .lss (.t k8) (.t k7))),none⟩]) (.seq (.cond (.t k9) .skip (.exit k0)) (.seq (.block k1 (.seq (.ops [⟨s38,(.p (.mov (.t k8))),none⟩,⟨s14,(.p (.mov (.t k10))),none⟩]) (.seq (.ops [⟨s39,(.r (.ld1 (.t k1))),none⟩,⟨s3,(.a (.mks [ti0] k8 (.t k11) (.t k11))),none⟩,⟨s15,(.p (.mov (.t k12))),none⟩]) (.seq (.seq (.ops [⟨s1,(.p (.mov (.t k4))),none⟩,⟨s2,(.p (.lenS (.t k13))),none⟩,⟨s4,(.p (.mov (.v ti0))),none⟩]) (.block k2 (.loop (.seq (.ops [⟨s5,(.p (.bin .lss (.t k15) (.t k14))),none⟩]) (.seq (.cond (.t k16) .skip (.exit k2)) (.seq (.block k3 (.seq (.ops [⟨s11,(.p (.mov (.t k15))),none⟩,⟨s21,(.p (.mov (.t k17))),none⟩]) (.seq (.ops [⟨s8,(.p (.mov (.t k4))),none⟩,⟨s9,(.p (.mov (.t k5))),none⟩,⟨s10,(.p (.iadS k1 (.t k18) (.t k19))),none⟩,⟨none,(.w (.st k1 (.t k20) (.v ti1))),none⟩]) (.seq (.ops [⟨s12,(.p (.mov (.t k5))),none⟩,⟨s13,(.r (.ld1 (.t k1))),none⟩,⟨s18,(.p (.mov (.t k3))),none⟩,⟨s16,(.p (.bin .sub (.t k22) (.t k23))),none⟩,⟨s17,(.p (.bin .geq (.t k21) (.t k24))),none⟩]) (.cond (.t k25) (.ops [⟨s19,(.p (.mov (.t k4))),none⟩,⟨s20,(.p (.mov (.t k5))),none⟩,⟨s25,(.p (.iadS k1 (.t k26) (.t k27))),none⟩,⟨none,(.w (.st k1 (.t k28) (.v ti2))),none⟩]) .skip))))) (.ops [⟨s23,(.p (.bin .add (.t k15) (.v ti1))),none⟩,⟨s4,(.p (.mov (.t k29))),none⟩]))))))) (.seq (.ops [⟨s24,(.p (.mov (.t k0))),none⟩,⟨s26,(.p (.mov (.t k4))),none⟩,⟨s27,(.call (.t k30) [(.t k31)]),none⟩,⟨s33,(.p (.not (.t k32))),none⟩]) (.cond (.t k33) .ret .skip)))))) (.ops [⟨s30,(.p (.bin .add (.t k8) (.v ti1))),none⟩,⟨s29,(.p (.mov (.t k34))),none⟩]))))))),k35,[]⟩
def t97 : FI := ⟨(.seq (.ops [⟨s7,(.a (.box (.t k0))),none⟩,⟨s14,(.a (.box (.t k1))),none⟩,⟨s15,(.a (.new [ti0,ti0])),none⟩]) (.seq (.ops [⟨s21,(.p (.fad k0 (.t k2))),none⟩,⟨s22,(.r (.ld1 (.t k5))),none⟩,⟨s28,(.p (.fad k1 (.t k3))),none⟩,⟨s29,(.r (.ld1 (.t k7))),none⟩,⟨s37,(.p (.bin .sub (.t k6) (.t k8))),none⟩,⟨s38,(.p (.fad k1 (.t k2))),none⟩,⟨s39,(.r (.ld1 (.t k10))),none⟩,⟨s3,(.p (.fad k0 (.t k3))),none⟩,⟨s1,(.r (.ld1 (.t k12))),none⟩,⟨s2,(.p (.bin .sub (.t k11) (.t k13))),none⟩,⟨s4,(.p (.build [ti0,ti0] [(k0,k1,(.t k9)),(k1,k1,(.t k14))])),none⟩,⟨none,(.w (.st k2 (.t k4) (.t k15))),none⟩]) .ret)),k16,[(.c .true k2 k4)]⟩
def tab : Tr FI := (.n (.n (.n (.n (.n .e (some t15) (.n (.n .e (some t79) .e) (some t47) .e)) none (.n (.n (.n .e (some t71) .e) none .e) none .e)) none (.n (.n (.n (.n .e (some t67) .e) (some t35) .e) none (.n (.n .e (some t83) .e) none .e)) (some t11) (.n .e none (.n (.n .e (some t91) .e) none .e)))) none (.n (.n (.n (.n (.n .e (some t65) .e) none (.n .e (some t97) .e)) (some t17) (.n (.n .e (some t81) .e) (some t49) .e)) none (.n (.n (.n .e (some t73) .e) none .e) none (.n (.n .e (some t89) .e) none .e))) none (.n (.n (.n (.n .e (some t69) .e) none .e) none (.n .e (some t53) .e)) (some t13) (.n .e none (.n (.n .e (some t93) .e) none .e))))) none (.n (.n (.n (.n .e none (.n (.n .e (some t80) .e) (some t48) .e)) none (.n (.n (.n .e (some t72) .e) none .e) none .e)) none (.n (.n (.n (.n .e (some t68) .e) none .e) (some t20) (.n .e (some t52) .e)) none (.n (.n .e (some t44) .e) (some t28) (.n (.n .e (some t92) .e) none .e)))) none (.n (.n (.n (.n .e (some t34) .e) none (.n (.n .e (some t82) .e) (some t50) .e)) none (.n (.n (.n .e (some t74) .e) none .e) none (.n (.n .e (some t90) .e) none .e))) none (.n (.n (.n (.n .e (some t70) .e) none .e) none (.n .e (some t54) .e)) none (.n (.n (.n .e (some t78) .e) (some t46) .e) none (.n (.n .e (some t94) .e) none .e))))))
def tabL : List (Nat × FI) := [(k11,t11),(k13,t13),(k15,t15),(k17,t17),(k20,t20),(k28,t28),(k34,t34),(k35,t35),(k44,t44),(k46,t46),(k47,t47),(k48,t48),(k49,t49),(k50,t50),(k52,t52),(k53,t53),(k54,t54),(k65,t65),(k67,t67),(k68,t68),(k69,t69),(k70,t70),(k71,t71),(k72,t72),(k73,t73),(k74,t74),(k78,t78),(k79,t79),(k80,t80),(k81,t81),(k82,t82),(k83,t83),(k89,t89),(k90,t90),(k91,t91),(k92,t92),(k93,t93),(k94,t94),(k97,t97)]
end Go.Sim
namespace Go.Sim
set_option linter.all false
open Go
set_option maxRecDepth 1000000
variable [Rho] [Asm] [SymOK]
theorem t11_ok : compF Go.Proofs.Try.prog (nat_lit 11) = some t11 := by kernel_rfl
theorem t13_ok : compF Go.Proofs.Try.prog (nat_lit 13) = some t13 := by kernel_rfl
theorem t15_ok : compF Go.Proofs.Try.prog (nat_lit 15) = some t15 := by kernel_rfl
theorem t17_ok : compF Go.Proofs.Try.prog (nat_lit 17) = some t17 := by kernel_rfl
theorem t20_ok : compF Go.Proofs.Try.prog (nat_lit 20) = some t20 := by kernel_rfl
theorem t28_ok : compF Go.Proofs.Try.prog (nat_lit 28) = some t28 := by kernel_rfl
theorem t34_ok : compF Go.Proofs.Try.prog (nat_lit 34) = some t34 := by kernel_rfl
theorem t35_ok : compF Go.Proofs.Try.prog (nat_lit 35) = some t35 := by kernel_rfl
theorem t44_ok : compF Go.Proofs.Try.prog (nat_lit 44) = some t44 := by kernel_rfl
theorem t46_ok : compF Go.Proofs.Try.prog (nat_lit 46) = some t46 := by kernel_rfl
theorem t47_ok : compF Go.Proofs.Try.prog (nat_lit 47) = some t47 := by kernel_rfl
theorem t48_ok : compF Go.Proofs.Try.prog (nat_lit 48) = some t48 := by kernel_rfl
theorem t49_ok : compF Go.Proofs.Try.prog (nat_lit 49) = some t49 := by kernel_rfl
theorem t50_ok : compF Go.Proofs.Try.prog (nat_lit 50) = some t50 := by kernel_rfl
theorem t52_ok : compF Go.Proofs.Try.prog (nat_lit 52) = some t52 := by kernel_rfl
theorem t53_ok : compF Go.Proofs.Try.prog (nat_lit 53) = some t53 := by kernel_rfl
theorem t54_ok : compF Go.Proofs.Try.prog (nat_lit 54) = some t54 := by kernel_rfl
theorem t65_ok : compF Go.Proofs.Try.prog (nat_lit 65) = some t65 := by kernel_rfl
theorem t67_ok : compF Go.Proofs.Try.prog (nat_lit 67) = some t67 := by kernel_rfl
theorem t68_ok : compF Go.Proofs.Try.prog (nat_lit 68) = some t68 := by kernel_rfl
theorem t69_ok : compF Go.Proofs.Try.prog (nat_lit 69) = some t69 := by kernel_rfl
theorem t70_ok : compF Go.Proofs.Try.prog (nat_lit 70) = some t70 := by kernel_rfl
theorem t71_ok : compF Go.Proofs.Try.prog (nat_lit 71) = some t71 := by kernel_rfl
theorem t72_ok : compF Go.Proofs.Try.prog (nat_lit 72) = some t72 := by kernel_rfl
theorem t73_ok : compF Go.Proofs.Try.prog (nat_lit 73) = some t73 := by kernel_rfl
theorem t74_ok : compF Go.Proofs.Try.prog (nat_lit 74) = some t74 := by kernel_rfl
theorem t78_ok : compF Go.Proofs.Try.prog (nat_lit 78) = some t78 := by kernel_rfl
theorem t79_ok : compF Go.Proofs.Try.prog (nat_lit 79) = some t79 := by kernel_rfl
theorem t80_ok : compF Go.Proofs.Try.prog (nat_lit 80) = some t80 := by kernel_rfl
theorem t81_ok : compF Go.Proofs.Try.prog (nat_lit 81) = some t81 := by kernel_rfl
theorem t82_ok : compF Go.Proofs.Try.prog (nat_lit 82) = some t82 := by kernel_rfl
theorem t83_ok : compF Go.Proofs.Try.prog (nat_lit 83) = some t83 := by kernel_rfl
theorem t89_ok : compF Go.Proofs.Try.prog (nat_lit 89) = some t89 := by kernel_rfl
theorem t90_ok : compF Go.Proofs.Try.prog (nat_lit 90) = some t90 := by kernel_rfl
theorem t91_ok : compF Go.Proofs.Try.prog (nat_lit 91) = some t91 := by kernel_rfl
theorem t92_ok : compF Go.Proofs.Try.prog (nat_lit 92) = some t92 := by kernel_rfl
theorem t93_ok : compF Go.Proofs.Try.prog (nat_lit 93) = some t93 := by kernel_rfl
theorem t94_ok : compF Go.Proofs.Try.prog (nat_lit 94) = some t94 := by kernel_rfl
theorem t97_ok : compF Go.Proofs.Try.prog (nat_lit 97) = some t97 := by kernel_rfl
theorem all_ok : AllC Go.Proofs.Try.prog tabL := (.cons t11_ok rfl (.cons t13_ok rfl (.cons t15_ok rfl (.cons t17_ok rfl (.cons t20_ok rfl (.cons t28_ok rfl (.cons t34_ok rfl (.cons t35_ok rfl (.cons t44_ok rfl (.cons t46_ok rfl (.cons t47_ok rfl (.cons t48_ok rfl (.cons t49_ok rfl (.cons t50_ok rfl (.cons t52_ok rfl (.cons t53_ok rfl (.cons t54_ok rfl (.cons t65_ok rfl (.cons t67_ok rfl (.cons t68_ok rfl (.cons t69_ok rfl (.cons t70_ok rfl (.cons t71_ok rfl (.cons t72_ok rfl (.cons t73_ok rfl (.cons t74_ok rfl (.cons t78_ok rfl (.cons t79_ok rfl (.cons t80_ok rfl (.cons t81_ok rfl (.cons t82_ok rfl (.cons t83_ok rfl (.cons t89_ok rfl (.cons t90_ok rfl (.cons t91_ok rfl (.cons t92_ok rfl (.cons t93_ok rfl (.cons t94_ok rfl (.cons t97_ok rfl .nil)))))))))))))))))))))))))))))))))))))))
theorem tab_eq : tab = layT tabL := by kernel_rfl
theorem tab_ok : TabOK Go.Proofs.Try.prog tab := tabOK all_ok tab_eq
end Go.Sim
namespace Go.Sim
set_option linter.all false
open Go
set_option maxRecDepth 1000000
variable [Rho] [Asm] [SymOK]
open Go.Proofs Go.RowKit
noncomputable section
def vi0 : Value := (.int .i64 (.ofNat (nat_lit 0)))
def vi1 : Value := (.int .i64 (.ofNat (nat_lit 1)))
def vi10 : Value := (.int .i64 (.ofNat (nat_lit 10)))
def vi13 : Value := (.int .i64 (.ofNat (nat_lit 13)))
def vi2 : Value := (.int .i64 (.ofNat (nat_lit 2)))
def vi20 : Value := (.int .i64 (.ofNat (nat_lit 20)))
def vi24 : Value := (.int .i64 (.ofNat (nat_lit 24)))
def vi26 : Value := (.int .i64 (.ofNat (nat_lit 26)))
def vi28 : Value := (.int .i64 (.ofNat (nat_lit 28)))
def vi29 : Value := (.int .i64 (.ofNat (nat_lit 29)))
def vi3 : Value := (.int .i64 (.ofNat (nat_lit 3)))
def vi30 : Value := (.int .i64 (.ofNat (nat_lit 30)))
def vi31 : Value := (.int .i64 (.ofNat (nat_lit 31)))
def vi32 : Value := (.int .i64 (.ofNat (nat_lit 32)))
def vi37 : Value := (.int .i64 (.ofNat (nat_lit 37)))
def vi38 : Value := (.int .i64 (.ofNat (nat_lit 38)))
def vi39 : Value := (.int .i64 (.ofNat (nat_lit 39)))
def vi4 : Value := (.int .i64 (.ofNat (nat_lit 4)))
def vi40 : Value := (.int .i64 (.ofNat (nat_lit 40)))
def vi41 : Value := (.int .i64 (.ofNat (nat_lit 41)))
def vi5 : Value := (.int .i64 (.ofNat (nat_lit 5)))
def vi6 : Value := (.int .i64 (.ofNat (nat_lit 6)))
def vi7 : Value := (.int .i64 (.ofNat (nat_lit 7)))
def vi8 : Value := (.int .i64 (.ofNat (nat_lit 8)))
def vi9 : Value := (.int .i64 (.ofNat (nat_lit 9)))
def vm1 : Value := (.int .i64 (.negSucc (nat_lit 1)))
def vm10 : Value := (.int .i64 (.negSucc (nat_lit 10)))
def vm11 : Value := (.int .i64 (.negSucc (nat_lit 11)))
def vm12 : Value := (.int .i64 (.negSucc (nat_lit 12)))
def vm13 : Value := (.int .i64 (.negSucc (nat_lit 13)))
def vm14 : Value := (.int .i64 (.negSucc (nat_lit 14)))
def vm15 : Value := (.int .i64 (.negSucc (nat_lit 15)))
def vm16 : Value := (.int .i64 (.negSucc (nat_lit 16)))
def vm17 : Value := (.int .i64 (.negSucc (nat_lit 17)))
def vm18 : Value := (.int .i64 (.negSucc (nat_lit 18)))
def vm19 : Value := (.int .i64 (.negSucc (nat_lit 19)))
def vm2 : Value := (.int .i64 (.negSucc (nat_lit 2)))
def vm20 : Value := (.int .i64 (.negSucc (nat_lit 20)))
def vm3 : Value := (.int .i64 (.negSucc (nat_lit 3)))
def vm4 : Value := (.int .i64 (.negSucc (nat_lit 4)))
def vm5 : Value := (.int .i64 (.negSucc (nat_lit 5)))
def vm6 : Value := (.int .i64 (.negSucc (nat_lit 6)))
def vm7 : Value := (.int .i64 (.negSucc (nat_lit 7)))
def vm8 : Value := (.int .i64 (.negSucc (nat_lit 8)))
def vm9 : Value := (.int .i64 (.negSucc (nat_lit 9)))
theorem mixed : Go.Proofs.Try.prog.follows .mixedOrders = true := by kernel_rfl
end

end Go.Sim
namespace Go.Sim
set_option linter.all false
open Go
set_option maxRecDepth 1000000
variable [Rho] [Asm] [SymOK]
noncomputable section
def kb1_lg : List (Nat × List Gen) := []
def kb1_lc : List (Nat × List Chg) := []
def kb1 : Kb := { w := .e, g := .e, c := .e }
theorem kb1_ok : KbOK Go.Proofs.Try.prog kb1 := kbOK (lw := []) (lg := kb1_lg) (lc := kb1_lc) .nil .nil .nil (by kernel_rfl) (by kernel_rfl) (by kernel_rfl)
end

end Go.Sim
