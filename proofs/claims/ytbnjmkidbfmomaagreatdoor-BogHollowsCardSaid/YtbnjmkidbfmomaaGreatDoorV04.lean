/- Tb Sw Bs Re -/
import Derived.Test.YtbnjmkidbfmomaaGreatDoorV03
import Derived.Test.YtbnjmkidbfmomaaGreatDoorChecked
import Derived.KernelRfl
import Derived.Test.YtbnjmkidbfmomaaGreatDoorRows
import Derived.Lib.SliceRun
set_option linter.unusedVariables false
set_option linter.unusedSimpArgs false
set_option maxRecDepth 100000
namespace Go.Proofs.YtbnjmkidbfmomaaGreatDoor.Tb
open Go.Sx
theorem mixed : Tryz.prog.follows .mixedOrders = true := by kernel_rfl
theorem gofn_18 : goFn Tryz.prog 18 = true := by kernel_rfl
theorem gofn_19 : goFn Tryz.prog 19 = true := by kernel_rfl
theorem gofn_20 : goFn Tryz.prog 20 = true := by kernel_rfl
theorem gofn_21 : goFn Tryz.prog 21 = true := by kernel_rfl
theorem gofn_22 : goFn Tryz.prog 22 = true := by kernel_rfl
theorem gofn_23 : goFn Tryz.prog 23 = true := by kernel_rfl
theorem gofn_24 : goFn Tryz.prog 24 = true := by kernel_rfl
theorem gofn_25 : goFn Tryz.prog 25 = true := by kernel_rfl
theorem gofn_26 : goFn Tryz.prog 26 = true := by kernel_rfl
theorem gofn_27 : goFn Tryz.prog 27 = true := by kernel_rfl
theorem gofn_28 : goFn Tryz.prog 28 = true := by kernel_rfl
theorem gofn_29 : goFn Tryz.prog 29 = true := by kernel_rfl
theorem gofn_30 : goFn Tryz.prog 30 = true := by kernel_rfl
theorem gofn_31 : goFn Tryz.prog 31 = true := by kernel_rfl
theorem gofn_32 : goFn Tryz.prog 32 = true := by kernel_rfl
theorem gofn_33 : goFn Tryz.prog 33 = true := by kernel_rfl
theorem gofn_34 : goFn Tryz.prog 34 = true := by kernel_rfl
theorem gofn_35 : goFn Tryz.prog 35 = true := by kernel_rfl
theorem gofn_36 : goFn Tryz.prog 36 = true := by kernel_rfl
theorem gofn_37 : goFn Tryz.prog 37 = true := by kernel_rfl
theorem gofn_38 : goFn Tryz.prog 38 = true := by kernel_rfl
theorem gofn_40 : goFn Tryz.prog 40 = true := by kernel_rfl
theorem gofn_41 : goFn Tryz.prog 41 = true := by kernel_rfl
theorem gofn_43 : goFn Tryz.prog 43 = true := by kernel_rfl
theorem gofn_46 : goFn Tryz.prog 46 = true := by kernel_rfl
theorem gofn_47 : goFn Tryz.prog 47 = true := by kernel_rfl
theorem gofn_48 : goFn Tryz.prog 48 = true := by kernel_rfl
theorem gofn_51 : goFn Tryz.prog 51 = true := by kernel_rfl
theorem gofn_54 : goFn Tryz.prog 54 = true := by kernel_rfl
theorem gofn_55 : goFn Tryz.prog 55 = true := by kernel_rfl
theorem gofn_56 : goFn Tryz.prog 56 = true := by kernel_rfl
theorem gofn_59 : goFn Tryz.prog 59 = true := by kernel_rfl
theorem gofn_60 : goFn Tryz.prog 60 = true := by kernel_rfl
theorem gofn_61 : goFn Tryz.prog 61 = true := by kernel_rfl
theorem gofn_62 : goFn Tryz.prog 62 = true := by kernel_rfl
theorem gofn_63 : goFn Tryz.prog 63 = true := by kernel_rfl
theorem gofn_64 : goFn Tryz.prog 64 = true := by kernel_rfl
theorem gofn_65 : goFn Tryz.prog 65 = true := by kernel_rfl
theorem gofn_66 : goFn Tryz.prog 66 = true := by kernel_rfl
theorem gofn_67 : goFn Tryz.prog 67 = true := by kernel_rfl
theorem gofn_68 : goFn Tryz.prog 68 = true := by kernel_rfl
theorem gofn_69 : goFn Tryz.prog 69 = true := by kernel_rfl
theorem gofn_70 : goFn Tryz.prog 70 = true := by kernel_rfl
theorem gofn_71 : goFn Tryz.prog 71 = true := by kernel_rfl
theorem gofn_72 : goFn Tryz.prog 72 = true := by kernel_rfl
theorem gofn_73 : goFn Tryz.prog 73 = true := by kernel_rfl
theorem gofn_74 : goFn Tryz.prog 74 = true := by kernel_rfl
theorem gofn_75 : goFn Tryz.prog 75 = true := by kernel_rfl
theorem gofn_76 : goFn Tryz.prog 76 = true := by kernel_rfl
theorem gofn_77 : goFn Tryz.prog 77 = true := by kernel_rfl
theorem gofn_78 : goFn Tryz.prog 78 = true := by kernel_rfl
theorem gofn_79 : goFn Tryz.prog 79 = true := by kernel_rfl
theorem gofn_80 : goFn Tryz.prog 80 = true := by kernel_rfl
theorem gofn_81 : goFn Tryz.prog 81 = true := by kernel_rfl
theorem gofn_82 : goFn Tryz.prog 82 = true := by kernel_rfl
theorem gofn_84 : goFn Tryz.prog 84 = true := by kernel_rfl
theorem gofn_85 : goFn Tryz.prog 85 = true := by kernel_rfl
theorem gofn_86 : goFn Tryz.prog 86 = true := by kernel_rfl
theorem gofn_87 : goFn Tryz.prog 87 = true := by kernel_rfl
theorem gofn_88 : goFn Tryz.prog 88 = true := by kernel_rfl
theorem gofn_89 : goFn Tryz.prog 89 = true := by kernel_rfl
theorem gofn_90 : goFn Tryz.prog 90 = true := by kernel_rfl
theorem gofn_91 : goFn Tryz.prog 91 = true := by kernel_rfl
theorem gofn_92 : goFn Tryz.prog 92 = true := by kernel_rfl
theorem gofn_93 : goFn Tryz.prog 93 = true := by kernel_rfl
theorem gofn_94 : goFn Tryz.prog 94 = true := by kernel_rfl
theorem gofn_96 : goFn Tryz.prog 96 = true := by kernel_rfl
theorem gofn_97 : goFn Tryz.prog 97 = true := by kernel_rfl
theorem gofn_98 : goFn Tryz.prog 98 = true := by kernel_rfl
theorem gofn_99 : goFn Tryz.prog 99 = true := by kernel_rfl
theorem gofn_102 : goFn Tryz.prog 102 = true := by kernel_rfl
theorem gofn_103 : goFn Tryz.prog 103 = true := by kernel_rfl
theorem gofn_108 : goFn Tryz.prog 108 = true := by kernel_rfl
theorem gofn_109 : goFn Tryz.prog 109 = true := by kernel_rfl
theorem gofn_110 : goFn Tryz.prog 110 = true := by kernel_rfl
theorem gofn_111 : goFn Tryz.prog 111 = true := by kernel_rfl
theorem gofn_112 : goFn Tryz.prog 112 = true := by kernel_rfl
theorem gofn_113 : goFn Tryz.prog 113 = true := by kernel_rfl
theorem gofn_114 : goFn Tryz.prog 114 = true := by kernel_rfl
theorem gofn_115 : goFn Tryz.prog 115 = true := by kernel_rfl
theorem gofn_116 : goFn Tryz.prog 116 = true := by kernel_rfl
theorem gofn_117 : goFn Tryz.prog 117 = true := by kernel_rfl
theorem gofn_118 : goFn Tryz.prog 118 = true := by kernel_rfl
theorem gofn_119 : goFn Tryz.prog 119 = true := by kernel_rfl
theorem gofn_120 : goFn Tryz.prog 120 = true := by kernel_rfl
theorem gofn_121 : goFn Tryz.prog 121 = true := by kernel_rfl
theorem gofn_124 : goFn Tryz.prog 124 = true := by kernel_rfl
theorem gofn_126 : goFn Tryz.prog 126 = true := by kernel_rfl
theorem gofn_127 : goFn Tryz.prog 127 = true := by kernel_rfl
theorem gofn_128 : goFn Tryz.prog 128 = true := by kernel_rfl
theorem gofn_129 : goFn Tryz.prog 129 = true := by kernel_rfl
theorem gofn_130 : goFn Tryz.prog 130 = true := by kernel_rfl
theorem gofn_131 : goFn Tryz.prog 131 = true := by kernel_rfl
theorem gofn_132 : goFn Tryz.prog 132 = true := by kernel_rfl
theorem gofn_133 : goFn Tryz.prog 133 = true := by kernel_rfl
theorem gofn_134 : goFn Tryz.prog 134 = true := by kernel_rfl
theorem gofn_135 : goFn Tryz.prog 135 = true := by kernel_rfl
theorem gofn_136 : goFn Tryz.prog 136 = true := by kernel_rfl
theorem gofn_137 : goFn Tryz.prog 137 = true := by kernel_rfl
theorem gofn_138 : goFn Tryz.prog 138 = true := by kernel_rfl
theorem gofn_147 : goFn Tryz.prog 147 = true := by kernel_rfl
theorem gofn_148 : goFn Tryz.prog 148 = true := by kernel_rfl
theorem gofn_149 : goFn Tryz.prog 149 = true := by kernel_rfl
theorem gofn_150 : goFn Tryz.prog 150 = true := by kernel_rfl
theorem gofn_151 : goFn Tryz.prog 151 = true := by kernel_rfl
theorem gofn_152 : goFn Tryz.prog 152 = true := by kernel_rfl
theorem gofn_153 : goFn Tryz.prog 153 = true := by kernel_rfl
theorem gofn_154 : goFn Tryz.prog 154 = true := by kernel_rfl
theorem gofn_158 : goFn Tryz.prog 158 = true := by kernel_rfl
theorem gofn_159 : goFn Tryz.prog 159 = true := by kernel_rfl
theorem gofn_160 : goFn Tryz.prog 160 = true := by kernel_rfl
theorem gofn_161 : goFn Tryz.prog 161 = true := by kernel_rfl
theorem gofn_162 : goFn Tryz.prog 162 = true := by kernel_rfl
theorem gofn_163 : goFn Tryz.prog 163 = true := by kernel_rfl
theorem gofn_164 : goFn Tryz.prog 164 = true := by kernel_rfl
theorem gofn_169 : goFn Tryz.prog 169 = true := by kernel_rfl
theorem gofn_170 : goFn Tryz.prog 170 = true := by kernel_rfl
theorem gofn_171 : goFn Tryz.prog 171 = true := by kernel_rfl
theorem gofn_172 : goFn Tryz.prog 172 = true := by kernel_rfl
theorem gofn_183 : goFn Tryz.prog 183 = true := by kernel_rfl
theorem gofn_184 : goFn Tryz.prog 184 = true := by kernel_rfl
theorem gofn_185 : goFn Tryz.prog 185 = true := by kernel_rfl
theorem gofn_186 : goFn Tryz.prog 186 = true := by kernel_rfl
theorem gofn_187 : goFn Tryz.prog 187 = true := by kernel_rfl
theorem gofn_188 : goFn Tryz.prog 188 = true := by kernel_rfl
theorem gofn_189 : goFn Tryz.prog 189 = true := by kernel_rfl
theorem gofn_190 : goFn Tryz.prog 190 = true := by kernel_rfl
theorem gofn_191 : goFn Tryz.prog 191 = true := by kernel_rfl
theorem gofn_192 : goFn Tryz.prog 192 = true := by kernel_rfl
theorem gofn_193 : goFn Tryz.prog 193 = true := by kernel_rfl
theorem gofn_202 : goFn Tryz.prog 202 = true := by kernel_rfl
theorem gofn_203 : goFn Tryz.prog 203 = true := by kernel_rfl
theorem gofn_211 : goFn Tryz.prog 211 = true := by kernel_rfl
theorem gofn_212 : goFn Tryz.prog 212 = true := by kernel_rfl
theorem gofn_213 : goFn Tryz.prog 213 = true := by kernel_rfl
theorem gofn_214 : goFn Tryz.prog 214 = true := by kernel_rfl
theorem gofn_215 : goFn Tryz.prog 215 = true := by kernel_rfl
theorem gofn_216 : goFn Tryz.prog 216 = true := by kernel_rfl
theorem gofn_217 : goFn Tryz.prog 217 = true := by kernel_rfl
theorem gofn_218 : goFn Tryz.prog 218 = true := by kernel_rfl
theorem gofn_219 : goFn Tryz.prog 219 = true := by kernel_rfl
theorem gofn_220 : goFn Tryz.prog 220 = true := by kernel_rfl
theorem gofn_225 : goFn Tryz.prog 225 = true := by kernel_rfl
theorem gofn_234 : goFn Tryz.prog 234 = true := by kernel_rfl
theorem gofn_235 : goFn Tryz.prog 235 = true := by kernel_rfl
theorem gofn_236 : goFn Tryz.prog 236 = true := by kernel_rfl
theorem gofn_237 : goFn Tryz.prog 237 = true := by kernel_rfl
theorem gofn_238 : goFn Tryz.prog 238 = true := by kernel_rfl
theorem gofn_239 : goFn Tryz.prog 239 = true := by kernel_rfl
theorem gofn_240 : goFn Tryz.prog 240 = true := by kernel_rfl
theorem gofn_242 : goFn Tryz.prog 242 = true := by kernel_rfl
theorem gofn_246 : goFn Tryz.prog 246 = true := by kernel_rfl
theorem gofn_247 : goFn Tryz.prog 247 = true := by kernel_rfl
theorem gofn_248 : goFn Tryz.prog 248 = true := by kernel_rfl
theorem gofn_249 : goFn Tryz.prog 249 = true := by kernel_rfl
theorem gofn_250 : goFn Tryz.prog 250 = true := by kernel_rfl
theorem gofn_251 : goFn Tryz.prog 251 = true := by kernel_rfl
theorem gofn_252 : goFn Tryz.prog 252 = true := by kernel_rfl
theorem gofn_253 : goFn Tryz.prog 253 = true := by kernel_rfl
theorem gofn_255 : goFn Tryz.prog 255 = true := by kernel_rfl
theorem cells_3 : cellsN Tryz.prog 3 = some 1 := by kernel_rfl
theorem zero_3 : zeroOf Tryz.prog 3 = some (Value.int .i64 0) := by kernel_rfl
theorem one_3 : oneB Tryz.prog 3 = true := by kernel_rfl
theorem zi_3 : zeroI Tryz.prog 3 = some (Value.int .i64 0, 1, 8) := by kernel_rfl
theorem int_3 : Tryz.prog.underlying 3 = some (.int .i64) := by kernel_rfl
theorem cells_4 : cellsN Tryz.prog 4 = some 1 := by kernel_rfl
theorem one_4 : oneB Tryz.prog 4 = true := by kernel_rfl
theorem zi_4 : zeroI Tryz.prog 4 = some (Value.bool false, 1, 1) := by kernel_rfl
theorem bool_4 : Tryz.prog.underlying 4 = some .bool := by kernel_rfl
theorem one_5 : oneB Tryz.prog 5 = true := by kernel_rfl
theorem int_5 : Tryz.prog.underlying 5 = some (.int .u8) := by kernel_rfl
theorem one_9 : oneB Tryz.prog 9 = true := by kernel_rfl
theorem zi_9 : zeroI Tryz.prog 9 = some (Value.string ⟨#[]⟩, 1, 16) := by kernel_rfl
theorem cells_22 : cellsN Tryz.prog 22 = some 1 := by kernel_rfl
theorem one_22 : oneB Tryz.prog 22 = true := by kernel_rfl
theorem elm_22 : elemOf' Tryz.prog 22 = some (25, 1) := by kernel_rfl
theorem sl_22 : Tryz.prog.underlying 22 = some (.slice 25) := by kernel_rfl
theorem cells_24 : cellsN Tryz.prog 24 = some 1 := by kernel_rfl
theorem zero_24 : zeroOf Tryz.prog 24 = some (Value.agg #[(.slice none 0 0)]) := by kernel_rfl
theorem agg_24 : aggSize Tryz.prog 24 = some 1 := by kernel_rfl
theorem fo_24_0 : fieldOff Tryz.prog 24 0 = some 0 := by kernel_rfl
theorem pl_24 : placesOf Tryz.prog 24 = some [(0, 1)] := by kernel_rfl
theorem cells_25 : cellsN Tryz.prog 25 = some 1 := by kernel_rfl
theorem one_25 : oneB Tryz.prog 25 = true := by kernel_rfl
theorem elm_25 : elemOf' Tryz.prog 25 = some (3, 1) := by kernel_rfl
theorem sl_25 : Tryz.prog.underlying 25 = some (.slice 3) := by kernel_rfl
theorem zi_25 : zeroI Tryz.prog 25 = some (Value.slice none 0 0, 1, 24) := by kernel_rfl
theorem zero_27 : zeroOf Tryz.prog 27 = some (Value.agg #[(.slice none 0 0), (.slice none 0 0)]) := by kernel_rfl
theorem agg_27 : aggSize Tryz.prog 27 = some 2 := by kernel_rfl
theorem fo_27_0 : fieldOff Tryz.prog 27 0 = some 0 := by kernel_rfl
theorem fo_27_1 : fieldOff Tryz.prog 27 1 = some 1 := by kernel_rfl
theorem pl_27 : placesOf Tryz.prog 27 = some [(0, 1), (1, 1)] := by kernel_rfl
theorem cells_29 : cellsN Tryz.prog 29 = some 4 := by kernel_rfl
theorem zero_29 : zeroOf Tryz.prog 29 = some (Value.agg #[(.slice none 0 0), (.slice none 0 0), (.slice none 0 0), (.int .i64 0)]) := by kernel_rfl
theorem agg_29 : aggSize Tryz.prog 29 = some 4 := by kernel_rfl
theorem fo_29_0 : fieldOff Tryz.prog 29 0 = some 0 := by kernel_rfl
theorem fo_29_1 : fieldOff Tryz.prog 29 1 = some 1 := by kernel_rfl
theorem fo_29_2 : fieldOff Tryz.prog 29 2 = some 3 := by kernel_rfl
theorem pl_29 : placesOf Tryz.prog 29 = some [(0, 1), (1, 2), (3, 1)] := by kernel_rfl
theorem one_31 : oneB Tryz.prog 31 = true := by kernel_rfl
theorem cells_43 : cellsN Tryz.prog 43 = some 1 := by kernel_rfl
theorem one_43 : oneB Tryz.prog 43 = true := by kernel_rfl
theorem elm_43 : elemOf' Tryz.prog 43 = some (9, 1) := by kernel_rfl
theorem sl_43 : Tryz.prog.underlying 43 = some (.slice 9) := by kernel_rfl
theorem cells_52 : cellsN Tryz.prog 52 = some 3 := by kernel_rfl
theorem zero_52 : zeroOf Tryz.prog 52 = some (Value.agg #[(.int .i64 0), (.int .i64 0), (.int .i64 0)]) := by kernel_rfl
theorem agg_52 : aggSize Tryz.prog 52 = some 3 := by kernel_rfl
theorem fo_52_0 : fieldOff Tryz.prog 52 0 = some 0 := by kernel_rfl
theorem fo_52_1 : fieldOff Tryz.prog 52 1 = some 1 := by kernel_rfl
theorem fo_52_2 : fieldOff Tryz.prog 52 2 = some 2 := by kernel_rfl
theorem pl_52 : placesOf Tryz.prog 52 = some [(0, 1), (1, 1), (2, 1)] := by kernel_rfl
theorem zero_54 : zeroOf Tryz.prog 54 = some (Value.agg #[(.slice none 0 0), (.slice none 0 0), (.slice none 0 0), (.int .i64 0), (.int .i64 0), (.int .i64 0), (.int .i64 0), (.int .i64 0), (.int .i64 0), (.int .i64 0), (.int .i64 0), (.int .i64 0), (.slice none 0 0), (.slice none 0 0), (.bool false), (.slice none 0 0)]) := by kernel_rfl
theorem fo_54_0 : fieldOff Tryz.prog 54 0 = some 0 := by kernel_rfl
theorem fo_54_1 : fieldOff Tryz.prog 54 1 = some 1 := by kernel_rfl
theorem fo_54_2 : fieldOff Tryz.prog 54 2 = some 3 := by kernel_rfl
theorem fo_54_3 : fieldOff Tryz.prog 54 3 = some 6 := by kernel_rfl
theorem fo_54_4 : fieldOff Tryz.prog 54 4 = some 7 := by kernel_rfl
theorem fo_54_5 : fieldOff Tryz.prog 54 5 = some 8 := by kernel_rfl
theorem fo_54_6 : fieldOff Tryz.prog 54 6 = some 9 := by kernel_rfl
theorem fo_54_7 : fieldOff Tryz.prog 54 7 = some 10 := by kernel_rfl
theorem fo_54_8 : fieldOff Tryz.prog 54 8 = some 11 := by kernel_rfl
theorem fo_54_9 : fieldOff Tryz.prog 54 9 = some 12 := by kernel_rfl
theorem fo_54_10 : fieldOff Tryz.prog 54 10 = some 13 := by kernel_rfl
theorem fo_54_11 : fieldOff Tryz.prog 54 11 = some 14 := by kernel_rfl
theorem fo_54_12 : fieldOff Tryz.prog 54 12 = some 15 := by kernel_rfl
theorem pl_54 : placesOf Tryz.prog 54 = some [(0, 1), (1, 2), (3, 3), (6, 1), (7, 1), (8, 1), (9, 1), (10, 1), (11, 1), (12, 1), (13, 1), (14, 1), (15, 1)] := by kernel_rfl
theorem int_55 : Tryz.prog.underlying 55 = some (.int .u64) := by kernel_rfl
theorem zero_90 : zeroOf Tryz.prog 90 = some (Value.agg #[(.slice none 0 0), (.slice none 0 0), (.slice none 0 0), (.int .i64 0), (.int .i64 0), (.int .i64 0)]) := by kernel_rfl
theorem agg_90 : aggSize Tryz.prog 90 = some 6 := by kernel_rfl
theorem fo_90_0 : fieldOff Tryz.prog 90 0 = some 0 := by kernel_rfl
theorem fo_90_1 : fieldOff Tryz.prog 90 1 = some 1 := by kernel_rfl
theorem fo_90_2 : fieldOff Tryz.prog 90 2 = some 3 := by kernel_rfl
theorem pl_90 : placesOf Tryz.prog 90 = some [(0, 1), (1, 2), (3, 3)] := by kernel_rfl
theorem agg_99 : aggSize Tryz.prog 99 = some 7 := by kernel_rfl
theorem fo_99_0 : fieldOff Tryz.prog 99 0 = some 0 := by kernel_rfl
theorem fo_99_1 : fieldOff Tryz.prog 99 1 = some 1 := by kernel_rfl
theorem fo_99_2 : fieldOff Tryz.prog 99 2 = some 2 := by kernel_rfl
theorem fo_99_3 : fieldOff Tryz.prog 99 3 = some 3 := by kernel_rfl
theorem fo_99_4 : fieldOff Tryz.prog 99 4 = some 4 := by kernel_rfl
theorem fo_99_5 : fieldOff Tryz.prog 99 5 = some 5 := by kernel_rfl
theorem fo_99_6 : fieldOff Tryz.prog 99 6 = some 6 := by kernel_rfl
theorem cells_101 : cellsN Tryz.prog 101 = some 9 := by kernel_rfl
theorem zero_101 : zeroOf Tryz.prog 101 = some (Value.agg #[(.int .i64 0), (.int .i64 0), (.int .i64 0), (.int .i64 0), (.int .i64 0), (.int .i64 0), (.bool false), (.slice none 0 0), (.slice none 0 0)]) := by kernel_rfl
theorem agg_101 : aggSize Tryz.prog 101 = some 9 := by kernel_rfl
theorem fo_101_0 : fieldOff Tryz.prog 101 0 = some 0 := by kernel_rfl
theorem fo_101_1 : fieldOff Tryz.prog 101 1 = some 7 := by kernel_rfl
theorem fo_101_2 : fieldOff Tryz.prog 101 2 = some 8 := by kernel_rfl
theorem pl_101 : placesOf Tryz.prog 101 = some [(0, 7), (7, 1), (8, 1)] := by kernel_rfl
theorem zero_103 : zeroOf Tryz.prog 103 = some (Value.agg #[(.slice none 0 0), (.slice none 0 0), (.slice none 0 0), (.int .i64 0), (.int .i64 0), (.int .i64 0), (.int .i32 0), (.int .u32 0), (.int .i64 0), (.int .i64 0), (.int .i64 0), (.int .i64 0), (.int .i64 0), (.int .i64 0), (.bool false), (.slice none 0 0), (.slice none 0 0), (.slice none 0 0)]) := by kernel_rfl
theorem fo_103_0 : fieldOff Tryz.prog 103 0 = some 0 := by kernel_rfl
theorem fo_103_1 : fieldOff Tryz.prog 103 1 = some 6 := by kernel_rfl
theorem fo_103_2 : fieldOff Tryz.prog 103 2 = some 8 := by kernel_rfl
theorem fo_103_3 : fieldOff Tryz.prog 103 3 = some 17 := by kernel_rfl
theorem pl_103 : placesOf Tryz.prog 103 = some [(0, 6), (6, 2), (8, 9), (17, 1)] := by kernel_rfl
theorem cells_109 : cellsN Tryz.prog 109 = some 2 := by kernel_rfl
theorem zero_109 : zeroOf Tryz.prog 109 = some (Value.agg #[(.string ⟨#[]⟩), (.int .i64 0)]) := by kernel_rfl
theorem agg_109 : aggSize Tryz.prog 109 = some 2 := by kernel_rfl
theorem fo_109_1 : fieldOff Tryz.prog 109 1 = some 1 := by kernel_rfl
theorem pl_109 : placesOf Tryz.prog 109 = some [(0, 1), (1, 1)] := by kernel_rfl
theorem cells_118 : cellsN Tryz.prog 118 = some 2 := by kernel_rfl
theorem zero_118 : zeroOf Tryz.prog 118 = some (Value.agg #[(.string ⟨#[]⟩), (.slice none 0 0)]) := by kernel_rfl
theorem agg_118 : aggSize Tryz.prog 118 = some 2 := by kernel_rfl
theorem fo_118_0 : fieldOff Tryz.prog 118 0 = some 0 := by kernel_rfl
theorem fo_118_1 : fieldOff Tryz.prog 118 1 = some 1 := by kernel_rfl
theorem pl_118 : placesOf Tryz.prog 118 = some [(0, 1), (1, 1)] := by kernel_rfl
theorem one_142 : oneB Tryz.prog 142 = true := by kernel_rfl
theorem cells_144 : cellsN Tryz.prog 144 = some 2 := by kernel_rfl
theorem zero_144 : zeroOf Tryz.prog 144 = some (Value.agg #[(.int .i64 0), (.slice none 0 0)]) := by kernel_rfl
theorem agg_144 : aggSize Tryz.prog 144 = some 2 := by kernel_rfl
theorem fo_144_0 : fieldOff Tryz.prog 144 0 = some 0 := by kernel_rfl
theorem fo_144_1 : fieldOff Tryz.prog 144 1 = some 1 := by kernel_rfl
theorem pl_144 : placesOf Tryz.prog 144 = some [(0, 1), (1, 1)] := by kernel_rfl
theorem elm_174 : elemOf' Tryz.prog 174 = some (4, 1) := by kernel_rfl
theorem sl_174 : Tryz.prog.underlying 174 = some (.slice 4) := by kernel_rfl
theorem int_231 : Tryz.prog.underlying 231 = some (.int .u64) := by kernel_rfl
theorem cells_250 : cellsN Tryz.prog 250 = some 6 := by kernel_rfl
theorem zero_250 : zeroOf Tryz.prog 250 = some (Value.agg #[(.int .i64 0), (.int .i64 0), (.int .i64 0), (.int .i64 0), (.int .i64 0), (.int .i64 0)]) := by kernel_rfl
theorem agg_250 : aggSize Tryz.prog 250 = some 6 := by kernel_rfl
end Go.Proofs.YtbnjmkidbfmomaaGreatDoor.Tb
namespace Go.Sx
open Go.RowKit
section
variable {P : Program} {n : Nat} {w0 : World} {E : Env} {G GJ : Heap} {a : Act} {w : World} {Q : Exit → Act → World → Prop} {l : List Oper} {st : List Bool}
def TY (P : Program) (n : Nat) (w0 : World) (l0 : List Oper) (st : List Bool) (GJ : Heap) (Q : Exit → Act → World → Prop) (fuel : Nat) (E0 E1 : Env) (G : Heap) : List Oper → List Bool → Env → Prop
  | o :: r, true :: fs, B => ∃ d v, o.dst = some d ∧ d < n ∧ SOK P n w0 l0.toArray GJ (depB l0 B o.after.toList ++ E0) o v ∧ TY P n w0 l0 st GJ Q fuel E0 E1 G r fs ((d, v) :: B)
  | _ :: r, false :: fs, B => TY P n w0 l0 st GJ Q fuel E0 E1 G r fs B
  | _, _, B => TX P n w0 l0 st GJ Q fuel st (B ++ E1) G
end
end Go.Sx
namespace Go.Proofs.YtbnjmkidbfmomaaGreatDoor
open Go.Sx Go.RowKit
structure Bd where
  a : Int
  b : Int
  m : Int
  deriving Inhabited, DecidableEq
abbrev Bd.cells (r : Bd) : List Value := [.int .i64 r.a, .int .i64 r.b, .int .i64 r.m]
abbrev Bd.val (r : Bd) : Value := .agg #[.int .i64 r.a, .int .i64 r.b, .int .i64 r.m]
def BdsAt (w : World) (p : Option Addr) (rs : List Bd) : Prop :=
  ∀ j, j < rs.length → ∃ q, p = some q ∧ ∀ i v, (rs.getD j default).cells[i]? = some v → w.cell? ((q.add (j * 3)).add i) = some v
abbrev cv (n : Int) (p : Option Addr) (len cap : Nat) : Value := .agg #[.int .i64 n, .slice p len cap]
theorem addr_add_add (a : Addr) (i j : Nat) : (a.add i).add j = a.add (i + j) := Addr.add_add a i j
def IntsAt (w : World) (p : Option Addr) (xs : List Int) : Prop := ∀ j, j < xs.length → ∃ q, p = some q ∧ w.cell? (q.add (j * 1)) = some (.int .i64 (xs.getD j 0))
theorem IntsAt.new {w0 w : World} {G : Heap} {p : Option Addr} {xs : List Int} (h : IntsAt w0 p xs) (hn : New w0 w G) : IntsAt w p xs := fun j hj =>
  let ⟨q, hq, hc⟩ := h j hj
  ⟨q, hq, hn.old hc⟩
theorem IntsAt.blk {w0 w : World} {G : Heap} {b : Nat} {xs : List Int} {sp : List Value} {e : TypeId} (hn : New w0 w G) (hm : (b, Obj.cells (xs.map (Value.int .i64) ++ sp).toArray e (0, 0)) ∈ G) : IntsAt w (some ⟨b, 0, none⟩) xs := fun j hj =>
  ⟨_, rfl, by
    rw [add_off]
    refine hn.cell hm ?_
    have : ((xs.map (Value.int .i64)) ++ sp)[0 + j * 1]? = some (Value.int .i64 (xs.getD j 0)) := by
      rw [List.getElem?_append_left (by simpa using hj)]
      simp [List.getD, hj]
    simpa using this⟩
theorem IntsAt.arr {w0 w : World} {G : Heap} {b : Nat} {xs : List Int} {e : TypeId} (hn : New w0 w G) (hm : (b, Obj.cells (intsA xs) e (0, 0)) ∈ G) : IntsAt w (some ⟨b, 0, none⟩) xs :=
  IntsAt.blk (sp := []) hn (by simpa [intsA] using hm)abbrev HD := Option (Nat × Nat × List Value)
abbrev ival (l : List Int) : List Value := l.map (Value.int .i64)
abbrev gvI (x : HD × List Int) : Value := gval x.1 x.2.length
abbrev gbI (x : HD × List Int) : Heap := gblk x.1 3 (ival x.2)
abbrev goI (x : HD × List Int) : Prop := gok x.1 x.2.length 1 (ival x.2)
def gp (h : HD) : Option Addr := h.map fun x => ⟨x.1, 0, none⟩
def gc (h : HD) : Nat := (h.map fun x => x.2.1).getD 0
theorem gval_eq {h : HD} {len sz : Nat} {ys : List Value} (ho : gok h len sz ys) : gval h len = .slice (gp h) len (gc h) := by
  obtain _ | ⟨b, cap, sp⟩ := h
  · have : len = 0 := ho.2
    subst this; rfl
  · rfl
theorem IntsAt.g {w0 w : World} {G : Heap} {x : HD × List Int} (hn : New w0 w G) (hm : ∀ y ∈ gbI x, y ∈ G) (ho : goI x) : IntsAt w (gp x.1) x.2 := by
  obtain ⟨_ | ⟨b, cap, sp⟩, l⟩ := x
  · intro j hj
    have : l.length = 0 := ho.2
    simp only at hj
    omega
  · exact IntsAt.blk hn (hm _ (.head _))
section
variable {P : Program} {n : Nat} {w0 : World} {E : Env} {G : Heap}
def cutA (p : Option Addr) (cap l s : Nat) : Option Addr := if cap = l then p else p.map (·.add (l * s))
section
variable {d : Option Nat} {ty : TypeId} {pos : String} {aft : Array Edge} {g : Option (Nat × Bool)}
theorem PV.sliceH {x y : Operand} {p : Option Addr} {len cap e s h : Nat} {i : Int} {t : Nat} (hx : evo E x = some (.slice p len cap)) (hy : evo E y = some (.int .i64 i))
    (ht : elemOf' P t = some (e, s)) (hi : i = (h : Int)) (hh : h ≤ cap) : PV P n w0 E G ⟨d, .slice t x none (some y) none, ty, pos, aft, g⟩ (.slice (cutA p cap 0 s) h cap) :=
  fun a w hs => by
    unfold elemOf' at ht
    cases hu : P.underlying t with
    | none => simp [hu] at ht
    | some u =>
      cases u <;> simp only [hu] at ht <;> try (simp at ht; done)
      rename_i e'
      cases hinf : P.info? e' with
      | none => simp [hinf] at ht
      | some inf =>
        simp [hinf] at ht
        obtain ⟨rfl, rfl⟩ := ht
        simp only [execOp, hs.ev hx, Option.map_some, hs.ev hy, Option.map_none]
        subst hi
        simp [Instr.sliceAt, Instr.slice, run_underlying hu, Instr.sliceBounds, run_sliceBound, sizeOf, typeInfo, hinf, hh, cutA]
theorem PV.sliceL {x y : Operand} {p : Option Addr} {len cap e s l : Nat} {i : Int} {t : Nat} (hx : evo E x = some (.slice p len cap)) (hy : evo E y = some (.int .i64 i))
    (ht : elemOf' P t = some (e, s)) (hi : i = (l : Int)) (hl : l ≤ len) : PV P n w0 E G ⟨d, .slice t x (some y) none none, ty, pos, aft, g⟩ (.slice (cutA p cap l s) (len - l) (cap - l)) :=
  fun a w hs => by
    unfold elemOf' at ht
    cases hu : P.underlying t with
    | none => simp [hu] at ht
    | some u =>
      cases u <;> simp only [hu] at ht <;> try (simp at ht; done)
      rename_i e'
      cases hinf : P.info? e' with
      | none => simp [hinf] at ht
      | some inf =>
        simp [hinf] at ht
        obtain ⟨rfl, rfl⟩ := ht
        simp only [execOp, hs.ev hx, Option.map_some, hs.ev hy, Option.map_none]
        subst hi
        simp [Instr.sliceAt, Instr.slice, run_underlying hu, Instr.sliceBounds, run_sliceBound, sizeOf, typeInfo, hinf, hl, cutA]
end
theorem TC.lit {c : Code} {Q : Exit → Act → World → Prop} (E' : Env) (he : Le E' E) (h : TC P n w0 c Q E' G) : TC P n w0 c Q E G := fun a w hs => h a w (hs.env_le fun k v hk => Le.le he k v hk)
variable {a : Act} {w : World} {ops : Array Oper} {Q : Exit → Act → World → Prop} {l : List Oper}
variable {d : Nat} {ty : TypeId} {pos : String} {aft : Array Edge} {g : Option (Nat × Bool)}
theorem TL.buildSlice0 {t e sz by_ : Nat} {z : Value} (ht : P.underlying t = some (.slice e)) (hz : zeroI P e = some (z, sz, by_)) (hg : wants ops E g = some true) (hd : d < n)
    (h : ∀ b, w0.heap.size ≤ b → TL P n w0 ops Q l ((d, .slice (some ⟨b, 0, none⟩) 0 0) :: E) ((b, .cells #[] e (0, 0)) :: G)) :
    TL P n w0 ops Q (⟨some d, .buildSlice t 0 #[], ty, pos, aft, g⟩ :: l) E G :=
  TL.step hg fun a w hs => by
    unfold zeroI at hz
    cases hinf : P.info? e with
    | none => simp [hinf] at hz
    | some inf =>
      have hr : (execOp a.eval ⟨some d, .buildSlice t 0 #[], ty, pos, aft, g⟩).run P w = .ok (.value (.slice (some ⟨w.heap.size, 0, none⟩) 0 0)) (w.alloc (.cells #[] e)) := by
        have e0 : ∀ f : Nat → Value, Array.map f (Array.range 0) = #[] := fun f => Array.eq_empty_of_size_eq_zero (by rw [Array.size_map, Array.size_range])
        simp only [execOp]
        simp [Instr.buildSlice, run_underlying ht, sizeOf, typeInfo, hinf, newRow, Instr.fill, e0]
      unfold Oper.wp
      rw [hr]
      exact h _ hs.new.below.size _ _ ((hs.world (hs.new.alloc _)).put hd _)
end
section
variable {n : Nat} {w0 : World} {E : Env} {G : Heap} {d : Nat} {ty : TypeId} {pos : String} {aft : Array Edge} {g : Option (Nat × Bool)} {ops : Array Oper} {Q : Exit → Act → World → Prop} {l : List Oper}
theorem TL.appendI {s x : Operand} {x0 : HD × List Int} {b : Nat} {v : Int} {R : Heap} (hsv : evo E s = some (gvI x0)) (hx : evo E x = some (.slice (some ⟨b, 0, none⟩) 1 1)) (hm : (b, Obj.cells #[.int .i64 v] 3 (0, 0)) ∈ G)
    (hok : goI x0) (hT : TakeH x0.1 3 (ival x0.2) G R) (hb : x0.2.length ≤ 1000000) (hg : wants ops E g = some true) (hd : d < n)
    (h : ∀ h', goI (h', x0.2 ++ [v]) → TL Tryz.prog n w0 ops Q l ((d, gvI (h', x0.2 ++ [v])) :: E) (gbI (h', x0.2 ++ [v]) ++ R)) :
    TL Tryz.prog n w0 ops Q (⟨some d, .call { callee := .builtin .append, args := #[s, x], argTypes := #[25, 25] }, ty, pos, aft, g⟩ :: l) E G := by
  refine TL.append (news := [.int .i64 v]) (m := 1) hsv hx Tb.sl_25 Tb.zi_3 rfl (by decide) hok hT (fun a w hs => src_blk Tb.sl_25 hm rfl (fun j v h => by simpa using h) rfl hs.new) (fun w' hN => src_blk Tb.sl_25 hm rfl (fun j v h => by simpa using h) rfl hN) (by omega) (by omega) hg hd (fun h' hok' _ => ?_)
  have hh := h h'
  unfold goI gvI gbI ival at hh
  simp only [List.map_append, List.length_append, List.map_cons, List.map_nil, List.length_cons, List.length_nil, Nat.zero_add] at hh
  exact hh hok'
end
section
variable {P : Program} {n : Nat} {w0 : World} {E : Env} {G : Heap}
section
variable {d : Option Nat} {ty : TypeId} {pos : String} {aft : Array Edge} {g : Option (Nat × Bool)}
end
variable {ops : Array Oper} {Q : Exit → Act → World → Prop} {l : List Oper}
variable {ty : TypeId} {pos : String} {aft : Array Edge} {g : Option (Nat × Bool)}
end
section
variable {P : Program} {n : Nat} {w0 : World} {E : Env} {G : Heap} {d : Option Nat} {ty : TypeId} {pos : String} {aft : Array Edge} {g : Option (Nat × Bool)}
theorem PV.sliceHb {x y : Operand} {b len cap e s h : Nat} {i : Int} {t : Nat} (hx : evo E x = some (.slice (some ⟨b, 0, none⟩) len cap)) (hy : evo E y = some (.int .i64 i))
    (ht : elemOf' P t = some (e, s)) (hi : i = (h : Int)) (hh : h ≤ cap) : PV P n w0 E G ⟨d, .slice t x none (some y) none, ty, pos, aft, g⟩ (.slice (some ⟨b, 0, none⟩) h cap) := by
  have hp := PV.sliceH (P := P) (n := n) (w0 := w0) (G := G) (d := d) (ty := ty) (pos := pos) (aft := aft) (g := g) hx hy ht hi hh
  have e0 : cutA (some ⟨b, 0, none⟩) cap 0 s = some ⟨b, 0, none⟩ := by unfold cutA; split <;> simp [add_off]
  rw [e0] at hp
  exact hp
end
def bdc (l : List Bd) : List Value := l.flatMap Bd.cells
abbrev gbB (e : TypeId) (h : HD) (l : List Bd) : Heap := gblk h e (bdc l)
abbrev goB (h : HD) (l : List Bd) : Prop := gok h l.length 3 (bdc l)
theorem gval_one (h : HD) (K : Nat) : (gval h K).oneCell' = true := by cases h <;> rfl
section
variable {P : Program} {n : Nat} {w0 : World} {E : Env} {G : Heap} {d : Nat} {ty : TypeId} {pos : String} {aft : Array Edge} {g : Option (Nat × Bool)} {ops : Array Oper} {Q : Exit → Act → World → Prop} {l : List Oper}
end
def setF (r : Bd) (f : Nat) (v : Int) : Bd := match f with
  | 0 => { r with a := v }
  | 1 => { r with b := v }
  | _ => { r with m := v }
inductive PutH (e : TypeId) : HD → List Value → List Value → Heap → Heap → Prop
  | here (h : HD) (ys ys' : List Value) (G : Heap) : PutH e h ys ys' (gblk h e ys ++ G) (gblk h e ys' ++ G)
  | tail (p : Nat × Obj) {h : HD} {ys ys' : List Value} {G R : Heap} (t : PutH e h ys ys' G R) : PutH e h ys ys' (p :: G) (p :: R)
  | app (A : Heap) {h : HD} {ys ys' : List Value} {G R : Heap} (t : PutH e h ys ys' G R) : PutH e h ys ys' (A ++ G) (A ++ R)
theorem PutH.upd {e : TypeId} {b cap : Nat} {sp ys ys' : List Value} {G R : Heap} : PutH e (some (b, cap, sp)) ys ys' G R → Upd b (.cells (ys ++ sp).toArray e (0, 0)) (.cells (ys' ++ sp).toArray e (0, 0)) G R := by
  intro t
  generalize hh : (some (b, cap, sp) : HD) = h at t
  induction t with
  | here => subst hh; exact Upd.head _
  | tail p t ih => exact (ih hh).tail p
  | app A t ih => exact (ih hh).appR A
section
variable {P : Program} {n : Nat} {w0 : World} {E : Env} {G : Heap} {ty : TypeId} {pos : String} {aft : Array Edge} {g : Option (Nat × Bool)} {ops : Array Oper} {Q : Exit → Act → World → Prop} {l : List Oper}
end
end Go.Proofs.YtbnjmkidbfmomaaGreatDoor
namespace Go.Sx
open Go.RowKit Go.Proofs.YtbnjmkidbfmomaaGreatDoor
structure Rec (α : Type) where
  cells : α → List Value
  sz : Nat
  len : ∀ r, (cells r).length = sz
  one : ∀ r, ∀ v ∈ cells r, v.oneCell' = true
  pos : 0 < sz
variable {α : Type}
abbrev rval (R : Rec α) (r : α) : Value := .agg (R.cells r).toArray
def rcs (R : Rec α) (l : List α) : List Value := l.flatMap R.cells
theorem rcs_len {R : Rec α} : ∀ l : List α, (rcs R l).length = l.length * R.sz
  | [] => by simp [rcs]
  | a :: l => by
    have := rcs_len (R := R) l
    have h := R.len a
    simp only [rcs, List.flatMap_cons, List.length_append, List.length_cons] at this ⊢
    rw [this, h, Nat.add_mul]; omega
theorem rcs_get [Inhabited α] {R : Rec α} : ∀ {l : List α} {k i : Nat}, k < l.length → i < R.sz → (rcs R l)[k * R.sz + i]? = (R.cells (l.getD k default))[i]?
  | [], _, _, h, _ => by simp at h
  | a :: l, 0, i, _, hi => by
    have h := R.len a
    simp only [rcs, List.flatMap_cons, Nat.zero_mul, Nat.zero_add]
    rw [List.getElem?_append_left (by omega)]
    rfl
  | a :: l, k + 1, i, h, hi => by
    have := rcs_get (l := l) (k := k) (i := i) (by simpa using h) hi
    have hl := R.len a
    simp only [rcs, List.flatMap_cons] at this ⊢
    rw [List.getElem?_append_right (by rw [hl, Nat.add_mul]; omega)]
    rw [show (k + 1) * R.sz + i - (R.cells a).length = k * R.sz + i by rw [hl, Nat.add_mul]; omega, this]
    rfl
theorem rcs_setF [Inhabited α] {R : Rec α} {f : Nat} (hf : f < R.sz) {v : Value} {r : α} : ∀ {l : List α} {j : Nat}, j < l.length → (R.cells (l.getD j default)).set f v = R.cells r → (rcs R l).set (j * R.sz + f) v = rcs R (l.set j r)
  | [], _, h, _ => by simp at h
  | a :: l, 0, _, he => by
    have hl := R.len a
    simp only [rcs, List.flatMap_cons, Nat.zero_mul, Nat.zero_add, List.set_cons_zero]
    rw [List.set_append_left _ _ (by omega)]
    simp only [List.getD_cons_zero] at he
    rw [he]
  | a :: l, j + 1, h, he => by
    have ih := rcs_setF hf (l := l) (j := j) (by simpa using h) (by simpa using he)
    have hl := R.len a
    simp only [rcs, List.flatMap_cons, List.set_cons_succ] at ih ⊢
    rw [List.set_append_right _ _ (by rw [hl, Nat.add_mul]; omega), show (j + 1) * R.sz + f - (R.cells a).length = j * R.sz + f by rw [hl, Nat.add_mul]; omega, ih]
abbrev gbR (R : Rec α) (e : TypeId) (h : HD) (l : List α) : Heap := gblk h e (rcs R l)
abbrev goR (R : Rec α) (h : HD) (l : List α) : Prop := gok h l.length R.sz (rcs R l)
theorem goR_len {R : Rec α} {h : HD} {l l' : List α} (ho : goR R h l) (e : l'.length = l.length) : goR R h l' := by
  obtain ⟨h1, h2⟩ := ho
  have e1 := rcs_len (R := R) l
  have e2 := rcs_len (R := R) l'
  refine ⟨e2, ?_⟩
  rw [e] at e2
  cases h with
  | none => simpa [e] using h2
  | some hh => obtain ⟨b, cap, sp⟩ := hh; simp only at h2 ⊢; rw [e2, e]; rw [e1] at h2; exact h2
def RecsAt [Inhabited α] (R : Rec α) (w : World) (p : Option Addr) (rs : List α) : Prop :=
  ∀ j, j < rs.length → ∃ q, p = some q ∧ ∀ i v, (R.cells (rs.getD j default))[i]? = some v → w.cell? ((q.add (j * R.sz)).add i) = some v
theorem RecsAt.s [Inhabited α] {R : Rec α} {w0 w : World} {G : Heap} {e : TypeId} {h : HD} {l : List α} (hn : New w0 w G) (hm : ∀ y ∈ gbR R e h l, y ∈ G) (ho : goR R h l) : RecsAt R w (gp h) l := by
  obtain _ | ⟨b, cap, sp⟩ := h
  · intro j hj
    have : l.length = 0 := ho.2
    omega
  · intro j hj
    refine ⟨⟨b, 0, none⟩, rfl, fun i v hv => ?_⟩
    have hi : i < R.sz := by have := (List.getElem?_eq_some_iff.1 hv).1; rwa [R.len] at this
    have hl := rcs_len (R := R) l
    have hlt : j * R.sz + i < l.length * R.sz := by
      have : (j + 1) * R.sz ≤ l.length * R.sz := Nat.mul_le_mul_right _ hj
      rw [Nat.add_mul] at this; omega
    rw [addr_add_add, add_off, Nat.zero_add]
    refine hn.cell (hm _ (.head _)) ?_
    rw [List.getElem?_toArray, List.getElem?_append_left (by omega), rcs_get hj hi]
    exact hv
section
variable {R : Rec α} {P : Program} {n : Nat} {w0 : World} {E : Env} {G : Heap} {ty : TypeId} {pos : String} {aft : Array Edge} {g : Option (Nat × Bool)} {ops : Array Oper} {Q : Exit → Act → World → Prop} {l : List Oper}
theorem TL.appendRec {d : Nat} {t e by_ : Nat} {z : Value} {s x : Operand} {h0 : HD} {ys : List α} {b : Nat} {r : α} {R' : Heap} (ht : P.underlying t = some (.slice e)) (hz : zeroI P e = some (z, R.sz, by_)) (hzs : z.cells.size = R.sz)
    (hsv : evo E s = some (gval h0 ys.length)) (hx : evo E x = some (.slice (some ⟨b, 0, none⟩) 1 1)) (hm : (b, Obj.cells (R.cells r).toArray e (0, 0)) ∈ G)
    (hok : goR R h0 ys) (hT : TakeH h0 e (rcs R ys) G R') (hb : (ys.length + 1) * by_ ≤ 140737488355328) (hb2 : ys.length ≤ 1000000000) (hg : wants ops E g = some true) (hd : d < n)
    (h : ∀ h', goR R h' (ys ++ [r]) → TL P n w0 ops Q l ((d, gval h' (ys ++ [r]).length) :: E) (gbR R e h' (ys ++ [r]) ++ R')) :
    TL P n w0 ops Q (⟨some d, .call { callee := .builtin .append, args := #[s, x], argTypes := #[t, t] }, ty, pos, aft, g⟩ :: l) E G := by
  have hnews : ∀ (j : Nat) (w : Value), (R.cells r)[j]? = some w → (R.cells r).toArray[j]? = some w := fun j w h => by simpa using h
  have hone : (R.cells r).all Value.oneCell' = true := List.all_eq_true.2 (R.one r)
  refine TL.append (news := R.cells r) (m := 1) hsv hx ht hz hzs R.pos hok hT (fun a w hs => src_blk ht hm (by rw [Nat.one_mul]; exact R.len r) hnews hone hs.new) (fun w' hN => src_blk ht hm (by rw [Nat.one_mul]; exact R.len r) hnews hone hN) hb (by omega) hg hd (fun h' hok' _ => ?_)
  have hh := h h'
  unfold goR gbR at hh
  have e1 : rcs R (ys ++ [r]) = rcs R ys ++ R.cells r := by simp [rcs]
  rw [e1, List.length_append] at hh
  exact hh hok'
theorem TL.putCell [Inhabited α] {dd : Option Nat} {x y : Operand} {h : HD} {l0 : List α} {j f t : Nat} {e : TypeId} {v : Value} {r : α} {G' : Heap} (hx : evo E x = some (.pointer (some ⟨(h.map (·.1)).getD 0, j * R.sz + f, none⟩))) (hy : evo E y = some v)
    (hsz : cellsN P t = some 1) (hv1 : v.oneCell' = true) (hok : goR R h l0) (hr : (R.cells (l0.getD j default)).set f v = R.cells r) (hT : PutH e h (rcs R l0) (rcs R (l0.set j r)) G G') (hj : j < l0.length) (hf : f < R.sz) (hg : wants ops E g = some true) (hdd : dd = none)
    (hk : TL P n w0 ops Q l E G') : TL P n w0 ops Q (⟨dd, .store t x y, ty, pos, aft, g⟩ :: l) E G := by
  cases h with
  | none => exact absurd hok.2 (by simp only; omega)
  | some hh =>
    obtain ⟨b, cap, sp⟩ := hh
    have hl := rcs_len (R := R) l0
    have hlt : j * R.sz + f < l0.length * R.sz := by
      have : (j + 1) * R.sz ≤ l0.length * R.sz := Nat.mul_le_mul_right _ hj
      rw [Nat.add_mul] at this; omega
    have e9 : (rcs R l0 ++ sp).toArray.setIfInBounds (j * R.sz + f) v = (rcs R (l0.set j r) ++ sp).toArray := by
      rw [← rcs_setF hf hj hr]
      simp only [List.setIfInBounds_toArray]
      rw [List.set_append_left _ _ (by omega)]
    exact TL.store (cs := (rcs R l0 ++ sp).toArray) (b := b) (off := j * R.sz + f) (v := v) (e := e) hx hy hsz hv1 (by rw [e9]; exact hT.upd) (by simp; omega) hg hdd hk
end
end Go.Sx
