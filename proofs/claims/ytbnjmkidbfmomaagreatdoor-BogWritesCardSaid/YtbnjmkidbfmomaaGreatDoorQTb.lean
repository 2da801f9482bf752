/- Facts on the types and functions of the program, each by a reckoning of the kernel. -/
import Derived.Test.YtbnjmkidbfmomaaGreatDoorChecked
import Derived.Test.YtbnjmkidbfmomaaGreatDoorQSz
import Derived.KernelRfl
set_option linter.unusedSimpArgs false
set_option linter.unusedVariables false
namespace Go.Proofs.YtbnjmkidbfmomaaGreatDoor.Tb
open Go.Sx
theorem mixed : Tryz.prog.follows .mixedOrders = true := by kernel_rfl
theorem gofn_18 : goFn Tryz.prog 18 = true := by kernel_rfl
theorem gofn_21 : goFn Tryz.prog 21 = true := by kernel_rfl
theorem gofn_22 : goFn Tryz.prog 22 = true := by kernel_rfl
theorem gofn_31 : goFn Tryz.prog 31 = true := by kernel_rfl
theorem gofn_43 : goFn Tryz.prog 43 = true := by kernel_rfl
theorem gofn_44 : goFn Tryz.prog 44 = true := by kernel_rfl
theorem gofn_45 : goFn Tryz.prog 45 = true := by kernel_rfl
theorem gofn_46 : goFn Tryz.prog 46 = true := by kernel_rfl
theorem gofn_47 : goFn Tryz.prog 47 = true := by kernel_rfl
theorem gofn_48 : goFn Tryz.prog 48 = true := by kernel_rfl
theorem gofn_52 : goFn Tryz.prog 52 = true := by kernel_rfl
theorem gofn_53 : goFn Tryz.prog 53 = true := by kernel_rfl
theorem gofn_55 : goFn Tryz.prog 55 = true := by kernel_rfl
theorem gofn_59 : goFn Tryz.prog 59 = true := by kernel_rfl
theorem gofn_61 : goFn Tryz.prog 61 = true := by kernel_rfl
theorem gofn_62 : goFn Tryz.prog 62 = true := by kernel_rfl
theorem gofn_63 : goFn Tryz.prog 63 = true := by kernel_rfl
theorem gofn_64 : goFn Tryz.prog 64 = true := by kernel_rfl
theorem gofn_65 : goFn Tryz.prog 65 = true := by kernel_rfl
theorem gofn_66 : goFn Tryz.prog 66 = true := by kernel_rfl
theorem gofn_67 : goFn Tryz.prog 67 = true := by kernel_rfl
theorem gofn_68 : goFn Tryz.prog 68 = true := by kernel_rfl
theorem gofn_71 : goFn Tryz.prog 71 = true := by kernel_rfl
theorem gofn_78 : goFn Tryz.prog 78 = true := by kernel_rfl
theorem gofn_79 : goFn Tryz.prog 79 = true := by kernel_rfl
theorem gofn_80 : goFn Tryz.prog 80 = true := by kernel_rfl
theorem gofn_81 : goFn Tryz.prog 81 = true := by kernel_rfl
theorem gofn_82 : goFn Tryz.prog 82 = true := by kernel_rfl
theorem gofn_83 : goFn Tryz.prog 83 = true := by kernel_rfl
theorem gofn_84 : goFn Tryz.prog 84 = true := by kernel_rfl
theorem gofn_85 : goFn Tryz.prog 85 = true := by kernel_rfl
theorem gofn_92 : goFn Tryz.prog 92 = true := by kernel_rfl
theorem gofn_93 : goFn Tryz.prog 93 = true := by kernel_rfl
theorem gofn_96 : goFn Tryz.prog 96 = true := by kernel_rfl
theorem gofn_97 : goFn Tryz.prog 97 = true := by kernel_rfl
theorem gofn_98 : goFn Tryz.prog 98 = true := by kernel_rfl
theorem gofn_99 : goFn Tryz.prog 99 = true := by kernel_rfl
theorem gofn_102 : goFn Tryz.prog 102 = true := by kernel_rfl
theorem gofn_103 : goFn Tryz.prog 103 = true := by kernel_rfl
theorem gofn_110 : goFn Tryz.prog 110 = true := by kernel_rfl
theorem gofn_111 : goFn Tryz.prog 111 = true := by kernel_rfl
theorem gofn_112 : goFn Tryz.prog 112 = true := by kernel_rfl
theorem gofn_124 : goFn Tryz.prog 124 = true := by kernel_rfl
theorem gofn_126 : goFn Tryz.prog 126 = true := by kernel_rfl
theorem gofn_131 : goFn Tryz.prog 131 = true := by kernel_rfl
theorem gofn_132 : goFn Tryz.prog 132 = true := by kernel_rfl
theorem gofn_135 : goFn Tryz.prog 135 = true := by kernel_rfl
theorem gofn_136 : goFn Tryz.prog 136 = true := by kernel_rfl
theorem gofn_137 : goFn Tryz.prog 137 = true := by kernel_rfl
theorem gofn_138 : goFn Tryz.prog 138 = true := by kernel_rfl
theorem gofn_147 : goFn Tryz.prog 147 = true := by kernel_rfl
theorem gofn_148 : goFn Tryz.prog 148 = true := by kernel_rfl
theorem gofn_149 : goFn Tryz.prog 149 = true := by kernel_rfl
theorem gofn_150 : goFn Tryz.prog 150 = true := by kernel_rfl
theorem gofn_151 : goFn Tryz.prog 151 = true := by kernel_rfl
theorem gofn_152 : goFn Tryz.prog 152 = true := by kernel_rfl
theorem gofn_153 : goFn Tryz.prog 153 = true := by kernel_rfl
theorem gofn_154 : goFn Tryz.prog 154 = true := by kernel_rfl
theorem gofn_158 : goFn Tryz.prog 158 = true := by kernel_rfl
theorem gofn_160 : goFn Tryz.prog 160 = true := by kernel_rfl
theorem gofn_170 : goFn Tryz.prog 170 = true := by kernel_rfl
theorem gofn_171 : goFn Tryz.prog 171 = true := by kernel_rfl
theorem gofn_172 : goFn Tryz.prog 172 = true := by kernel_rfl
theorem gofn_183 : goFn Tryz.prog 183 = true := by kernel_rfl
theorem gofn_184 : goFn Tryz.prog 184 = true := by kernel_rfl
theorem gofn_185 : goFn Tryz.prog 185 = true := by kernel_rfl
theorem gofn_186 : goFn Tryz.prog 186 = true := by kernel_rfl
theorem gofn_187 : goFn Tryz.prog 187 = true := by kernel_rfl
theorem gofn_188 : goFn Tryz.prog 188 = true := by kernel_rfl
theorem gofn_202 : goFn Tryz.prog 202 = true := by kernel_rfl
theorem gofn_203 : goFn Tryz.prog 203 = true := by kernel_rfl
theorem gofn_211 : goFn Tryz.prog 211 = true := by kernel_rfl
theorem gofn_212 : goFn Tryz.prog 212 = true := by kernel_rfl
theorem gofn_213 : goFn Tryz.prog 213 = true := by kernel_rfl
theorem gofn_214 : goFn Tryz.prog 214 = true := by kernel_rfl
theorem gofn_215 : goFn Tryz.prog 215 = true := by kernel_rfl
theorem gofn_216 : goFn Tryz.prog 216 = true := by kernel_rfl
theorem gofn_217 : goFn Tryz.prog 217 = true := by kernel_rfl
theorem gofn_218 : goFn Tryz.prog 218 = true := by kernel_rfl
theorem gofn_219 : goFn Tryz.prog 219 = true := by kernel_rfl
theorem gofn_225 : goFn Tryz.prog 225 = true := by kernel_rfl
theorem gofn_234 : goFn Tryz.prog 234 = true := by kernel_rfl
theorem gofn_235 : goFn Tryz.prog 235 = true := by kernel_rfl
theorem gofn_236 : goFn Tryz.prog 236 = true := by kernel_rfl
theorem gofn_237 : goFn Tryz.prog 237 = true := by kernel_rfl
theorem gofn_238 : goFn Tryz.prog 238 = true := by kernel_rfl
theorem gofn_239 : goFn Tryz.prog 239 = true := by kernel_rfl
theorem gofn_240 : goFn Tryz.prog 240 = true := by kernel_rfl
theorem gofn_242 : goFn Tryz.prog 242 = true := by kernel_rfl
theorem gofn_246 : goFn Tryz.prog 246 = true := by kernel_rfl
theorem gofn_247 : goFn Tryz.prog 247 = true := by kernel_rfl
theorem gofn_248 : goFn Tryz.prog 248 = true := by kernel_rfl
theorem gofn_249 : goFn Tryz.prog 249 = true := by kernel_rfl
theorem gofn_250 : goFn Tryz.prog 250 = true := by kernel_rfl
theorem gofn_251 : goFn Tryz.prog 251 = true := by kernel_rfl
theorem gofn_252 : goFn Tryz.prog 252 = true := by kernel_rfl
theorem gofn_253 : goFn Tryz.prog 253 = true := by kernel_rfl
theorem gofn_255 : goFn Tryz.prog 255 = true := by kernel_rfl
theorem cells_3 : cellsN Tryz.prog 3 = some 1 := by kernel_rfl
theorem zero_3 : zeroOf Tryz.prog 3 = some (Value.int .i64 0) := by kernel_rfl
theorem one_3 : oneB Tryz.prog 3 = true := by kernel_rfl
theorem zi_3 : zeroI Tryz.prog 3 = some (Value.int .i64 0, 1, 8) := by kernel_rfl
theorem int_3 : Tryz.prog.underlying 3 = some (.int .i64) := by kernel_rfl
theorem cells_4 : cellsN Tryz.prog 4 = some 1 := by kernel_rfl
theorem one_4 : oneB Tryz.prog 4 = true := by kernel_rfl
theorem zi_4 : zeroI Tryz.prog 4 = some (Value.bool false, 1, 1) := by kernel_rfl
theorem bool_4 : Tryz.prog.underlying 4 = some .bool := by kernel_rfl
theorem one_5 : oneB Tryz.prog 5 = true := by kernel_rfl
theorem int_5 : Tryz.prog.underlying 5 = some (.int .u8) := by kernel_rfl
theorem one_9 : oneB Tryz.prog 9 = true := by kernel_rfl
theorem zi_9 : zeroI Tryz.prog 9 = some (Value.string ⟨#[]⟩, 1, 16) := by kernel_rfl
theorem one_22 : oneB Tryz.prog 22 = true := by kernel_rfl
theorem elm_22 : elemOf' Tryz.prog 22 = some (25, 1) := by kernel_rfl
theorem sl_22 : Tryz.prog.underlying 22 = some (.slice 25) := by kernel_rfl
theorem zero_24 : zeroOf Tryz.prog 24 = some (Value.agg #[(.slice none 0 0)]) := by kernel_rfl
theorem agg_24 : aggSize Tryz.prog 24 = some 1 := by kernel_rfl
theorem fo_24_0 : fieldOff Tryz.prog 24 0 = some 0 := by kernel_rfl
theorem pl_24 : placesOf Tryz.prog 24 = some [(0, 1)] := by kernel_rfl
theorem cells_25 : cellsN Tryz.prog 25 = some 1 := by kernel_rfl
theorem one_25 : oneB Tryz.prog 25 = true := by kernel_rfl
theorem elm_25 : elemOf' Tryz.prog 25 = some (3, 1) := by kernel_rfl
theorem sl_25 : Tryz.prog.underlying 25 = some (.slice 3) := by kernel_rfl
theorem zi_25 : zeroI Tryz.prog 25 = some (Value.slice none 0 0, 1, 24) := by kernel_rfl
theorem zero_27 : zeroOf Tryz.prog 27 = some (Value.agg #[(.slice none 0 0), (.slice none 0 0)]) := by kernel_rfl
theorem agg_27 : aggSize Tryz.prog 27 = some 2 := by kernel_rfl
theorem fo_27_0 : fieldOff Tryz.prog 27 0 = some 0 := by kernel_rfl
theorem fo_27_1 : fieldOff Tryz.prog 27 1 = some 1 := by kernel_rfl
theorem pl_27 : placesOf Tryz.prog 27 = some [(0, 1), (1, 1)] := by kernel_rfl
theorem cells_29 : cellsN Tryz.prog 29 = some 4 := by kernel_rfl
theorem zero_29 : zeroOf Tryz.prog 29 = some (Value.agg #[(.slice none 0 0), (.slice none 0 0), (.slice none 0 0), (.int .i64 0)]) := by kernel_rfl
theorem agg_29 : aggSize Tryz.prog 29 = some 4 := by kernel_rfl
theorem fo_29_0 : fieldOff Tryz.prog 29 0 = some 0 := by kernel_rfl
theorem fo_29_1 : fieldOff Tryz.prog 29 1 = some 1 := by kernel_rfl
theorem fo_29_2 : fieldOff Tryz.prog 29 2 = some 3 := by kernel_rfl
theorem pl_29 : placesOf Tryz.prog 29 = some [(0, 1), (1, 2), (3, 1)] := by kernel_rfl
theorem one_31 : oneB Tryz.prog 31 = true := by kernel_rfl
theorem cells_43 : cellsN Tryz.prog 43 = some 1 := by kernel_rfl
theorem one_43 : oneB Tryz.prog 43 = true := by kernel_rfl
theorem elm_43 : elemOf' Tryz.prog 43 = some (9, 1) := by kernel_rfl
theorem sl_43 : Tryz.prog.underlying 43 = some (.slice 9) := by kernel_rfl
theorem cells_52 : cellsN Tryz.prog 52 = some 3 := by kernel_rfl
theorem zero_52 : zeroOf Tryz.prog 52 = some (Value.agg #[(.int .i64 0), (.int .i64 0), (.int .i64 0)]) := by kernel_rfl
theorem agg_52 : aggSize Tryz.prog 52 = some 3 := by kernel_rfl
theorem fo_52_0 : fieldOff Tryz.prog 52 0 = some 0 := by kernel_rfl
theorem fo_52_1 : fieldOff Tryz.prog 52 1 = some 1 := by kernel_rfl
theorem fo_52_2 : fieldOff Tryz.prog 52 2 = some 2 := by kernel_rfl
theorem pl_52 : placesOf Tryz.prog 52 = some [(0, 1), (1, 1), (2, 1)] := by kernel_rfl
theorem int_55 : Tryz.prog.underlying 55 = some (.int .u64) := by kernel_rfl
theorem zero_90 : zeroOf Tryz.prog 90 = some (Value.agg #[(.slice none 0 0), (.slice none 0 0), (.slice none 0 0), (.int .i64 0), (.int .i64 0), (.int .i64 0)]) := by kernel_rfl
theorem agg_90 : aggSize Tryz.prog 90 = some 6 := by kernel_rfl
theorem fo_90_0 : fieldOff Tryz.prog 90 0 = some 0 := by kernel_rfl
theorem fo_90_1 : fieldOff Tryz.prog 90 1 = some 1 := by kernel_rfl
theorem fo_90_2 : fieldOff Tryz.prog 90 2 = some 3 := by kernel_rfl
theorem pl_90 : placesOf Tryz.prog 90 = some [(0, 1), (1, 2), (3, 3)] := by kernel_rfl
theorem fo_99_0 : fieldOff Tryz.prog 99 0 = some 0 := by kernel_rfl
theorem fo_99_1 : fieldOff Tryz.prog 99 1 = some 1 := by kernel_rfl
theorem fo_99_2 : fieldOff Tryz.prog 99 2 = some 2 := by kernel_rfl
theorem fo_99_3 : fieldOff Tryz.prog 99 3 = some 3 := by kernel_rfl
theorem fo_99_4 : fieldOff Tryz.prog 99 4 = some 4 := by kernel_rfl
theorem fo_99_5 : fieldOff Tryz.prog 99 5 = some 5 := by kernel_rfl
theorem fo_99_6 : fieldOff Tryz.prog 99 6 = some 6 := by kernel_rfl
theorem cells_101 : cellsN Tryz.prog 101 = some 9 := by kernel_rfl
theorem zero_101 : zeroOf Tryz.prog 101 = some (Value.agg #[(.int .i64 0), (.int .i64 0), (.int .i64 0), (.int .i64 0), (.int .i64 0), (.int .i64 0), (.bool false), (.slice none 0 0), (.slice none 0 0)]) := by kernel_rfl
theorem agg_101 : aggSize Tryz.prog 101 = some 9 := by kernel_rfl
theorem fo_101_0 : fieldOff Tryz.prog 101 0 = some 0 := by kernel_rfl
theorem fo_101_1 : fieldOff Tryz.prog 101 1 = some 7 := by kernel_rfl
theorem fo_101_2 : fieldOff Tryz.prog 101 2 = some 8 := by kernel_rfl
theorem pl_101 : placesOf Tryz.prog 101 = some [(0, 7), (7, 1), (8, 1)] := by kernel_rfl
theorem zero_103 : zeroOf Tryz.prog 103 = some (Value.agg #[(.slice none 0 0), (.slice none 0 0), (.slice none 0 0), (.int .i64 0), (.int .i64 0), (.int .i64 0), (.int .i32 0), (.int .u32 0), (.int .i64 0), (.int .i64 0), (.int .i64 0), (.int .i64 0), (.int .i64 0), (.int .i64 0), (.bool false), (.slice none 0 0), (.slice none 0 0), (.slice none 0 0)]) := by kernel_rfl
theorem fo_103_0 : fieldOff Tryz.prog 103 0 = some 0 := by kernel_rfl
theorem fo_103_1 : fieldOff Tryz.prog 103 1 = some 6 := by kernel_rfl
theorem fo_103_2 : fieldOff Tryz.prog 103 2 = some 8 := by kernel_rfl
theorem fo_103_3 : fieldOff Tryz.prog 103 3 = some 17 := by kernel_rfl
theorem pl_103 : placesOf Tryz.prog 103 = some [(0, 6), (6, 2), (8, 9), (17, 1)] := by kernel_rfl
theorem cells_109 : cellsN Tryz.prog 109 = some 2 := by kernel_rfl
theorem zero_109 : zeroOf Tryz.prog 109 = some (Value.agg #[(.string ⟨#[]⟩), (.int .i64 0)]) := by kernel_rfl
theorem agg_109 : aggSize Tryz.prog 109 = some 2 := by kernel_rfl
theorem fo_109_1 : fieldOff Tryz.prog 109 1 = some 1 := by kernel_rfl
theorem pl_109 : placesOf Tryz.prog 109 = some [(0, 1), (1, 1)] := by kernel_rfl
theorem one_142 : oneB Tryz.prog 142 = true := by kernel_rfl
theorem cells_144 : cellsN Tryz.prog 144 = some 2 := by kernel_rfl
theorem zero_144 : zeroOf Tryz.prog 144 = some (Value.agg #[(.int .i64 0), (.slice none 0 0)]) := by kernel_rfl
theorem agg_144 : aggSize Tryz.prog 144 = some 2 := by kernel_rfl
theorem fo_144_0 : fieldOff Tryz.prog 144 0 = some 0 := by kernel_rfl
theorem fo_144_1 : fieldOff Tryz.prog 144 1 = some 1 := by kernel_rfl
theorem pl_144 : placesOf Tryz.prog 144 = some [(0, 1), (1, 1)] := by kernel_rfl
theorem elm_174 : elemOf' Tryz.prog 174 = some (4, 1) := by kernel_rfl
theorem sl_174 : Tryz.prog.underlying 174 = some (.slice 4) := by kernel_rfl
theorem int_231 : Tryz.prog.underlying 231 = some (.int .u64) := by kernel_rfl
theorem cells_250 : cellsN Tryz.prog 250 = some 6 := by kernel_rfl
theorem zero_250 : zeroOf Tryz.prog 250 = some (Value.agg #[(.int .i64 0), (.int .i64 0), (.int .i64 0), (.int .i64 0), (.int .i64 0), (.int .i64 0)]) := by kernel_rfl
theorem agg_250 : aggSize Tryz.prog 250 = some 6 := by kernel_rfl
end Go.Proofs.YtbnjmkidbfmomaaGreatDoor.Tb
