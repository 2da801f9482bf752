/- Facts on the types and functions of the program, each by a reckoning of the kernel. -/
import Derived.Test.YtfgjojoipbbacaaChecked
import Derived.Test.YtfgjojoipbbacaaQSz
import Derived.KernelRfl
set_option linter.unusedVariables false
set_option linter.unusedSimpArgs false
namespace Go.Proofs.Ytfgjojoipbbacaa.Tb
open Go.Sx
theorem mixed : Try.prog.follows .mixedOrders = true := by kernel_rfl
theorem gofn_17 : goFn Try.prog 17 = true := by kernel_rfl
theorem gofn_19 : goFn Try.prog 19 = true := by kernel_rfl
theorem gofn_21 : goFn Try.prog 21 = true := by kernel_rfl
theorem gofn_23 : goFn Try.prog 23 = true := by kernel_rfl
theorem gofn_25 : goFn Try.prog 25 = true := by kernel_rfl
theorem gofn_27 : goFn Try.prog 27 = true := by kernel_rfl
theorem gofn_31 : goFn Try.prog 31 = true := by kernel_rfl
theorem gofn_33 : goFn Try.prog 33 = true := by kernel_rfl
theorem gofn_39 : goFn Try.prog 39 = true := by kernel_rfl
theorem gofn_45 : goFn Try.prog 45 = true := by kernel_rfl
theorem gofn_53 : goFn Try.prog 53 = true := by kernel_rfl
theorem gofn_55 : goFn Try.prog 55 = true := by kernel_rfl
theorem gofn_57 : goFn Try.prog 57 = true := by kernel_rfl
theorem gofn_59 : goFn Try.prog 59 = true := by kernel_rfl
theorem gofn_60 : goFn Try.prog 60 = true := by kernel_rfl
theorem gofn_62 : goFn Try.prog 62 = true := by kernel_rfl
theorem gofn_63 : goFn Try.prog 63 = true := by kernel_rfl
theorem gofn_64 : goFn Try.prog 64 = true := by kernel_rfl
theorem gofn_65 : goFn Try.prog 65 = true := by kernel_rfl
theorem gofn_68 : goFn Try.prog 68 = true := by kernel_rfl
theorem gofn_69 : goFn Try.prog 69 = true := by kernel_rfl
theorem gofn_72 : goFn Try.prog 72 = true := by kernel_rfl
theorem gofn_74 : goFn Try.prog 74 = true := by kernel_rfl
theorem gofn_76 : goFn Try.prog 76 = true := by kernel_rfl
theorem gofn_79 : goFn Try.prog 79 = true := by kernel_rfl
theorem gofn_81 : goFn Try.prog 81 = true := by kernel_rfl
theorem gofn_84 : goFn Try.prog 84 = true := by kernel_rfl
theorem gofn_85 : goFn Try.prog 85 = true := by kernel_rfl
theorem gofn_86 : goFn Try.prog 86 = true := by kernel_rfl
theorem gofn_88 : goFn Try.prog 88 = true := by kernel_rfl
theorem gofn_89 : goFn Try.prog 89 = true := by kernel_rfl
theorem gofn_90 : goFn Try.prog 90 = true := by kernel_rfl
theorem gofn_92 : goFn Try.prog 92 = true := by kernel_rfl
theorem gofn_93 : goFn Try.prog 93 = true := by kernel_rfl
theorem gofn_94 : goFn Try.prog 94 = true := by kernel_rfl
theorem gofn_95 : goFn Try.prog 95 = true := by kernel_rfl
theorem gofn_97 : goFn Try.prog 97 = true := by kernel_rfl
theorem gofn_98 : goFn Try.prog 98 = true := by kernel_rfl
theorem gofn_99 : goFn Try.prog 99 = true := by kernel_rfl
theorem gofn_100 : goFn Try.prog 100 = true := by kernel_rfl
theorem gofn_104 : goFn Try.prog 104 = true := by kernel_rfl
theorem gofn_105 : goFn Try.prog 105 = true := by kernel_rfl
theorem gofn_106 : goFn Try.prog 106 = true := by kernel_rfl
theorem gofn_107 : goFn Try.prog 107 = true := by kernel_rfl
theorem gofn_112 : goFn Try.prog 112 = true := by kernel_rfl
theorem gofn_113 : goFn Try.prog 113 = true := by kernel_rfl
theorem gofn_118 : goFn Try.prog 118 = true := by kernel_rfl
theorem cells_3 : cellsN Try.prog 3 = some 1 := by kernel_rfl
theorem zero_3 : zeroOf Try.prog 3 = some (Value.int .i64 0) := by kernel_rfl
theorem one_3 : oneB Try.prog 3 = true := by kernel_rfl
theorem zi_3 : zeroI Try.prog 3 = some (Value.int .i64 0, 1, 8) := by kernel_rfl
theorem int_3 : Try.prog.underlying 3 = some (.int .i64) := by kernel_rfl
theorem one_22 : oneB Try.prog 22 = true := by kernel_rfl
theorem elm_22 : elemOf' Try.prog 22 = some (25, 1) := by kernel_rfl
theorem sl_22 : Try.prog.underlying 22 = some (.slice 25) := by kernel_rfl
theorem cells_24 : cellsN Try.prog 24 = some 1 := by kernel_rfl
theorem zero_24 : zeroOf Try.prog 24 = some (Value.agg #[(.slice none 0 0)]) := by kernel_rfl
theorem agg_24 : aggSize Try.prog 24 = some 1 := by kernel_rfl
theorem fo_24_0 : fieldOff Try.prog 24 0 = some 0 := by kernel_rfl
theorem pl_24 : placesOf Try.prog 24 = some [(0, 1)] := by kernel_rfl
theorem cells_25 : cellsN Try.prog 25 = some 1 := by kernel_rfl
theorem one_25 : oneB Try.prog 25 = true := by kernel_rfl
theorem elm_25 : elemOf' Try.prog 25 = some (3, 1) := by kernel_rfl
theorem sl_25 : Try.prog.underlying 25 = some (.slice 3) := by kernel_rfl
theorem zi_25 : zeroI Try.prog 25 = some (Value.slice none 0 0, 1, 24) := by kernel_rfl
theorem one_55 : oneB Try.prog 55 = true := by kernel_rfl
theorem elm_55 : elemOf' Try.prog 55 = some (90, 4) := by kernel_rfl
theorem sl_55 : Try.prog.underlying 55 = some (.slice 90) := by kernel_rfl
theorem cells_69 : cellsN Try.prog 69 = some 6 := by kernel_rfl
theorem zero_69 : zeroOf Try.prog 69 = some (Value.agg #[(.int .i64 0), (.int .i64 0), (.int .i64 0), (.int .i64 0), (.int .i64 0), (.int .i64 0)]) := by kernel_rfl
theorem agg_69 : aggSize Try.prog 69 = some 6 := by kernel_rfl
theorem zi_69 : zeroI Try.prog 69 = some (Value.agg #[(.int .i64 0), (.int .i64 0), (.int .i64 0), (.int .i64 0), (.int .i64 0), (.int .i64 0)], 6, 48) := by kernel_rfl
theorem elm_82 : elemOf' Try.prog 82 = some (69, 6) := by kernel_rfl
theorem sl_82 : Try.prog.underlying 82 = some (.slice 69) := by kernel_rfl
theorem cells_90 : cellsN Try.prog 90 = some 4 := by kernel_rfl
theorem zero_90 : zeroOf Try.prog 90 = some (Value.agg #[(.int .i64 0), (.int .i64 0), (.int .i64 0), (.int .i64 0)]) := by kernel_rfl
theorem agg_90 : aggSize Try.prog 90 = some 4 := by kernel_rfl
theorem fo_90_0 : fieldOff Try.prog 90 0 = some 0 := by kernel_rfl
theorem fo_90_1 : fieldOff Try.prog 90 1 = some 1 := by kernel_rfl
theorem fo_90_2 : fieldOff Try.prog 90 2 = some 2 := by kernel_rfl
theorem fo_90_3 : fieldOff Try.prog 90 3 = some 3 := by kernel_rfl
theorem pl_90 : placesOf Try.prog 90 = some [(0, 1), (1, 1), (2, 1), (3, 1)] := by kernel_rfl
theorem zi_90 : zeroI Try.prog 90 = some (Value.agg #[(.int .i64 0), (.int .i64 0), (.int .i64 0), (.int .i64 0)], 4, 32) := by kernel_rfl
theorem one_92 : oneB Try.prog 92 = true := by kernel_rfl
theorem cells_95 : cellsN Try.prog 95 = some 2 := by kernel_rfl
theorem zero_95 : zeroOf Try.prog 95 = some (Value.agg #[(.int .i64 0), (.int .i64 0)]) := by kernel_rfl
theorem agg_95 : aggSize Try.prog 95 = some 2 := by kernel_rfl
theorem pl_95 : placesOf Try.prog 95 = some [(0, 1), (1, 1)] := by kernel_rfl
theorem cells_99 : cellsN Try.prog 99 = some 2 := by kernel_rfl
theorem zero_99 : zeroOf Try.prog 99 = some (Value.agg #[(.slice none 0 0), (.map none)]) := by kernel_rfl
theorem fo_99_0 : fieldOff Try.prog 99 0 = some 0 := by kernel_rfl
theorem fo_99_1 : fieldOff Try.prog 99 1 = some 1 := by kernel_rfl
theorem pl_99 : placesOf Try.prog 99 = some [(0, 1), (1, 1)] := by kernel_rfl
end Go.Proofs.Ytfgjojoipbbacaa.Tb
