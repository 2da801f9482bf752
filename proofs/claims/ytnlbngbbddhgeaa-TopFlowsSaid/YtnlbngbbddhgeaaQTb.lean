/- Facts on the types and functions of the program, each by a reckoning of the kernel. -/
import Derived.Test.YtnlbngbbddhgeaaChecked
import Derived.Test.YtnlbngbbddhgeaaQSz
import Derived.KernelRfl
set_option linter.unusedVariables false
set_option linter.unusedSimpArgs false
namespace Go.Proofs.Ytnlbngbbddhgeaa.Tb
open Go.Sx
theorem mixed : Try.prog.follows .mixedOrders = true := by kernel_rfl
theorem gofn_16 : goFn Try.prog 16 = true := by kernel_rfl
theorem gofn_18 : goFn Try.prog 18 = true := by kernel_rfl
theorem gofn_20 : goFn Try.prog 20 = true := by kernel_rfl
theorem gofn_22 : goFn Try.prog 22 = true := by kernel_rfl
theorem gofn_24 : goFn Try.prog 24 = true := by kernel_rfl
theorem gofn_25 : goFn Try.prog 25 = true := by kernel_rfl
theorem gofn_27 : goFn Try.prog 27 = true := by kernel_rfl
theorem gofn_29 : goFn Try.prog 29 = true := by kernel_rfl
theorem gofn_31 : goFn Try.prog 31 = true := by kernel_rfl
theorem gofn_32 : goFn Try.prog 32 = true := by kernel_rfl
theorem gofn_34 : goFn Try.prog 34 = true := by kernel_rfl
theorem gofn_38 : goFn Try.prog 38 = true := by kernel_rfl
theorem gofn_43 : goFn Try.prog 43 = true := by kernel_rfl
theorem gofn_46 : goFn Try.prog 46 = true := by kernel_rfl
theorem gofn_51 : goFn Try.prog 51 = true := by kernel_rfl
theorem gofn_53 : goFn Try.prog 53 = true := by kernel_rfl
theorem gofn_54 : goFn Try.prog 54 = true := by kernel_rfl
theorem gofn_56 : goFn Try.prog 56 = true := by kernel_rfl
theorem gofn_59 : goFn Try.prog 59 = true := by kernel_rfl
theorem gofn_61 : goFn Try.prog 61 = true := by kernel_rfl
theorem gofn_62 : goFn Try.prog 62 = true := by kernel_rfl
theorem gofn_64 : goFn Try.prog 64 = true := by kernel_rfl
theorem gofn_65 : goFn Try.prog 65 = true := by kernel_rfl
theorem gofn_66 : goFn Try.prog 66 = true := by kernel_rfl
theorem gofn_67 : goFn Try.prog 67 = true := by kernel_rfl
theorem gofn_68 : goFn Try.prog 68 = true := by kernel_rfl
theorem gofn_69 : goFn Try.prog 69 = true := by kernel_rfl
theorem gofn_74 : goFn Try.prog 74 = true := by kernel_rfl
theorem gofn_76 : goFn Try.prog 76 = true := by kernel_rfl
theorem gofn_77 : goFn Try.prog 77 = true := by kernel_rfl
theorem gofn_80 : goFn Try.prog 80 = true := by kernel_rfl
theorem gofn_81 : goFn Try.prog 81 = true := by kernel_rfl
theorem gofn_82 : goFn Try.prog 82 = true := by kernel_rfl
theorem gofn_85 : goFn Try.prog 85 = true := by kernel_rfl
theorem gofn_86 : goFn Try.prog 86 = true := by kernel_rfl
theorem gofn_87 : goFn Try.prog 87 = true := by kernel_rfl
theorem gofn_88 : goFn Try.prog 88 = true := by kernel_rfl
theorem gofn_89 : goFn Try.prog 89 = true := by kernel_rfl
theorem gofn_90 : goFn Try.prog 90 = true := by kernel_rfl
theorem gofn_92 : goFn Try.prog 92 = true := by kernel_rfl
theorem gofn_94 : goFn Try.prog 94 = true := by kernel_rfl
theorem gofn_95 : goFn Try.prog 95 = true := by kernel_rfl
theorem gofn_96 : goFn Try.prog 96 = true := by kernel_rfl
theorem gofn_97 : goFn Try.prog 97 = true := by kernel_rfl
theorem gofn_98 : goFn Try.prog 98 = true := by kernel_rfl
theorem gofn_99 : goFn Try.prog 99 = true := by kernel_rfl
theorem cells_3 : cellsN Try.prog 3 = some 1 := by kernel_rfl
theorem zero_3 : zeroOf Try.prog 3 = some (Value.int .i64 0) := by kernel_rfl
theorem one_3 : oneB Try.prog 3 = true := by kernel_rfl
theorem zi_3 : zeroI Try.prog 3 = some (Value.int .i64 0, 1, 8) := by kernel_rfl
theorem int_3 : Try.prog.underlying 3 = some (.int .i64) := by kernel_rfl
theorem cells_4 : cellsN Try.prog 4 = some 1 := by kernel_rfl
theorem one_4 : oneB Try.prog 4 = true := by kernel_rfl
theorem zi_4 : zeroI Try.prog 4 = some (Value.bool false, 1, 1) := by kernel_rfl
theorem bool_4 : Try.prog.underlying 4 = some .bool := by kernel_rfl
theorem cells_22 : cellsN Try.prog 22 = some 1 := by kernel_rfl
theorem one_22 : oneB Try.prog 22 = true := by kernel_rfl
theorem elm_22 : elemOf' Try.prog 22 = some (40, 3) := by kernel_rfl
theorem sl_22 : Try.prog.underlying 22 = some (.slice 40) := by kernel_rfl
theorem cells_24 : cellsN Try.prog 24 = some 4 := by kernel_rfl
theorem zero_24 : zeroOf Try.prog 24 = some (Value.agg #[(.int .i64 0), (.int .i64 0), (.int .i64 0), (.slice none 0 0)]) := by kernel_rfl
theorem agg_24 : aggSize Try.prog 24 = some 4 := by kernel_rfl
theorem fo_24_0 : fieldOff Try.prog 24 0 = some 0 := by kernel_rfl
theorem fo_24_1 : fieldOff Try.prog 24 1 = some 1 := by kernel_rfl
theorem fo_24_2 : fieldOff Try.prog 24 2 = some 2 := by kernel_rfl
theorem fo_24_3 : fieldOff Try.prog 24 3 = some 3 := by kernel_rfl
theorem pl_24 : placesOf Try.prog 24 = some [(0, 1), (1, 1), (2, 1), (3, 1)] := by kernel_rfl
theorem one_25 : oneB Try.prog 25 = true := by kernel_rfl
theorem elm_25 : elemOf' Try.prog 25 = some (3, 1) := by kernel_rfl
theorem sl_25 : Try.prog.underlying 25 = some (.slice 3) := by kernel_rfl
theorem zi_25 : zeroI Try.prog 25 = some (Value.slice none 0 0, 1, 24) := by kernel_rfl
theorem cells_40 : cellsN Try.prog 40 = some 3 := by kernel_rfl
theorem zero_40 : zeroOf Try.prog 40 = some (Value.agg #[(.int .i64 0), (.int .i64 0), (.int .i64 0)]) := by kernel_rfl
theorem agg_40 : aggSize Try.prog 40 = some 3 := by kernel_rfl
theorem fo_40_0 : fieldOff Try.prog 40 0 = some 0 := by kernel_rfl
theorem fo_40_1 : fieldOff Try.prog 40 1 = some 1 := by kernel_rfl
theorem fo_40_2 : fieldOff Try.prog 40 2 = some 2 := by kernel_rfl
theorem pl_40 : placesOf Try.prog 40 = some [(0, 1), (1, 1), (2, 1)] := by kernel_rfl
theorem zi_40 : zeroI Try.prog 40 = some (Value.agg #[(.int .i64 0), (.int .i64 0), (.int .i64 0)], 3, 24) := by kernel_rfl
theorem elm_52 : elemOf' Try.prog 52 = some (89, 2) := by kernel_rfl
theorem sl_52 : Try.prog.underlying 52 = some (.slice 89) := by kernel_rfl
theorem cells_65 : cellsN Try.prog 65 = some 1 := by kernel_rfl
theorem zero_65 : zeroOf Try.prog 65 = some (Value.slice none 0 0) := by kernel_rfl
theorem one_65 : oneB Try.prog 65 = true := by kernel_rfl
theorem elm_65 : elemOf' Try.prog 65 = some (92, 4) := by kernel_rfl
theorem sl_65 : Try.prog.underlying 65 = some (.slice 92) := by kernel_rfl
theorem cells_68 : cellsN Try.prog 68 = some 2 := by kernel_rfl
theorem zero_68 : zeroOf Try.prog 68 = some (Value.agg #[(.slice none 0 0), (.int .i64 0)]) := by kernel_rfl
theorem agg_68 : aggSize Try.prog 68 = some 2 := by kernel_rfl
theorem fo_68_0 : fieldOff Try.prog 68 0 = some 0 := by kernel_rfl
theorem fo_68_1 : fieldOff Try.prog 68 1 = some 1 := by kernel_rfl
theorem pl_68 : placesOf Try.prog 68 = some [(0, 1), (1, 1)] := by kernel_rfl
theorem one_70 : oneB Try.prog 70 = true := by kernel_rfl
theorem elm_70 : elemOf' Try.prog 70 = some (4, 1) := by kernel_rfl
theorem sl_70 : Try.prog.underlying 70 = some (.slice 4) := by kernel_rfl
theorem cells_72 : cellsN Try.prog 72 = some 3 := by kernel_rfl
theorem zero_72 : zeroOf Try.prog 72 = some (Value.agg #[(.slice none 0 0), (.int .i64 0), (.slice none 0 0)]) := by kernel_rfl
theorem agg_72 : aggSize Try.prog 72 = some 3 := by kernel_rfl
theorem fo_72_0 : fieldOff Try.prog 72 0 = some 0 := by kernel_rfl
theorem fo_72_1 : fieldOff Try.prog 72 1 = some 1 := by kernel_rfl
theorem fo_72_2 : fieldOff Try.prog 72 2 = some 2 := by kernel_rfl
theorem pl_72 : placesOf Try.prog 72 = some [(0, 1), (1, 1), (2, 1)] := by kernel_rfl
theorem cells_89 : cellsN Try.prog 89 = some 2 := by kernel_rfl
theorem zero_89 : zeroOf Try.prog 89 = some (Value.agg #[(.slice none 0 0), (.int .i64 0)]) := by kernel_rfl
theorem agg_89 : aggSize Try.prog 89 = some 2 := by kernel_rfl
theorem fo_89_0 : fieldOff Try.prog 89 0 = some 0 := by kernel_rfl
theorem fo_89_1 : fieldOff Try.prog 89 1 = some 1 := by kernel_rfl
theorem pl_89 : placesOf Try.prog 89 = some [(0, 1), (1, 1)] := by kernel_rfl
theorem zi_89 : zeroI Try.prog 89 = some (Value.agg #[(.slice none 0 0), (.int .i64 0)], 2, 32) := by kernel_rfl
theorem cells_92 : cellsN Try.prog 92 = some 4 := by kernel_rfl
theorem zero_92 : zeroOf Try.prog 92 = some (Value.agg #[(.int .i64 0), (.int .i64 0), (.int .i64 0), (.int .i64 0)]) := by kernel_rfl
theorem agg_92 : aggSize Try.prog 92 = some 4 := by kernel_rfl
theorem fo_92_0 : fieldOff Try.prog 92 0 = some 0 := by kernel_rfl
theorem fo_92_1 : fieldOff Try.prog 92 1 = some 3 := by kernel_rfl
theorem pl_92 : placesOf Try.prog 92 = some [(0, 3), (3, 1)] := by kernel_rfl
theorem zi_92 : zeroI Try.prog 92 = some (Value.agg #[(.int .i64 0), (.int .i64 0), (.int .i64 0), (.int .i64 0)], 4, 32) := by kernel_rfl
theorem elm_107 : elemOf' Try.prog 107 = some (25, 1) := by kernel_rfl
theorem sl_107 : Try.prog.underlying 107 = some (.slice 25) := by kernel_rfl
end Go.Proofs.Ytnlbngbbddhgeaa.Tb
