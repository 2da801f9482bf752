/- Facts on the types and functions of the program, each by a reckoning of the kernel. -/
import Derived.Test.YtnlbngbbddhgeaaChecked
import Derived.Test.YtnlbngbbddhgeaaSz
import Derived.KernelRfl
set_option linter.unusedVariables false
set_option linter.unusedSimpArgs false
namespace Go.Proofs.Ytnlbngbbddhgeaa.Tb
open Go.Sx
theorem mixed : Try.prog.follows .mixedOrders = true := by kernel_rfl
theorem gofn_3 : goFn Try.prog 3 = true := by kernel_rfl
theorem gofn_4 : goFn Try.prog 4 = true := by kernel_rfl
theorem gofn_5 : goFn Try.prog 5 = true := by kernel_rfl
theorem gofn_6 : goFn Try.prog 6 = true := by kernel_rfl
theorem gofn_7 : goFn Try.prog 7 = true := by kernel_rfl
theorem gofn_8 : goFn Try.prog 8 = true := by kernel_rfl
theorem gofn_9 : goFn Try.prog 9 = true := by kernel_rfl
theorem gofn_10 : goFn Try.prog 10 = true := by kernel_rfl
theorem gofn_11 : goFn Try.prog 11 = true := by kernel_rfl
theorem gofn_12 : goFn Try.prog 12 = true := by kernel_rfl
theorem gofn_13 : goFn Try.prog 13 = true := by kernel_rfl
theorem gofn_14 : goFn Try.prog 14 = true := by kernel_rfl
theorem gofn_15 : goFn Try.prog 15 = true := by kernel_rfl
theorem gofn_16 : goFn Try.prog 16 = true := by kernel_rfl
theorem gofn_17 : goFn Try.prog 17 = true := by kernel_rfl
theorem gofn_18 : goFn Try.prog 18 = true := by kernel_rfl
theorem gofn_19 : goFn Try.prog 19 = true := by kernel_rfl
theorem gofn_20 : goFn Try.prog 20 = true := by kernel_rfl
theorem gofn_21 : goFn Try.prog 21 = true := by kernel_rfl
theorem gofn_22 : goFn Try.prog 22 = true := by kernel_rfl
theorem gofn_23 : goFn Try.prog 23 = true := by kernel_rfl
theorem gofn_24 : goFn Try.prog 24 = true := by kernel_rfl
theorem gofn_25 : goFn Try.prog 25 = true := by kernel_rfl
theorem gofn_26 : goFn Try.prog 26 = true := by kernel_rfl
theorem gofn_27 : goFn Try.prog 27 = true := by kernel_rfl
theorem gofn_28 : goFn Try.prog 28 = true := by kernel_rfl
theorem gofn_29 : goFn Try.prog 29 = true := by kernel_rfl
theorem gofn_30 : goFn Try.prog 30 = true := by kernel_rfl
theorem gofn_31 : goFn Try.prog 31 = true := by kernel_rfl
theorem gofn_32 : goFn Try.prog 32 = true := by kernel_rfl
theorem gofn_33 : goFn Try.prog 33 = true := by kernel_rfl
theorem gofn_34 : goFn Try.prog 34 = true := by kernel_rfl
theorem gofn_35 : goFn Try.prog 35 = true := by kernel_rfl
theorem gofn_36 : goFn Try.prog 36 = true := by kernel_rfl
theorem gofn_37 : goFn Try.prog 37 = true := by kernel_rfl
theorem gofn_38 : goFn Try.prog 38 = true := by kernel_rfl
theorem gofn_39 : goFn Try.prog 39 = true := by kernel_rfl
theorem gofn_40 : goFn Try.prog 40 = true := by kernel_rfl
theorem gofn_41 : goFn Try.prog 41 = true := by kernel_rfl
theorem gofn_42 : goFn Try.prog 42 = true := by kernel_rfl
theorem gofn_43 : goFn Try.prog 43 = true := by kernel_rfl
theorem gofn_44 : goFn Try.prog 44 = true := by kernel_rfl
theorem gofn_45 : goFn Try.prog 45 = true := by kernel_rfl
theorem gofn_46 : goFn Try.prog 46 = true := by kernel_rfl
theorem gofn_47 : goFn Try.prog 47 = true := by kernel_rfl
theorem gofn_48 : goFn Try.prog 48 = true := by kernel_rfl
theorem gofn_49 : goFn Try.prog 49 = true := by kernel_rfl
theorem gofn_50 : goFn Try.prog 50 = true := by kernel_rfl
theorem gofn_51 : goFn Try.prog 51 = true := by kernel_rfl
theorem gofn_52 : goFn Try.prog 52 = true := by kernel_rfl
theorem gofn_53 : goFn Try.prog 53 = true := by kernel_rfl
theorem gofn_54 : goFn Try.prog 54 = true := by kernel_rfl
theorem gofn_55 : goFn Try.prog 55 = true := by kernel_rfl
theorem gofn_56 : goFn Try.prog 56 = true := by kernel_rfl
theorem gofn_57 : goFn Try.prog 57 = true := by kernel_rfl
theorem gofn_58 : goFn Try.prog 58 = true := by kernel_rfl
theorem gofn_59 : goFn Try.prog 59 = true := by kernel_rfl
theorem gofn_60 : goFn Try.prog 60 = true := by kernel_rfl
theorem gofn_61 : goFn Try.prog 61 = true := by kernel_rfl
theorem gofn_62 : goFn Try.prog 62 = true := by kernel_rfl
theorem gofn_63 : goFn Try.prog 63 = true := by kernel_rfl
theorem gofn_64 : goFn Try.prog 64 = true := by kernel_rfl
theorem gofn_65 : goFn Try.prog 65 = true := by kernel_rfl
theorem gofn_66 : goFn Try.prog 66 = true := by kernel_rfl
theorem gofn_67 : goFn Try.prog 67 = true := by kernel_rfl
theorem gofn_68 : goFn Try.prog 68 = true := by kernel_rfl
theorem gofn_69 : goFn Try.prog 69 = true := by kernel_rfl
theorem gofn_70 : goFn Try.prog 70 = true := by kernel_rfl
theorem gofn_71 : goFn Try.prog 71 = true := by kernel_rfl
theorem gofn_72 : goFn Try.prog 72 = true := by kernel_rfl
theorem gofn_73 : goFn Try.prog 73 = true := by kernel_rfl
theorem gofn_74 : goFn Try.prog 74 = true := by kernel_rfl
theorem gofn_75 : goFn Try.prog 75 = true := by kernel_rfl
theorem gofn_76 : goFn Try.prog 76 = true := by kernel_rfl
theorem gofn_77 : goFn Try.prog 77 = true := by kernel_rfl
theorem gofn_78 : goFn Try.prog 78 = true := by kernel_rfl
theorem gofn_79 : goFn Try.prog 79 = true := by kernel_rfl
theorem gofn_80 : goFn Try.prog 80 = true := by kernel_rfl
theorem gofn_81 : goFn Try.prog 81 = true := by kernel_rfl
theorem gofn_82 : goFn Try.prog 82 = true := by kernel_rfl
theorem gofn_83 : goFn Try.prog 83 = true := by kernel_rfl
theorem gofn_84 : goFn Try.prog 84 = true := by kernel_rfl
theorem gofn_85 : goFn Try.prog 85 = true := by kernel_rfl
theorem gofn_86 : goFn Try.prog 86 = true := by kernel_rfl
theorem gofn_87 : goFn Try.prog 87 = true := by kernel_rfl
theorem gofn_88 : goFn Try.prog 88 = true := by kernel_rfl
theorem gofn_89 : goFn Try.prog 89 = true := by kernel_rfl
theorem gofn_90 : goFn Try.prog 90 = true := by kernel_rfl
theorem gofn_91 : goFn Try.prog 91 = true := by kernel_rfl
theorem gofn_92 : goFn Try.prog 92 = true := by kernel_rfl
theorem gofn_93 : goFn Try.prog 93 = true := by kernel_rfl
theorem gofn_94 : goFn Try.prog 94 = true := by kernel_rfl
theorem gofn_95 : goFn Try.prog 95 = true := by kernel_rfl
theorem gofn_96 : goFn Try.prog 96 = true := by kernel_rfl
theorem gofn_97 : goFn Try.prog 97 = true := by kernel_rfl
theorem gofn_98 : goFn Try.prog 98 = true := by kernel_rfl
theorem gofn_99 : goFn Try.prog 99 = true := by kernel_rfl
theorem cells_0 : cellsN Try.prog 0 = some 1 := by kernel_rfl
theorem zero_0 : zeroOf Try.prog 0 = some (Value.tuple #[]) := by kernel_rfl
theorem one_0 : oneB Try.prog 0 = true := by kernel_rfl
theorem zi_0 : zeroI Try.prog 0 = some (Value.tuple #[], 1, 0) := by kernel_rfl
theorem cells_3 : cellsN Try.prog 3 = some 1 := by kernel_rfl
theorem zero_3 : zeroOf Try.prog 3 = some (Value.int .i64 0) := by kernel_rfl
theorem one_3 : oneB Try.prog 3 = true := by kernel_rfl
theorem zi_3 : zeroI Try.prog 3 = some (Value.int .i64 0, 1, 8) := by kernel_rfl
theorem int_3 : Try.prog.underlying 3 = some (.int .i64) := by kernel_rfl
theorem cells_4 : cellsN Try.prog 4 = some 1 := by kernel_rfl
theorem zero_4 : zeroOf Try.prog 4 = some (Value.bool false) := by kernel_rfl
theorem one_4 : oneB Try.prog 4 = true := by kernel_rfl
theorem zi_4 : zeroI Try.prog 4 = some (Value.bool false, 1, 1) := by kernel_rfl
theorem bool_4 : Try.prog.underlying 4 = some .bool := by kernel_rfl
theorem cells_20 : cellsN Try.prog 20 = some 1 := by kernel_rfl
theorem zero_20 : zeroOf Try.prog 20 = some (Value.nilIface) := by kernel_rfl
theorem one_20 : oneB Try.prog 20 = true := by kernel_rfl
theorem zi_20 : zeroI Try.prog 20 = some (Value.nilIface, 1, 16) := by kernel_rfl
theorem cells_22 : cellsN Try.prog 22 = some 1 := by kernel_rfl
theorem zero_22 : zeroOf Try.prog 22 = some (Value.slice none 0 0) := by kernel_rfl
theorem one_22 : oneB Try.prog 22 = true := by kernel_rfl
theorem elm_22 : elemOf' Try.prog 22 = some (40, 3) := by kernel_rfl
theorem sl_22 : Try.prog.underlying 22 = some (.slice 40) := by kernel_rfl
theorem zi_22 : zeroI Try.prog 22 = some (Value.slice none 0 0, 1, 24) := by kernel_rfl
theorem cells_24 : cellsN Try.prog 24 = some 4 := by kernel_rfl
theorem zero_24 : zeroOf Try.prog 24 = some (Value.agg #[(.int .i64 0), (.int .i64 0), (.int .i64 0), (.slice none 0 0)]) := by kernel_rfl
theorem agg_24 : aggSize Try.prog 24 = some 4 := by kernel_rfl
theorem fo_24_0 : fieldOff Try.prog 24 0 = some 0 := by kernel_rfl
theorem fo_24_1 : fieldOff Try.prog 24 1 = some 1 := by kernel_rfl
theorem fo_24_2 : fieldOff Try.prog 24 2 = some 2 := by kernel_rfl
theorem fo_24_3 : fieldOff Try.prog 24 3 = some 3 := by kernel_rfl
theorem pl_24 : placesOf Try.prog 24 = some [(0, 1), (1, 1), (2, 1), (3, 1)] := by kernel_rfl
theorem zi_24 : zeroI Try.prog 24 = some (Value.agg #[(.int .i64 0), (.int .i64 0), (.int .i64 0), (.slice none 0 0)], 4, 48) := by kernel_rfl
theorem cells_25 : cellsN Try.prog 25 = some 1 := by kernel_rfl
theorem zero_25 : zeroOf Try.prog 25 = some (Value.slice none 0 0) := by kernel_rfl
theorem one_25 : oneB Try.prog 25 = true := by kernel_rfl
theorem elm_25 : elemOf' Try.prog 25 = some (3, 1) := by kernel_rfl
theorem sl_25 : Try.prog.underlying 25 = some (.slice 3) := by kernel_rfl
theorem zi_25 : zeroI Try.prog 25 = some (Value.slice none 0 0, 1, 24) := by kernel_rfl
theorem cells_28 : cellsN Try.prog 28 = some 1 := by kernel_rfl
theorem zero_28 : zeroOf Try.prog 28 = some (Value.int .i64 0) := by kernel_rfl
theorem one_28 : oneB Try.prog 28 = true := by kernel_rfl
theorem zi_28 : zeroI Try.prog 28 = some (Value.int .i64 0, 1, 8) := by kernel_rfl
theorem int_28 : Try.prog.underlying 28 = some (.int .i64) := by kernel_rfl
theorem cells_29 : cellsN Try.prog 29 = some 1 := by kernel_rfl
theorem zero_29 : zeroOf Try.prog 29 = some (Value.tuple #[(.int .i64 0), (.int .i64 0)]) := by kernel_rfl
theorem one_29 : oneB Try.prog 29 = true := by kernel_rfl
theorem zi_29 : zeroI Try.prog 29 = some (Value.tuple #[(.int .i64 0), (.int .i64 0)], 1, 0) := by kernel_rfl
theorem cells_34 : cellsN Try.prog 34 = some 1 := by kernel_rfl
theorem zero_34 : zeroOf Try.prog 34 = some (Value.tuple #[(.slice none 0 0), (.int .i64 0)]) := by kernel_rfl
theorem one_34 : oneB Try.prog 34 = true := by kernel_rfl
theorem zi_34 : zeroI Try.prog 34 = some (Value.tuple #[(.slice none 0 0), (.int .i64 0)], 1, 0) := by kernel_rfl
theorem cells_40 : cellsN Try.prog 40 = some 3 := by kernel_rfl
theorem zero_40 : zeroOf Try.prog 40 = some (Value.agg #[(.int .i64 0), (.int .i64 0), (.int .i64 0)]) := by kernel_rfl
theorem agg_40 : aggSize Try.prog 40 = some 3 := by kernel_rfl
theorem fo_40_0 : fieldOff Try.prog 40 0 = some 0 := by kernel_rfl
theorem fo_40_1 : fieldOff Try.prog 40 1 = some 1 := by kernel_rfl
theorem fo_40_2 : fieldOff Try.prog 40 2 = some 2 := by kernel_rfl
theorem pl_40 : placesOf Try.prog 40 = some [(0, 1), (1, 1), (2, 1)] := by kernel_rfl
theorem zi_40 : zeroI Try.prog 40 = some (Value.agg #[(.int .i64 0), (.int .i64 0), (.int .i64 0)], 3, 24) := by kernel_rfl
theorem cells_44 : cellsN Try.prog 44 = some 1 := by kernel_rfl
theorem zero_44 : zeroOf Try.prog 44 = some (Value.tuple #[(.agg #[(.int .i64 0), (.int .i64 0), (.int .i64 0), (.slice none 0 0)]), (.int .i64 0)]) := by kernel_rfl
theorem one_44 : oneB Try.prog 44 = true := by kernel_rfl
theorem zi_44 : zeroI Try.prog 44 = some (Value.tuple #[(.agg #[(.int .i64 0), (.int .i64 0), (.int .i64 0), (.slice none 0 0)]), (.int .i64 0)], 1, 0) := by kernel_rfl
theorem cells_50 : cellsN Try.prog 50 = some 2 := by kernel_rfl
theorem zero_50 : zeroOf Try.prog 50 = some (Value.agg #[(.int .i64 0), (.int .i64 0)]) := by kernel_rfl
theorem agg_50 : aggSize Try.prog 50 = some 2 := by kernel_rfl
theorem fo_50_0 : fieldOff Try.prog 50 0 = some 0 := by kernel_rfl
theorem fo_50_1 : fieldOff Try.prog 50 1 = some 1 := by kernel_rfl
theorem pl_50 : placesOf Try.prog 50 = some [(0, 1), (1, 1)] := by kernel_rfl
theorem zi_50 : zeroI Try.prog 50 = some (Value.agg #[(.int .i64 0), (.int .i64 0)], 2, 16) := by kernel_rfl
theorem cells_52 : cellsN Try.prog 52 = some 1 := by kernel_rfl
theorem zero_52 : zeroOf Try.prog 52 = some (Value.slice none 0 0) := by kernel_rfl
theorem one_52 : oneB Try.prog 52 = true := by kernel_rfl
theorem elm_52 : elemOf' Try.prog 52 = some (89, 2) := by kernel_rfl
theorem sl_52 : Try.prog.underlying 52 = some (.slice 89) := by kernel_rfl
theorem zi_52 : zeroI Try.prog 52 = some (Value.slice none 0 0, 1, 24) := by kernel_rfl
theorem cells_56 : cellsN Try.prog 56 = some 1 := by kernel_rfl
theorem zero_56 : zeroOf Try.prog 56 = some (Value.tuple #[(.slice none 0 0), (.int .i64 0)]) := by kernel_rfl
theorem one_56 : oneB Try.prog 56 = true := by kernel_rfl
theorem zi_56 : zeroI Try.prog 56 = some (Value.tuple #[(.slice none 0 0), (.int .i64 0)], 1, 0) := by kernel_rfl
theorem cells_65 : cellsN Try.prog 65 = some 1 := by kernel_rfl
theorem zero_65 : zeroOf Try.prog 65 = some (Value.slice none 0 0) := by kernel_rfl
theorem one_65 : oneB Try.prog 65 = true := by kernel_rfl
theorem elm_65 : elemOf' Try.prog 65 = some (92, 4) := by kernel_rfl
theorem sl_65 : Try.prog.underlying 65 = some (.slice 92) := by kernel_rfl
theorem zi_65 : zeroI Try.prog 65 = some (Value.slice none 0 0, 1, 24) := by kernel_rfl
theorem cells_68 : cellsN Try.prog 68 = some 2 := by kernel_rfl
theorem zero_68 : zeroOf Try.prog 68 = some (Value.agg #[(.slice none 0 0), (.int .i64 0)]) := by kernel_rfl
theorem agg_68 : aggSize Try.prog 68 = some 2 := by kernel_rfl
theorem fo_68_0 : fieldOff Try.prog 68 0 = some 0 := by kernel_rfl
theorem fo_68_1 : fieldOff Try.prog 68 1 = some 1 := by kernel_rfl
theorem pl_68 : placesOf Try.prog 68 = some [(0, 1), (1, 1)] := by kernel_rfl
theorem zi_68 : zeroI Try.prog 68 = some (Value.agg #[(.slice none 0 0), (.int .i64 0)], 2, 32) := by kernel_rfl
theorem cells_70 : cellsN Try.prog 70 = some 1 := by kernel_rfl
theorem zero_70 : zeroOf Try.prog 70 = some (Value.slice none 0 0) := by kernel_rfl
theorem one_70 : oneB Try.prog 70 = true := by kernel_rfl
theorem elm_70 : elemOf' Try.prog 70 = some (4, 1) := by kernel_rfl
theorem sl_70 : Try.prog.underlying 70 = some (.slice 4) := by kernel_rfl
theorem zi_70 : zeroI Try.prog 70 = some (Value.slice none 0 0, 1, 24) := by kernel_rfl
theorem cells_72 : cellsN Try.prog 72 = some 3 := by kernel_rfl
theorem zero_72 : zeroOf Try.prog 72 = some (Value.agg #[(.slice none 0 0), (.int .i64 0), (.slice none 0 0)]) := by kernel_rfl
theorem agg_72 : aggSize Try.prog 72 = some 3 := by kernel_rfl
theorem fo_72_0 : fieldOff Try.prog 72 0 = some 0 := by kernel_rfl
theorem fo_72_1 : fieldOff Try.prog 72 1 = some 1 := by kernel_rfl
theorem fo_72_2 : fieldOff Try.prog 72 2 = some 2 := by kernel_rfl
theorem pl_72 : placesOf Try.prog 72 = some [(0, 1), (1, 1), (2, 1)] := by kernel_rfl
theorem zi_72 : zeroI Try.prog 72 = some (Value.agg #[(.slice none 0 0), (.int .i64 0), (.slice none 0 0)], 3, 56) := by kernel_rfl
theorem cells_78 : cellsN Try.prog 78 = some 1 := by kernel_rfl
theorem zero_78 : zeroOf Try.prog 78 = some (Value.tuple #[(.int .i64 0), (.bool false)]) := by kernel_rfl
theorem one_78 : oneB Try.prog 78 = true := by kernel_rfl
theorem zi_78 : zeroI Try.prog 78 = some (Value.tuple #[(.int .i64 0), (.bool false)], 1, 0) := by kernel_rfl
theorem cells_89 : cellsN Try.prog 89 = some 2 := by kernel_rfl
theorem zero_89 : zeroOf Try.prog 89 = some (Value.agg #[(.slice none 0 0), (.int .i64 0)]) := by kernel_rfl
theorem agg_89 : aggSize Try.prog 89 = some 2 := by kernel_rfl
theorem fo_89_0 : fieldOff Try.prog 89 0 = some 0 := by kernel_rfl
theorem fo_89_1 : fieldOff Try.prog 89 1 = some 1 := by kernel_rfl
theorem pl_89 : placesOf Try.prog 89 = some [(0, 1), (1, 1)] := by kernel_rfl
theorem zi_89 : zeroI Try.prog 89 = some (Value.agg #[(.slice none 0 0), (.int .i64 0)], 2, 32) := by kernel_rfl
theorem cells_92 : cellsN Try.prog 92 = some 4 := by kernel_rfl
theorem zero_92 : zeroOf Try.prog 92 = some (Value.agg #[(.int .i64 0), (.int .i64 0), (.int .i64 0), (.int .i64 0)]) := by kernel_rfl
theorem agg_92 : aggSize Try.prog 92 = some 4 := by kernel_rfl
theorem fo_92_0 : fieldOff Try.prog 92 0 = some 0 := by kernel_rfl
theorem fo_92_1 : fieldOff Try.prog 92 1 = some 3 := by kernel_rfl
theorem pl_92 : placesOf Try.prog 92 = some [(0, 3), (3, 1)] := by kernel_rfl
theorem zi_92 : zeroI Try.prog 92 = some (Value.agg #[(.int .i64 0), (.int .i64 0), (.int .i64 0), (.int .i64 0)], 4, 32) := by kernel_rfl
theorem cells_96 : cellsN Try.prog 96 = some 1 := by kernel_rfl
theorem zero_96 : zeroOf Try.prog 96 = some (Value.tuple #[(.int .i64 0), (.int .i64 0)]) := by kernel_rfl
theorem one_96 : oneB Try.prog 96 = true := by kernel_rfl
theorem zi_96 : zeroI Try.prog 96 = some (Value.tuple #[(.int .i64 0), (.int .i64 0)], 1, 0) := by kernel_rfl
theorem cells_101 : cellsN Try.prog 101 = some 1 := by kernel_rfl
theorem zero_101 : zeroOf Try.prog 101 = some (Value.tuple #[(.int .i64 0), (.int .i64 0), (.bool false)]) := by kernel_rfl
theorem one_101 : oneB Try.prog 101 = true := by kernel_rfl
theorem zi_101 : zeroI Try.prog 101 = some (Value.tuple #[(.int .i64 0), (.int .i64 0), (.bool false)], 1, 0) := by kernel_rfl
theorem cells_104 : cellsN Try.prog 104 = some 1 := by kernel_rfl
theorem zero_104 : zeroOf Try.prog 104 = some (Value.nilFunc) := by kernel_rfl
theorem one_104 : oneB Try.prog 104 = true := by kernel_rfl
theorem zi_104 : zeroI Try.prog 104 = some (Value.nilFunc, 1, 8) := by kernel_rfl
theorem cells_106 : cellsN Try.prog 106 = some 1 := by kernel_rfl
theorem zero_106 : zeroOf Try.prog 106 = some (Value.nilFunc) := by kernel_rfl
theorem one_106 : oneB Try.prog 106 = true := by kernel_rfl
theorem zi_106 : zeroI Try.prog 106 = some (Value.nilFunc, 1, 8) := by kernel_rfl
theorem cells_107 : cellsN Try.prog 107 = some 1 := by kernel_rfl
theorem zero_107 : zeroOf Try.prog 107 = some (Value.slice none 0 0) := by kernel_rfl
theorem one_107 : oneB Try.prog 107 = true := by kernel_rfl
theorem elm_107 : elemOf' Try.prog 107 = some (25, 1) := by kernel_rfl
theorem sl_107 : Try.prog.underlying 107 = some (.slice 25) := by kernel_rfl
theorem zi_107 : zeroI Try.prog 107 = some (Value.slice none 0 0, 1, 24) := by kernel_rfl
end Go.Proofs.Ytnlbngbbddhgeaa.Tb
