/- Facts on the types and functions of the program, each by a reckoning of the kernel. -/
import Derived.Test.YtmmgcajegokkoaaChecked
import Derived.Test.YtmmgcajegokkoaaSz
import Derived.KernelRfl
set_option linter.unusedVariables false
set_option linter.unusedSimpArgs false
namespace Go.Proofs.Ytmmgcajegokkoaa.Tb
open Go.Sx
theorem mixed : Try.prog.follows .mixedOrders = true := by kernel_rfl
theorem gofn_3 : goFn Try.prog 3 = true := by kernel_rfl
theorem gofn_4 : goFn Try.prog 4 = true := by kernel_rfl
theorem gofn_5 : goFn Try.prog 5 = true := by kernel_rfl
theorem gofn_6 : goFn Try.prog 6 = true := by kernel_rfl
theorem gofn_7 : goFn Try.prog 7 = true := by kernel_rfl
theorem gofn_8 : goFn Try.prog 8 = true := by kernel_rfl
theorem gofn_9 : goFn Try.prog 9 = true := by kernel_rfl
theorem gofn_10 : goFn Try.prog 10 = true := by kernel_rfl
theorem gofn_11 : goFn Try.prog 11 = true := by kernel_rfl
theorem gofn_12 : goFn Try.prog 12 = true := by kernel_rfl
theorem gofn_13 : goFn Try.prog 13 = true := by kernel_rfl
theorem gofn_14 : goFn Try.prog 14 = true := by kernel_rfl
theorem gofn_15 : goFn Try.prog 15 = true := by kernel_rfl
theorem gofn_16 : goFn Try.prog 16 = true := by kernel_rfl
theorem gofn_17 : goFn Try.prog 17 = true := by kernel_rfl
theorem gofn_18 : goFn Try.prog 18 = true := by kernel_rfl
theorem gofn_19 : goFn Try.prog 19 = true := by kernel_rfl
theorem gofn_20 : goFn Try.prog 20 = true := by kernel_rfl
theorem gofn_21 : goFn Try.prog 21 = true := by kernel_rfl
theorem gofn_22 : goFn Try.prog 22 = true := by kernel_rfl
theorem gofn_23 : goFn Try.prog 23 = true := by kernel_rfl
theorem gofn_24 : goFn Try.prog 24 = true := by kernel_rfl
theorem gofn_25 : goFn Try.prog 25 = true := by kernel_rfl
theorem gofn_26 : goFn Try.prog 26 = true := by kernel_rfl
theorem gofn_27 : goFn Try.prog 27 = true := by kernel_rfl
theorem gofn_28 : goFn Try.prog 28 = true := by kernel_rfl
theorem gofn_29 : goFn Try.prog 29 = true := by kernel_rfl
theorem gofn_30 : goFn Try.prog 30 = true := by kernel_rfl
theorem gofn_31 : goFn Try.prog 31 = true := by kernel_rfl
theorem gofn_32 : goFn Try.prog 32 = true := by kernel_rfl
theorem gofn_33 : goFn Try.prog 33 = true := by kernel_rfl
theorem gofn_34 : goFn Try.prog 34 = true := by kernel_rfl
theorem gofn_35 : goFn Try.prog 35 = true := by kernel_rfl
theorem gofn_36 : goFn Try.prog 36 = true := by kernel_rfl
theorem gofn_37 : goFn Try.prog 37 = true := by kernel_rfl
theorem gofn_38 : goFn Try.prog 38 = true := by kernel_rfl
theorem gofn_39 : goFn Try.prog 39 = true := by kernel_rfl
theorem gofn_40 : goFn Try.prog 40 = true := by kernel_rfl
theorem gofn_41 : goFn Try.prog 41 = true := by kernel_rfl
theorem gofn_42 : goFn Try.prog 42 = true := by kernel_rfl
theorem gofn_43 : goFn Try.prog 43 = true := by kernel_rfl
theorem gofn_44 : goFn Try.prog 44 = true := by kernel_rfl
theorem gofn_45 : goFn Try.prog 45 = true := by kernel_rfl
theorem gofn_46 : goFn Try.prog 46 = true := by kernel_rfl
theorem gofn_47 : goFn Try.prog 47 = true := by kernel_rfl
theorem gofn_48 : goFn Try.prog 48 = true := by kernel_rfl
theorem gofn_49 : goFn Try.prog 49 = true := by kernel_rfl
theorem gofn_50 : goFn Try.prog 50 = true := by kernel_rfl
theorem gofn_51 : goFn Try.prog 51 = true := by kernel_rfl
theorem gofn_52 : goFn Try.prog 52 = true := by kernel_rfl
theorem gofn_53 : goFn Try.prog 53 = true := by kernel_rfl
theorem gofn_54 : goFn Try.prog 54 = true := by kernel_rfl
theorem gofn_55 : goFn Try.prog 55 = true := by kernel_rfl
theorem gofn_56 : goFn Try.prog 56 = true := by kernel_rfl
theorem gofn_57 : goFn Try.prog 57 = true := by kernel_rfl
theorem gofn_58 : goFn Try.prog 58 = true := by kernel_rfl
theorem gofn_59 : goFn Try.prog 59 = true := by kernel_rfl
theorem gofn_60 : goFn Try.prog 60 = true := by kernel_rfl
theorem gofn_61 : goFn Try.prog 61 = true := by kernel_rfl
theorem gofn_62 : goFn Try.prog 62 = true := by kernel_rfl
theorem gofn_63 : goFn Try.prog 63 = true := by kernel_rfl
theorem gofn_64 : goFn Try.prog 64 = true := by kernel_rfl
theorem gofn_65 : goFn Try.prog 65 = true := by kernel_rfl
theorem gofn_66 : goFn Try.prog 66 = true := by kernel_rfl
theorem gofn_67 : goFn Try.prog 67 = true := by kernel_rfl
theorem gofn_68 : goFn Try.prog 68 = true := by kernel_rfl
theorem gofn_69 : goFn Try.prog 69 = true := by kernel_rfl
theorem gofn_70 : goFn Try.prog 70 = true := by kernel_rfl
theorem gofn_71 : goFn Try.prog 71 = true := by kernel_rfl
theorem gofn_72 : goFn Try.prog 72 = true := by kernel_rfl
theorem gofn_73 : goFn Try.prog 73 = true := by kernel_rfl
theorem gofn_74 : goFn Try.prog 74 = true := by kernel_rfl
theorem gofn_75 : goFn Try.prog 75 = true := by kernel_rfl
theorem gofn_76 : goFn Try.prog 76 = true := by kernel_rfl
theorem gofn_77 : goFn Try.prog 77 = true := by kernel_rfl
theorem gofn_78 : goFn Try.prog 78 = true := by kernel_rfl
theorem gofn_79 : goFn Try.prog 79 = true := by kernel_rfl
theorem gofn_80 : goFn Try.prog 80 = true := by kernel_rfl
theorem gofn_81 : goFn Try.prog 81 = true := by kernel_rfl
theorem gofn_82 : goFn Try.prog 82 = true := by kernel_rfl
theorem gofn_83 : goFn Try.prog 83 = true := by kernel_rfl
theorem gofn_84 : goFn Try.prog 84 = true := by kernel_rfl
theorem gofn_85 : goFn Try.prog 85 = true := by kernel_rfl
theorem gofn_86 : goFn Try.prog 86 = true := by kernel_rfl
theorem gofn_87 : goFn Try.prog 87 = true := by kernel_rfl
theorem gofn_88 : goFn Try.prog 88 = true := by kernel_rfl
theorem gofn_89 : goFn Try.prog 89 = true := by kernel_rfl
theorem gofn_90 : goFn Try.prog 90 = true := by kernel_rfl
theorem gofn_91 : goFn Try.prog 91 = true := by kernel_rfl
theorem gofn_92 : goFn Try.prog 92 = true := by kernel_rfl
theorem gofn_93 : goFn Try.prog 93 = true := by kernel_rfl
theorem gofn_94 : goFn Try.prog 94 = true := by kernel_rfl
theorem gofn_95 : goFn Try.prog 95 = true := by kernel_rfl
theorem gofn_96 : goFn Try.prog 96 = true := by kernel_rfl
theorem gofn_97 : goFn Try.prog 97 = true := by kernel_rfl
theorem gofn_98 : goFn Try.prog 98 = true := by kernel_rfl
theorem gofn_99 : goFn Try.prog 99 = true := by kernel_rfl
theorem gofn_100 : goFn Try.prog 100 = true := by kernel_rfl
theorem gofn_101 : goFn Try.prog 101 = true := by kernel_rfl
theorem gofn_102 : goFn Try.prog 102 = true := by kernel_rfl
theorem gofn_103 : goFn Try.prog 103 = true := by kernel_rfl
theorem gofn_104 : goFn Try.prog 104 = true := by kernel_rfl
theorem gofn_105 : goFn Try.prog 105 = true := by kernel_rfl
theorem gofn_106 : goFn Try.prog 106 = true := by kernel_rfl
theorem cells_0 : cellsN Try.prog 0 = some 1 := by kernel_rfl
theorem zero_0 : zeroOf Try.prog 0 = some (Value.tuple #[]) := by kernel_rfl
theorem one_0 : oneB Try.prog 0 = true := by kernel_rfl
theorem zi_0 : zeroI Try.prog 0 = some (Value.tuple #[], 1, 0) := by kernel_rfl
theorem cells_3 : cellsN Try.prog 3 = some 1 := by kernel_rfl
theorem zero_3 : zeroOf Try.prog 3 = some (Value.int .i64 0) := by kernel_rfl
theorem one_3 : oneB Try.prog 3 = true := by kernel_rfl
theorem zi_3 : zeroI Try.prog 3 = some (Value.int .i64 0, 1, 8) := by kernel_rfl
theorem int_3 : Try.prog.underlying 3 = some (.int .i64) := by kernel_rfl
theorem cells_4 : cellsN Try.prog 4 = some 1 := by kernel_rfl
theorem zero_4 : zeroOf Try.prog 4 = some (Value.bool false) := by kernel_rfl
theorem one_4 : oneB Try.prog 4 = true := by kernel_rfl
theorem zi_4 : zeroI Try.prog 4 = some (Value.bool false, 1, 1) := by kernel_rfl
theorem bool_4 : Try.prog.underlying 4 = some .bool := by kernel_rfl
theorem cells_22 : cellsN Try.prog 22 = some 1 := by kernel_rfl
theorem zero_22 : zeroOf Try.prog 22 = some (Value.slice none 0 0) := by kernel_rfl
theorem one_22 : oneB Try.prog 22 = true := by kernel_rfl
theorem elm_22 : elemOf' Try.prog 22 = some (61, 4) := by kernel_rfl
theorem sl_22 : Try.prog.underlying 22 = some (.slice 61) := by kernel_rfl
theorem zi_22 : zeroI Try.prog 22 = some (Value.slice none 0 0, 1, 24) := by kernel_rfl
theorem cells_24 : cellsN Try.prog 24 = some 2 := by kernel_rfl
theorem zero_24 : zeroOf Try.prog 24 = some (Value.agg #[(.int .i64 0), (.slice none 0 0)]) := by kernel_rfl
theorem agg_24 : aggSize Try.prog 24 = some 2 := by kernel_rfl
theorem fo_24_0 : fieldOff Try.prog 24 0 = some 0 := by kernel_rfl
theorem fo_24_1 : fieldOff Try.prog 24 1 = some 1 := by kernel_rfl
theorem pl_24 : placesOf Try.prog 24 = some [(0, 1), (1, 1)] := by kernel_rfl
theorem zi_24 : zeroI Try.prog 24 = some (Value.agg #[(.int .i64 0), (.slice none 0 0)], 2, 32) := by kernel_rfl
theorem cells_27 : cellsN Try.prog 27 = some 1 := by kernel_rfl
theorem zero_27 : zeroOf Try.prog 27 = some (Value.slice none 0 0) := by kernel_rfl
theorem one_27 : oneB Try.prog 27 = true := by kernel_rfl
theorem elm_27 : elemOf' Try.prog 27 = some (31, 1) := by kernel_rfl
theorem sl_27 : Try.prog.underlying 27 = some (.slice 31) := by kernel_rfl
theorem zi_27 : zeroI Try.prog 27 = some (Value.slice none 0 0, 1, 24) := by kernel_rfl
theorem cells_28 : cellsN Try.prog 28 = some 1 := by kernel_rfl
theorem zero_28 : zeroOf Try.prog 28 = some (Value.int .i64 0) := by kernel_rfl
theorem one_28 : oneB Try.prog 28 = true := by kernel_rfl
theorem zi_28 : zeroI Try.prog 28 = some (Value.int .i64 0, 1, 8) := by kernel_rfl
theorem int_28 : Try.prog.underlying 28 = some (.int .i64) := by kernel_rfl
theorem cells_29 : cellsN Try.prog 29 = some 1 := by kernel_rfl
theorem zero_29 : zeroOf Try.prog 29 = some (Value.tuple #[(.slice none 0 0), (.int .i64 0)]) := by kernel_rfl
theorem one_29 : oneB Try.prog 29 = true := by kernel_rfl
theorem zi_29 : zeroI Try.prog 29 = some (Value.tuple #[(.slice none 0 0), (.int .i64 0)], 1, 0) := by kernel_rfl
theorem cells_31 : cellsN Try.prog 31 = some 1 := by kernel_rfl
theorem zero_31 : zeroOf Try.prog 31 = some (Value.slice none 0 0) := by kernel_rfl
theorem one_31 : oneB Try.prog 31 = true := by kernel_rfl
theorem elm_31 : elemOf' Try.prog 31 = some (3, 1) := by kernel_rfl
theorem sl_31 : Try.prog.underlying 31 = some (.slice 3) := by kernel_rfl
theorem zi_31 : zeroI Try.prog 31 = some (Value.slice none 0 0, 1, 24) := by kernel_rfl
theorem cells_32 : cellsN Try.prog 32 = some 1 := by kernel_rfl
theorem zero_32 : zeroOf Try.prog 32 = some (Value.tuple #[(.slice none 0 0), (.int .i64 0)]) := by kernel_rfl
theorem one_32 : oneB Try.prog 32 = true := by kernel_rfl
theorem zi_32 : zeroI Try.prog 32 = some (Value.tuple #[(.slice none 0 0), (.int .i64 0)], 1, 0) := by kernel_rfl
theorem cells_37 : cellsN Try.prog 37 = some 1 := by kernel_rfl
theorem zero_37 : zeroOf Try.prog 37 = some (Value.tuple #[(.bool false), (.int .i64 0)]) := by kernel_rfl
theorem one_37 : oneB Try.prog 37 = true := by kernel_rfl
theorem zi_37 : zeroI Try.prog 37 = some (Value.tuple #[(.bool false), (.int .i64 0)], 1, 0) := by kernel_rfl
theorem cells_39 : cellsN Try.prog 39 = some 1 := by kernel_rfl
theorem zero_39 : zeroOf Try.prog 39 = some (Value.tuple #[(.int .i64 0), (.int .i64 0), (.int .i64 0)]) := by kernel_rfl
theorem one_39 : oneB Try.prog 39 = true := by kernel_rfl
theorem zi_39 : zeroI Try.prog 39 = some (Value.tuple #[(.int .i64 0), (.int .i64 0), (.int .i64 0)], 1, 0) := by kernel_rfl
theorem cells_42 : cellsN Try.prog 42 = some 1 := by kernel_rfl
theorem zero_42 : zeroOf Try.prog 42 = some (Value.slice none 0 0) := by kernel_rfl
theorem one_42 : oneB Try.prog 42 = true := by kernel_rfl
theorem elm_42 : elemOf' Try.prog 42 = some (46, 2) := by kernel_rfl
theorem sl_42 : Try.prog.underlying 42 = some (.slice 46) := by kernel_rfl
theorem zi_42 : zeroI Try.prog 42 = some (Value.slice none 0 0, 1, 24) := by kernel_rfl
theorem cells_43 : cellsN Try.prog 43 = some 1 := by kernel_rfl
theorem zero_43 : zeroOf Try.prog 43 = some (Value.tuple #[(.slice none 0 0), (.int .i64 0)]) := by kernel_rfl
theorem one_43 : oneB Try.prog 43 = true := by kernel_rfl
theorem zi_43 : zeroI Try.prog 43 = some (Value.tuple #[(.slice none 0 0), (.int .i64 0)], 1, 0) := by kernel_rfl
theorem cells_46 : cellsN Try.prog 46 = some 2 := by kernel_rfl
theorem zero_46 : zeroOf Try.prog 46 = some (Value.agg #[(.int .i64 0), (.int .i64 0)]) := by kernel_rfl
theorem agg_46 : aggSize Try.prog 46 = some 2 := by kernel_rfl
theorem fo_46_0 : fieldOff Try.prog 46 0 = some 0 := by kernel_rfl
theorem fo_46_1 : fieldOff Try.prog 46 1 = some 1 := by kernel_rfl
theorem pl_46 : placesOf Try.prog 46 = some [(0, 1), (1, 1)] := by kernel_rfl
theorem zi_46 : zeroI Try.prog 46 = some (Value.agg #[(.int .i64 0), (.int .i64 0)], 2, 16) := by kernel_rfl
theorem cells_47 : cellsN Try.prog 47 = some 1 := by kernel_rfl
theorem zero_47 : zeroOf Try.prog 47 = some (Value.tuple #[(.agg #[(.int .i64 0), (.int .i64 0)]), (.int .i64 0)]) := by kernel_rfl
theorem one_47 : oneB Try.prog 47 = true := by kernel_rfl
theorem zi_47 : zeroI Try.prog 47 = some (Value.tuple #[(.agg #[(.int .i64 0), (.int .i64 0)]), (.int .i64 0)], 1, 0) := by kernel_rfl
theorem cells_51 : cellsN Try.prog 51 = some 2 := by kernel_rfl
theorem zero_51 : zeroOf Try.prog 51 = some (Value.agg #[(.int .i64 0), (.slice none 0 0)]) := by kernel_rfl
theorem agg_51 : aggSize Try.prog 51 = some 2 := by kernel_rfl
theorem fo_51_0 : fieldOff Try.prog 51 0 = some 0 := by kernel_rfl
theorem fo_51_1 : fieldOff Try.prog 51 1 = some 1 := by kernel_rfl
theorem pl_51 : placesOf Try.prog 51 = some [(0, 1), (1, 1)] := by kernel_rfl
theorem zi_51 : zeroI Try.prog 51 = some (Value.agg #[(.int .i64 0), (.slice none 0 0)], 2, 32) := by kernel_rfl
theorem cells_61 : cellsN Try.prog 61 = some 4 := by kernel_rfl
theorem zero_61 : zeroOf Try.prog 61 = some (Value.agg #[(.int .i64 0), (.int .i64 0), (.int .i64 0), (.int .i64 0)]) := by kernel_rfl
theorem agg_61 : aggSize Try.prog 61 = some 4 := by kernel_rfl
theorem fo_61_0 : fieldOff Try.prog 61 0 = some 0 := by kernel_rfl
theorem fo_61_1 : fieldOff Try.prog 61 1 = some 1 := by kernel_rfl
theorem fo_61_2 : fieldOff Try.prog 61 2 = some 2 := by kernel_rfl
theorem fo_61_3 : fieldOff Try.prog 61 3 = some 3 := by kernel_rfl
theorem pl_61 : placesOf Try.prog 61 = some [(0, 1), (1, 1), (2, 1), (3, 1)] := by kernel_rfl
theorem zi_61 : zeroI Try.prog 61 = some (Value.agg #[(.int .i64 0), (.int .i64 0), (.int .i64 0), (.int .i64 0)], 4, 32) := by kernel_rfl
theorem cells_63 : cellsN Try.prog 63 = some 3 := by kernel_rfl
theorem zero_63 : zeroOf Try.prog 63 = some (Value.agg #[(.int .i64 0), (.int .i64 0), (.int .i64 0)]) := by kernel_rfl
theorem agg_63 : aggSize Try.prog 63 = some 3 := by kernel_rfl
theorem fo_63_0 : fieldOff Try.prog 63 0 = some 0 := by kernel_rfl
theorem fo_63_1 : fieldOff Try.prog 63 1 = some 1 := by kernel_rfl
theorem fo_63_2 : fieldOff Try.prog 63 2 = some 2 := by kernel_rfl
theorem pl_63 : placesOf Try.prog 63 = some [(0, 1), (1, 1), (2, 1)] := by kernel_rfl
theorem zi_63 : zeroI Try.prog 63 = some (Value.agg #[(.int .i64 0), (.int .i64 0), (.int .i64 0)], 3, 24) := by kernel_rfl
theorem cells_64 : cellsN Try.prog 64 = some 1 := by kernel_rfl
theorem zero_64 : zeroOf Try.prog 64 = some (Value.tuple #[(.agg #[(.int .i64 0), (.slice none 0 0)]), (.int .i64 0)]) := by kernel_rfl
theorem one_64 : oneB Try.prog 64 = true := by kernel_rfl
theorem zi_64 : zeroI Try.prog 64 = some (Value.tuple #[(.agg #[(.int .i64 0), (.slice none 0 0)]), (.int .i64 0)], 1, 0) := by kernel_rfl
theorem cells_74 : cellsN Try.prog 74 = some 3 := by kernel_rfl
theorem zero_74 : zeroOf Try.prog 74 = some (Value.agg #[(.slice none 0 0), (.int .i64 0), (.int .i64 0)]) := by kernel_rfl
theorem agg_74 : aggSize Try.prog 74 = some 3 := by kernel_rfl
theorem fo_74_0 : fieldOff Try.prog 74 0 = some 0 := by kernel_rfl
theorem fo_74_1 : fieldOff Try.prog 74 1 = some 1 := by kernel_rfl
theorem fo_74_2 : fieldOff Try.prog 74 2 = some 2 := by kernel_rfl
theorem pl_74 : placesOf Try.prog 74 = some [(0, 1), (1, 1), (2, 1)] := by kernel_rfl
theorem zi_74 : zeroI Try.prog 74 = some (Value.agg #[(.slice none 0 0), (.int .i64 0), (.int .i64 0)], 3, 40) := by kernel_rfl
theorem cells_82 : cellsN Try.prog 82 = some 1 := by kernel_rfl
theorem zero_82 : zeroOf Try.prog 82 = some (Value.nilFunc) := by kernel_rfl
theorem one_82 : oneB Try.prog 82 = true := by kernel_rfl
theorem zi_82 : zeroI Try.prog 82 = some (Value.nilFunc, 1, 8) := by kernel_rfl
theorem cells_86 : cellsN Try.prog 86 = some 1 := by kernel_rfl
theorem zero_86 : zeroOf Try.prog 86 = some (Value.tuple #[(.slice none 0 0), (.int .i64 0)]) := by kernel_rfl
theorem one_86 : oneB Try.prog 86 = true := by kernel_rfl
theorem zi_86 : zeroI Try.prog 86 = some (Value.tuple #[(.slice none 0 0), (.int .i64 0)], 1, 0) := by kernel_rfl
theorem cells_99 : cellsN Try.prog 99 = some 1 := by kernel_rfl
theorem zero_99 : zeroOf Try.prog 99 = some (Value.tuple #[(.slice none 0 0), .nilFunc]) := by kernel_rfl
theorem one_99 : oneB Try.prog 99 = true := by kernel_rfl
theorem zi_99 : zeroI Try.prog 99 = some (Value.tuple #[(.slice none 0 0), .nilFunc], 1, 0) := by kernel_rfl
theorem cells_101 : cellsN Try.prog 101 = some 1 := by kernel_rfl
theorem zero_101 : zeroOf Try.prog 101 = some (Value.slice none 0 0) := by kernel_rfl
theorem one_101 : oneB Try.prog 101 = true := by kernel_rfl
theorem elm_101 : elemOf' Try.prog 101 = some (4, 1) := by kernel_rfl
theorem sl_101 : Try.prog.underlying 101 = some (.slice 4) := by kernel_rfl
theorem zi_101 : zeroI Try.prog 101 = some (Value.slice none 0 0, 1, 24) := by kernel_rfl
end Go.Proofs.Ytmmgcajegokkoaa.Tb
