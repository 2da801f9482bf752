/- Facts on the types and functions of the program, each by a reckoning of the kernel. -/
import Derived.Test.YtkkipbkkijoneaaChecked
import Derived.Test.YtkkipbkkijoneaaSz
import Derived.KernelRfl
set_option linter.unusedVariables false
set_option linter.unusedSimpArgs false
namespace Go.Proofs.Ytkkipbkkijoneaa.Tb
open Go.Sx
theorem mixed : Try.prog.follows .mixedOrders = true := by kernel_rfl
theorem gofn_3 : goFn Try.prog 3 = true := by kernel_rfl
theorem gofn_4 : goFn Try.prog 4 = true := by kernel_rfl
theorem gofn_5 : goFn Try.prog 5 = true := by kernel_rfl
theorem gofn_6 : goFn Try.prog 6 = true := by kernel_rfl
theorem gofn_7 : goFn Try.prog 7 = true := by kernel_rfl
theorem gofn_8 : goFn Try.prog 8 = true := by kernel_rfl
theorem gofn_9 : goFn Try.prog 9 = true := by kernel_rfl
theorem gofn_10 : goFn Try.prog 10 = true := by kernel_rfl
theorem gofn_11 : goFn Try.prog 11 = true := by kernel_rfl
theorem gofn_12 : goFn Try.prog 12 = true := by kernel_rfl
theorem gofn_13 : goFn Try.prog 13 = true := by kernel_rfl
theorem gofn_14 : goFn Try.prog 14 = true := by kernel_rfl
theorem gofn_15 : goFn Try.prog 15 = true := by kernel_rfl
theorem gofn_16 : goFn Try.prog 16 = true := by kernel_rfl
theorem gofn_17 : goFn Try.prog 17 = true := by kernel_rfl
theorem gofn_18 : goFn Try.prog 18 = true := by kernel_rfl
theorem gofn_19 : goFn Try.prog 19 = true := by kernel_rfl
theorem gofn_20 : goFn Try.prog 20 = true := by kernel_rfl
theorem gofn_21 : goFn Try.prog 21 = true := by kernel_rfl
theorem gofn_22 : goFn Try.prog 22 = true := by kernel_rfl
theorem gofn_23 : goFn Try.prog 23 = true := by kernel_rfl
theorem gofn_24 : goFn Try.prog 24 = true := by kernel_rfl
theorem gofn_25 : goFn Try.prog 25 = true := by kernel_rfl
theorem gofn_26 : goFn Try.prog 26 = true := by kernel_rfl
theorem gofn_27 : goFn Try.prog 27 = true := by kernel_rfl
theorem gofn_28 : goFn Try.prog 28 = true := by kernel_rfl
theorem gofn_29 : goFn Try.prog 29 = true := by kernel_rfl
theorem gofn_30 : goFn Try.prog 30 = true := by kernel_rfl
theorem gofn_31 : goFn Try.prog 31 = true := by kernel_rfl
theorem gofn_32 : goFn Try.prog 32 = true := by kernel_rfl
theorem gofn_33 : goFn Try.prog 33 = true := by kernel_rfl
theorem gofn_34 : goFn Try.prog 34 = true := by kernel_rfl
theorem gofn_35 : goFn Try.prog 35 = true := by kernel_rfl
theorem gofn_36 : goFn Try.prog 36 = true := by kernel_rfl
theorem gofn_37 : goFn Try.prog 37 = true := by kernel_rfl
theorem gofn_38 : goFn Try.prog 38 = true := by kernel_rfl
theorem gofn_39 : goFn Try.prog 39 = true := by kernel_rfl
theorem gofn_40 : goFn Try.prog 40 = true := by kernel_rfl
theorem gofn_41 : goFn Try.prog 41 = true := by kernel_rfl
theorem gofn_42 : goFn Try.prog 42 = true := by kernel_rfl
theorem gofn_43 : goFn Try.prog 43 = true := by kernel_rfl
theorem gofn_44 : goFn Try.prog 44 = true := by kernel_rfl
theorem gofn_45 : goFn Try.prog 45 = true := by kernel_rfl
theorem gofn_46 : goFn Try.prog 46 = true := by kernel_rfl
theorem gofn_47 : goFn Try.prog 47 = true := by kernel_rfl
theorem gofn_48 : goFn Try.prog 48 = true := by kernel_rfl
theorem gofn_49 : goFn Try.prog 49 = true := by kernel_rfl
theorem gofn_50 : goFn Try.prog 50 = true := by kernel_rfl
theorem gofn_51 : goFn Try.prog 51 = true := by kernel_rfl
theorem gofn_52 : goFn Try.prog 52 = true := by kernel_rfl
theorem gofn_53 : goFn Try.prog 53 = true := by kernel_rfl
theorem gofn_54 : goFn Try.prog 54 = true := by kernel_rfl
theorem gofn_55 : goFn Try.prog 55 = true := by kernel_rfl
theorem gofn_56 : goFn Try.prog 56 = true := by kernel_rfl
theorem gofn_57 : goFn Try.prog 57 = true := by kernel_rfl
theorem gofn_58 : goFn Try.prog 58 = true := by kernel_rfl
theorem gofn_59 : goFn Try.prog 59 = true := by kernel_rfl
theorem gofn_60 : goFn Try.prog 60 = true := by kernel_rfl
theorem gofn_61 : goFn Try.prog 61 = true := by kernel_rfl
theorem gofn_62 : goFn Try.prog 62 = true := by kernel_rfl
theorem gofn_63 : goFn Try.prog 63 = true := by kernel_rfl
theorem gofn_64 : goFn Try.prog 64 = true := by kernel_rfl
theorem gofn_65 : goFn Try.prog 65 = true := by kernel_rfl
theorem gofn_66 : goFn Try.prog 66 = true := by kernel_rfl
theorem gofn_67 : goFn Try.prog 67 = true := by kernel_rfl
theorem gofn_68 : goFn Try.prog 68 = true := by kernel_rfl
theorem gofn_69 : goFn Try.prog 69 = true := by kernel_rfl
theorem gofn_70 : goFn Try.prog 70 = true := by kernel_rfl
theorem gofn_71 : goFn Try.prog 71 = true := by kernel_rfl
theorem gofn_72 : goFn Try.prog 72 = true := by kernel_rfl
theorem gofn_73 : goFn Try.prog 73 = true := by kernel_rfl
theorem gofn_74 : goFn Try.prog 74 = true := by kernel_rfl
theorem gofn_75 : goFn Try.prog 75 = true := by kernel_rfl
theorem gofn_76 : goFn Try.prog 76 = true := by kernel_rfl
theorem gofn_77 : goFn Try.prog 77 = true := by kernel_rfl
theorem gofn_78 : goFn Try.prog 78 = true := by kernel_rfl
theorem gofn_79 : goFn Try.prog 79 = true := by kernel_rfl
theorem gofn_80 : goFn Try.prog 80 = true := by kernel_rfl
theorem gofn_81 : goFn Try.prog 81 = true := by kernel_rfl
theorem gofn_82 : goFn Try.prog 82 = true := by kernel_rfl
theorem gofn_83 : goFn Try.prog 83 = true := by kernel_rfl
theorem gofn_84 : goFn Try.prog 84 = true := by kernel_rfl
theorem gofn_85 : goFn Try.prog 85 = true := by kernel_rfl
theorem gofn_86 : goFn Try.prog 86 = true := by kernel_rfl
theorem gofn_87 : goFn Try.prog 87 = true := by kernel_rfl
theorem gofn_88 : goFn Try.prog 88 = true := by kernel_rfl
theorem gofn_89 : goFn Try.prog 89 = true := by kernel_rfl
theorem gofn_90 : goFn Try.prog 90 = true := by kernel_rfl
theorem gofn_91 : goFn Try.prog 91 = true := by kernel_rfl
theorem gofn_92 : goFn Try.prog 92 = true := by kernel_rfl
theorem gofn_93 : goFn Try.prog 93 = true := by kernel_rfl
theorem gofn_94 : goFn Try.prog 94 = true := by kernel_rfl
theorem gofn_95 : goFn Try.prog 95 = true := by kernel_rfl
theorem gofn_96 : goFn Try.prog 96 = true := by kernel_rfl
theorem gofn_97 : goFn Try.prog 97 = true := by kernel_rfl
theorem gofn_98 : goFn Try.prog 98 = true := by kernel_rfl
theorem gofn_99 : goFn Try.prog 99 = true := by kernel_rfl
theorem gofn_100 : goFn Try.prog 100 = true := by kernel_rfl
theorem gofn_101 : goFn Try.prog 101 = true := by kernel_rfl
theorem gofn_102 : goFn Try.prog 102 = true := by kernel_rfl
theorem gofn_103 : goFn Try.prog 103 = true := by kernel_rfl
theorem gofn_104 : goFn Try.prog 104 = true := by kernel_rfl
theorem gofn_105 : goFn Try.prog 105 = true := by kernel_rfl
theorem gofn_106 : goFn Try.prog 106 = true := by kernel_rfl
theorem gofn_107 : goFn Try.prog 107 = true := by kernel_rfl
theorem gofn_108 : goFn Try.prog 108 = true := by kernel_rfl
theorem gofn_109 : goFn Try.prog 109 = true := by kernel_rfl
theorem gofn_110 : goFn Try.prog 110 = true := by kernel_rfl
theorem gofn_111 : goFn Try.prog 111 = true := by kernel_rfl
theorem gofn_112 : goFn Try.prog 112 = true := by kernel_rfl
theorem gofn_113 : goFn Try.prog 113 = true := by kernel_rfl
theorem gofn_114 : goFn Try.prog 114 = true := by kernel_rfl
theorem gofn_115 : goFn Try.prog 115 = true := by kernel_rfl
theorem gofn_116 : goFn Try.prog 116 = true := by kernel_rfl
theorem gofn_117 : goFn Try.prog 117 = true := by kernel_rfl
theorem gofn_118 : goFn Try.prog 118 = true := by kernel_rfl
theorem gofn_119 : goFn Try.prog 119 = true := by kernel_rfl
theorem gofn_120 : goFn Try.prog 120 = true := by kernel_rfl
theorem gofn_121 : goFn Try.prog 121 = true := by kernel_rfl
theorem gofn_122 : goFn Try.prog 122 = true := by kernel_rfl
theorem cells_0 : cellsN Try.prog 0 = some 1 := by kernel_rfl
theorem zero_0 : zeroOf Try.prog 0 = some (Value.tuple #[]) := by kernel_rfl
theorem one_0 : oneB Try.prog 0 = true := by kernel_rfl
theorem zi_0 : zeroI Try.prog 0 = some (Value.tuple #[], 1, 0) := by kernel_rfl
theorem cells_3 : cellsN Try.prog 3 = some 1 := by kernel_rfl
theorem zero_3 : zeroOf Try.prog 3 = some (Value.int .i64 0) := by kernel_rfl
theorem one_3 : oneB Try.prog 3 = true := by kernel_rfl
theorem zi_3 : zeroI Try.prog 3 = some (Value.int .i64 0, 1, 8) := by kernel_rfl
theorem int_3 : Try.prog.underlying 3 = some (.int .i64) := by kernel_rfl
theorem cells_4 : cellsN Try.prog 4 = some 1 := by kernel_rfl
theorem zero_4 : zeroOf Try.prog 4 = some (Value.bool false) := by kernel_rfl
theorem one_4 : oneB Try.prog 4 = true := by kernel_rfl
theorem zi_4 : zeroI Try.prog 4 = some (Value.bool false, 1, 1) := by kernel_rfl
theorem bool_4 : Try.prog.underlying 4 = some .bool := by kernel_rfl
theorem cells_22 : cellsN Try.prog 22 = some 1 := by kernel_rfl
theorem zero_22 : zeroOf Try.prog 22 = some (Value.slice none 0 0) := by kernel_rfl
theorem one_22 : oneB Try.prog 22 = true := by kernel_rfl
theorem elm_22 : elemOf' Try.prog 22 = some (63, 2) := by kernel_rfl
theorem sl_22 : Try.prog.underlying 22 = some (.slice 63) := by kernel_rfl
theorem zi_22 : zeroI Try.prog 22 = some (Value.slice none 0 0, 1, 24) := by kernel_rfl
theorem cells_24 : cellsN Try.prog 24 = some 2 := by kernel_rfl
theorem zero_24 : zeroOf Try.prog 24 = some (Value.agg #[(.int .i64 0), (.slice none 0 0)]) := by kernel_rfl
theorem agg_24 : aggSize Try.prog 24 = some 2 := by kernel_rfl
theorem fo_24_0 : fieldOff Try.prog 24 0 = some 0 := by kernel_rfl
theorem fo_24_1 : fieldOff Try.prog 24 1 = some 1 := by kernel_rfl
theorem pl_24 : placesOf Try.prog 24 = some [(0, 1), (1, 1)] := by kernel_rfl
theorem zi_24 : zeroI Try.prog 24 = some (Value.agg #[(.int .i64 0), (.slice none 0 0)], 2, 32) := by kernel_rfl
theorem cells_25 : cellsN Try.prog 25 = some 1 := by kernel_rfl
theorem zero_25 : zeroOf Try.prog 25 = some (Value.slice none 0 0) := by kernel_rfl
theorem one_25 : oneB Try.prog 25 = true := by kernel_rfl
theorem elm_25 : elemOf' Try.prog 25 = some (3, 1) := by kernel_rfl
theorem sl_25 : Try.prog.underlying 25 = some (.slice 3) := by kernel_rfl
theorem zi_25 : zeroI Try.prog 25 = some (Value.slice none 0 0, 1, 24) := by kernel_rfl
theorem cells_27 : cellsN Try.prog 27 = some 1 := by kernel_rfl
theorem zero_27 : zeroOf Try.prog 27 = some (Value.nilFunc) := by kernel_rfl
theorem one_27 : oneB Try.prog 27 = true := by kernel_rfl
theorem zi_27 : zeroI Try.prog 27 = some (Value.nilFunc, 1, 8) := by kernel_rfl
theorem cells_29 : cellsN Try.prog 29 = some 1 := by kernel_rfl
theorem zero_29 : zeroOf Try.prog 29 = some (Value.int .i64 0) := by kernel_rfl
theorem one_29 : oneB Try.prog 29 = true := by kernel_rfl
theorem zi_29 : zeroI Try.prog 29 = some (Value.int .i64 0, 1, 8) := by kernel_rfl
theorem int_29 : Try.prog.underlying 29 = some (.int .i64) := by kernel_rfl
theorem cells_30 : cellsN Try.prog 30 = some 1 := by kernel_rfl
theorem zero_30 : zeroOf Try.prog 30 = some (Value.tuple #[(.bool false), (.int .i64 0)]) := by kernel_rfl
theorem one_30 : oneB Try.prog 30 = true := by kernel_rfl
theorem zi_30 : zeroI Try.prog 30 = some (Value.tuple #[(.bool false), (.int .i64 0)], 1, 0) := by kernel_rfl
theorem cells_32 : cellsN Try.prog 32 = some 1 := by kernel_rfl
theorem zero_32 : zeroOf Try.prog 32 = some (Value.tuple #[(.slice none 0 0), (.int .i64 0)]) := by kernel_rfl
theorem one_32 : oneB Try.prog 32 = true := by kernel_rfl
theorem zi_32 : zeroI Try.prog 32 = some (Value.tuple #[(.slice none 0 0), (.int .i64 0)], 1, 0) := by kernel_rfl
theorem cells_37 : cellsN Try.prog 37 = some 1 := by kernel_rfl
theorem zero_37 : zeroOf Try.prog 37 = some (Value.tuple #[(.slice none 0 0), (.int .i64 0), (.int .i64 0)]) := by kernel_rfl
theorem one_37 : oneB Try.prog 37 = true := by kernel_rfl
theorem zi_37 : zeroI Try.prog 37 = some (Value.tuple #[(.slice none 0 0), (.int .i64 0), (.int .i64 0)], 1, 0) := by kernel_rfl
theorem cells_43 : cellsN Try.prog 43 = some 2 := by kernel_rfl
theorem zero_43 : zeroOf Try.prog 43 = some (Value.agg #[(.slice none 0 0), (.slice none 0 0)]) := by kernel_rfl
theorem agg_43 : aggSize Try.prog 43 = some 2 := by kernel_rfl
theorem fo_43_0 : fieldOff Try.prog 43 0 = some 0 := by kernel_rfl
theorem fo_43_1 : fieldOff Try.prog 43 1 = some 1 := by kernel_rfl
theorem pl_43 : placesOf Try.prog 43 = some [(0, 1), (1, 1)] := by kernel_rfl
theorem zi_43 : zeroI Try.prog 43 = some (Value.agg #[(.slice none 0 0), (.slice none 0 0)], 2, 48) := by kernel_rfl
theorem cells_45 : cellsN Try.prog 45 = some 1 := by kernel_rfl
theorem zero_45 : zeroOf Try.prog 45 = some (Value.tuple #[(.slice none 0 0), (.bool false), (.int .i64 0)]) := by kernel_rfl
theorem one_45 : oneB Try.prog 45 = true := by kernel_rfl
theorem zi_45 : zeroI Try.prog 45 = some (Value.tuple #[(.slice none 0 0), (.bool false), (.int .i64 0)], 1, 0) := by kernel_rfl
theorem cells_48 : cellsN Try.prog 48 = some 1 := by kernel_rfl
theorem zero_48 : zeroOf Try.prog 48 = some (Value.tuple #[(.int .i64 0), (.int .i64 0)]) := by kernel_rfl
theorem one_48 : oneB Try.prog 48 = true := by kernel_rfl
theorem zi_48 : zeroI Try.prog 48 = some (Value.tuple #[(.int .i64 0), (.int .i64 0)], 1, 0) := by kernel_rfl
theorem cells_53 : cellsN Try.prog 53 = some 2 := by kernel_rfl
theorem zero_53 : zeroOf Try.prog 53 = some (Value.agg #[(.slice none 0 0), (.int .i64 0)]) := by kernel_rfl
theorem agg_53 : aggSize Try.prog 53 = some 2 := by kernel_rfl
theorem fo_53_0 : fieldOff Try.prog 53 0 = some 0 := by kernel_rfl
theorem fo_53_1 : fieldOff Try.prog 53 1 = some 1 := by kernel_rfl
theorem pl_53 : placesOf Try.prog 53 = some [(0, 1), (1, 1)] := by kernel_rfl
theorem zi_53 : zeroI Try.prog 53 = some (Value.agg #[(.slice none 0 0), (.int .i64 0)], 2, 32) := by kernel_rfl
theorem cells_56 : cellsN Try.prog 56 = some 1 := by kernel_rfl
theorem zero_56 : zeroOf Try.prog 56 = some (Value.tuple #[(.agg #[(.int .i64 0), (.slice none 0 0)]), (.int .i64 0)]) := by kernel_rfl
theorem one_56 : oneB Try.prog 56 = true := by kernel_rfl
theorem zi_56 : zeroI Try.prog 56 = some (Value.tuple #[(.agg #[(.int .i64 0), (.slice none 0 0)]), (.int .i64 0)], 1, 0) := by kernel_rfl
theorem cells_63 : cellsN Try.prog 63 = some 2 := by kernel_rfl
theorem zero_63 : zeroOf Try.prog 63 = some (Value.agg #[(.slice none 0 0), (.slice none 0 0)]) := by kernel_rfl
theorem agg_63 : aggSize Try.prog 63 = some 2 := by kernel_rfl
theorem fo_63_0 : fieldOff Try.prog 63 0 = some 0 := by kernel_rfl
theorem fo_63_1 : fieldOff Try.prog 63 1 = some 1 := by kernel_rfl
theorem pl_63 : placesOf Try.prog 63 = some [(0, 1), (1, 1)] := by kernel_rfl
theorem zi_63 : zeroI Try.prog 63 = some (Value.agg #[(.slice none 0 0), (.slice none 0 0)], 2, 48) := by kernel_rfl
theorem cells_65 : cellsN Try.prog 65 = some 3 := by kernel_rfl
theorem zero_65 : zeroOf Try.prog 65 = some (Value.agg #[(.slice none 0 0), (.slice none 0 0), (.slice none 0 0)]) := by kernel_rfl
theorem agg_65 : aggSize Try.prog 65 = some 3 := by kernel_rfl
theorem fo_65_0 : fieldOff Try.prog 65 0 = some 0 := by kernel_rfl
theorem fo_65_1 : fieldOff Try.prog 65 1 = some 1 := by kernel_rfl
theorem fo_65_2 : fieldOff Try.prog 65 2 = some 2 := by kernel_rfl
theorem pl_65 : placesOf Try.prog 65 = some [(0, 1), (1, 1), (2, 1)] := by kernel_rfl
theorem zi_65 : zeroI Try.prog 65 = some (Value.agg #[(.slice none 0 0), (.slice none 0 0), (.slice none 0 0)], 3, 72) := by kernel_rfl
theorem cells_69 : cellsN Try.prog 69 = some 6 := by kernel_rfl
theorem zero_69 : zeroOf Try.prog 69 = some (Value.agg #[(.int .i64 0), (.int .i64 0), (.int .i64 0), (.int .i64 0), (.int .i64 0), (.int .i64 0)]) := by kernel_rfl
theorem agg_69 : aggSize Try.prog 69 = some 6 := by kernel_rfl
theorem zi_69 : zeroI Try.prog 69 = some (Value.agg #[(.int .i64 0), (.int .i64 0), (.int .i64 0), (.int .i64 0), (.int .i64 0), (.int .i64 0)], 6, 48) := by kernel_rfl
theorem cells_70 : cellsN Try.prog 70 = some 6 := by kernel_rfl
theorem zero_70 : zeroOf Try.prog 70 = some (Value.agg #[(.int .i64 0), (.int .i64 0), (.int .i64 0), (.int .i64 0), (.int .i64 0), (.int .i64 0)]) := by kernel_rfl
theorem agg_70 : aggSize Try.prog 70 = some 6 := by kernel_rfl
theorem zi_70 : zeroI Try.prog 70 = some (Value.agg #[(.int .i64 0), (.int .i64 0), (.int .i64 0), (.int .i64 0), (.int .i64 0), (.int .i64 0)], 6, 48) := by kernel_rfl
theorem cells_72 : cellsN Try.prog 72 = some 1 := by kernel_rfl
theorem zero_72 : zeroOf Try.prog 72 = some (Value.nilFunc) := by kernel_rfl
theorem one_72 : oneB Try.prog 72 = true := by kernel_rfl
theorem zi_72 : zeroI Try.prog 72 = some (Value.nilFunc, 1, 8) := by kernel_rfl
theorem cells_73 : cellsN Try.prog 73 = some 1 := by kernel_rfl
theorem zero_73 : zeroOf Try.prog 73 = some (Value.tuple #[(.agg #[(.int .i64 0), (.int .i64 0), (.int .i64 0), (.int .i64 0), (.int .i64 0), (.int .i64 0)]), (.int .i64 0)]) := by kernel_rfl
theorem one_73 : oneB Try.prog 73 = true := by kernel_rfl
theorem zi_73 : zeroI Try.prog 73 = some (Value.tuple #[(.agg #[(.int .i64 0), (.int .i64 0), (.int .i64 0), (.int .i64 0), (.int .i64 0), (.int .i64 0)]), (.int .i64 0)], 1, 0) := by kernel_rfl
theorem cells_81 : cellsN Try.prog 81 = some 1 := by kernel_rfl
theorem zero_81 : zeroOf Try.prog 81 = some (Value.nilFunc) := by kernel_rfl
theorem one_81 : oneB Try.prog 81 = true := by kernel_rfl
theorem zi_81 : zeroI Try.prog 81 = some (Value.nilFunc, 1, 8) := by kernel_rfl
theorem cells_83 : cellsN Try.prog 83 = some 12 := by kernel_rfl
theorem zero_83 : zeroOf Try.prog 83 = some (Value.agg #[(.int .i64 0), (.int .i64 0), (.int .i64 0), (.int .i64 0), (.int .i64 0), (.int .i64 0), (.int .i64 0), (.int .i64 0), (.int .i64 0), (.int .i64 0), (.int .i64 0), (.int .i64 0)]) := by kernel_rfl
theorem agg_83 : aggSize Try.prog 83 = some 12 := by kernel_rfl
theorem fo_83_0 : fieldOff Try.prog 83 0 = some 0 := by kernel_rfl
theorem fo_83_1 : fieldOff Try.prog 83 1 = some 6 := by kernel_rfl
theorem pl_83 : placesOf Try.prog 83 = some [(0, 6), (6, 6)] := by kernel_rfl
theorem zi_83 : zeroI Try.prog 83 = some (Value.agg #[(.int .i64 0), (.int .i64 0), (.int .i64 0), (.int .i64 0), (.int .i64 0), (.int .i64 0), (.int .i64 0), (.int .i64 0), (.int .i64 0), (.int .i64 0), (.int .i64 0), (.int .i64 0)], 12, 96) := by kernel_rfl
theorem cells_84 : cellsN Try.prog 84 = some 1 := by kernel_rfl
theorem zero_84 : zeroOf Try.prog 84 = some (Value.nilFunc) := by kernel_rfl
theorem one_84 : oneB Try.prog 84 = true := by kernel_rfl
theorem zi_84 : zeroI Try.prog 84 = some (Value.nilFunc, 1, 8) := by kernel_rfl
theorem cells_85 : cellsN Try.prog 85 = some 1 := by kernel_rfl
theorem zero_85 : zeroOf Try.prog 85 = some (Value.tuple #[(.slice none 0 0), (.bool false)]) := by kernel_rfl
theorem one_85 : oneB Try.prog 85 = true := by kernel_rfl
theorem zi_85 : zeroI Try.prog 85 = some (Value.tuple #[(.slice none 0 0), (.bool false)], 1, 0) := by kernel_rfl
theorem cells_87 : cellsN Try.prog 87 = some 1 := by kernel_rfl
theorem zero_87 : zeroOf Try.prog 87 = some (Value.nilFunc) := by kernel_rfl
theorem one_87 : oneB Try.prog 87 = true := by kernel_rfl
theorem zi_87 : zeroI Try.prog 87 = some (Value.nilFunc, 1, 8) := by kernel_rfl
theorem cells_89 : cellsN Try.prog 89 = some 1 := by kernel_rfl
theorem zero_89 : zeroOf Try.prog 89 = some (Value.nilFunc) := by kernel_rfl
theorem one_89 : oneB Try.prog 89 = true := by kernel_rfl
theorem zi_89 : zeroI Try.prog 89 = some (Value.nilFunc, 1, 8) := by kernel_rfl
theorem cells_90 : cellsN Try.prog 90 = some 1 := by kernel_rfl
theorem zero_90 : zeroOf Try.prog 90 = some (Value.nilFunc) := by kernel_rfl
theorem one_90 : oneB Try.prog 90 = true := by kernel_rfl
theorem zi_90 : zeroI Try.prog 90 = some (Value.nilFunc, 1, 8) := by kernel_rfl
theorem cells_91 : cellsN Try.prog 91 = some 1 := by kernel_rfl
theorem zero_91 : zeroOf Try.prog 91 = some (Value.nilFunc) := by kernel_rfl
theorem one_91 : oneB Try.prog 91 = true := by kernel_rfl
theorem zi_91 : zeroI Try.prog 91 = some (Value.nilFunc, 1, 8) := by kernel_rfl
theorem cells_94 : cellsN Try.prog 94 = some 1 := by kernel_rfl
theorem zero_94 : zeroOf Try.prog 94 = some (Value.slice none 0 0) := by kernel_rfl
theorem one_94 : oneB Try.prog 94 = true := by kernel_rfl
theorem elm_94 : elemOf' Try.prog 94 = some (70, 6) := by kernel_rfl
theorem sl_94 : Try.prog.underlying 94 = some (.slice 70) := by kernel_rfl
theorem zi_94 : zeroI Try.prog 94 = some (Value.slice none 0 0, 1, 24) := by kernel_rfl
theorem cells_95 : cellsN Try.prog 95 = some 1 := by kernel_rfl
theorem zero_95 : zeroOf Try.prog 95 = some (Value.map none) := by kernel_rfl
theorem one_95 : oneB Try.prog 95 = true := by kernel_rfl
theorem zi_95 : zeroI Try.prog 95 = some (Value.map none, 1, 8) := by kernel_rfl
theorem cells_97 : cellsN Try.prog 97 = some 1 := by kernel_rfl
theorem zero_97 : zeroOf Try.prog 97 = some (Value.slice none 0 0) := by kernel_rfl
theorem one_97 : oneB Try.prog 97 = true := by kernel_rfl
theorem elm_97 : elemOf' Try.prog 97 = some (25, 1) := by kernel_rfl
theorem sl_97 : Try.prog.underlying 97 = some (.slice 25) := by kernel_rfl
theorem zi_97 : zeroI Try.prog 97 = some (Value.slice none 0 0, 1, 24) := by kernel_rfl
theorem cells_106 : cellsN Try.prog 106 = some 1 := by kernel_rfl
theorem zero_106 : zeroOf Try.prog 106 = some (Value.tuple #[(.agg #[(.int .i64 0), (.int .i64 0), (.int .i64 0), (.int .i64 0), (.int .i64 0), (.int .i64 0), (.int .i64 0), (.int .i64 0), (.int .i64 0), (.int .i64 0), (.int .i64 0), (.int .i64 0)]), (.bool false)]) := by kernel_rfl
theorem one_106 : oneB Try.prog 106 = true := by kernel_rfl
theorem zi_106 : zeroI Try.prog 106 = some (Value.tuple #[(.agg #[(.int .i64 0), (.int .i64 0), (.int .i64 0), (.int .i64 0), (.int .i64 0), (.int .i64 0), (.int .i64 0), (.int .i64 0), (.int .i64 0), (.int .i64 0), (.int .i64 0), (.int .i64 0)]), (.bool false)], 1, 0) := by kernel_rfl
theorem cells_107 : cellsN Try.prog 107 = some 1 := by kernel_rfl
theorem zero_107 : zeroOf Try.prog 107 = some (Value.tuple #[(.agg #[(.int .i64 0), (.int .i64 0), (.int .i64 0), (.int .i64 0), (.int .i64 0), (.int .i64 0)]), (.bool false)]) := by kernel_rfl
theorem one_107 : oneB Try.prog 107 = true := by kernel_rfl
theorem zi_107 : zeroI Try.prog 107 = some (Value.tuple #[(.agg #[(.int .i64 0), (.int .i64 0), (.int .i64 0), (.int .i64 0), (.int .i64 0), (.int .i64 0)]), (.bool false)], 1, 0) := by kernel_rfl
theorem cells_111 : cellsN Try.prog 111 = some 2 := by kernel_rfl
theorem zero_111 : zeroOf Try.prog 111 = some (Value.agg #[.nilFunc, .nilFunc]) := by kernel_rfl
theorem agg_111 : aggSize Try.prog 111 = some 2 := by kernel_rfl
theorem fo_111_0 : fieldOff Try.prog 111 0 = some 0 := by kernel_rfl
theorem fo_111_1 : fieldOff Try.prog 111 1 = some 1 := by kernel_rfl
theorem pl_111 : placesOf Try.prog 111 = some [(0, 1), (1, 1)] := by kernel_rfl
theorem zi_111 : zeroI Try.prog 111 = some (Value.agg #[.nilFunc, .nilFunc], 2, 16) := by kernel_rfl
theorem cells_112 : cellsN Try.prog 112 = some 4 := by kernel_rfl
theorem zero_112 : zeroOf Try.prog 112 = some (Value.agg #[.nilFunc, .nilFunc, .nilFunc, .nilFunc]) := by kernel_rfl
theorem agg_112 : aggSize Try.prog 112 = some 4 := by kernel_rfl
theorem zi_112 : zeroI Try.prog 112 = some (Value.agg #[.nilFunc, .nilFunc, .nilFunc, .nilFunc], 4, 32) := by kernel_rfl
theorem cells_116 : cellsN Try.prog 116 = some 1 := by kernel_rfl
theorem zero_116 : zeroOf Try.prog 116 = some (Value.slice none 0 0) := by kernel_rfl
theorem one_116 : oneB Try.prog 116 = true := by kernel_rfl
theorem elm_116 : elemOf' Try.prog 116 = some (4, 1) := by kernel_rfl
theorem sl_116 : Try.prog.underlying 116 = some (.slice 4) := by kernel_rfl
theorem zi_116 : zeroI Try.prog 116 = some (Value.slice none 0 0, 1, 24) := by kernel_rfl
end Go.Proofs.Ytkkipbkkijoneaa.Tb
