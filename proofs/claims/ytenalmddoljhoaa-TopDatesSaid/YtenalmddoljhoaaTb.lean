/- Facts on the types and functions of the program, each by a reckoning of the kernel. -/
import Derived.Test.YtenalmddoljhoaaChecked
import Derived.Test.YtenalmddoljhoaaSz
import Derived.KernelRfl
set_option linter.unusedVariables false
set_option linter.unusedSimpArgs false
namespace Go.Proofs.Ytenalmddoljhoaa.Tb
open Go.Sx
theorem mixed : Try.prog.follows .mixedOrders = true := by kernel_rfl
theorem gofn_3 : goFn Try.prog 3 = true := by kernel_rfl
theorem gofn_4 : goFn Try.prog 4 = true := by kernel_rfl
theorem gofn_5 : goFn Try.prog 5 = true := by kernel_rfl
theorem gofn_6 : goFn Try.prog 6 = true := by kernel_rfl
theorem gofn_7 : goFn Try.prog 7 = true := by kernel_rfl
theorem gofn_8 : goFn Try.prog 8 = true := by kernel_rfl
theorem gofn_9 : goFn Try.prog 9 = true := by kernel_rfl
theorem gofn_10 : goFn Try.prog 10 = true := by kernel_rfl
theorem gofn_11 : goFn Try.prog 11 = true := by kernel_rfl
theorem gofn_12 : goFn Try.prog 12 = true := by kernel_rfl
theorem gofn_13 : goFn Try.prog 13 = true := by kernel_rfl
theorem gofn_14 : goFn Try.prog 14 = true := by kernel_rfl
theorem gofn_15 : goFn Try.prog 15 = true := by kernel_rfl
theorem gofn_16 : goFn Try.prog 16 = true := by kernel_rfl
theorem gofn_17 : goFn Try.prog 17 = true := by kernel_rfl
theorem gofn_18 : goFn Try.prog 18 = true := by kernel_rfl
theorem gofn_19 : goFn Try.prog 19 = true := by kernel_rfl
theorem gofn_20 : goFn Try.prog 20 = true := by kernel_rfl
theorem gofn_21 : goFn Try.prog 21 = true := by kernel_rfl
theorem gofn_22 : goFn Try.prog 22 = true := by kernel_rfl
theorem gofn_23 : goFn Try.prog 23 = true := by kernel_rfl
theorem gofn_24 : goFn Try.prog 24 = true := by kernel_rfl
theorem gofn_25 : goFn Try.prog 25 = true := by kernel_rfl
theorem gofn_26 : goFn Try.prog 26 = true := by kernel_rfl
theorem gofn_27 : goFn Try.prog 27 = true := by kernel_rfl
theorem gofn_28 : goFn Try.prog 28 = true := by kernel_rfl
theorem gofn_29 : goFn Try.prog 29 = true := by kernel_rfl
theorem gofn_30 : goFn Try.prog 30 = true := by kernel_rfl
theorem gofn_31 : goFn Try.prog 31 = true := by kernel_rfl
theorem gofn_32 : goFn Try.prog 32 = true := by kernel_rfl
theorem gofn_33 : goFn Try.prog 33 = true := by kernel_rfl
theorem gofn_34 : goFn Try.prog 34 = true := by kernel_rfl
theorem gofn_35 : goFn Try.prog 35 = true := by kernel_rfl
theorem gofn_36 : goFn Try.prog 36 = true := by kernel_rfl
theorem gofn_37 : goFn Try.prog 37 = true := by kernel_rfl
theorem gofn_38 : goFn Try.prog 38 = true := by kernel_rfl
theorem gofn_39 : goFn Try.prog 39 = true := by kernel_rfl
theorem gofn_40 : goFn Try.prog 40 = true := by kernel_rfl
theorem gofn_41 : goFn Try.prog 41 = true := by kernel_rfl
theorem gofn_42 : goFn Try.prog 42 = true := by kernel_rfl
theorem gofn_43 : goFn Try.prog 43 = true := by kernel_rfl
theorem gofn_44 : goFn Try.prog 44 = true := by kernel_rfl
theorem gofn_45 : goFn Try.prog 45 = true := by kernel_rfl
theorem gofn_46 : goFn Try.prog 46 = true := by kernel_rfl
theorem gofn_47 : goFn Try.prog 47 = true := by kernel_rfl
theorem gofn_48 : goFn Try.prog 48 = true := by kernel_rfl
theorem gofn_49 : goFn Try.prog 49 = true := by kernel_rfl
theorem gofn_50 : goFn Try.prog 50 = true := by kernel_rfl
theorem gofn_51 : goFn Try.prog 51 = true := by kernel_rfl
theorem gofn_52 : goFn Try.prog 52 = true := by kernel_rfl
theorem gofn_53 : goFn Try.prog 53 = true := by kernel_rfl
theorem gofn_54 : goFn Try.prog 54 = true := by kernel_rfl
theorem gofn_55 : goFn Try.prog 55 = true := by kernel_rfl
theorem gofn_56 : goFn Try.prog 56 = true := by kernel_rfl
theorem gofn_57 : goFn Try.prog 57 = true := by kernel_rfl
theorem gofn_58 : goFn Try.prog 58 = true := by kernel_rfl
theorem gofn_59 : goFn Try.prog 59 = true := by kernel_rfl
theorem gofn_60 : goFn Try.prog 60 = true := by kernel_rfl
theorem gofn_61 : goFn Try.prog 61 = true := by kernel_rfl
theorem gofn_62 : goFn Try.prog 62 = true := by kernel_rfl
theorem gofn_63 : goFn Try.prog 63 = true := by kernel_rfl
theorem gofn_64 : goFn Try.prog 64 = true := by kernel_rfl
theorem gofn_65 : goFn Try.prog 65 = true := by kernel_rfl
theorem gofn_66 : goFn Try.prog 66 = true := by kernel_rfl
theorem gofn_67 : goFn Try.prog 67 = true := by kernel_rfl
theorem gofn_68 : goFn Try.prog 68 = true := by kernel_rfl
theorem gofn_69 : goFn Try.prog 69 = true := by kernel_rfl
theorem gofn_70 : goFn Try.prog 70 = true := by kernel_rfl
theorem gofn_71 : goFn Try.prog 71 = true := by kernel_rfl
theorem gofn_72 : goFn Try.prog 72 = true := by kernel_rfl
theorem gofn_73 : goFn Try.prog 73 = true := by kernel_rfl
theorem gofn_74 : goFn Try.prog 74 = true := by kernel_rfl
theorem gofn_75 : goFn Try.prog 75 = true := by kernel_rfl
theorem gofn_76 : goFn Try.prog 76 = true := by kernel_rfl
theorem gofn_77 : goFn Try.prog 77 = true := by kernel_rfl
theorem gofn_78 : goFn Try.prog 78 = true := by kernel_rfl
theorem gofn_79 : goFn Try.prog 79 = true := by kernel_rfl
theorem gofn_80 : goFn Try.prog 80 = true := by kernel_rfl
theorem gofn_81 : goFn Try.prog 81 = true := by kernel_rfl
theorem gofn_82 : goFn Try.prog 82 = true := by kernel_rfl
theorem gofn_83 : goFn Try.prog 83 = true := by kernel_rfl
theorem gofn_84 : goFn Try.prog 84 = true := by kernel_rfl
theorem gofn_85 : goFn Try.prog 85 = true := by kernel_rfl
theorem gofn_86 : goFn Try.prog 86 = true := by kernel_rfl
theorem gofn_87 : goFn Try.prog 87 = true := by kernel_rfl
theorem gofn_88 : goFn Try.prog 88 = true := by kernel_rfl
theorem gofn_89 : goFn Try.prog 89 = true := by kernel_rfl
theorem gofn_90 : goFn Try.prog 90 = true := by kernel_rfl
theorem gofn_91 : goFn Try.prog 91 = true := by kernel_rfl
theorem gofn_92 : goFn Try.prog 92 = true := by kernel_rfl
theorem gofn_93 : goFn Try.prog 93 = true := by kernel_rfl
theorem gofn_94 : goFn Try.prog 94 = true := by kernel_rfl
theorem gofn_95 : goFn Try.prog 95 = true := by kernel_rfl
theorem gofn_96 : goFn Try.prog 96 = true := by kernel_rfl
theorem gofn_97 : goFn Try.prog 97 = true := by kernel_rfl
theorem gofn_98 : goFn Try.prog 98 = true := by kernel_rfl
theorem gofn_99 : goFn Try.prog 99 = true := by kernel_rfl
theorem gofn_100 : goFn Try.prog 100 = true := by kernel_rfl
theorem gofn_101 : goFn Try.prog 101 = true := by kernel_rfl
theorem gofn_102 : goFn Try.prog 102 = true := by kernel_rfl
theorem gofn_103 : goFn Try.prog 103 = true := by kernel_rfl
theorem gofn_104 : goFn Try.prog 104 = true := by kernel_rfl
theorem gofn_105 : goFn Try.prog 105 = true := by kernel_rfl
theorem gofn_106 : goFn Try.prog 106 = true := by kernel_rfl
theorem gofn_107 : goFn Try.prog 107 = true := by kernel_rfl
theorem gofn_108 : goFn Try.prog 108 = true := by kernel_rfl
theorem gofn_109 : goFn Try.prog 109 = true := by kernel_rfl
theorem gofn_110 : goFn Try.prog 110 = true := by kernel_rfl
theorem gofn_111 : goFn Try.prog 111 = true := by kernel_rfl
theorem gofn_112 : goFn Try.prog 112 = true := by kernel_rfl
theorem gofn_113 : goFn Try.prog 113 = true := by kernel_rfl
theorem gofn_114 : goFn Try.prog 114 = true := by kernel_rfl
theorem gofn_115 : goFn Try.prog 115 = true := by kernel_rfl
theorem gofn_116 : goFn Try.prog 116 = true := by kernel_rfl
theorem gofn_117 : goFn Try.prog 117 = true := by kernel_rfl
theorem gofn_118 : goFn Try.prog 118 = true := by kernel_rfl
theorem gofn_119 : goFn Try.prog 119 = true := by kernel_rfl
theorem cells_0 : cellsN Try.prog 0 = some 1 := by kernel_rfl
theorem zero_0 : zeroOf Try.prog 0 = some (Value.tuple #[]) := by kernel_rfl
theorem one_0 : oneB Try.prog 0 = true := by kernel_rfl
theorem zi_0 : zeroI Try.prog 0 = some (Value.tuple #[], 1, 0) := by kernel_rfl
theorem cells_3 : cellsN Try.prog 3 = some 1 := by kernel_rfl
theorem zero_3 : zeroOf Try.prog 3 = some (Value.int .i64 0) := by kernel_rfl
theorem one_3 : oneB Try.prog 3 = true := by kernel_rfl
theorem zi_3 : zeroI Try.prog 3 = some (Value.int .i64 0, 1, 8) := by kernel_rfl
theorem int_3 : Try.prog.underlying 3 = some (.int .i64) := by kernel_rfl
theorem cells_4 : cellsN Try.prog 4 = some 1 := by kernel_rfl
theorem zero_4 : zeroOf Try.prog 4 = some (Value.bool false) := by kernel_rfl
theorem one_4 : oneB Try.prog 4 = true := by kernel_rfl
theorem zi_4 : zeroI Try.prog 4 = some (Value.bool false, 1, 1) := by kernel_rfl
theorem bool_4 : Try.prog.underlying 4 = some .bool := by kernel_rfl
theorem cells_9 : cellsN Try.prog 9 = some 1 := by kernel_rfl
theorem zero_9 : zeroOf Try.prog 9 = some (Value.string ⟨#[]⟩) := by kernel_rfl
theorem one_9 : oneB Try.prog 9 = true := by kernel_rfl
theorem zi_9 : zeroI Try.prog 9 = some (Value.string ⟨#[]⟩, 1, 16) := by kernel_rfl
theorem cells_22 : cellsN Try.prog 22 = some 1 := by kernel_rfl
theorem zero_22 : zeroOf Try.prog 22 = some (Value.slice none 0 0) := by kernel_rfl
theorem one_22 : oneB Try.prog 22 = true := by kernel_rfl
theorem elm_22 : elemOf' Try.prog 22 = some (42, 3) := by kernel_rfl
theorem sl_22 : Try.prog.underlying 22 = some (.slice 42) := by kernel_rfl
theorem zi_22 : zeroI Try.prog 22 = some (Value.slice none 0 0, 1, 24) := by kernel_rfl
theorem cells_24 : cellsN Try.prog 24 = some 2 := by kernel_rfl
theorem zero_24 : zeroOf Try.prog 24 = some (Value.agg #[(.int .i64 0), (.slice none 0 0)]) := by kernel_rfl
theorem agg_24 : aggSize Try.prog 24 = some 2 := by kernel_rfl
theorem fo_24_0 : fieldOff Try.prog 24 0 = some 0 := by kernel_rfl
theorem fo_24_1 : fieldOff Try.prog 24 1 = some 1 := by kernel_rfl
theorem pl_24 : placesOf Try.prog 24 = some [(0, 1), (1, 1)] := by kernel_rfl
theorem zi_24 : zeroI Try.prog 24 = some (Value.agg #[(.int .i64 0), (.slice none 0 0)], 2, 32) := by kernel_rfl
theorem cells_25 : cellsN Try.prog 25 = some 1 := by kernel_rfl
theorem zero_25 : zeroOf Try.prog 25 = some (Value.slice none 0 0) := by kernel_rfl
theorem one_25 : oneB Try.prog 25 = true := by kernel_rfl
theorem elm_25 : elemOf' Try.prog 25 = some (3, 1) := by kernel_rfl
theorem sl_25 : Try.prog.underlying 25 = some (.slice 3) := by kernel_rfl
theorem zi_25 : zeroI Try.prog 25 = some (Value.slice none 0 0, 1, 24) := by kernel_rfl
theorem cells_28 : cellsN Try.prog 28 = some 1 := by kernel_rfl
theorem zero_28 : zeroOf Try.prog 28 = some (Value.int .i64 0) := by kernel_rfl
theorem one_28 : oneB Try.prog 28 = true := by kernel_rfl
theorem zi_28 : zeroI Try.prog 28 = some (Value.int .i64 0, 1, 8) := by kernel_rfl
theorem int_28 : Try.prog.underlying 28 = some (.int .i64) := by kernel_rfl
theorem cells_29 : cellsN Try.prog 29 = some 1 := by kernel_rfl
theorem zero_29 : zeroOf Try.prog 29 = some (Value.tuple #[(.bool false), (.int .i64 0)]) := by kernel_rfl
theorem one_29 : oneB Try.prog 29 = true := by kernel_rfl
theorem zi_29 : zeroI Try.prog 29 = some (Value.tuple #[(.bool false), (.int .i64 0)], 1, 0) := by kernel_rfl
theorem cells_33 : cellsN Try.prog 33 = some 1 := by kernel_rfl
theorem zero_33 : zeroOf Try.prog 33 = some (Value.tuple #[(.slice none 0 0), (.bool false), (.int .i64 0)]) := by kernel_rfl
theorem one_33 : oneB Try.prog 33 = true := by kernel_rfl
theorem zi_33 : zeroI Try.prog 33 = some (Value.tuple #[(.slice none 0 0), (.bool false), (.int .i64 0)], 1, 0) := by kernel_rfl
theorem cells_37 : cellsN Try.prog 37 = some 2 := by kernel_rfl
theorem zero_37 : zeroOf Try.prog 37 = some (Value.agg #[(.int .i64 0), (.int .i64 0)]) := by kernel_rfl
theorem agg_37 : aggSize Try.prog 37 = some 2 := by kernel_rfl
theorem fo_37_0 : fieldOff Try.prog 37 0 = some 0 := by kernel_rfl
theorem fo_37_1 : fieldOff Try.prog 37 1 = some 1 := by kernel_rfl
theorem pl_37 : placesOf Try.prog 37 = some [(0, 1), (1, 1)] := by kernel_rfl
theorem zi_37 : zeroI Try.prog 37 = some (Value.agg #[(.int .i64 0), (.int .i64 0)], 2, 16) := by kernel_rfl
theorem cells_38 : cellsN Try.prog 38 = some 1 := by kernel_rfl
theorem zero_38 : zeroOf Try.prog 38 = some (Value.tuple #[(.int .i64 0), (.bool false), (.int .i64 0)]) := by kernel_rfl
theorem one_38 : oneB Try.prog 38 = true := by kernel_rfl
theorem zi_38 : zeroI Try.prog 38 = some (Value.tuple #[(.int .i64 0), (.bool false), (.int .i64 0)], 1, 0) := by kernel_rfl
theorem cells_42 : cellsN Try.prog 42 = some 3 := by kernel_rfl
theorem zero_42 : zeroOf Try.prog 42 = some (Value.agg #[(.int .i64 0), (.int .i64 0), (.int .i64 0)]) := by kernel_rfl
theorem agg_42 : aggSize Try.prog 42 = some 3 := by kernel_rfl
theorem fo_42_0 : fieldOff Try.prog 42 0 = some 0 := by kernel_rfl
theorem fo_42_1 : fieldOff Try.prog 42 1 = some 1 := by kernel_rfl
theorem fo_42_2 : fieldOff Try.prog 42 2 = some 2 := by kernel_rfl
theorem pl_42 : placesOf Try.prog 42 = some [(0, 1), (1, 1), (2, 1)] := by kernel_rfl
theorem zi_42 : zeroI Try.prog 42 = some (Value.agg #[(.int .i64 0), (.int .i64 0), (.int .i64 0)], 3, 24) := by kernel_rfl
theorem cells_46 : cellsN Try.prog 46 = some 1 := by kernel_rfl
theorem zero_46 : zeroOf Try.prog 46 = some (Value.slice none 0 0) := by kernel_rfl
theorem one_46 : oneB Try.prog 46 = true := by kernel_rfl
theorem elm_46 : elemOf' Try.prog 46 = some (87, 2) := by kernel_rfl
theorem sl_46 : Try.prog.underlying 46 = some (.slice 87) := by kernel_rfl
theorem zi_46 : zeroI Try.prog 46 = some (Value.slice none 0 0, 1, 24) := by kernel_rfl
theorem cells_47 : cellsN Try.prog 47 = some 1 := by kernel_rfl
theorem zero_47 : zeroOf Try.prog 47 = some (Value.tuple #[(.slice none 0 0), (.int .i64 0)]) := by kernel_rfl
theorem one_47 : oneB Try.prog 47 = true := by kernel_rfl
theorem zi_47 : zeroI Try.prog 47 = some (Value.tuple #[(.slice none 0 0), (.int .i64 0)], 1, 0) := by kernel_rfl
theorem cells_51 : cellsN Try.prog 51 = some 1 := by kernel_rfl
theorem zero_51 : zeroOf Try.prog 51 = some (Value.slice none 0 0) := by kernel_rfl
theorem one_51 : oneB Try.prog 51 = true := by kernel_rfl
theorem elm_51 : elemOf' Try.prog 51 = some (25, 1) := by kernel_rfl
theorem sl_51 : Try.prog.underlying 51 = some (.slice 25) := by kernel_rfl
theorem zi_51 : zeroI Try.prog 51 = some (Value.slice none 0 0, 1, 24) := by kernel_rfl
theorem cells_52 : cellsN Try.prog 52 = some 1 := by kernel_rfl
theorem zero_52 : zeroOf Try.prog 52 = some (Value.tuple #[(.slice none 0 0), (.int .i64 0)]) := by kernel_rfl
theorem one_52 : oneB Try.prog 52 = true := by kernel_rfl
theorem zi_52 : zeroI Try.prog 52 = some (Value.tuple #[(.slice none 0 0), (.int .i64 0)], 1, 0) := by kernel_rfl
theorem cells_54 : cellsN Try.prog 54 = some 1 := by kernel_rfl
theorem zero_54 : zeroOf Try.prog 54 = some (Value.tuple #[(.slice none 0 0), (.int .i64 0)]) := by kernel_rfl
theorem one_54 : oneB Try.prog 54 = true := by kernel_rfl
theorem zi_54 : zeroI Try.prog 54 = some (Value.tuple #[(.slice none 0 0), (.int .i64 0)], 1, 0) := by kernel_rfl
theorem cells_61 : cellsN Try.prog 61 = some 1 := by kernel_rfl
theorem zero_61 : zeroOf Try.prog 61 = some (Value.tuple #[(.agg #[(.int .i64 0), (.slice none 0 0)]), (.int .i64 0)]) := by kernel_rfl
theorem one_61 : oneB Try.prog 61 = true := by kernel_rfl
theorem zi_61 : zeroI Try.prog 61 = some (Value.tuple #[(.agg #[(.int .i64 0), (.slice none 0 0)]), (.int .i64 0)], 1, 0) := by kernel_rfl
theorem cells_70 : cellsN Try.prog 70 = some 1 := by kernel_rfl
theorem zero_70 : zeroOf Try.prog 70 = some (Value.tuple #[(.slice none 0 0), (.slice none 0 0), (.int .i64 0)]) := by kernel_rfl
theorem one_70 : oneB Try.prog 70 = true := by kernel_rfl
theorem zi_70 : zeroI Try.prog 70 = some (Value.tuple #[(.slice none 0 0), (.slice none 0 0), (.int .i64 0)], 1, 0) := by kernel_rfl
theorem cells_74 : cellsN Try.prog 74 = some 1 := by kernel_rfl
theorem zero_74 : zeroOf Try.prog 74 = some (Value.slice none 0 0) := by kernel_rfl
theorem one_74 : oneB Try.prog 74 = true := by kernel_rfl
theorem elm_74 : elemOf' Try.prog 74 = some (88, 3) := by kernel_rfl
theorem sl_74 : Try.prog.underlying 74 = some (.slice 88) := by kernel_rfl
theorem zi_74 : zeroI Try.prog 74 = some (Value.slice none 0 0, 1, 24) := by kernel_rfl
theorem cells_75 : cellsN Try.prog 75 = some 1 := by kernel_rfl
theorem zero_75 : zeroOf Try.prog 75 = some (Value.tuple #[(.slice none 0 0), (.int .i64 0)]) := by kernel_rfl
theorem one_75 : oneB Try.prog 75 = true := by kernel_rfl
theorem zi_75 : zeroI Try.prog 75 = some (Value.tuple #[(.slice none 0 0), (.int .i64 0)], 1, 0) := by kernel_rfl
theorem cells_77 : cellsN Try.prog 77 = some 1 := by kernel_rfl
theorem zero_77 : zeroOf Try.prog 77 = some (Value.tuple #[(.int .i64 0), (.bool false)]) := by kernel_rfl
theorem one_77 : oneB Try.prog 77 = true := by kernel_rfl
theorem zi_77 : zeroI Try.prog 77 = some (Value.tuple #[(.int .i64 0), (.bool false)], 1, 0) := by kernel_rfl
theorem cells_80 : cellsN Try.prog 80 = some 1 := by kernel_rfl
theorem zero_80 : zeroOf Try.prog 80 = some (Value.slice none 0 0) := by kernel_rfl
theorem one_80 : oneB Try.prog 80 = true := by kernel_rfl
theorem elm_80 : elemOf' Try.prog 80 = some (83, 1) := by kernel_rfl
theorem sl_80 : Try.prog.underlying 80 = some (.slice 83) := by kernel_rfl
theorem zi_80 : zeroI Try.prog 80 = some (Value.slice none 0 0, 1, 24) := by kernel_rfl
theorem cells_81 : cellsN Try.prog 81 = some 1 := by kernel_rfl
theorem zero_81 : zeroOf Try.prog 81 = some (Value.tuple #[(.slice none 0 0), (.slice none 0 0)]) := by kernel_rfl
theorem one_81 : oneB Try.prog 81 = true := by kernel_rfl
theorem zi_81 : zeroI Try.prog 81 = some (Value.tuple #[(.slice none 0 0), (.slice none 0 0)], 1, 0) := by kernel_rfl
theorem cells_83 : cellsN Try.prog 83 = some 1 := by kernel_rfl
theorem zero_83 : zeroOf Try.prog 83 = some (Value.slice none 0 0) := by kernel_rfl
theorem one_83 : oneB Try.prog 83 = true := by kernel_rfl
theorem elm_83 : elemOf' Try.prog 83 = some (4, 1) := by kernel_rfl
theorem sl_83 : Try.prog.underlying 83 = some (.slice 4) := by kernel_rfl
theorem zi_83 : zeroI Try.prog 83 = some (Value.slice none 0 0, 1, 24) := by kernel_rfl
theorem cells_87 : cellsN Try.prog 87 = some 2 := by kernel_rfl
theorem zero_87 : zeroOf Try.prog 87 = some (Value.agg #[(.bool false), (.int .i64 0)]) := by kernel_rfl
theorem agg_87 : aggSize Try.prog 87 = some 2 := by kernel_rfl
theorem fo_87_0 : fieldOff Try.prog 87 0 = some 0 := by kernel_rfl
theorem fo_87_1 : fieldOff Try.prog 87 1 = some 1 := by kernel_rfl
theorem pl_87 : placesOf Try.prog 87 = some [(0, 1), (1, 1)] := by kernel_rfl
theorem zi_87 : zeroI Try.prog 87 = some (Value.agg #[(.bool false), (.int .i64 0)], 2, 16) := by kernel_rfl
theorem cells_88 : cellsN Try.prog 88 = some 3 := by kernel_rfl
theorem zero_88 : zeroOf Try.prog 88 = some (Value.agg #[(.int .i64 0), (.int .i64 0), (.int .i64 0)]) := by kernel_rfl
theorem agg_88 : aggSize Try.prog 88 = some 3 := by kernel_rfl
theorem fo_88_0 : fieldOff Try.prog 88 0 = some 0 := by kernel_rfl
theorem fo_88_1 : fieldOff Try.prog 88 1 = some 1 := by kernel_rfl
theorem fo_88_2 : fieldOff Try.prog 88 2 = some 2 := by kernel_rfl
theorem pl_88 : placesOf Try.prog 88 = some [(0, 1), (1, 1), (2, 1)] := by kernel_rfl
theorem zi_88 : zeroI Try.prog 88 = some (Value.agg #[(.int .i64 0), (.int .i64 0), (.int .i64 0)], 3, 24) := by kernel_rfl
theorem cells_94 : cellsN Try.prog 94 = some 1 := by kernel_rfl
theorem zero_94 : zeroOf Try.prog 94 = some (Value.nilFunc) := by kernel_rfl
theorem one_94 : oneB Try.prog 94 = true := by kernel_rfl
theorem zi_94 : zeroI Try.prog 94 = some (Value.nilFunc, 1, 8) := by kernel_rfl
theorem cells_101 : cellsN Try.prog 101 = some 1 := by kernel_rfl
theorem zero_101 : zeroOf Try.prog 101 = some (Value.nilFunc) := by kernel_rfl
theorem one_101 : oneB Try.prog 101 = true := by kernel_rfl
theorem zi_101 : zeroI Try.prog 101 = some (Value.nilFunc, 1, 8) := by kernel_rfl
theorem cells_107 : cellsN Try.prog 107 = some 1 := by kernel_rfl
theorem zero_107 : zeroOf Try.prog 107 = some (Value.slice none 0 0) := by kernel_rfl
theorem one_107 : oneB Try.prog 107 = true := by kernel_rfl
theorem elm_107 : elemOf' Try.prog 107 = some (22, 1) := by kernel_rfl
theorem sl_107 : Try.prog.underlying 107 = some (.slice 22) := by kernel_rfl
theorem zi_107 : zeroI Try.prog 107 = some (Value.slice none 0 0, 1, 24) := by kernel_rfl
theorem cells_110 : cellsN Try.prog 110 = some 1 := by kernel_rfl
theorem zero_110 : zeroOf Try.prog 110 = some (Value.nilFunc) := by kernel_rfl
theorem one_110 : oneB Try.prog 110 = true := by kernel_rfl
theorem zi_110 : zeroI Try.prog 110 = some (Value.nilFunc, 1, 8) := by kernel_rfl
theorem cells_113 : cellsN Try.prog 113 = some 1 := by kernel_rfl
theorem zero_113 : zeroOf Try.prog 113 = some (Value.nilFunc) := by kernel_rfl
theorem one_113 : oneB Try.prog 113 = true := by kernel_rfl
theorem zi_113 : zeroI Try.prog 113 = some (Value.nilFunc, 1, 8) := by kernel_rfl
theorem cells_114 : cellsN Try.prog 114 = some 1 := by kernel_rfl
theorem zero_114 : zeroOf Try.prog 114 = some (Value.slice none 0 0) := by kernel_rfl
theorem one_114 : oneB Try.prog 114 = true := by kernel_rfl
theorem elm_114 : elemOf' Try.prog 114 = some (74, 1) := by kernel_rfl
theorem sl_114 : Try.prog.underlying 114 = some (.slice 74) := by kernel_rfl
theorem zi_114 : zeroI Try.prog 114 = some (Value.slice none 0 0, 1, 24) := by kernel_rfl
theorem cells_118 : cellsN Try.prog 118 = some 1 := by kernel_rfl
theorem zero_118 : zeroOf Try.prog 118 = some (Value.int .u64 0) := by kernel_rfl
theorem one_118 : oneB Try.prog 118 = true := by kernel_rfl
theorem zi_118 : zeroI Try.prog 118 = some (Value.int .u64 0, 1, 8) := by kernel_rfl
theorem int_118 : Try.prog.underlying 118 = some (.int .u64) := by kernel_rfl
theorem cells_122 : cellsN Try.prog 122 = some 1 := by kernel_rfl
theorem zero_122 : zeroOf Try.prog 122 = some (Value.int .i64 0) := by kernel_rfl
theorem one_122 : oneB Try.prog 122 = true := by kernel_rfl
theorem zi_122 : zeroI Try.prog 122 = some (Value.int .i64 0, 1, 8) := by kernel_rfl
theorem int_122 : Try.prog.underlying 122 = some (.int .i64) := by kernel_rfl
theorem cells_123 : cellsN Try.prog 123 = some 1 := by kernel_rfl
theorem zero_123 : zeroOf Try.prog 123 = some (Value.tuple #[(.int .i64 0), (.int .i64 0)]) := by kernel_rfl
theorem one_123 : oneB Try.prog 123 = true := by kernel_rfl
theorem zi_123 : zeroI Try.prog 123 = some (Value.tuple #[(.int .i64 0), (.int .i64 0)], 1, 0) := by kernel_rfl
theorem cells_129 : cellsN Try.prog 129 = some 1 := by kernel_rfl
theorem zero_129 : zeroOf Try.prog 129 = some (Value.int .u32 0) := by kernel_rfl
theorem one_129 : oneB Try.prog 129 = true := by kernel_rfl
theorem zi_129 : zeroI Try.prog 129 = some (Value.int .u32 0, 1, 4) := by kernel_rfl
theorem int_129 : Try.prog.underlying 129 = some (.int .u32) := by kernel_rfl
theorem cells_131 : cellsN Try.prog 131 = some 1 := by kernel_rfl
theorem zero_131 : zeroOf Try.prog 131 = some (Value.int .u64 0) := by kernel_rfl
theorem one_131 : oneB Try.prog 131 = true := by kernel_rfl
theorem zi_131 : zeroI Try.prog 131 = some (Value.int .u64 0, 1, 8) := by kernel_rfl
theorem int_131 : Try.prog.underlying 131 = some (.int .u64) := by kernel_rfl
theorem cells_133 : cellsN Try.prog 133 = some 1 := by kernel_rfl
theorem zero_133 : zeroOf Try.prog 133 = some (Value.int .u64 0) := by kernel_rfl
theorem one_133 : oneB Try.prog 133 = true := by kernel_rfl
theorem zi_133 : zeroI Try.prog 133 = some (Value.int .u64 0, 1, 8) := by kernel_rfl
theorem int_133 : Try.prog.underlying 133 = some (.int .u64) := by kernel_rfl
theorem cells_137 : cellsN Try.prog 137 = some 1 := by kernel_rfl
theorem zero_137 : zeroOf Try.prog 137 = some (Value.pointer none) := by kernel_rfl
theorem one_137 : oneB Try.prog 137 = true := by kernel_rfl
theorem zi_137 : zeroI Try.prog 137 = some (Value.pointer none, 1, 8) := by kernel_rfl
theorem cells_140 : cellsN Try.prog 140 = some 1 := by kernel_rfl
theorem zero_140 : zeroOf Try.prog 140 = some (Value.tuple #[(.int .i64 0), (.int .i64 0)]) := by kernel_rfl
theorem one_140 : oneB Try.prog 140 = true := by kernel_rfl
theorem zi_140 : zeroI Try.prog 140 = some (Value.tuple #[(.int .i64 0), (.int .i64 0)], 1, 0) := by kernel_rfl
end Go.Proofs.Ytenalmddoljhoaa.Tb
