/- Facts on the types and functions of the program, each by a reckoning of the kernel. -/
import Derived.Test.YtfgjojoipbbacaaChecked
import Derived.Test.YtfgjojoipbbacaaSz
import Derived.KernelRfl
set_option linter.unusedVariables false
set_option linter.unusedSimpArgs false
namespace Go.Proofs.Ytfgjojoipbbacaa.Tb
open Go.Sx
theorem mixed : Try.prog.follows .mixedOrders = true := by kernel_rfl
theorem gofn_3 : goFn Try.prog 3 = true := by kernel_rfl
theorem gofn_4 : goFn Try.prog 4 = true := by kernel_rfl
theorem gofn_5 : goFn Try.prog 5 = true := by kernel_rfl
theorem gofn_6 : goFn Try.prog 6 = true := by kernel_rfl
theorem gofn_7 : goFn Try.prog 7 = true := by kernel_rfl
theorem gofn_8 : goFn Try.prog 8 = true := by kernel_rfl
theorem gofn_9 : goFn Try.prog 9 = true := by kernel_rfl
theorem gofn_10 : goFn Try.prog 10 = true := by kernel_rfl
theorem gofn_11 : goFn Try.prog 11 = true := by kernel_rfl
theorem gofn_12 : goFn Try.prog 12 = true := by kernel_rfl
theorem gofn_13 : goFn Try.prog 13 = true := by kernel_rfl
theorem gofn_14 : goFn Try.prog 14 = true := by kernel_rfl
theorem gofn_15 : goFn Try.prog 15 = true := by kernel_rfl
theorem gofn_16 : goFn Try.prog 16 = true := by kernel_rfl
theorem gofn_17 : goFn Try.prog 17 = true := by kernel_rfl
theorem gofn_18 : goFn Try.prog 18 = true := by kernel_rfl
theorem gofn_19 : goFn Try.prog 19 = true := by kernel_rfl
theorem gofn_20 : goFn Try.prog 20 = true := by kernel_rfl
theorem gofn_21 : goFn Try.prog 21 = true := by kernel_rfl
theorem gofn_22 : goFn Try.prog 22 = true := by kernel_rfl
theorem gofn_23 : goFn Try.prog 23 = true := by kernel_rfl
theorem gofn_24 : goFn Try.prog 24 = true := by kernel_rfl
theorem gofn_25 : goFn Try.prog 25 = true := by kernel_rfl
theorem gofn_26 : goFn Try.prog 26 = true := by kernel_rfl
theorem gofn_27 : goFn Try.prog 27 = true := by kernel_rfl
theorem gofn_28 : goFn Try.prog 28 = true := by kernel_rfl
theorem gofn_29 : goFn Try.prog 29 = true := by kernel_rfl
theorem gofn_30 : goFn Try.prog 30 = true := by kernel_rfl
theorem gofn_31 : goFn Try.prog 31 = true := by kernel_rfl
theorem gofn_32 : goFn Try.prog 32 = true := by kernel_rfl
theorem gofn_33 : goFn Try.prog 33 = true := by kernel_rfl
theorem gofn_34 : goFn Try.prog 34 = true := by kernel_rfl
theorem gofn_35 : goFn Try.prog 35 = true := by kernel_rfl
theorem gofn_36 : goFn Try.prog 36 = true := by kernel_rfl
theorem gofn_37 : goFn Try.prog 37 = true := by kernel_rfl
theorem gofn_38 : goFn Try.prog 38 = true := by kernel_rfl
theorem gofn_39 : goFn Try.prog 39 = true := by kernel_rfl
theorem gofn_40 : goFn Try.prog 40 = true := by kernel_rfl
theorem gofn_41 : goFn Try.prog 41 = true := by kernel_rfl
theorem gofn_42 : goFn Try.prog 42 = true := by kernel_rfl
theorem gofn_43 : goFn Try.prog 43 = true := by kernel_rfl
theorem gofn_44 : goFn Try.prog 44 = true := by kernel_rfl
theorem gofn_45 : goFn Try.prog 45 = true := by kernel_rfl
theorem gofn_46 : goFn Try.prog 46 = true := by kernel_rfl
theorem gofn_47 : goFn Try.prog 47 = true := by kernel_rfl
theorem gofn_48 : goFn Try.prog 48 = true := by kernel_rfl
theorem gofn_49 : goFn Try.prog 49 = true := by kernel_rfl
theorem gofn_50 : goFn Try.prog 50 = true := by kernel_rfl
theorem gofn_51 : goFn Try.prog 51 = true := by kernel_rfl
theorem gofn_52 : goFn Try.prog 52 = true := by kernel_rfl
theorem gofn_53 : goFn Try.prog 53 = true := by kernel_rfl
theorem gofn_54 : goFn Try.prog 54 = true := by kernel_rfl
theorem gofn_55 : goFn Try.prog 55 = true := by kernel_rfl
theorem gofn_56 : goFn Try.prog 56 = true := by kernel_rfl
theorem gofn_57 : goFn Try.prog 57 = true := by kernel_rfl
theorem gofn_58 : goFn Try.prog 58 = true := by kernel_rfl
theorem gofn_59 : goFn Try.prog 59 = true := by kernel_rfl
theorem gofn_60 : goFn Try.prog 60 = true := by kernel_rfl
theorem gofn_61 : goFn Try.prog 61 = true := by kernel_rfl
theorem gofn_62 : goFn Try.prog 62 = true := by kernel_rfl
theorem gofn_63 : goFn Try.prog 63 = true := by kernel_rfl
theorem gofn_64 : goFn Try.prog 64 = true := by kernel_rfl
theorem gofn_65 : goFn Try.prog 65 = true := by kernel_rfl
theorem gofn_66 : goFn Try.prog 66 = true := by kernel_rfl
theorem gofn_67 : goFn Try.prog 67 = true := by kernel_rfl
theorem gofn_68 : goFn Try.prog 68 = true := by kernel_rfl
theorem gofn_69 : goFn Try.prog 69 = true := by kernel_rfl
theorem gofn_70 : goFn Try.prog 70 = true := by kernel_rfl
theorem gofn_71 : goFn Try.prog 71 = true := by kernel_rfl
theorem gofn_72 : goFn Try.prog 72 = true := by kernel_rfl
theorem gofn_73 : goFn Try.prog 73 = true := by kernel_rfl
theorem gofn_74 : goFn Try.prog 74 = true := by kernel_rfl
theorem gofn_75 : goFn Try.prog 75 = true := by kernel_rfl
theorem gofn_76 : goFn Try.prog 76 = true := by kernel_rfl
theorem gofn_77 : goFn Try.prog 77 = true := by kernel_rfl
theorem gofn_78 : goFn Try.prog 78 = true := by kernel_rfl
theorem gofn_79 : goFn Try.prog 79 = true := by kernel_rfl
theorem gofn_80 : goFn Try.prog 80 = true := by kernel_rfl
theorem gofn_81 : goFn Try.prog 81 = true := by kernel_rfl
theorem gofn_82 : goFn Try.prog 82 = true := by kernel_rfl
theorem gofn_83 : goFn Try.prog 83 = true := by kernel_rfl
theorem gofn_84 : goFn Try.prog 84 = true := by kernel_rfl
theorem gofn_85 : goFn Try.prog 85 = true := by kernel_rfl
theorem gofn_86 : goFn Try.prog 86 = true := by kernel_rfl
theorem gofn_87 : goFn Try.prog 87 = true := by kernel_rfl
theorem gofn_88 : goFn Try.prog 88 = true := by kernel_rfl
theorem gofn_89 : goFn Try.prog 89 = true := by kernel_rfl
theorem gofn_90 : goFn Try.prog 90 = true := by kernel_rfl
theorem gofn_91 : goFn Try.prog 91 = true := by kernel_rfl
theorem gofn_92 : goFn Try.prog 92 = true := by kernel_rfl
theorem gofn_93 : goFn Try.prog 93 = true := by kernel_rfl
theorem gofn_94 : goFn Try.prog 94 = true := by kernel_rfl
theorem gofn_95 : goFn Try.prog 95 = true := by kernel_rfl
theorem gofn_96 : goFn Try.prog 96 = true := by kernel_rfl
theorem gofn_97 : goFn Try.prog 97 = true := by kernel_rfl
theorem gofn_98 : goFn Try.prog 98 = true := by kernel_rfl
theorem gofn_99 : goFn Try.prog 99 = true := by kernel_rfl
theorem gofn_100 : goFn Try.prog 100 = true := by kernel_rfl
theorem gofn_101 : goFn Try.prog 101 = true := by kernel_rfl
theorem gofn_102 : goFn Try.prog 102 = true := by kernel_rfl
theorem gofn_103 : goFn Try.prog 103 = true := by kernel_rfl
theorem gofn_104 : goFn Try.prog 104 = true := by kernel_rfl
theorem gofn_105 : goFn Try.prog 105 = true := by kernel_rfl
theorem gofn_106 : goFn Try.prog 106 = true := by kernel_rfl
theorem gofn_107 : goFn Try.prog 107 = true := by kernel_rfl
theorem gofn_108 : goFn Try.prog 108 = true := by kernel_rfl
theorem gofn_109 : goFn Try.prog 109 = true := by kernel_rfl
theorem gofn_110 : goFn Try.prog 110 = true := by kernel_rfl
theorem gofn_111 : goFn Try.prog 111 = true := by kernel_rfl
theorem gofn_112 : goFn Try.prog 112 = true := by kernel_rfl
theorem gofn_113 : goFn Try.prog 113 = true := by kernel_rfl
theorem gofn_114 : goFn Try.prog 114 = true := by kernel_rfl
theorem gofn_115 : goFn Try.prog 115 = true := by kernel_rfl
theorem gofn_116 : goFn Try.prog 116 = true := by kernel_rfl
theorem gofn_117 : goFn Try.prog 117 = true := by kernel_rfl
theorem gofn_118 : goFn Try.prog 118 = true := by kernel_rfl
theorem gofn_119 : goFn Try.prog 119 = true := by kernel_rfl
theorem gofn_120 : goFn Try.prog 120 = true := by kernel_rfl
theorem gofn_121 : goFn Try.prog 121 = true := by kernel_rfl
theorem gofn_122 : goFn Try.prog 122 = true := by kernel_rfl
theorem gofn_123 : goFn Try.prog 123 = true := by kernel_rfl
theorem gofn_124 : goFn Try.prog 124 = true := by kernel_rfl
theorem gofn_125 : goFn Try.prog 125 = true := by kernel_rfl
theorem gofn_126 : goFn Try.prog 126 = true := by kernel_rfl
theorem gofn_127 : goFn Try.prog 127 = true := by kernel_rfl
theorem gofn_128 : goFn Try.prog 128 = true := by kernel_rfl
theorem gofn_129 : goFn Try.prog 129 = true := by kernel_rfl
theorem gofn_130 : goFn Try.prog 130 = true := by kernel_rfl
theorem gofn_131 : goFn Try.prog 131 = true := by kernel_rfl
theorem gofn_132 : goFn Try.prog 132 = true := by kernel_rfl
theorem gofn_133 : goFn Try.prog 133 = true := by kernel_rfl
theorem gofn_134 : goFn Try.prog 134 = true := by kernel_rfl
theorem gofn_135 : goFn Try.prog 135 = true := by kernel_rfl
theorem cells_0 : cellsN Try.prog 0 = some 1 := by kernel_rfl
theorem zero_0 : zeroOf Try.prog 0 = some (Value.tuple #[]) := by kernel_rfl
theorem one_0 : oneB Try.prog 0 = true := by kernel_rfl
theorem zi_0 : zeroI Try.prog 0 = some (Value.tuple #[], 1, 0) := by kernel_rfl
theorem cells_3 : cellsN Try.prog 3 = some 1 := by kernel_rfl
theorem zero_3 : zeroOf Try.prog 3 = some (Value.int .i64 0) := by kernel_rfl
theorem one_3 : oneB Try.prog 3 = true := by kernel_rfl
theorem zi_3 : zeroI Try.prog 3 = some (Value.int .i64 0, 1, 8) := by kernel_rfl
theorem int_3 : Try.prog.underlying 3 = some (.int .i64) := by kernel_rfl
theorem cells_4 : cellsN Try.prog 4 = some 1 := by kernel_rfl
theorem zero_4 : zeroOf Try.prog 4 = some (Value.bool false) := by kernel_rfl
theorem one_4 : oneB Try.prog 4 = true := by kernel_rfl
theorem zi_4 : zeroI Try.prog 4 = some (Value.bool false, 1, 1) := by kernel_rfl
theorem bool_4 : Try.prog.underlying 4 = some .bool := by kernel_rfl
theorem cells_9 : cellsN Try.prog 9 = some 1 := by kernel_rfl
theorem zero_9 : zeroOf Try.prog 9 = some (Value.string ⟨#[]⟩) := by kernel_rfl
theorem one_9 : oneB Try.prog 9 = true := by kernel_rfl
theorem zi_9 : zeroI Try.prog 9 = some (Value.string ⟨#[]⟩, 1, 16) := by kernel_rfl
theorem cells_22 : cellsN Try.prog 22 = some 1 := by kernel_rfl
theorem zero_22 : zeroOf Try.prog 22 = some (Value.slice none 0 0) := by kernel_rfl
theorem one_22 : oneB Try.prog 22 = true := by kernel_rfl
theorem elm_22 : elemOf' Try.prog 22 = some (25, 1) := by kernel_rfl
theorem sl_22 : Try.prog.underlying 22 = some (.slice 25) := by kernel_rfl
theorem zi_22 : zeroI Try.prog 22 = some (Value.slice none 0 0, 1, 24) := by kernel_rfl
theorem cells_24 : cellsN Try.prog 24 = some 1 := by kernel_rfl
theorem zero_24 : zeroOf Try.prog 24 = some (Value.agg #[(.slice none 0 0)]) := by kernel_rfl
theorem agg_24 : aggSize Try.prog 24 = some 1 := by kernel_rfl
theorem fo_24_0 : fieldOff Try.prog 24 0 = some 0 := by kernel_rfl
theorem pl_24 : placesOf Try.prog 24 = some [(0, 1)] := by kernel_rfl
theorem zi_24 : zeroI Try.prog 24 = some (Value.agg #[(.slice none 0 0)], 1, 24) := by kernel_rfl
theorem cells_25 : cellsN Try.prog 25 = some 1 := by kernel_rfl
theorem zero_25 : zeroOf Try.prog 25 = some (Value.slice none 0 0) := by kernel_rfl
theorem one_25 : oneB Try.prog 25 = true := by kernel_rfl
theorem elm_25 : elemOf' Try.prog 25 = some (3, 1) := by kernel_rfl
theorem sl_25 : Try.prog.underlying 25 = some (.slice 3) := by kernel_rfl
theorem zi_25 : zeroI Try.prog 25 = some (Value.slice none 0 0, 1, 24) := by kernel_rfl
theorem cells_28 : cellsN Try.prog 28 = some 1 := by kernel_rfl
theorem zero_28 : zeroOf Try.prog 28 = some (Value.int .i64 0) := by kernel_rfl
theorem one_28 : oneB Try.prog 28 = true := by kernel_rfl
theorem zi_28 : zeroI Try.prog 28 = some (Value.int .i64 0, 1, 8) := by kernel_rfl
theorem int_28 : Try.prog.underlying 28 = some (.int .i64) := by kernel_rfl
theorem cells_29 : cellsN Try.prog 29 = some 1 := by kernel_rfl
theorem zero_29 : zeroOf Try.prog 29 = some (Value.tuple #[(.int .i64 0), (.int .i64 0)]) := by kernel_rfl
theorem one_29 : oneB Try.prog 29 = true := by kernel_rfl
theorem zi_29 : zeroI Try.prog 29 = some (Value.tuple #[(.int .i64 0), (.int .i64 0)], 1, 0) := by kernel_rfl
theorem cells_34 : cellsN Try.prog 34 = some 1 := by kernel_rfl
theorem zero_34 : zeroOf Try.prog 34 = some (Value.tuple #[(.slice none 0 0), (.int .i64 0), (.int .i64 0)]) := by kernel_rfl
theorem one_34 : oneB Try.prog 34 = true := by kernel_rfl
theorem zi_34 : zeroI Try.prog 34 = some (Value.tuple #[(.slice none 0 0), (.int .i64 0), (.int .i64 0)], 1, 0) := by kernel_rfl
theorem cells_38 : cellsN Try.prog 38 = some 1 := by kernel_rfl
theorem zero_38 : zeroOf Try.prog 38 = some (Value.tuple #[(.slice none 0 0), (.int .i64 0)]) := by kernel_rfl
theorem one_38 : oneB Try.prog 38 = true := by kernel_rfl
theorem zi_38 : zeroI Try.prog 38 = some (Value.tuple #[(.slice none 0 0), (.int .i64 0)], 1, 0) := by kernel_rfl
theorem cells_42 : cellsN Try.prog 42 = some 1 := by kernel_rfl
theorem zero_42 : zeroOf Try.prog 42 = some (Value.tuple #[(.slice none 0 0), (.bool false), (.int .i64 0)]) := by kernel_rfl
theorem one_42 : oneB Try.prog 42 = true := by kernel_rfl
theorem zi_42 : zeroI Try.prog 42 = some (Value.tuple #[(.slice none 0 0), (.bool false), (.int .i64 0)], 1, 0) := by kernel_rfl
theorem cells_44 : cellsN Try.prog 44 = some 1 := by kernel_rfl
theorem zero_44 : zeroOf Try.prog 44 = some (Value.tuple #[(.agg #[(.slice none 0 0)]), (.int .i64 0)]) := by kernel_rfl
theorem one_44 : oneB Try.prog 44 = true := by kernel_rfl
theorem zi_44 : zeroI Try.prog 44 = some (Value.tuple #[(.agg #[(.slice none 0 0)]), (.int .i64 0)], 1, 0) := by kernel_rfl
theorem cells_53 : cellsN Try.prog 53 = some 1 := by kernel_rfl
theorem zero_53 : zeroOf Try.prog 53 = some (Value.int .u64 0) := by kernel_rfl
theorem one_53 : oneB Try.prog 53 = true := by kernel_rfl
theorem zi_53 : zeroI Try.prog 53 = some (Value.int .u64 0, 1, 8) := by kernel_rfl
theorem int_53 : Try.prog.underlying 53 = some (.int .u64) := by kernel_rfl
theorem cells_55 : cellsN Try.prog 55 = some 1 := by kernel_rfl
theorem zero_55 : zeroOf Try.prog 55 = some (Value.slice none 0 0) := by kernel_rfl
theorem one_55 : oneB Try.prog 55 = true := by kernel_rfl
theorem elm_55 : elemOf' Try.prog 55 = some (90, 4) := by kernel_rfl
theorem sl_55 : Try.prog.underlying 55 = some (.slice 90) := by kernel_rfl
theorem zi_55 : zeroI Try.prog 55 = some (Value.slice none 0 0, 1, 24) := by kernel_rfl
theorem cells_58 : cellsN Try.prog 58 = some 1 := by kernel_rfl
theorem zero_58 : zeroOf Try.prog 58 = some (Value.tuple #[(.slice none 0 0), (.int .i64 0)]) := by kernel_rfl
theorem one_58 : oneB Try.prog 58 = true := by kernel_rfl
theorem zi_58 : zeroI Try.prog 58 = some (Value.tuple #[(.slice none 0 0), (.int .i64 0)], 1, 0) := by kernel_rfl
theorem cells_66 : cellsN Try.prog 66 = some 1 := by kernel_rfl
theorem zero_66 : zeroOf Try.prog 66 = some (Value.nilFunc) := by kernel_rfl
theorem one_66 : oneB Try.prog 66 = true := by kernel_rfl
theorem zi_66 : zeroI Try.prog 66 = some (Value.nilFunc, 1, 8) := by kernel_rfl
theorem cells_69 : cellsN Try.prog 69 = some 6 := by kernel_rfl
theorem zero_69 : zeroOf Try.prog 69 = some (Value.agg #[(.int .i64 0), (.int .i64 0), (.int .i64 0), (.int .i64 0), (.int .i64 0), (.int .i64 0)]) := by kernel_rfl
theorem agg_69 : aggSize Try.prog 69 = some 6 := by kernel_rfl
theorem zi_69 : zeroI Try.prog 69 = some (Value.agg #[(.int .i64 0), (.int .i64 0), (.int .i64 0), (.int .i64 0), (.int .i64 0), (.int .i64 0)], 6, 48) := by kernel_rfl
theorem cells_70 : cellsN Try.prog 70 = some 1 := by kernel_rfl
theorem zero_70 : zeroOf Try.prog 70 = some (Value.tuple #[(.slice none 0 0), (.int .i64 0)]) := by kernel_rfl
theorem one_70 : oneB Try.prog 70 = true := by kernel_rfl
theorem zi_70 : zeroI Try.prog 70 = some (Value.tuple #[(.slice none 0 0), (.int .i64 0)], 1, 0) := by kernel_rfl
theorem cells_79 : cellsN Try.prog 79 = some 1 := by kernel_rfl
theorem zero_79 : zeroOf Try.prog 79 = some (Value.map none) := by kernel_rfl
theorem one_79 : oneB Try.prog 79 = true := by kernel_rfl
theorem zi_79 : zeroI Try.prog 79 = some (Value.map none, 1, 8) := by kernel_rfl
theorem cells_82 : cellsN Try.prog 82 = some 1 := by kernel_rfl
theorem zero_82 : zeroOf Try.prog 82 = some (Value.slice none 0 0) := by kernel_rfl
theorem one_82 : oneB Try.prog 82 = true := by kernel_rfl
theorem elm_82 : elemOf' Try.prog 82 = some (69, 6) := by kernel_rfl
theorem sl_82 : Try.prog.underlying 82 = some (.slice 69) := by kernel_rfl
theorem zi_82 : zeroI Try.prog 82 = some (Value.slice none 0 0, 1, 24) := by kernel_rfl
theorem cells_90 : cellsN Try.prog 90 = some 4 := by kernel_rfl
theorem zero_90 : zeroOf Try.prog 90 = some (Value.agg #[(.int .i64 0), (.int .i64 0), (.int .i64 0), (.int .i64 0)]) := by kernel_rfl
theorem agg_90 : aggSize Try.prog 90 = some 4 := by kernel_rfl
theorem fo_90_0 : fieldOff Try.prog 90 0 = some 0 := by kernel_rfl
theorem fo_90_1 : fieldOff Try.prog 90 1 = some 1 := by kernel_rfl
theorem fo_90_2 : fieldOff Try.prog 90 2 = some 2 := by kernel_rfl
theorem fo_90_3 : fieldOff Try.prog 90 3 = some 3 := by kernel_rfl
theorem pl_90 : placesOf Try.prog 90 = some [(0, 1), (1, 1), (2, 1), (3, 1)] := by kernel_rfl
theorem zi_90 : zeroI Try.prog 90 = some (Value.agg #[(.int .i64 0), (.int .i64 0), (.int .i64 0), (.int .i64 0)], 4, 32) := by kernel_rfl
theorem cells_92 : cellsN Try.prog 92 = some 1 := by kernel_rfl
theorem zero_92 : zeroOf Try.prog 92 = some (Value.map none) := by kernel_rfl
theorem one_92 : oneB Try.prog 92 = true := by kernel_rfl
theorem zi_92 : zeroI Try.prog 92 = some (Value.map none, 1, 8) := by kernel_rfl
theorem cells_95 : cellsN Try.prog 95 = some 2 := by kernel_rfl
theorem zero_95 : zeroOf Try.prog 95 = some (Value.agg #[(.int .i64 0), (.int .i64 0)]) := by kernel_rfl
theorem agg_95 : aggSize Try.prog 95 = some 2 := by kernel_rfl
theorem fo_95_0 : fieldOff Try.prog 95 0 = some 0 := by kernel_rfl
theorem fo_95_1 : fieldOff Try.prog 95 1 = some 1 := by kernel_rfl
theorem pl_95 : placesOf Try.prog 95 = some [(0, 1), (1, 1)] := by kernel_rfl
theorem zi_95 : zeroI Try.prog 95 = some (Value.agg #[(.int .i64 0), (.int .i64 0)], 2, 16) := by kernel_rfl
theorem cells_99 : cellsN Try.prog 99 = some 2 := by kernel_rfl
theorem zero_99 : zeroOf Try.prog 99 = some (Value.agg #[(.slice none 0 0), (.map none)]) := by kernel_rfl
theorem agg_99 : aggSize Try.prog 99 = some 2 := by kernel_rfl
theorem fo_99_0 : fieldOff Try.prog 99 0 = some 0 := by kernel_rfl
theorem fo_99_1 : fieldOff Try.prog 99 1 = some 1 := by kernel_rfl
theorem pl_99 : placesOf Try.prog 99 = some [(0, 1), (1, 1)] := by kernel_rfl
theorem zi_99 : zeroI Try.prog 99 = some (Value.agg #[(.slice none 0 0), (.map none)], 2, 32) := by kernel_rfl
theorem cells_102 : cellsN Try.prog 102 = some 1 := by kernel_rfl
theorem zero_102 : zeroOf Try.prog 102 = some (Value.nilFunc) := by kernel_rfl
theorem one_102 : oneB Try.prog 102 = true := by kernel_rfl
theorem zi_102 : zeroI Try.prog 102 = some (Value.nilFunc, 1, 8) := by kernel_rfl
theorem cells_103 : cellsN Try.prog 103 = some 1 := by kernel_rfl
theorem zero_103 : zeroOf Try.prog 103 = some (Value.tuple #[(.int .i64 0), (.bool false)]) := by kernel_rfl
theorem one_103 : oneB Try.prog 103 = true := by kernel_rfl
theorem zi_103 : zeroI Try.prog 103 = some (Value.tuple #[(.int .i64 0), (.bool false)], 1, 0) := by kernel_rfl
theorem cells_106 : cellsN Try.prog 106 = some 1 := by kernel_rfl
theorem zero_106 : zeroOf Try.prog 106 = some (Value.nilFunc) := by kernel_rfl
theorem one_106 : oneB Try.prog 106 = true := by kernel_rfl
theorem zi_106 : zeroI Try.prog 106 = some (Value.nilFunc, 1, 8) := by kernel_rfl
theorem cells_108 : cellsN Try.prog 108 = some 1 := by kernel_rfl
theorem zero_108 : zeroOf Try.prog 108 = some (Value.nilFunc) := by kernel_rfl
theorem one_108 : oneB Try.prog 108 = true := by kernel_rfl
theorem zi_108 : zeroI Try.prog 108 = some (Value.nilFunc, 1, 8) := by kernel_rfl
theorem cells_112 : cellsN Try.prog 112 = some 1 := by kernel_rfl
theorem zero_112 : zeroOf Try.prog 112 = some (Value.pointer none) := by kernel_rfl
theorem one_112 : oneB Try.prog 112 = true := by kernel_rfl
theorem zi_112 : zeroI Try.prog 112 = some (Value.pointer none, 1, 8) := by kernel_rfl
theorem cells_114 : cellsN Try.prog 114 = some 1 := by kernel_rfl
theorem zero_114 : zeroOf Try.prog 114 = some (Value.map none) := by kernel_rfl
theorem one_114 : oneB Try.prog 114 = true := by kernel_rfl
theorem zi_114 : zeroI Try.prog 114 = some (Value.map none, 1, 8) := by kernel_rfl
theorem cells_121 : cellsN Try.prog 121 = some 1 := by kernel_rfl
theorem zero_121 : zeroOf Try.prog 121 = some (Value.nilFunc) := by kernel_rfl
theorem one_121 : oneB Try.prog 121 = true := by kernel_rfl
theorem zi_121 : zeroI Try.prog 121 = some (Value.nilFunc, 1, 8) := by kernel_rfl
theorem cells_128 : cellsN Try.prog 128 = some 1 := by kernel_rfl
theorem zero_128 : zeroOf Try.prog 128 = some (Value.int .i64 0) := by kernel_rfl
theorem one_128 : oneB Try.prog 128 = true := by kernel_rfl
theorem zi_128 : zeroI Try.prog 128 = some (Value.int .i64 0, 1, 8) := by kernel_rfl
theorem int_128 : Try.prog.underlying 128 = some (.int .i64) := by kernel_rfl
theorem cells_129 : cellsN Try.prog 129 = some 1 := by kernel_rfl
theorem zero_129 : zeroOf Try.prog 129 = some (Value.tuple #[(.int .i64 0), (.int .i64 0)]) := by kernel_rfl
theorem one_129 : oneB Try.prog 129 = true := by kernel_rfl
theorem zi_129 : zeroI Try.prog 129 = some (Value.tuple #[(.int .i64 0), (.int .i64 0)], 1, 0) := by kernel_rfl
theorem cells_135 : cellsN Try.prog 135 = some 1 := by kernel_rfl
theorem zero_135 : zeroOf Try.prog 135 = some (Value.int .u32 0) := by kernel_rfl
theorem one_135 : oneB Try.prog 135 = true := by kernel_rfl
theorem zi_135 : zeroI Try.prog 135 = some (Value.int .u32 0, 1, 4) := by kernel_rfl
theorem int_135 : Try.prog.underlying 135 = some (.int .u32) := by kernel_rfl
theorem cells_137 : cellsN Try.prog 137 = some 1 := by kernel_rfl
theorem zero_137 : zeroOf Try.prog 137 = some (Value.int .u64 0) := by kernel_rfl
theorem one_137 : oneB Try.prog 137 = true := by kernel_rfl
theorem zi_137 : zeroI Try.prog 137 = some (Value.int .u64 0, 1, 8) := by kernel_rfl
theorem int_137 : Try.prog.underlying 137 = some (.int .u64) := by kernel_rfl
theorem cells_138 : cellsN Try.prog 138 = some 1 := by kernel_rfl
theorem zero_138 : zeroOf Try.prog 138 = some (Value.int .u64 0) := by kernel_rfl
theorem one_138 : oneB Try.prog 138 = true := by kernel_rfl
theorem zi_138 : zeroI Try.prog 138 = some (Value.int .u64 0, 1, 8) := by kernel_rfl
theorem int_138 : Try.prog.underlying 138 = some (.int .u64) := by kernel_rfl
theorem cells_142 : cellsN Try.prog 142 = some 1 := by kernel_rfl
theorem zero_142 : zeroOf Try.prog 142 = some (Value.pointer none) := by kernel_rfl
theorem one_142 : oneB Try.prog 142 = true := by kernel_rfl
theorem zi_142 : zeroI Try.prog 142 = some (Value.pointer none, 1, 8) := by kernel_rfl
theorem cells_145 : cellsN Try.prog 145 = some 1 := by kernel_rfl
theorem zero_145 : zeroOf Try.prog 145 = some (Value.tuple #[(.int .i64 0), (.int .i64 0)]) := by kernel_rfl
theorem one_145 : oneB Try.prog 145 = true := by kernel_rfl
theorem zi_145 : zeroI Try.prog 145 = some (Value.tuple #[(.int .i64 0), (.int .i64 0)], 1, 0) := by kernel_rfl
end Go.Proofs.Ytfgjojoipbbacaa.Tb
