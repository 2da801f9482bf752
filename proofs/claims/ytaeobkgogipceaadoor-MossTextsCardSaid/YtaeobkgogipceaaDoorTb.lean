/- Facts on the types and functions of the program, each by a reckoning of the kernel. -/
import Derived.Test.YtaeobkgogipceaaDoorChecked
import Derived.Test.YtaeobkgogipceaaDoorSz
import Derived.KernelRfl
set_option linter.unusedVariables false
set_option linter.unusedSimpArgs false
namespace Go.Proofs.YtaeobkgogipceaaDoor.Tb
open Go.Sx
theorem mixed : Tryd.prog.follows .mixedOrders = true := by kernel_rfl
theorem gofn_3 : goFn Tryd.prog 3 = true := by kernel_rfl
theorem gofn_4 : goFn Tryd.prog 4 = true := by kernel_rfl
theorem gofn_5 : goFn Tryd.prog 5 = true := by kernel_rfl
theorem gofn_6 : goFn Tryd.prog 6 = true := by kernel_rfl
theorem gofn_7 : goFn Tryd.prog 7 = true := by kernel_rfl
theorem gofn_8 : goFn Tryd.prog 8 = true := by kernel_rfl
theorem gofn_9 : goFn Tryd.prog 9 = true := by kernel_rfl
theorem gofn_10 : goFn Tryd.prog 10 = true := by kernel_rfl
theorem gofn_11 : goFn Tryd.prog 11 = true := by kernel_rfl
theorem gofn_12 : goFn Tryd.prog 12 = true := by kernel_rfl
theorem gofn_13 : goFn Tryd.prog 13 = true := by kernel_rfl
theorem gofn_14 : goFn Tryd.prog 14 = true := by kernel_rfl
theorem gofn_15 : goFn Tryd.prog 15 = true := by kernel_rfl
theorem gofn_16 : goFn Tryd.prog 16 = true := by kernel_rfl
theorem gofn_17 : goFn Tryd.prog 17 = true := by kernel_rfl
theorem gofn_18 : goFn Tryd.prog 18 = true := by kernel_rfl
theorem gofn_19 : goFn Tryd.prog 19 = true := by kernel_rfl
theorem gofn_20 : goFn Tryd.prog 20 = true := by kernel_rfl
theorem gofn_21 : goFn Tryd.prog 21 = true := by kernel_rfl
theorem gofn_22 : goFn Tryd.prog 22 = true := by kernel_rfl
theorem gofn_23 : goFn Tryd.prog 23 = true := by kernel_rfl
theorem gofn_24 : goFn Tryd.prog 24 = true := by kernel_rfl
theorem gofn_25 : goFn Tryd.prog 25 = true := by kernel_rfl
theorem gofn_26 : goFn Tryd.prog 26 = true := by kernel_rfl
theorem gofn_27 : goFn Tryd.prog 27 = true := by kernel_rfl
theorem gofn_28 : goFn Tryd.prog 28 = true := by kernel_rfl
theorem gofn_29 : goFn Tryd.prog 29 = true := by kernel_rfl
theorem gofn_30 : goFn Tryd.prog 30 = true := by kernel_rfl
theorem gofn_31 : goFn Tryd.prog 31 = true := by kernel_rfl
theorem gofn_32 : goFn Tryd.prog 32 = true := by kernel_rfl
theorem gofn_33 : goFn Tryd.prog 33 = true := by kernel_rfl
theorem gofn_34 : goFn Tryd.prog 34 = true := by kernel_rfl
theorem gofn_35 : goFn Tryd.prog 35 = true := by kernel_rfl
theorem gofn_36 : goFn Tryd.prog 36 = true := by kernel_rfl
theorem gofn_37 : goFn Tryd.prog 37 = true := by kernel_rfl
theorem gofn_38 : goFn Tryd.prog 38 = true := by kernel_rfl
theorem gofn_39 : goFn Tryd.prog 39 = true := by kernel_rfl
theorem gofn_40 : goFn Tryd.prog 40 = true := by kernel_rfl
theorem gofn_41 : goFn Tryd.prog 41 = true := by kernel_rfl
theorem gofn_42 : goFn Tryd.prog 42 = true := by kernel_rfl
theorem gofn_43 : goFn Tryd.prog 43 = true := by kernel_rfl
theorem gofn_44 : goFn Tryd.prog 44 = true := by kernel_rfl
theorem gofn_45 : goFn Tryd.prog 45 = true := by kernel_rfl
theorem gofn_46 : goFn Tryd.prog 46 = true := by kernel_rfl
theorem gofn_47 : goFn Tryd.prog 47 = true := by kernel_rfl
theorem gofn_48 : goFn Tryd.prog 48 = true := by kernel_rfl
theorem gofn_49 : goFn Tryd.prog 49 = true := by kernel_rfl
theorem gofn_50 : goFn Tryd.prog 50 = true := by kernel_rfl
theorem gofn_51 : goFn Tryd.prog 51 = true := by kernel_rfl
theorem gofn_52 : goFn Tryd.prog 52 = true := by kernel_rfl
theorem gofn_53 : goFn Tryd.prog 53 = true := by kernel_rfl
theorem gofn_54 : goFn Tryd.prog 54 = true := by kernel_rfl
theorem gofn_55 : goFn Tryd.prog 55 = true := by kernel_rfl
theorem gofn_56 : goFn Tryd.prog 56 = true := by kernel_rfl
theorem gofn_57 : goFn Tryd.prog 57 = true := by kernel_rfl
theorem gofn_58 : goFn Tryd.prog 58 = true := by kernel_rfl
theorem gofn_59 : goFn Tryd.prog 59 = true := by kernel_rfl
theorem gofn_60 : goFn Tryd.prog 60 = true := by kernel_rfl
theorem gofn_61 : goFn Tryd.prog 61 = true := by kernel_rfl
theorem gofn_62 : goFn Tryd.prog 62 = true := by kernel_rfl
theorem gofn_63 : goFn Tryd.prog 63 = true := by kernel_rfl
theorem gofn_64 : goFn Tryd.prog 64 = true := by kernel_rfl
theorem gofn_65 : goFn Tryd.prog 65 = true := by kernel_rfl
theorem gofn_66 : goFn Tryd.prog 66 = true := by kernel_rfl
theorem gofn_67 : goFn Tryd.prog 67 = true := by kernel_rfl
theorem gofn_68 : goFn Tryd.prog 68 = true := by kernel_rfl
theorem gofn_69 : goFn Tryd.prog 69 = true := by kernel_rfl
theorem gofn_70 : goFn Tryd.prog 70 = true := by kernel_rfl
theorem gofn_71 : goFn Tryd.prog 71 = true := by kernel_rfl
theorem gofn_72 : goFn Tryd.prog 72 = true := by kernel_rfl
theorem gofn_73 : goFn Tryd.prog 73 = true := by kernel_rfl
theorem gofn_74 : goFn Tryd.prog 74 = true := by kernel_rfl
theorem gofn_75 : goFn Tryd.prog 75 = true := by kernel_rfl
theorem gofn_76 : goFn Tryd.prog 76 = true := by kernel_rfl
theorem gofn_77 : goFn Tryd.prog 77 = true := by kernel_rfl
theorem gofn_78 : goFn Tryd.prog 78 = true := by kernel_rfl
theorem gofn_79 : goFn Tryd.prog 79 = true := by kernel_rfl
theorem gofn_80 : goFn Tryd.prog 80 = true := by kernel_rfl
theorem gofn_81 : goFn Tryd.prog 81 = true := by kernel_rfl
theorem gofn_82 : goFn Tryd.prog 82 = true := by kernel_rfl
theorem gofn_83 : goFn Tryd.prog 83 = true := by kernel_rfl
theorem gofn_84 : goFn Tryd.prog 84 = true := by kernel_rfl
theorem gofn_85 : goFn Tryd.prog 85 = true := by kernel_rfl
theorem gofn_86 : goFn Tryd.prog 86 = true := by kernel_rfl
theorem gofn_87 : goFn Tryd.prog 87 = true := by kernel_rfl
theorem gofn_88 : goFn Tryd.prog 88 = true := by kernel_rfl
theorem gofn_89 : goFn Tryd.prog 89 = true := by kernel_rfl
theorem gofn_90 : goFn Tryd.prog 90 = true := by kernel_rfl
theorem gofn_91 : goFn Tryd.prog 91 = true := by kernel_rfl
theorem gofn_92 : goFn Tryd.prog 92 = true := by kernel_rfl
theorem gofn_93 : goFn Tryd.prog 93 = true := by kernel_rfl
theorem gofn_94 : goFn Tryd.prog 94 = true := by kernel_rfl
theorem gofn_95 : goFn Tryd.prog 95 = true := by kernel_rfl
theorem gofn_96 : goFn Tryd.prog 96 = true := by kernel_rfl
theorem gofn_97 : goFn Tryd.prog 97 = true := by kernel_rfl
theorem gofn_98 : goFn Tryd.prog 98 = true := by kernel_rfl
theorem gofn_99 : goFn Tryd.prog 99 = true := by kernel_rfl
theorem gofn_100 : goFn Tryd.prog 100 = true := by kernel_rfl
theorem gofn_101 : goFn Tryd.prog 101 = true := by kernel_rfl
theorem gofn_102 : goFn Tryd.prog 102 = true := by kernel_rfl
theorem gofn_103 : goFn Tryd.prog 103 = true := by kernel_rfl
theorem gofn_104 : goFn Tryd.prog 104 = true := by kernel_rfl
theorem gofn_105 : goFn Tryd.prog 105 = true := by kernel_rfl
theorem gofn_106 : goFn Tryd.prog 106 = true := by kernel_rfl
theorem gofn_107 : goFn Tryd.prog 107 = true := by kernel_rfl
theorem gofn_108 : goFn Tryd.prog 108 = true := by kernel_rfl
theorem gofn_109 : goFn Tryd.prog 109 = true := by kernel_rfl
theorem gofn_110 : goFn Tryd.prog 110 = true := by kernel_rfl
theorem gofn_111 : goFn Tryd.prog 111 = true := by kernel_rfl
theorem gofn_112 : goFn Tryd.prog 112 = true := by kernel_rfl
theorem gofn_113 : goFn Tryd.prog 113 = true := by kernel_rfl
theorem gofn_114 : goFn Tryd.prog 114 = true := by kernel_rfl
theorem gofn_115 : goFn Tryd.prog 115 = true := by kernel_rfl
theorem gofn_116 : goFn Tryd.prog 116 = true := by kernel_rfl
theorem gofn_117 : goFn Tryd.prog 117 = true := by kernel_rfl
theorem gofn_118 : goFn Tryd.prog 118 = true := by kernel_rfl
theorem gofn_119 : goFn Tryd.prog 119 = true := by kernel_rfl
theorem gofn_120 : goFn Tryd.prog 120 = true := by kernel_rfl
theorem gofn_122 : goFn Tryd.prog 122 = true := by kernel_rfl
theorem gofn_123 : goFn Tryd.prog 123 = true := by kernel_rfl
theorem gofn_124 : goFn Tryd.prog 124 = true := by kernel_rfl
theorem gofn_125 : goFn Tryd.prog 125 = true := by kernel_rfl
theorem gofn_127 : goFn Tryd.prog 127 = true := by kernel_rfl
theorem gofn_128 : goFn Tryd.prog 128 = true := by kernel_rfl
theorem gofn_129 : goFn Tryd.prog 129 = true := by kernel_rfl
theorem gofn_130 : goFn Tryd.prog 130 = true := by kernel_rfl
theorem gofn_131 : goFn Tryd.prog 131 = true := by kernel_rfl
theorem gofn_132 : goFn Tryd.prog 132 = true := by kernel_rfl
theorem gofn_133 : goFn Tryd.prog 133 = true := by kernel_rfl
theorem gofn_134 : goFn Tryd.prog 134 = true := by kernel_rfl
theorem gofn_135 : goFn Tryd.prog 135 = true := by kernel_rfl
theorem gofn_137 : goFn Tryd.prog 137 = true := by kernel_rfl
theorem gofn_138 : goFn Tryd.prog 138 = true := by kernel_rfl
theorem gofn_139 : goFn Tryd.prog 139 = true := by kernel_rfl
theorem gofn_140 : goFn Tryd.prog 140 = true := by kernel_rfl
theorem gofn_141 : goFn Tryd.prog 141 = true := by kernel_rfl
theorem gofn_142 : goFn Tryd.prog 142 = true := by kernel_rfl
theorem gofn_143 : goFn Tryd.prog 143 = true := by kernel_rfl
theorem gofn_172 : goFn Tryd.prog 172 = true := by kernel_rfl
theorem cells_0 : cellsN Tryd.prog 0 = some 1 := by kernel_rfl
theorem zero_0 : zeroOf Tryd.prog 0 = some (Value.tuple #[]) := by kernel_rfl
theorem one_0 : oneB Tryd.prog 0 = true := by kernel_rfl
theorem zi_0 : zeroI Tryd.prog 0 = some (Value.tuple #[], 1, 0) := by kernel_rfl
theorem cells_2 : cellsN Tryd.prog 2 = some 1 := by kernel_rfl
theorem zero_2 : zeroOf Tryd.prog 2 = some (Value.int .i64 0) := by kernel_rfl
theorem one_2 : oneB Tryd.prog 2 = true := by kernel_rfl
theorem zi_2 : zeroI Tryd.prog 2 = some (Value.int .i64 0, 1, 8) := by kernel_rfl
theorem int_2 : Tryd.prog.underlying 2 = some (.int .i64) := by kernel_rfl
theorem cells_3 : cellsN Tryd.prog 3 = some 1 := by kernel_rfl
theorem zero_3 : zeroOf Tryd.prog 3 = some (Value.int .i64 0) := by kernel_rfl
theorem one_3 : oneB Tryd.prog 3 = true := by kernel_rfl
theorem zi_3 : zeroI Tryd.prog 3 = some (Value.int .i64 0, 1, 8) := by kernel_rfl
theorem int_3 : Tryd.prog.underlying 3 = some (.int .i64) := by kernel_rfl
theorem cells_4 : cellsN Tryd.prog 4 = some 1 := by kernel_rfl
theorem zero_4 : zeroOf Tryd.prog 4 = some (Value.bool false) := by kernel_rfl
theorem one_4 : oneB Tryd.prog 4 = true := by kernel_rfl
theorem zi_4 : zeroI Tryd.prog 4 = some (Value.bool false, 1, 1) := by kernel_rfl
theorem bool_4 : Tryd.prog.underlying 4 = some .bool := by kernel_rfl
theorem cells_5 : cellsN Tryd.prog 5 = some 1 := by kernel_rfl
theorem zero_5 : zeroOf Tryd.prog 5 = some (Value.int .u8 0) := by kernel_rfl
theorem one_5 : oneB Tryd.prog 5 = true := by kernel_rfl
theorem zi_5 : zeroI Tryd.prog 5 = some (Value.int .u8 0, 1, 1) := by kernel_rfl
theorem int_5 : Tryd.prog.underlying 5 = some (.int .u8) := by kernel_rfl
theorem cells_9 : cellsN Tryd.prog 9 = some 1 := by kernel_rfl
theorem zero_9 : zeroOf Tryd.prog 9 = some (Value.string ⟨#[]⟩) := by kernel_rfl
theorem one_9 : oneB Tryd.prog 9 = true := by kernel_rfl
theorem zi_9 : zeroI Tryd.prog 9 = some (Value.string ⟨#[]⟩, 1, 16) := by kernel_rfl
theorem cells_21 : cellsN Tryd.prog 21 = some 1 := by kernel_rfl
theorem zero_21 : zeroOf Tryd.prog 21 = some (Value.int .i32 0) := by kernel_rfl
theorem one_21 : oneB Tryd.prog 21 = true := by kernel_rfl
theorem zi_21 : zeroI Tryd.prog 21 = some (Value.int .i32 0, 1, 4) := by kernel_rfl
theorem int_21 : Tryd.prog.underlying 21 = some (.int .i32) := by kernel_rfl
theorem cells_23 : cellsN Tryd.prog 23 = some 3 := by kernel_rfl
theorem zero_23 : zeroOf Tryd.prog 23 = some (Value.agg #[(.int .i64 0), (.int .i64 0), (.int .i64 0)]) := by kernel_rfl
theorem agg_23 : aggSize Tryd.prog 23 = some 3 := by kernel_rfl
theorem fo_23_0 : fieldOff Tryd.prog 23 0 = some 0 := by kernel_rfl
theorem fo_23_1 : fieldOff Tryd.prog 23 1 = some 1 := by kernel_rfl
theorem fo_23_2 : fieldOff Tryd.prog 23 2 = some 2 := by kernel_rfl
theorem pl_23 : placesOf Tryd.prog 23 = some [(0, 1), (1, 1), (2, 1)] := by kernel_rfl
theorem zi_23 : zeroI Tryd.prog 23 = some (Value.agg #[(.int .i64 0), (.int .i64 0), (.int .i64 0)], 3, 24) := by kernel_rfl
theorem cells_24 : cellsN Tryd.prog 24 = some 1 := by kernel_rfl
theorem zero_24 : zeroOf Tryd.prog 24 = some (Value.slice none 0 0) := by kernel_rfl
theorem one_24 : oneB Tryd.prog 24 = true := by kernel_rfl
theorem elm_24 : elemOf' Tryd.prog 24 = some (3, 1) := by kernel_rfl
theorem sl_24 : Tryd.prog.underlying 24 = some (.slice 3) := by kernel_rfl
theorem zi_24 : zeroI Tryd.prog 24 = some (Value.slice none 0 0, 1, 24) := by kernel_rfl
theorem cells_25 : cellsN Tryd.prog 25 = some 1 := by kernel_rfl
theorem zero_25 : zeroOf Tryd.prog 25 = some (Value.int .i64 0) := by kernel_rfl
theorem one_25 : oneB Tryd.prog 25 = true := by kernel_rfl
theorem zi_25 : zeroI Tryd.prog 25 = some (Value.int .i64 0, 1, 8) := by kernel_rfl
theorem int_25 : Tryd.prog.underlying 25 = some (.int .i64) := by kernel_rfl
theorem cells_26 : cellsN Tryd.prog 26 = some 1 := by kernel_rfl
theorem zero_26 : zeroOf Tryd.prog 26 = some (Value.tuple #[(.slice none 0 0), (.int .i64 0)]) := by kernel_rfl
theorem one_26 : oneB Tryd.prog 26 = true := by kernel_rfl
theorem zi_26 : zeroI Tryd.prog 26 = some (Value.tuple #[(.slice none 0 0), (.int .i64 0)], 1, 0) := by kernel_rfl
theorem cells_32 : cellsN Tryd.prog 32 = some 1 := by kernel_rfl
theorem zero_32 : zeroOf Tryd.prog 32 = some (Value.tuple #[(.int .i64 0), (.int .i64 0)]) := by kernel_rfl
theorem one_32 : oneB Tryd.prog 32 = true := by kernel_rfl
theorem zi_32 : zeroI Tryd.prog 32 = some (Value.tuple #[(.int .i64 0), (.int .i64 0)], 1, 0) := by kernel_rfl
theorem cells_34 : cellsN Tryd.prog 34 = some 1 := by kernel_rfl
theorem zero_34 : zeroOf Tryd.prog 34 = some (Value.tuple #[(.int .i64 0), (.int .i64 0), (.int .i64 0)]) := by kernel_rfl
theorem one_34 : oneB Tryd.prog 34 = true := by kernel_rfl
theorem zi_34 : zeroI Tryd.prog 34 = some (Value.tuple #[(.int .i64 0), (.int .i64 0), (.int .i64 0)], 1, 0) := by kernel_rfl
theorem cells_36 : cellsN Tryd.prog 36 = some 1 := by kernel_rfl
theorem zero_36 : zeroOf Tryd.prog 36 = some (Value.tuple #[(.bool false), (.int .i64 0)]) := by kernel_rfl
theorem one_36 : oneB Tryd.prog 36 = true := by kernel_rfl
theorem zi_36 : zeroI Tryd.prog 36 = some (Value.tuple #[(.bool false), (.int .i64 0)], 1, 0) := by kernel_rfl
theorem cells_38 : cellsN Tryd.prog 38 = some 1 := by kernel_rfl
theorem zero_38 : zeroOf Tryd.prog 38 = some (Value.tuple #[(.int .i64 0), (.bool false), (.int .i64 0)]) := by kernel_rfl
theorem one_38 : oneB Tryd.prog 38 = true := by kernel_rfl
theorem zi_38 : zeroI Tryd.prog 38 = some (Value.tuple #[(.int .i64 0), (.bool false), (.int .i64 0)], 1, 0) := by kernel_rfl
theorem cells_43 : cellsN Tryd.prog 43 = some 1 := by kernel_rfl
theorem zero_43 : zeroOf Tryd.prog 43 = some (Value.int .u64 0) := by kernel_rfl
theorem one_43 : oneB Tryd.prog 43 = true := by kernel_rfl
theorem zi_43 : zeroI Tryd.prog 43 = some (Value.int .u64 0, 1, 8) := by kernel_rfl
theorem int_43 : Tryd.prog.underlying 43 = some (.int .u64) := by kernel_rfl
theorem cells_48 : cellsN Tryd.prog 48 = some 1 := by kernel_rfl
theorem zero_48 : zeroOf Tryd.prog 48 = some (Value.tuple #[(.agg #[(.int .i64 0), (.int .i64 0), (.int .i64 0)]), (.int .i64 0), (.int .i64 0)]) := by kernel_rfl
theorem one_48 : oneB Tryd.prog 48 = true := by kernel_rfl
theorem zi_48 : zeroI Tryd.prog 48 = some (Value.tuple #[(.agg #[(.int .i64 0), (.int .i64 0), (.int .i64 0)]), (.int .i64 0), (.int .i64 0)], 1, 0) := by kernel_rfl
theorem cells_50 : cellsN Tryd.prog 50 = some 1 := by kernel_rfl
theorem zero_50 : zeroOf Tryd.prog 50 = some (Value.tuple #[(.string ⟨#[]⟩), (.int .i64 0)]) := by kernel_rfl
theorem one_50 : oneB Tryd.prog 50 = true := by kernel_rfl
theorem zi_50 : zeroI Tryd.prog 50 = some (Value.tuple #[(.string ⟨#[]⟩), (.int .i64 0)], 1, 0) := by kernel_rfl
theorem cells_56 : cellsN Tryd.prog 56 = some 1 := by kernel_rfl
theorem zero_56 : zeroOf Tryd.prog 56 = some (Value.nilFunc) := by kernel_rfl
theorem one_56 : oneB Tryd.prog 56 = true := by kernel_rfl
theorem zi_56 : zeroI Tryd.prog 56 = some (Value.nilFunc, 1, 8) := by kernel_rfl
theorem cells_62 : cellsN Tryd.prog 62 = some 1 := by kernel_rfl
theorem zero_62 : zeroOf Tryd.prog 62 = some (Value.tuple #[(.int .i64 0), (.int .i64 0)]) := by kernel_rfl
theorem one_62 : oneB Tryd.prog 62 = true := by kernel_rfl
theorem zi_62 : zeroI Tryd.prog 62 = some (Value.tuple #[(.int .i64 0), (.int .i64 0)], 1, 0) := by kernel_rfl
theorem cells_66 : cellsN Tryd.prog 66 = some 1 := by kernel_rfl
theorem zero_66 : zeroOf Tryd.prog 66 = some (Value.nilFunc) := by kernel_rfl
theorem one_66 : oneB Tryd.prog 66 = true := by kernel_rfl
theorem zi_66 : zeroI Tryd.prog 66 = some (Value.nilFunc, 1, 8) := by kernel_rfl
theorem cells_70 : cellsN Tryd.prog 70 = some 1 := by kernel_rfl
theorem zero_70 : zeroOf Tryd.prog 70 = some (Value.nilFunc) := by kernel_rfl
theorem one_70 : oneB Tryd.prog 70 = true := by kernel_rfl
theorem zi_70 : zeroI Tryd.prog 70 = some (Value.nilFunc, 1, 8) := by kernel_rfl
theorem cells_72 : cellsN Tryd.prog 72 = some 1 := by kernel_rfl
theorem zero_72 : zeroOf Tryd.prog 72 = some (Value.nilFunc) := by kernel_rfl
theorem one_72 : oneB Tryd.prog 72 = true := by kernel_rfl
theorem zi_72 : zeroI Tryd.prog 72 = some (Value.nilFunc, 1, 8) := by kernel_rfl
theorem cells_76 : cellsN Tryd.prog 76 = some 1 := by kernel_rfl
theorem zero_76 : zeroOf Tryd.prog 76 = some (Value.tuple #[(.string ⟨#[]⟩), (.string ⟨#[]⟩), (.bool false)]) := by kernel_rfl
theorem one_76 : oneB Tryd.prog 76 = true := by kernel_rfl
theorem zi_76 : zeroI Tryd.prog 76 = some (Value.tuple #[(.string ⟨#[]⟩), (.string ⟨#[]⟩), (.bool false)], 1, 0) := by kernel_rfl
theorem cells_78 : cellsN Tryd.prog 78 = some 1 := by kernel_rfl
theorem zero_78 : zeroOf Tryd.prog 78 = some (Value.slice none 0 0) := by kernel_rfl
theorem one_78 : oneB Tryd.prog 78 = true := by kernel_rfl
theorem elm_78 : elemOf' Tryd.prog 78 = some (9, 1) := by kernel_rfl
theorem sl_78 : Tryd.prog.underlying 78 = some (.slice 9) := by kernel_rfl
theorem zi_78 : zeroI Tryd.prog 78 = some (Value.slice none 0 0, 1, 24) := by kernel_rfl
theorem cells_82 : cellsN Tryd.prog 82 = some 1 := by kernel_rfl
theorem zero_82 : zeroOf Tryd.prog 82 = some (Value.tuple #[(.int .i64 0), (.bool false)]) := by kernel_rfl
theorem one_82 : oneB Tryd.prog 82 = true := by kernel_rfl
theorem zi_82 : zeroI Tryd.prog 82 = some (Value.tuple #[(.int .i64 0), (.bool false)], 1, 0) := by kernel_rfl
theorem cells_84 : cellsN Tryd.prog 84 = some 36 := by kernel_rfl
theorem zero_84 : zeroOf Tryd.prog 84 = some (Value.agg #[(.int .i64 0), (.int .i64 0), (.int .i64 0), (.int .i64 0), (.int .i64 0), (.int .i64 0), (.int .i64 0), (.int .i64 0), (.int .i64 0), (.int .i64 0), (.int .i64 0), (.int .i64 0), (.int .i64 0), (.int .i64 0), (.int .i64 0), (.int .i64 0), (.int .i64 0), (.int .i64 0), (.int .i64 0), (.int .i64 0), (.int .i64 0), (.int .i64 0), (.int .i64 0), (.int .i64 0), (.int .i64 0), (.int .i64 0), (.int .i64 0), (.int .i64 0), (.int .i64 0), (.int .i64 0), (.int .i64 0), (.int .i64 0), (.int .i64 0), (.int .i64 0), (.int .i64 0), (.int .i64 0)]) := by kernel_rfl
theorem agg_84 : aggSize Tryd.prog 84 = some 36 := by kernel_rfl
theorem zi_84 : zeroI Tryd.prog 84 = some (Value.agg #[(.int .i64 0), (.int .i64 0), (.int .i64 0), (.int .i64 0), (.int .i64 0), (.int .i64 0), (.int .i64 0), (.int .i64 0), (.int .i64 0), (.int .i64 0), (.int .i64 0), (.int .i64 0), (.int .i64 0), (.int .i64 0), (.int .i64 0), (.int .i64 0), (.int .i64 0), (.int .i64 0), (.int .i64 0), (.int .i64 0), (.int .i64 0), (.int .i64 0), (.int .i64 0), (.int .i64 0), (.int .i64 0), (.int .i64 0), (.int .i64 0), (.int .i64 0), (.int .i64 0), (.int .i64 0), (.int .i64 0), (.int .i64 0), (.int .i64 0), (.int .i64 0), (.int .i64 0), (.int .i64 0)], 36, 288) := by kernel_rfl
theorem cells_87 : cellsN Tryd.prog 87 = some 1 := by kernel_rfl
theorem zero_87 : zeroOf Tryd.prog 87 = some (Value.slice none 0 0) := by kernel_rfl
theorem one_87 : oneB Tryd.prog 87 = true := by kernel_rfl
theorem elm_87 : elemOf' Tryd.prog 87 = some (5, 1) := by kernel_rfl
theorem sl_87 : Tryd.prog.underlying 87 = some (.slice 5) := by kernel_rfl
theorem zi_87 : zeroI Tryd.prog 87 = some (Value.slice none 0 0, 1, 24) := by kernel_rfl
theorem cells_90 : cellsN Tryd.prog 90 = some 1 := by kernel_rfl
theorem zero_90 : zeroOf Tryd.prog 90 = some (Value.nilIface) := by kernel_rfl
theorem one_90 : oneB Tryd.prog 90 = true := by kernel_rfl
theorem zi_90 : zeroI Tryd.prog 90 = some (Value.nilIface, 1, 16) := by kernel_rfl
theorem cells_91 : cellsN Tryd.prog 91 = some 1 := by kernel_rfl
theorem zero_91 : zeroOf Tryd.prog 91 = some (Value.tuple #[(.int .i64 0), .nilIface]) := by kernel_rfl
theorem one_91 : oneB Tryd.prog 91 = true := by kernel_rfl
theorem zi_91 : zeroI Tryd.prog 91 = some (Value.tuple #[(.int .i64 0), .nilIface], 1, 0) := by kernel_rfl
theorem cells_94 : cellsN Tryd.prog 94 = some 1 := by kernel_rfl
theorem zero_94 : zeroOf Tryd.prog 94 = some (Value.int .u32 0) := by kernel_rfl
theorem one_94 : oneB Tryd.prog 94 = true := by kernel_rfl
theorem zi_94 : zeroI Tryd.prog 94 = some (Value.int .u32 0, 1, 4) := by kernel_rfl
theorem int_94 : Tryd.prog.underlying 94 = some (.int .u32) := by kernel_rfl
theorem cells_96 : cellsN Tryd.prog 96 = some 1 := by kernel_rfl
theorem zero_96 : zeroOf Tryd.prog 96 = some (Value.int .u64 0) := by kernel_rfl
theorem one_96 : oneB Tryd.prog 96 = true := by kernel_rfl
theorem zi_96 : zeroI Tryd.prog 96 = some (Value.int .u64 0, 1, 8) := by kernel_rfl
theorem int_96 : Tryd.prog.underlying 96 = some (.int .u64) := by kernel_rfl
theorem cells_101 : cellsN Tryd.prog 101 = some 32 := by kernel_rfl
theorem zero_101 : zeroOf Tryd.prog 101 = some (Value.agg #[(.int .u8 0), (.int .u8 0), (.int .u8 0), (.int .u8 0), (.int .u8 0), (.int .u8 0), (.int .u8 0), (.int .u8 0), (.int .u8 0), (.int .u8 0), (.int .u8 0), (.int .u8 0), (.int .u8 0), (.int .u8 0), (.int .u8 0), (.int .u8 0), (.int .u8 0), (.int .u8 0), (.int .u8 0), (.int .u8 0), (.int .u8 0), (.int .u8 0), (.int .u8 0), (.int .u8 0), (.int .u8 0), (.int .u8 0), (.int .u8 0), (.int .u8 0), (.int .u8 0), (.int .u8 0), (.int .u8 0), (.int .u8 0)]) := by kernel_rfl
theorem agg_101 : aggSize Tryd.prog 101 = some 32 := by kernel_rfl
theorem zi_101 : zeroI Tryd.prog 101 = some (Value.agg #[(.int .u8 0), (.int .u8 0), (.int .u8 0), (.int .u8 0), (.int .u8 0), (.int .u8 0), (.int .u8 0), (.int .u8 0), (.int .u8 0), (.int .u8 0), (.int .u8 0), (.int .u8 0), (.int .u8 0), (.int .u8 0), (.int .u8 0), (.int .u8 0), (.int .u8 0), (.int .u8 0), (.int .u8 0), (.int .u8 0), (.int .u8 0), (.int .u8 0), (.int .u8 0), (.int .u8 0), (.int .u8 0), (.int .u8 0), (.int .u8 0), (.int .u8 0), (.int .u8 0), (.int .u8 0), (.int .u8 0), (.int .u8 0)], 32, 32) := by kernel_rfl
theorem cells_102 : cellsN Tryd.prog 102 = some 64 := by kernel_rfl
theorem zero_102 : zeroOf Tryd.prog 102 = some (Value.agg #[(.int .u8 0), (.int .u8 0), (.int .u8 0), (.int .u8 0), (.int .u8 0), (.int .u8 0), (.int .u8 0), (.int .u8 0), (.int .u8 0), (.int .u8 0), (.int .u8 0), (.int .u8 0), (.int .u8 0), (.int .u8 0), (.int .u8 0), (.int .u8 0), (.int .u8 0), (.int .u8 0), (.int .u8 0), (.int .u8 0), (.int .u8 0), (.int .u8 0), (.int .u8 0), (.int .u8 0), (.int .u8 0), (.int .u8 0), (.int .u8 0), (.int .u8 0), (.int .u8 0), (.int .u8 0), (.int .u8 0), (.int .u8 0), (.int .u8 0), (.int .u8 0), (.int .u8 0), (.int .u8 0), (.int .u8 0), (.int .u8 0), (.int .u8 0), (.int .u8 0), (.int .u8 0), (.int .u8 0), (.int .u8 0), (.int .u8 0), (.int .u8 0), (.int .u8 0), (.int .u8 0), (.int .u8 0), (.int .u8 0), (.int .u8 0), (.int .u8 0), (.int .u8 0), (.int .u8 0), (.int .u8 0), (.int .u8 0), (.int .u8 0), (.int .u8 0), (.int .u8 0), (.int .u8 0), (.int .u8 0), (.int .u8 0), (.int .u8 0), (.int .u8 0), (.int .u8 0)]) := by kernel_rfl
theorem agg_102 : aggSize Tryd.prog 102 = some 64 := by kernel_rfl
theorem zi_102 : zeroI Tryd.prog 102 = some (Value.agg #[(.int .u8 0), (.int .u8 0), (.int .u8 0), (.int .u8 0), (.int .u8 0), (.int .u8 0), (.int .u8 0), (.int .u8 0), (.int .u8 0), (.int .u8 0), (.int .u8 0), (.int .u8 0), (.int .u8 0), (.int .u8 0), (.int .u8 0), (.int .u8 0), (.int .u8 0), (.int .u8 0), (.int .u8 0), (.int .u8 0), (.int .u8 0), (.int .u8 0), (.int .u8 0), (.int .u8 0), (.int .u8 0), (.int .u8 0), (.int .u8 0), (.int .u8 0), (.int .u8 0), (.int .u8 0), (.int .u8 0), (.int .u8 0), (.int .u8 0), (.int .u8 0), (.int .u8 0), (.int .u8 0), (.int .u8 0), (.int .u8 0), (.int .u8 0), (.int .u8 0), (.int .u8 0), (.int .u8 0), (.int .u8 0), (.int .u8 0), (.int .u8 0), (.int .u8 0), (.int .u8 0), (.int .u8 0), (.int .u8 0), (.int .u8 0), (.int .u8 0), (.int .u8 0), (.int .u8 0), (.int .u8 0), (.int .u8 0), (.int .u8 0), (.int .u8 0), (.int .u8 0), (.int .u8 0), (.int .u8 0), (.int .u8 0), (.int .u8 0), (.int .u8 0), (.int .u8 0)], 64, 64) := by kernel_rfl
theorem cells_103 : cellsN Tryd.prog 103 = some 24 := by kernel_rfl
theorem zero_103 : zeroOf Tryd.prog 103 = some (Value.agg #[(.int .u8 0), (.int .u8 0), (.int .u8 0), (.int .u8 0), (.int .u8 0), (.int .u8 0), (.int .u8 0), (.int .u8 0), (.int .u8 0), (.int .u8 0), (.int .u8 0), (.int .u8 0), (.int .u8 0), (.int .u8 0), (.int .u8 0), (.int .u8 0), (.int .u8 0), (.int .u8 0), (.int .u8 0), (.int .u8 0), (.int .u8 0), (.int .u8 0), (.int .u8 0), (.int .u8 0)]) := by kernel_rfl
theorem agg_103 : aggSize Tryd.prog 103 = some 24 := by kernel_rfl
theorem zi_103 : zeroI Tryd.prog 103 = some (Value.agg #[(.int .u8 0), (.int .u8 0), (.int .u8 0), (.int .u8 0), (.int .u8 0), (.int .u8 0), (.int .u8 0), (.int .u8 0), (.int .u8 0), (.int .u8 0), (.int .u8 0), (.int .u8 0), (.int .u8 0), (.int .u8 0), (.int .u8 0), (.int .u8 0), (.int .u8 0), (.int .u8 0), (.int .u8 0), (.int .u8 0), (.int .u8 0), (.int .u8 0), (.int .u8 0), (.int .u8 0)], 24, 24) := by kernel_rfl
theorem cells_105 : cellsN Tryd.prog 105 = some 1 := by kernel_rfl
theorem zero_105 : zeroOf Tryd.prog 105 = some (Value.tuple #[(.slice none 0 0), (.string ⟨#[]⟩)]) := by kernel_rfl
theorem one_105 : oneB Tryd.prog 105 = true := by kernel_rfl
theorem zi_105 : zeroI Tryd.prog 105 = some (Value.tuple #[(.slice none 0 0), (.string ⟨#[]⟩)], 1, 0) := by kernel_rfl
theorem cells_108 : cellsN Tryd.prog 108 = some 1 := by kernel_rfl
theorem zero_108 : zeroOf Tryd.prog 108 = some (Value.tuple #[(.int .i32 0), (.int .i64 0)]) := by kernel_rfl
theorem one_108 : oneB Tryd.prog 108 = true := by kernel_rfl
theorem zi_108 : zeroI Tryd.prog 108 = some (Value.tuple #[(.int .i32 0), (.int .i64 0)], 1, 0) := by kernel_rfl
theorem cells_111 : cellsN Tryd.prog 111 = some 1 := by kernel_rfl
theorem zero_111 : zeroOf Tryd.prog 111 = some (Value.tuple #[(.int .i64 0), .nilIface]) := by kernel_rfl
theorem one_111 : oneB Tryd.prog 111 = true := by kernel_rfl
theorem zi_111 : zeroI Tryd.prog 111 = some (Value.tuple #[(.int .i64 0), .nilIface], 1, 0) := by kernel_rfl
theorem cells_113 : cellsN Tryd.prog 113 = some 1 := by kernel_rfl
theorem zero_113 : zeroOf Tryd.prog 113 = some (Value.pointer none) := by kernel_rfl
theorem one_113 : oneB Tryd.prog 113 = true := by kernel_rfl
theorem zi_113 : zeroI Tryd.prog 113 = some (Value.pointer none, 1, 8) := by kernel_rfl
theorem cells_117 : cellsN Tryd.prog 117 = some 20 := by kernel_rfl
theorem zero_117 : zeroOf Tryd.prog 117 = some (Value.agg #[(.int .u64 0), (.int .u64 0), (.int .u64 0), (.int .u64 0), (.int .u64 0), (.int .u64 0), (.int .u64 0), (.int .u64 0), (.int .u64 0), (.int .u64 0), (.int .u64 0), (.int .u64 0), (.int .u64 0), (.int .u64 0), (.int .u64 0), (.int .u64 0), (.int .u64 0), (.int .u64 0), (.int .u64 0), (.int .u64 0)]) := by kernel_rfl
theorem agg_117 : aggSize Tryd.prog 117 = some 20 := by kernel_rfl
theorem zi_117 : zeroI Tryd.prog 117 = some (Value.agg #[(.int .u64 0), (.int .u64 0), (.int .u64 0), (.int .u64 0), (.int .u64 0), (.int .u64 0), (.int .u64 0), (.int .u64 0), (.int .u64 0), (.int .u64 0), (.int .u64 0), (.int .u64 0), (.int .u64 0), (.int .u64 0), (.int .u64 0), (.int .u64 0), (.int .u64 0), (.int .u64 0), (.int .u64 0), (.int .u64 0)], 20, 160) := by kernel_rfl
theorem cells_118 : cellsN Tryd.prog 118 = some 65 := by kernel_rfl
theorem zero_118 : zeroOf Tryd.prog 118 = some (Value.agg #[(.int .u8 0), (.int .u8 0), (.int .u8 0), (.int .u8 0), (.int .u8 0), (.int .u8 0), (.int .u8 0), (.int .u8 0), (.int .u8 0), (.int .u8 0), (.int .u8 0), (.int .u8 0), (.int .u8 0), (.int .u8 0), (.int .u8 0), (.int .u8 0), (.int .u8 0), (.int .u8 0), (.int .u8 0), (.int .u8 0), (.int .u8 0), (.int .u8 0), (.int .u8 0), (.int .u8 0), (.int .u8 0), (.int .u8 0), (.int .u8 0), (.int .u8 0), (.int .u8 0), (.int .u8 0), (.int .u8 0), (.int .u8 0), (.int .u8 0), (.int .u8 0), (.int .u8 0), (.int .u8 0), (.int .u8 0), (.int .u8 0), (.int .u8 0), (.int .u8 0), (.int .u8 0), (.int .u8 0), (.int .u8 0), (.int .u8 0), (.int .u8 0), (.int .u8 0), (.int .u8 0), (.int .u8 0), (.int .u8 0), (.int .u8 0), (.int .u8 0), (.int .u8 0), (.int .u8 0), (.int .u8 0), (.int .u8 0), (.int .u8 0), (.int .u8 0), (.int .u8 0), (.int .u8 0), (.int .u8 0), (.int .u8 0), (.int .u8 0), (.int .u8 0), (.int .u8 0), (.int .u8 0)]) := by kernel_rfl
theorem agg_118 : aggSize Tryd.prog 118 = some 65 := by kernel_rfl
theorem zi_118 : zeroI Tryd.prog 118 = some (Value.agg #[(.int .u8 0), (.int .u8 0), (.int .u8 0), (.int .u8 0), (.int .u8 0), (.int .u8 0), (.int .u8 0), (.int .u8 0), (.int .u8 0), (.int .u8 0), (.int .u8 0), (.int .u8 0), (.int .u8 0), (.int .u8 0), (.int .u8 0), (.int .u8 0), (.int .u8 0), (.int .u8 0), (.int .u8 0), (.int .u8 0), (.int .u8 0), (.int .u8 0), (.int .u8 0), (.int .u8 0), (.int .u8 0), (.int .u8 0), (.int .u8 0), (.int .u8 0), (.int .u8 0), (.int .u8 0), (.int .u8 0), (.int .u8 0), (.int .u8 0), (.int .u8 0), (.int .u8 0), (.int .u8 0), (.int .u8 0), (.int .u8 0), (.int .u8 0), (.int .u8 0), (.int .u8 0), (.int .u8 0), (.int .u8 0), (.int .u8 0), (.int .u8 0), (.int .u8 0), (.int .u8 0), (.int .u8 0), (.int .u8 0), (.int .u8 0), (.int .u8 0), (.int .u8 0), (.int .u8 0), (.int .u8 0), (.int .u8 0), (.int .u8 0), (.int .u8 0), (.int .u8 0), (.int .u8 0), (.int .u8 0), (.int .u8 0), (.int .u8 0), (.int .u8 0), (.int .u8 0), (.int .u8 0)], 65, 65) := by kernel_rfl
theorem cells_119 : cellsN Tryd.prog 119 = some 1 := by kernel_rfl
theorem zero_119 : zeroOf Tryd.prog 119 = some (Value.tuple #[(.int .u32 0), (.int .u32 0)]) := by kernel_rfl
theorem one_119 : oneB Tryd.prog 119 = true := by kernel_rfl
theorem zi_119 : zeroI Tryd.prog 119 = some (Value.tuple #[(.int .u32 0), (.int .u32 0)], 1, 0) := by kernel_rfl
theorem cells_121 : cellsN Tryd.prog 121 = some 1 := by kernel_rfl
theorem zero_121 : zeroOf Tryd.prog 121 = some (Value.tuple #[(.int .u64 0), .nilIface]) := by kernel_rfl
theorem one_121 : oneB Tryd.prog 121 = true := by kernel_rfl
theorem zi_121 : zeroI Tryd.prog 121 = some (Value.tuple #[(.int .u64 0), .nilIface], 1, 0) := by kernel_rfl
theorem cells_125 : cellsN Tryd.prog 125 = some 3 := by kernel_rfl
theorem zero_125 : zeroOf Tryd.prog 125 = some (Value.agg #[(.string ⟨#[]⟩), (.string ⟨#[]⟩), .nilIface]) := by kernel_rfl
theorem agg_125 : aggSize Tryd.prog 125 = some 3 := by kernel_rfl
theorem fo_125_0 : fieldOff Tryd.prog 125 0 = some 0 := by kernel_rfl
theorem fo_125_1 : fieldOff Tryd.prog 125 1 = some 1 := by kernel_rfl
theorem fo_125_2 : fieldOff Tryd.prog 125 2 = some 2 := by kernel_rfl
theorem pl_125 : placesOf Tryd.prog 125 = some [(0, 1), (1, 1), (2, 1)] := by kernel_rfl
theorem zi_125 : zeroI Tryd.prog 125 = some (Value.agg #[(.string ⟨#[]⟩), (.string ⟨#[]⟩), .nilIface], 3, 48) := by kernel_rfl
theorem cells_127 : cellsN Tryd.prog 127 = some 256 := by kernel_rfl
theorem zero_127 : zeroOf Tryd.prog 127 = some (Value.agg #[(.int .u8 0), (.int .u8 0), (.int .u8 0), (.int .u8 0), (.int .u8 0), (.int .u8 0), (.int .u8 0), (.int .u8 0), (.int .u8 0), (.int .u8 0), (.int .u8 0), (.int .u8 0), (.int .u8 0), (.int .u8 0), (.int .u8 0), (.int .u8 0), (.int .u8 0), (.int .u8 0), (.int .u8 0), (.int .u8 0), (.int .u8 0), (.int .u8 0), (.int .u8 0), (.int .u8 0), (.int .u8 0), (.int .u8 0), (.int .u8 0), (.int .u8 0), (.int .u8 0), (.int .u8 0), (.int .u8 0), (.int .u8 0), (.int .u8 0), (.int .u8 0), (.int .u8 0), (.int .u8 0), (.int .u8 0), (.int .u8 0), (.int .u8 0), (.int .u8 0), (.int .u8 0), (.int .u8 0), (.int .u8 0), (.int .u8 0), (.int .u8 0), (.int .u8 0), (.int .u8 0), (.int .u8 0), (.int .u8 0), (.int .u8 0), (.int .u8 0), (.int .u8 0), (.int .u8 0), (.int .u8 0), (.int .u8 0), (.int .u8 0), (.int .u8 0), (.int .u8 0), (.int .u8 0), (.int .u8 0), (.int .u8 0), (.int .u8 0), (.int .u8 0), (.int .u8 0), (.int .u8 0), (.int .u8 0), (.int .u8 0), (.int .u8 0), (.int .u8 0), (.int .u8 0), (.int .u8 0), (.int .u8 0), (.int .u8 0), (.int .u8 0), (.int .u8 0), (.int .u8 0), (.int .u8 0), (.int .u8 0), (.int .u8 0), (.int .u8 0), (.int .u8 0), (.int .u8 0), (.int .u8 0), (.int .u8 0), (.int .u8 0), (.int .u8 0), (.int .u8 0), (.int .u8 0), (.int .u8 0), (.int .u8 0), (.int .u8 0), (.int .u8 0), (.int .u8 0), (.int .u8 0), (.int .u8 0), (.int .u8 0), (.int .u8 0), (.int .u8 0), (.int .u8 0), (.int .u8 0), (.int .u8 0), (.int .u8 0), (.int .u8 0), (.int .u8 0), (.int .u8 0), (.int .u8 0), (.int .u8 0), (.int .u8 0), (.int .u8 0), (.int .u8 0), (.int .u8 0), (.int .u8 0), (.int .u8 0), (.int .u8 0), (.int .u8 0), (.int .u8 0), (.int .u8 0), (.int .u8 0), (.int .u8 0), (.int .u8 0), (.int .u8 0), (.int .u8 0), (.int .u8 0), (.int .u8 0), (.int .u8 0), (.int .u8 0), (.int .u8 0), (.int .u8 0), (.int .u8 0), (.int .u8 0), (.int .u8 0), (.int .u8 0), (.int .u8 0), (.int .u8 0), (.int .u8 0), (.int .u8 0), (.int .u8 0), (.int .u8 0), (.int .u8 0), (.int .u8 0), (.int .u8 0), (.int .u8 0), (.int .u8 0), (.int .u8 0), (.int .u8 0), (.int .u8 0), (.int .u8 0), (.int .u8 0), (.int .u8 0), (.int .u8 0), (.int .u8 0), (.int .u8 0), (.int .u8 0), (.int .u8 0), (.int .u8 0), (.int .u8 0), (.int .u8 0), (.int .u8 0), (.int .u8 0), (.int .u8 0), (.int .u8 0), (.int .u8 0), (.int .u8 0), (.int .u8 0), (.int .u8 0), (.int .u8 0), (.int .u8 0), (.int .u8 0), (.int .u8 0), (.int .u8 0), (.int .u8 0), (.int .u8 0), (.int .u8 0), (.int .u8 0), (.int .u8 0), (.int .u8 0), (.int .u8 0), (.int .u8 0), (.int .u8 0), (.int .u8 0), (.int .u8 0), (.int .u8 0), (.int .u8 0), (.int .u8 0), (.int .u8 0), (.int .u8 0), (.int .u8 0), (.int .u8 0), (.int .u8 0), (.int .u8 0), (.int .u8 0), (.int .u8 0), (.int .u8 0), (.int .u8 0), (.int .u8 0), (.int .u8 0), (.int .u8 0), (.int .u8 0), (.int .u8 0), (.int .u8 0), (.int .u8 0), (.int .u8 0), (.int .u8 0), (.int .u8 0), (.int .u8 0), (.int .u8 0), (.int .u8 0), (.int .u8 0), (.int .u8 0), (.int .u8 0), (.int .u8 0), (.int .u8 0), (.int .u8 0), (.int .u8 0), (.int .u8 0), (.int .u8 0), (.int .u8 0), (.int .u8 0), (.int .u8 0), (.int .u8 0), (.int .u8 0), (.int .u8 0), (.int .u8 0), (.int .u8 0), (.int .u8 0), (.int .u8 0), (.int .u8 0), (.int .u8 0), (.int .u8 0), (.int .u8 0), (.int .u8 0), (.int .u8 0), (.int .u8 0), (.int .u8 0), (.int .u8 0), (.int .u8 0), (.int .u8 0), (.int .u8 0), (.int .u8 0), (.int .u8 0), (.int .u8 0), (.int .u8 0), (.int .u8 0), (.int .u8 0), (.int .u8 0), (.int .u8 0), (.int .u8 0), (.int .u8 0), (.int .u8 0), (.int .u8 0), (.int .u8 0), (.int .u8 0), (.int .u8 0), (.int .u8 0), (.int .u8 0), (.int .u8 0)]) := by kernel_rfl
theorem agg_127 : aggSize Tryd.prog 127 = some 256 := by kernel_rfl
theorem zi_127 : zeroI Tryd.prog 127 = some (Value.agg #[(.int .u8 0), (.int .u8 0), (.int .u8 0), (.int .u8 0), (.int .u8 0), (.int .u8 0), (.int .u8 0), (.int .u8 0), (.int .u8 0), (.int .u8 0), (.int .u8 0), (.int .u8 0), (.int .u8 0), (.int .u8 0), (.int .u8 0), (.int .u8 0), (.int .u8 0), (.int .u8 0), (.int .u8 0), (.int .u8 0), (.int .u8 0), (.int .u8 0), (.int .u8 0), (.int .u8 0), (.int .u8 0), (.int .u8 0), (.int .u8 0), (.int .u8 0), (.int .u8 0), (.int .u8 0), (.int .u8 0), (.int .u8 0), (.int .u8 0), (.int .u8 0), (.int .u8 0), (.int .u8 0), (.int .u8 0), (.int .u8 0), (.int .u8 0), (.int .u8 0), (.int .u8 0), (.int .u8 0), (.int .u8 0), (.int .u8 0), (.int .u8 0), (.int .u8 0), (.int .u8 0), (.int .u8 0), (.int .u8 0), (.int .u8 0), (.int .u8 0), (.int .u8 0), (.int .u8 0), (.int .u8 0), (.int .u8 0), (.int .u8 0), (.int .u8 0), (.int .u8 0), (.int .u8 0), (.int .u8 0), (.int .u8 0), (.int .u8 0), (.int .u8 0), (.int .u8 0), (.int .u8 0), (.int .u8 0), (.int .u8 0), (.int .u8 0), (.int .u8 0), (.int .u8 0), (.int .u8 0), (.int .u8 0), (.int .u8 0), (.int .u8 0), (.int .u8 0), (.int .u8 0), (.int .u8 0), (.int .u8 0), (.int .u8 0), (.int .u8 0), (.int .u8 0), (.int .u8 0), (.int .u8 0), (.int .u8 0), (.int .u8 0), (.int .u8 0), (.int .u8 0), (.int .u8 0), (.int .u8 0), (.int .u8 0), (.int .u8 0), (.int .u8 0), (.int .u8 0), (.int .u8 0), (.int .u8 0), (.int .u8 0), (.int .u8 0), (.int .u8 0), (.int .u8 0), (.int .u8 0), (.int .u8 0), (.int .u8 0), (.int .u8 0), (.int .u8 0), (.int .u8 0), (.int .u8 0), (.int .u8 0), (.int .u8 0), (.int .u8 0), (.int .u8 0), (.int .u8 0), (.int .u8 0), (.int .u8 0), (.int .u8 0), (.int .u8 0), (.int .u8 0), (.int .u8 0), (.int .u8 0), (.int .u8 0), (.int .u8 0), (.int .u8 0), (.int .u8 0), (.int .u8 0), (.int .u8 0), (.int .u8 0), (.int .u8 0), (.int .u8 0), (.int .u8 0), (.int .u8 0), (.int .u8 0), (.int .u8 0), (.int .u8 0), (.int .u8 0), (.int .u8 0), (.int .u8 0), (.int .u8 0), (.int .u8 0), (.int .u8 0), (.int .u8 0), (.int .u8 0), (.int .u8 0), (.int .u8 0), (.int .u8 0), (.int .u8 0), (.int .u8 0), (.int .u8 0), (.int .u8 0), (.int .u8 0), (.int .u8 0), (.int .u8 0), (.int .u8 0), (.int .u8 0), (.int .u8 0), (.int .u8 0), (.int .u8 0), (.int .u8 0), (.int .u8 0), (.int .u8 0), (.int .u8 0), (.int .u8 0), (.int .u8 0), (.int .u8 0), (.int .u8 0), (.int .u8 0), (.int .u8 0), (.int .u8 0), (.int .u8 0), (.int .u8 0), (.int .u8 0), (.int .u8 0), (.int .u8 0), (.int .u8 0), (.int .u8 0), (.int .u8 0), (.int .u8 0), (.int .u8 0), (.int .u8 0), (.int .u8 0), (.int .u8 0), (.int .u8 0), (.int .u8 0), (.int .u8 0), (.int .u8 0), (.int .u8 0), (.int .u8 0), (.int .u8 0), (.int .u8 0), (.int .u8 0), (.int .u8 0), (.int .u8 0), (.int .u8 0), (.int .u8 0), (.int .u8 0), (.int .u8 0), (.int .u8 0), (.int .u8 0), (.int .u8 0), (.int .u8 0), (.int .u8 0), (.int .u8 0), (.int .u8 0), (.int .u8 0), (.int .u8 0), (.int .u8 0), (.int .u8 0), (.int .u8 0), (.int .u8 0), (.int .u8 0), (.int .u8 0), (.int .u8 0), (.int .u8 0), (.int .u8 0), (.int .u8 0), (.int .u8 0), (.int .u8 0), (.int .u8 0), (.int .u8 0), (.int .u8 0), (.int .u8 0), (.int .u8 0), (.int .u8 0), (.int .u8 0), (.int .u8 0), (.int .u8 0), (.int .u8 0), (.int .u8 0), (.int .u8 0), (.int .u8 0), (.int .u8 0), (.int .u8 0), (.int .u8 0), (.int .u8 0), (.int .u8 0), (.int .u8 0), (.int .u8 0), (.int .u8 0), (.int .u8 0), (.int .u8 0), (.int .u8 0), (.int .u8 0), (.int .u8 0), (.int .u8 0), (.int .u8 0), (.int .u8 0), (.int .u8 0), (.int .u8 0), (.int .u8 0), (.int .u8 0), (.int .u8 0), (.int .u8 0), (.int .u8 0), (.int .u8 0), (.int .u8 0), (.int .u8 0), (.int .u8 0), (.int .u8 0)], 256, 256) := by kernel_rfl
theorem cells_129 : cellsN Tryd.prog 129 = some 2 := by kernel_rfl
theorem zero_129 : zeroOf Tryd.prog 129 = some (Value.agg #[(.int .u8 0), (.int .u8 0)]) := by kernel_rfl
theorem agg_129 : aggSize Tryd.prog 129 = some 2 := by kernel_rfl
theorem fo_129_0 : fieldOff Tryd.prog 129 0 = some 0 := by kernel_rfl
theorem fo_129_1 : fieldOff Tryd.prog 129 1 = some 1 := by kernel_rfl
theorem pl_129 : placesOf Tryd.prog 129 = some [(0, 1), (1, 1)] := by kernel_rfl
theorem zi_129 : zeroI Tryd.prog 129 = some (Value.agg #[(.int .u8 0), (.int .u8 0)], 2, 2) := by kernel_rfl
theorem cells_130 : cellsN Tryd.prog 130 = some 32 := by kernel_rfl
theorem zero_130 : zeroOf Tryd.prog 130 = some (Value.agg #[(.int .u8 0), (.int .u8 0), (.int .u8 0), (.int .u8 0), (.int .u8 0), (.int .u8 0), (.int .u8 0), (.int .u8 0), (.int .u8 0), (.int .u8 0), (.int .u8 0), (.int .u8 0), (.int .u8 0), (.int .u8 0), (.int .u8 0), (.int .u8 0), (.int .u8 0), (.int .u8 0), (.int .u8 0), (.int .u8 0), (.int .u8 0), (.int .u8 0), (.int .u8 0), (.int .u8 0), (.int .u8 0), (.int .u8 0), (.int .u8 0), (.int .u8 0), (.int .u8 0), (.int .u8 0), (.int .u8 0), (.int .u8 0)]) := by kernel_rfl
theorem agg_130 : aggSize Tryd.prog 130 = some 32 := by kernel_rfl
theorem zi_130 : zeroI Tryd.prog 130 = some (Value.agg #[(.int .u8 0), (.int .u8 0), (.int .u8 0), (.int .u8 0), (.int .u8 0), (.int .u8 0), (.int .u8 0), (.int .u8 0), (.int .u8 0), (.int .u8 0), (.int .u8 0), (.int .u8 0), (.int .u8 0), (.int .u8 0), (.int .u8 0), (.int .u8 0), (.int .u8 0), (.int .u8 0), (.int .u8 0), (.int .u8 0), (.int .u8 0), (.int .u8 0), (.int .u8 0), (.int .u8 0), (.int .u8 0), (.int .u8 0), (.int .u8 0), (.int .u8 0), (.int .u8 0), (.int .u8 0), (.int .u8 0), (.int .u8 0)], 32, 32) := by kernel_rfl
theorem cells_133 : cellsN Tryd.prog 133 = some 1 := by kernel_rfl
theorem zero_133 : zeroOf Tryd.prog 133 = some (Value.pointer none) := by kernel_rfl
theorem one_133 : oneB Tryd.prog 133 = true := by kernel_rfl
theorem zi_133 : zeroI Tryd.prog 133 = some (Value.pointer none, 1, 8) := by kernel_rfl
theorem cells_136 : cellsN Tryd.prog 136 = some 1 := by kernel_rfl
theorem zero_136 : zeroOf Tryd.prog 136 = some (Value.agg #[(.string ⟨#[]⟩)]) := by kernel_rfl
theorem agg_136 : aggSize Tryd.prog 136 = some 1 := by kernel_rfl
theorem fo_136_0 : fieldOff Tryd.prog 136 0 = some 0 := by kernel_rfl
theorem pl_136 : placesOf Tryd.prog 136 = some [(0, 1)] := by kernel_rfl
theorem zi_136 : zeroI Tryd.prog 136 = some (Value.agg #[(.string ⟨#[]⟩)], 1, 16) := by kernel_rfl
end Go.Proofs.YtaeobkgogipceaaDoor.Tb
