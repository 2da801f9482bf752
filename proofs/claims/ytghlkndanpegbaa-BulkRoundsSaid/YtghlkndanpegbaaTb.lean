/- Facts on the types and functions of the program, each by a reckoning of the kernel. -/
import Derived.Test.YtghlkndanpegbaaChecked
import Derived.Test.YtghlkndanpegbaaSz
import Derived.KernelRfl
set_option linter.unusedVariables false
set_option linter.unusedSimpArgs false
namespace Go.Proofs.Ytghlkndanpegbaa.Tb
open Go.Sx
theorem mixed : Try.prog.follows .mixedOrders = true := by kernel_rfl
theorem gofn_3 : goFn Try.prog 3 = true := by kernel_rfl
theorem gofn_4 : goFn Try.prog 4 = true := by kernel_rfl
theorem gofn_5 : goFn Try.prog 5 = true := by kernel_rfl
theorem gofn_6 : goFn Try.prog 6 = true := by kernel_rfl
theorem gofn_7 : goFn Try.prog 7 = true := by kernel_rfl
theorem gofn_8 : goFn Try.prog 8 = true := by kernel_rfl
theorem gofn_9 : goFn Try.prog 9 = true := by kernel_rfl
theorem gofn_10 : goFn Try.prog 10 = true := by kernel_rfl
theorem gofn_11 : goFn Try.prog 11 = true := by kernel_rfl
theorem gofn_12 : goFn Try.prog 12 = true := by kernel_rfl
theorem gofn_13 : goFn Try.prog 13 = true := by kernel_rfl
theorem gofn_14 : goFn Try.prog 14 = true := by kernel_rfl
theorem gofn_15 : goFn Try.prog 15 = true := by kernel_rfl
theorem gofn_16 : goFn Try.prog 16 = true := by kernel_rfl
theorem gofn_17 : goFn Try.prog 17 = true := by kernel_rfl
theorem gofn_18 : goFn Try.prog 18 = true := by kernel_rfl
theorem gofn_19 : goFn Try.prog 19 = true := by kernel_rfl
theorem gofn_20 : goFn Try.prog 20 = true := by kernel_rfl
theorem gofn_21 : goFn Try.prog 21 = true := by kernel_rfl
theorem gofn_22 : goFn Try.prog 22 = true := by kernel_rfl
theorem gofn_23 : goFn Try.prog 23 = true := by kernel_rfl
theorem gofn_24 : goFn Try.prog 24 = true := by kernel_rfl
theorem gofn_25 : goFn Try.prog 25 = true := by kernel_rfl
theorem gofn_26 : goFn Try.prog 26 = true := by kernel_rfl
theorem gofn_27 : goFn Try.prog 27 = true := by kernel_rfl
theorem gofn_28 : goFn Try.prog 28 = true := by kernel_rfl
theorem gofn_29 : goFn Try.prog 29 = true := by kernel_rfl
theorem gofn_30 : goFn Try.prog 30 = true := by kernel_rfl
theorem gofn_31 : goFn Try.prog 31 = true := by kernel_rfl
theorem gofn_32 : goFn Try.prog 32 = true := by kernel_rfl
theorem gofn_33 : goFn Try.prog 33 = true := by kernel_rfl
theorem gofn_34 : goFn Try.prog 34 = true := by kernel_rfl
theorem gofn_35 : goFn Try.prog 35 = true := by kernel_rfl
theorem gofn_36 : goFn Try.prog 36 = true := by kernel_rfl
theorem gofn_37 : goFn Try.prog 37 = true := by kernel_rfl
theorem gofn_38 : goFn Try.prog 38 = true := by kernel_rfl
theorem gofn_39 : goFn Try.prog 39 = true := by kernel_rfl
theorem gofn_40 : goFn Try.prog 40 = true := by kernel_rfl
theorem gofn_41 : goFn Try.prog 41 = true := by kernel_rfl
theorem gofn_42 : goFn Try.prog 42 = true := by kernel_rfl
theorem gofn_43 : goFn Try.prog 43 = true := by kernel_rfl
theorem gofn_44 : goFn Try.prog 44 = true := by kernel_rfl
theorem gofn_45 : goFn Try.prog 45 = true := by kernel_rfl
theorem gofn_46 : goFn Try.prog 46 = true := by kernel_rfl
theorem gofn_47 : goFn Try.prog 47 = true := by kernel_rfl
theorem gofn_48 : goFn Try.prog 48 = true := by kernel_rfl
theorem gofn_49 : goFn Try.prog 49 = true := by kernel_rfl
theorem gofn_50 : goFn Try.prog 50 = true := by kernel_rfl
theorem gofn_51 : goFn Try.prog 51 = true := by kernel_rfl
theorem gofn_52 : goFn Try.prog 52 = true := by kernel_rfl
theorem gofn_53 : goFn Try.prog 53 = true := by kernel_rfl
theorem gofn_54 : goFn Try.prog 54 = true := by kernel_rfl
theorem gofn_55 : goFn Try.prog 55 = true := by kernel_rfl
theorem gofn_56 : goFn Try.prog 56 = true := by kernel_rfl
theorem gofn_57 : goFn Try.prog 57 = true := by kernel_rfl
theorem gofn_58 : goFn Try.prog 58 = true := by kernel_rfl
theorem gofn_59 : goFn Try.prog 59 = true := by kernel_rfl
theorem gofn_60 : goFn Try.prog 60 = true := by kernel_rfl
theorem gofn_61 : goFn Try.prog 61 = true := by kernel_rfl
theorem gofn_62 : goFn Try.prog 62 = true := by kernel_rfl
theorem gofn_63 : goFn Try.prog 63 = true := by kernel_rfl
theorem gofn_64 : goFn Try.prog 64 = true := by kernel_rfl
theorem gofn_65 : goFn Try.prog 65 = true := by kernel_rfl
theorem gofn_66 : goFn Try.prog 66 = true := by kernel_rfl
theorem gofn_67 : goFn Try.prog 67 = true := by kernel_rfl
theorem gofn_68 : goFn Try.prog 68 = true := by kernel_rfl
theorem gofn_69 : goFn Try.prog 69 = true := by kernel_rfl
theorem gofn_70 : goFn Try.prog 70 = true := by kernel_rfl
theorem gofn_71 : goFn Try.prog 71 = true := by kernel_rfl
theorem gofn_72 : goFn Try.prog 72 = true := by kernel_rfl
theorem gofn_73 : goFn Try.prog 73 = true := by kernel_rfl
theorem gofn_74 : goFn Try.prog 74 = true := by kernel_rfl
theorem gofn_75 : goFn Try.prog 75 = true := by kernel_rfl
theorem gofn_76 : goFn Try.prog 76 = true := by kernel_rfl
theorem gofn_77 : goFn Try.prog 77 = true := by kernel_rfl
theorem gofn_78 : goFn Try.prog 78 = true := by kernel_rfl
theorem gofn_79 : goFn Try.prog 79 = true := by kernel_rfl
theorem gofn_80 : goFn Try.prog 80 = true := by kernel_rfl
theorem gofn_81 : goFn Try.prog 81 = true := by kernel_rfl
theorem gofn_82 : goFn Try.prog 82 = true := by kernel_rfl
theorem gofn_83 : goFn Try.prog 83 = true := by kernel_rfl
theorem gofn_84 : goFn Try.prog 84 = true := by kernel_rfl
theorem gofn_85 : goFn Try.prog 85 = true := by kernel_rfl
theorem gofn_86 : goFn Try.prog 86 = true := by kernel_rfl
theorem gofn_87 : goFn Try.prog 87 = true := by kernel_rfl
theorem gofn_88 : goFn Try.prog 88 = true := by kernel_rfl
theorem gofn_89 : goFn Try.prog 89 = true := by kernel_rfl
theorem gofn_90 : goFn Try.prog 90 = true := by kernel_rfl
theorem gofn_91 : goFn Try.prog 91 = true := by kernel_rfl
theorem gofn_92 : goFn Try.prog 92 = true := by kernel_rfl
theorem gofn_93 : goFn Try.prog 93 = true := by kernel_rfl
theorem gofn_94 : goFn Try.prog 94 = true := by kernel_rfl
theorem gofn_95 : goFn Try.prog 95 = true := by kernel_rfl
theorem gofn_96 : goFn Try.prog 96 = true := by kernel_rfl
theorem gofn_97 : goFn Try.prog 97 = true := by kernel_rfl
theorem gofn_98 : goFn Try.prog 98 = true := by kernel_rfl
theorem gofn_99 : goFn Try.prog 99 = true := by kernel_rfl
theorem gofn_100 : goFn Try.prog 100 = true := by kernel_rfl
theorem gofn_101 : goFn Try.prog 101 = true := by kernel_rfl
theorem gofn_102 : goFn Try.prog 102 = true := by kernel_rfl
theorem gofn_103 : goFn Try.prog 103 = true := by kernel_rfl
theorem gofn_104 : goFn Try.prog 104 = true := by kernel_rfl
theorem gofn_105 : goFn Try.prog 105 = true := by kernel_rfl
theorem gofn_106 : goFn Try.prog 106 = true := by kernel_rfl
theorem gofn_107 : goFn Try.prog 107 = true := by kernel_rfl
theorem gofn_108 : goFn Try.prog 108 = true := by kernel_rfl
theorem gofn_109 : goFn Try.prog 109 = true := by kernel_rfl
theorem gofn_110 : goFn Try.prog 110 = true := by kernel_rfl
theorem gofn_111 : goFn Try.prog 111 = true := by kernel_rfl
theorem gofn_127 : goFn Try.prog 127 = true := by kernel_rfl
theorem cells_0 : cellsN Try.prog 0 = some 1 := by kernel_rfl
theorem zero_0 : zeroOf Try.prog 0 = some (Value.tuple #[]) := by kernel_rfl
theorem one_0 : oneB Try.prog 0 = true := by kernel_rfl
theorem zi_0 : zeroI Try.prog 0 = some (Value.tuple #[], 1, 0) := by kernel_rfl
theorem cells_3 : cellsN Try.prog 3 = some 1 := by kernel_rfl
theorem zero_3 : zeroOf Try.prog 3 = some (Value.int .i64 0) := by kernel_rfl
theorem one_3 : oneB Try.prog 3 = true := by kernel_rfl
theorem zi_3 : zeroI Try.prog 3 = some (Value.int .i64 0, 1, 8) := by kernel_rfl
theorem int_3 : Try.prog.underlying 3 = some (.int .i64) := by kernel_rfl
theorem cells_4 : cellsN Try.prog 4 = some 1 := by kernel_rfl
theorem zero_4 : zeroOf Try.prog 4 = some (Value.bool false) := by kernel_rfl
theorem one_4 : oneB Try.prog 4 = true := by kernel_rfl
theorem zi_4 : zeroI Try.prog 4 = some (Value.bool false, 1, 1) := by kernel_rfl
theorem bool_4 : Try.prog.underlying 4 = some .bool := by kernel_rfl
theorem cells_22 : cellsN Try.prog 22 = some 1 := by kernel_rfl
theorem zero_22 : zeroOf Try.prog 22 = some (Value.slice none 0 0) := by kernel_rfl
theorem one_22 : oneB Try.prog 22 = true := by kernel_rfl
theorem elm_22 : elemOf' Try.prog 22 = some (3, 1) := by kernel_rfl
theorem sl_22 : Try.prog.underlying 22 = some (.slice 3) := by kernel_rfl
theorem zi_22 : zeroI Try.prog 22 = some (Value.slice none 0 0, 1, 24) := by kernel_rfl
theorem cells_23 : cellsN Try.prog 23 = some 1 := by kernel_rfl
theorem zero_23 : zeroOf Try.prog 23 = some (Value.slice none 0 0) := by kernel_rfl
theorem one_23 : oneB Try.prog 23 = true := by kernel_rfl
theorem elm_23 : elemOf' Try.prog 23 = some (22, 1) := by kernel_rfl
theorem sl_23 : Try.prog.underlying 23 = some (.slice 22) := by kernel_rfl
theorem zi_23 : zeroI Try.prog 23 = some (Value.slice none 0 0, 1, 24) := by kernel_rfl
theorem cells_25 : cellsN Try.prog 25 = some 3 := by kernel_rfl
theorem zero_25 : zeroOf Try.prog 25 = some (Value.agg #[(.slice none 0 0), (.slice none 0 0), (.slice none 0 0)]) := by kernel_rfl
theorem agg_25 : aggSize Try.prog 25 = some 3 := by kernel_rfl
theorem fo_25_0 : fieldOff Try.prog 25 0 = some 0 := by kernel_rfl
theorem fo_25_1 : fieldOff Try.prog 25 1 = some 1 := by kernel_rfl
theorem fo_25_2 : fieldOff Try.prog 25 2 = some 2 := by kernel_rfl
theorem pl_25 : placesOf Try.prog 25 = some [(0, 1), (1, 1), (2, 1)] := by kernel_rfl
theorem zi_25 : zeroI Try.prog 25 = some (Value.agg #[(.slice none 0 0), (.slice none 0 0), (.slice none 0 0)], 3, 72) := by kernel_rfl
theorem cells_28 : cellsN Try.prog 28 = some 1 := by kernel_rfl
theorem zero_28 : zeroOf Try.prog 28 = some (Value.int .i64 0) := by kernel_rfl
theorem one_28 : oneB Try.prog 28 = true := by kernel_rfl
theorem zi_28 : zeroI Try.prog 28 = some (Value.int .i64 0, 1, 8) := by kernel_rfl
theorem int_28 : Try.prog.underlying 28 = some (.int .i64) := by kernel_rfl
theorem cells_29 : cellsN Try.prog 29 = some 1 := by kernel_rfl
theorem zero_29 : zeroOf Try.prog 29 = some (Value.tuple #[(.int .i64 0), (.int .i64 0)]) := by kernel_rfl
theorem one_29 : oneB Try.prog 29 = true := by kernel_rfl
theorem zi_29 : zeroI Try.prog 29 = some (Value.tuple #[(.int .i64 0), (.int .i64 0)], 1, 0) := by kernel_rfl
theorem cells_34 : cellsN Try.prog 34 = some 1 := by kernel_rfl
theorem zero_34 : zeroOf Try.prog 34 = some (Value.tuple #[(.slice none 0 0), (.int .i64 0)]) := by kernel_rfl
theorem one_34 : oneB Try.prog 34 = true := by kernel_rfl
theorem zi_34 : zeroI Try.prog 34 = some (Value.tuple #[(.slice none 0 0), (.int .i64 0)], 1, 0) := by kernel_rfl
theorem cells_39 : cellsN Try.prog 39 = some 1 := by kernel_rfl
theorem zero_39 : zeroOf Try.prog 39 = some (Value.tuple #[(.bool false), (.int .i64 0)]) := by kernel_rfl
theorem one_39 : oneB Try.prog 39 = true := by kernel_rfl
theorem zi_39 : zeroI Try.prog 39 = some (Value.tuple #[(.bool false), (.int .i64 0)], 1, 0) := by kernel_rfl
theorem cells_43 : cellsN Try.prog 43 = some 2 := by kernel_rfl
theorem zero_43 : zeroOf Try.prog 43 = some (Value.agg #[(.slice none 0 0), (.slice none 0 0)]) := by kernel_rfl
theorem agg_43 : aggSize Try.prog 43 = some 2 := by kernel_rfl
theorem fo_43_0 : fieldOff Try.prog 43 0 = some 0 := by kernel_rfl
theorem fo_43_1 : fieldOff Try.prog 43 1 = some 1 := by kernel_rfl
theorem pl_43 : placesOf Try.prog 43 = some [(0, 1), (1, 1)] := by kernel_rfl
theorem zi_43 : zeroI Try.prog 43 = some (Value.agg #[(.slice none 0 0), (.slice none 0 0)], 2, 48) := by kernel_rfl
theorem cells_47 : cellsN Try.prog 47 = some 1 := by kernel_rfl
theorem zero_47 : zeroOf Try.prog 47 = some (Value.tuple #[(.agg #[(.slice none 0 0), (.slice none 0 0)]), (.int .i64 0)]) := by kernel_rfl
theorem one_47 : oneB Try.prog 47 = true := by kernel_rfl
theorem zi_47 : zeroI Try.prog 47 = some (Value.tuple #[(.agg #[(.slice none 0 0), (.slice none 0 0)]), (.int .i64 0)], 1, 0) := by kernel_rfl
theorem cells_49 : cellsN Try.prog 49 = some 1 := by kernel_rfl
theorem zero_49 : zeroOf Try.prog 49 = some (Value.slice none 0 0) := by kernel_rfl
theorem one_49 : oneB Try.prog 49 = true := by kernel_rfl
theorem elm_49 : elemOf' Try.prog 49 = some (84, 2) := by kernel_rfl
theorem sl_49 : Try.prog.underlying 49 = some (.slice 84) := by kernel_rfl
theorem zi_49 : zeroI Try.prog 49 = some (Value.slice none 0 0, 1, 24) := by kernel_rfl
theorem cells_50 : cellsN Try.prog 50 = some 1 := by kernel_rfl
theorem zero_50 : zeroOf Try.prog 50 = some (Value.tuple #[(.slice none 0 0), (.bool false), (.int .i64 0)]) := by kernel_rfl
theorem one_50 : oneB Try.prog 50 = true := by kernel_rfl
theorem zi_50 : zeroI Try.prog 50 = some (Value.tuple #[(.slice none 0 0), (.bool false), (.int .i64 0)], 1, 0) := by kernel_rfl
theorem cells_52 : cellsN Try.prog 52 = some 1 := by kernel_rfl
theorem zero_52 : zeroOf Try.prog 52 = some (Value.tuple #[(.slice none 0 0), (.int .i64 0), (.int .i64 0)]) := by kernel_rfl
theorem one_52 : oneB Try.prog 52 = true := by kernel_rfl
theorem zi_52 : zeroI Try.prog 52 = some (Value.tuple #[(.slice none 0 0), (.int .i64 0), (.int .i64 0)], 1, 0) := by kernel_rfl
theorem cells_56 : cellsN Try.prog 56 = some 1 := by kernel_rfl
theorem zero_56 : zeroOf Try.prog 56 = some (Value.tuple #[(.agg #[(.slice none 0 0), (.slice none 0 0), (.slice none 0 0)]), (.int .i64 0)]) := by kernel_rfl
theorem one_56 : oneB Try.prog 56 = true := by kernel_rfl
theorem zi_56 : zeroI Try.prog 56 = some (Value.tuple #[(.agg #[(.slice none 0 0), (.slice none 0 0), (.slice none 0 0)]), (.int .i64 0)], 1, 0) := by kernel_rfl
theorem cells_63 : cellsN Try.prog 63 = some 1 := by kernel_rfl
theorem zero_63 : zeroOf Try.prog 63 = some (Value.slice none 0 0) := by kernel_rfl
theorem one_63 : oneB Try.prog 63 = true := by kernel_rfl
theorem elm_63 : elemOf' Try.prog 63 = some (23, 1) := by kernel_rfl
theorem sl_63 : Try.prog.underlying 63 = some (.slice 23) := by kernel_rfl
theorem zi_63 : zeroI Try.prog 63 = some (Value.slice none 0 0, 1, 24) := by kernel_rfl
theorem cells_66 : cellsN Try.prog 66 = some 1 := by kernel_rfl
theorem zero_66 : zeroOf Try.prog 66 = some (Value.nilFunc) := by kernel_rfl
theorem one_66 : oneB Try.prog 66 = true := by kernel_rfl
theorem zi_66 : zeroI Try.prog 66 = some (Value.nilFunc, 1, 8) := by kernel_rfl
theorem cells_71 : cellsN Try.prog 71 = some 1 := by kernel_rfl
theorem zero_71 : zeroOf Try.prog 71 = some (Value.nilFunc) := by kernel_rfl
theorem one_71 : oneB Try.prog 71 = true := by kernel_rfl
theorem zi_71 : zeroI Try.prog 71 = some (Value.nilFunc, 1, 8) := by kernel_rfl
theorem cells_72 : cellsN Try.prog 72 = some 1 := by kernel_rfl
theorem zero_72 : zeroOf Try.prog 72 = some (Value.tuple #[(.slice none 0 0), (.agg #[(.slice none 0 0), (.slice none 0 0)])]) := by kernel_rfl
theorem one_72 : oneB Try.prog 72 = true := by kernel_rfl
theorem zi_72 : zeroI Try.prog 72 = some (Value.tuple #[(.slice none 0 0), (.agg #[(.slice none 0 0), (.slice none 0 0)])], 1, 0) := by kernel_rfl
theorem cells_74 : cellsN Try.prog 74 = some 1 := by kernel_rfl
theorem zero_74 : zeroOf Try.prog 74 = some (Value.tuple #[(.slice none 0 0), (.int .i64 0)]) := by kernel_rfl
theorem one_74 : oneB Try.prog 74 = true := by kernel_rfl
theorem zi_74 : zeroI Try.prog 74 = some (Value.tuple #[(.slice none 0 0), (.int .i64 0)], 1, 0) := by kernel_rfl
theorem cells_76 : cellsN Try.prog 76 = some 1 := by kernel_rfl
theorem zero_76 : zeroOf Try.prog 76 = some (Value.nilIface) := by kernel_rfl
theorem one_76 : oneB Try.prog 76 = true := by kernel_rfl
theorem zi_76 : zeroI Try.prog 76 = some (Value.nilIface, 1, 16) := by kernel_rfl
theorem cells_82 : cellsN Try.prog 82 = some 1 := by kernel_rfl
theorem zero_82 : zeroOf Try.prog 82 = some (Value.slice none 0 0) := by kernel_rfl
theorem one_82 : oneB Try.prog 82 = true := by kernel_rfl
theorem elm_82 : elemOf' Try.prog 82 = some (84, 2) := by kernel_rfl
theorem sl_82 : Try.prog.underlying 82 = some (.slice 84) := by kernel_rfl
theorem zi_82 : zeroI Try.prog 82 = some (Value.slice none 0 0, 1, 24) := by kernel_rfl
theorem cells_84 : cellsN Try.prog 84 = some 2 := by kernel_rfl
theorem zero_84 : zeroOf Try.prog 84 = some (Value.agg #[(.int .i64 0), (.int .i64 0)]) := by kernel_rfl
theorem agg_84 : aggSize Try.prog 84 = some 2 := by kernel_rfl
theorem zi_84 : zeroI Try.prog 84 = some (Value.agg #[(.int .i64 0), (.int .i64 0)], 2, 16) := by kernel_rfl
theorem cells_90 : cellsN Try.prog 90 = some 1 := by kernel_rfl
theorem zero_90 : zeroOf Try.prog 90 = some (Value.slice none 0 0) := by kernel_rfl
theorem one_90 : oneB Try.prog 90 = true := by kernel_rfl
theorem elm_90 : elemOf' Try.prog 90 = some (25, 3) := by kernel_rfl
theorem sl_90 : Try.prog.underlying 90 = some (.slice 25) := by kernel_rfl
theorem zi_90 : zeroI Try.prog 90 = some (Value.slice none 0 0, 1, 24) := by kernel_rfl
theorem cells_96 : cellsN Try.prog 96 = some 2 := by kernel_rfl
theorem zero_96 : zeroOf Try.prog 96 = some (Value.agg #[(.slice none 0 0), (.slice none 0 0)]) := by kernel_rfl
theorem agg_96 : aggSize Try.prog 96 = some 2 := by kernel_rfl
theorem fo_96_0 : fieldOff Try.prog 96 0 = some 0 := by kernel_rfl
theorem fo_96_1 : fieldOff Try.prog 96 1 = some 1 := by kernel_rfl
theorem pl_96 : placesOf Try.prog 96 = some [(0, 1), (1, 1)] := by kernel_rfl
theorem zi_96 : zeroI Try.prog 96 = some (Value.agg #[(.slice none 0 0), (.slice none 0 0)], 2, 48) := by kernel_rfl
theorem cells_97 : cellsN Try.prog 97 = some 1 := by kernel_rfl
theorem zero_97 : zeroOf Try.prog 97 = some (Value.slice none 0 0) := by kernel_rfl
theorem one_97 : oneB Try.prog 97 = true := by kernel_rfl
theorem elm_97 : elemOf' Try.prog 97 = some (110, 2) := by kernel_rfl
theorem sl_97 : Try.prog.underlying 97 = some (.slice 110) := by kernel_rfl
theorem zi_97 : zeroI Try.prog 97 = some (Value.slice none 0 0, 1, 24) := by kernel_rfl
theorem cells_99 : cellsN Try.prog 99 = some 2 := by kernel_rfl
theorem zero_99 : zeroOf Try.prog 99 = some (Value.agg #[(.slice none 0 0), (.slice none 0 0)]) := by kernel_rfl
theorem agg_99 : aggSize Try.prog 99 = some 2 := by kernel_rfl
theorem fo_99_0 : fieldOff Try.prog 99 0 = some 0 := by kernel_rfl
theorem fo_99_1 : fieldOff Try.prog 99 1 = some 1 := by kernel_rfl
theorem pl_99 : placesOf Try.prog 99 = some [(0, 1), (1, 1)] := by kernel_rfl
theorem zi_99 : zeroI Try.prog 99 = some (Value.agg #[(.slice none 0 0), (.slice none 0 0)], 2, 48) := by kernel_rfl
theorem cells_104 : cellsN Try.prog 104 = some 1 := by kernel_rfl
theorem zero_104 : zeroOf Try.prog 104 = some (Value.nilFunc) := by kernel_rfl
theorem one_104 : oneB Try.prog 104 = true := by kernel_rfl
theorem zi_104 : zeroI Try.prog 104 = some (Value.nilFunc, 1, 8) := by kernel_rfl
theorem cells_106 : cellsN Try.prog 106 = some 1 := by kernel_rfl
theorem zero_106 : zeroOf Try.prog 106 = some (Value.nilFunc) := by kernel_rfl
theorem one_106 : oneB Try.prog 106 = true := by kernel_rfl
theorem zi_106 : zeroI Try.prog 106 = some (Value.nilFunc, 1, 8) := by kernel_rfl
theorem cells_110 : cellsN Try.prog 110 = some 2 := by kernel_rfl
theorem zero_110 : zeroOf Try.prog 110 = some (Value.agg #[(.int .i64 0), (.int .i64 0)]) := by kernel_rfl
theorem agg_110 : aggSize Try.prog 110 = some 2 := by kernel_rfl
theorem fo_110_0 : fieldOff Try.prog 110 0 = some 0 := by kernel_rfl
theorem fo_110_1 : fieldOff Try.prog 110 1 = some 1 := by kernel_rfl
theorem pl_110 : placesOf Try.prog 110 = some [(0, 1), (1, 1)] := by kernel_rfl
theorem zi_110 : zeroI Try.prog 110 = some (Value.agg #[(.int .i64 0), (.int .i64 0)], 2, 16) := by kernel_rfl
theorem cells_112 : cellsN Try.prog 112 = some 1 := by kernel_rfl
theorem zero_112 : zeroOf Try.prog 112 = some (Value.nilFunc) := by kernel_rfl
theorem one_112 : oneB Try.prog 112 = true := by kernel_rfl
theorem zi_112 : zeroI Try.prog 112 = some (Value.nilFunc, 1, 8) := by kernel_rfl
end Go.Proofs.Ytghlkndanpegbaa.Tb
