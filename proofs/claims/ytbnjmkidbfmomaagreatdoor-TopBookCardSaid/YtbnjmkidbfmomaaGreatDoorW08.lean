/- Ly Wa Sd -/
import Derived.Test.YtbnjmkidbfmomaaGreatDoorW00
import Derived.Test.YtbnjmkidbfmomaaGreatDoorW06
import Derived.Test.YtbnjmkidbfmomaaGreatDoorW07
import Derived.Shelf.Strconv.Itoa3
import Derived.Shelf.Strings.SplitShaped
import Derived.Shelf.Small.Wraps
import Derived.Shelf.LaysC
import Derived.Ground.NamesProg
import Derived.Test.YtbnjmkidbfmomaaGreatDoorProg
import Derived.WalkSmall
import Derived.Shelf.Strconv.ErrVarAll
import Derived.Shelf.Strings.Cut
import Derived.Shelf.Strings.Split
import Derived.Shelf.Strings.Search3
set_option linter.unusedVariables false
set_option linter.unusedSimpArgs false
set_option maxRecDepth 100000
namespace Go.Proofs
open Go.Shelf
def Tryz.itoaS_ren : Go.Shelf.Ren := ⟨fun | 171 => 78 | 243 => 122 | 246 => 165 | 283 => 194 | 284 => 195 | 285 => 196 | 286 => 197 | 129 => 222 | 317 => 221 | 318 => 223 | 319 => 224 | 320 => 225 | 337 => 241 | 338 => 242 | n => n, fun | 3 => 3 | 9 => 9 | 2 => 2 | 4 => 4 | 171 => 230 | 0 => 0 | 53 => 231 | 37 => 234 | 5 => 5 | 173 => 235 | 212 => 258 | 51 => 93 | 20 => 20 | 213 => 259 | 46 => 55 | 232 => 285 | 233 => 286 | n => n, fun | 17 => 2 | 18 => 5 | 19 => 6 | n => n⟩
theorem Tryz.itoaS : Go.Proofs.LaysM.n171 Tryz.prog Tryz.itoaS_ren := {
  mixed := by kernel_rfl
  f129 := Tryz.func222.trans (congrArg some (by kernel_rfl))
  f171 := Tryz.func78.trans (congrArg some (by kernel_rfl))
  f243 := Tryz.func122.trans (congrArg some (by kernel_rfl))
  f246 := Tryz.func165.trans (congrArg some (by kernel_rfl))
  f283 := Tryz.func194.trans (congrArg some (by kernel_rfl))
  f284 := Tryz.func195.trans (congrArg some (by kernel_rfl))
  f285 := Tryz.func196.trans (congrArg some (by kernel_rfl))
  f286 := Tryz.func197.trans (congrArg some (by kernel_rfl))
  f317 := Tryz.func221.trans (congrArg some (by kernel_rfl))
  f318 := Tryz.func223.trans (congrArg some (by kernel_rfl))
  f319 := Tryz.func224.trans (congrArg some (by kernel_rfl))
  f320 := Tryz.func225.trans (congrArg some (by kernel_rfl))
  f337 := Tryz.func241.trans (congrArg some (by kernel_rfl))
  f338 := Tryz.func242.trans (congrArg some (by kernel_rfl))
  t0 := Tryz.underlying0
  a0 := Tryz.isAgg0
  z0 := Tryz.sizeOf0
  v0 := Tryz.zeroValue0
  t2 := Tryz.underlying2
  a2 := Tryz.isAgg2
  z2 := Tryz.sizeOf2
  v2 := Tryz.zeroValue2
  t3 := Tryz.underlying3
  a3 := Tryz.isAgg3
  z3 := Tryz.sizeOf3
  v3 := Tryz.zeroValue3
  t4 := Tryz.underlying4
  a4 := Tryz.isAgg4
  z4 := Tryz.sizeOf4
  v4 := Tryz.zeroValue4
  t5 := Tryz.underlying5
  a5 := Tryz.isAgg5
  z5 := Tryz.sizeOf5
  v5 := Tryz.zeroValue5
  t9 := Tryz.underlying9
  a9 := Tryz.isAgg9
  z9 := Tryz.sizeOf9
  v9 := Tryz.zeroValue9
  t20 := Tryz.underlying20
  a20 := Tryz.isAgg20
  z20 := Tryz.sizeOf20
  v20 := Tryz.zeroValue20
  t37 := Tryz.underlying234
  a37 := Tryz.isAgg234
  z37 := Tryz.sizeOf234
  v37 := Tryz.zeroValue234
  t46 := Tryz.underlying55
  a46 := Tryz.isAgg55
  z46 := Tryz.sizeOf55
  v46 := Tryz.zeroValue55
  t51 := Tryz.underlying93
  a51 := Tryz.isAgg93
  z51 := Tryz.sizeOf93
  v51 := Tryz.zeroValue93
  t53 := Tryz.underlying231
  a53 := Tryz.isAgg231
  z53 := Tryz.sizeOf231
  v53 := Tryz.zeroValue231
  t171 := Tryz.underlying230
  a171 := Tryz.isAgg230
  z171 := Tryz.sizeOf230
  v171 := Tryz.zeroValue230
  t173 := Tryz.underlying235
  a173 := Tryz.isAgg235
  z173 := Tryz.sizeOf235
  v173 := Tryz.zeroValue235
  t212 := Tryz.underlying258
  a212 := Tryz.isAgg258
  z212 := Tryz.sizeOf258
  v212 := Tryz.zeroValue258
  t213 := Tryz.underlying259
  a213 := Tryz.isAgg259
  z213 := Tryz.sizeOf259
  t232 := Tryz.underlying285
  a232 := Tryz.isAgg285
  z232 := Tryz.sizeOf285
  v232 := Tryz.zeroValue285
  t233 := Tryz.underlying286
  a233 := Tryz.isAgg286
  z233 := Tryz.sizeOf286
  v233 := Tryz.zeroValue286
  g17 := by kernel_rfl
  g18 := by kernel_rfl
  g19 := by kernel_rfl
  i0 := by kernel_rfl
  i2 := by kernel_rfl
  i3 := by kernel_rfl
  i4 := by kernel_rfl
  i5 := by kernel_rfl
  i9 := by kernel_rfl
  i20 := by kernel_rfl
  i37 := by kernel_rfl
  i46 := by kernel_rfl
  i51 := by kernel_rfl
  i53 := by kernel_rfl
  i171 := by kernel_rfl
  i173 := by kernel_rfl
  i212 := by kernel_rfl
  i232 := by kernel_rfl
  i233 := by kernel_rfl
  m17 := by kernel_rfl
  m18 := by kernel_rfl
  m19 := by kernel_rfl }
def Tryz.cutS_ren : Go.Shelf.Ren := ⟨fun | 145 => 79 | 220 => 123 | 219 => 166 | 217 => 198 | 225 => 199 | 224 => 200 | 267 => 201 | 266 => 226 | 314 => 227 | n => n, fun | 9 => 9 | 4 => 4 | 59 => 126 | 3 => 3 | 5 => 5 | 46 => 55 | 146 => 261 | 51 => 93 | n => n, fun | 1 => 1 | n => n⟩
theorem Tryz.cutS : Go.Proofs.LaysM.n145 Tryz.prog Tryz.cutS_ren := {
  mixed := by kernel_rfl
  f145 := Tryz.func79.trans (congrArg some (by kernel_rfl))
  f217 := Tryz.func198.trans (congrArg some (by kernel_rfl))
  f219 := Tryz.func166.trans (congrArg some (by kernel_rfl))
  f220 := Tryz.func123.trans (congrArg some (by kernel_rfl))
  f224 := Tryz.func200.trans (congrArg some (by kernel_rfl))
  f225 := Tryz.func199.trans (congrArg some (by kernel_rfl))
  f266 := Tryz.func226.trans (congrArg some (by kernel_rfl))
  f267 := Tryz.func201.trans (congrArg some (by kernel_rfl))
  f314 := Tryz.func227.trans (congrArg some (by kernel_rfl))
  t3 := Tryz.underlying3
  a3 := Tryz.isAgg3
  z3 := Tryz.sizeOf3
  v3 := Tryz.zeroValue3
  t4 := Tryz.underlying4
  a4 := Tryz.isAgg4
  z4 := Tryz.sizeOf4
  v4 := Tryz.zeroValue4
  t5 := Tryz.underlying5
  a5 := Tryz.isAgg5
  z5 := Tryz.sizeOf5
  v5 := Tryz.zeroValue5
  t9 := Tryz.underlying9
  a9 := Tryz.isAgg9
  z9 := Tryz.sizeOf9
  v9 := Tryz.zeroValue9
  t46 := Tryz.underlying55
  a46 := Tryz.isAgg55
  z46 := Tryz.sizeOf55
  v46 := Tryz.zeroValue55
  t51 := Tryz.underlying93
  a51 := Tryz.isAgg93
  z51 := Tryz.sizeOf93
  v51 := Tryz.zeroValue93
  t59 := Tryz.underlying126
  a59 := Tryz.isAgg126
  z59 := Tryz.sizeOf126
  v59 := Tryz.zeroValue126
  t146 := Tryz.underlying261
  a146 := Tryz.isAgg261
  z146 := Tryz.sizeOf261
  v146 := Tryz.zeroValue261
  g1 := by kernel_rfl
  i3 := by kernel_rfl
  i4 := by kernel_rfl
  i5 := by kernel_rfl
  i9 := by kernel_rfl
  i46 := by kernel_rfl
  i51 := by kernel_rfl
  i59 := by kernel_rfl
  i146 := by kernel_rfl
  m1 := by kernel_rfl
  s1_3 := fun w h => Go.Proofs.cell_of_shapedOpen_int (zero := #[.int .i64 0]) (t := 3) h (of_decide_eq_true (by kernel_rfl)) (by kernel_rfl) rfl (by kernel_rfl) (by kernel_rfl) Tryz.underlying3 }
def Tryz.splitS_ren : Go.Shelf.Ren := ⟨fun | 146 => 147 | 221 => 180 | 268 => 204 | 138 => 205 | 143 => 167 | 195 => 228 | 197 => 229 | 218 => 230 | 219 => 166 | 260 => 243 | 217 => 198 | 225 => 199 | 224 => 200 | 267 => 201 | 266 => 226 | 314 => 227 | n => n, fun | 9 => 9 | 31 => 43 | 3 => 3 | 4 => 4 | 0 => 0 | 105 => 263 | 21 => 21 | 5 => 5 | 46 => 55 | 119 => 287 | 139 => 290 | 138 => 289 | 146 => 261 | 51 => 93 | n => n, fun | 1 => 1 | 3 => 7 | 4 => 8 | n => n⟩
theorem Tryz.splitS : Go.Proofs.LaysM.n146 Tryz.prog Tryz.splitS_ren := {
  mixed := by kernel_rfl
  f138 := Tryz.func205.trans (congrArg some (by kernel_rfl))
  f143 := Tryz.func167.trans (congrArg some (by kernel_rfl))
  f146 := Tryz.func147.trans (congrArg some (by kernel_rfl))
  f195 := Tryz.func228.trans (congrArg some (by kernel_rfl))
  f197 := Tryz.func229.trans (congrArg some (by kernel_rfl))
  f217 := Tryz.func198.trans (congrArg some (by kernel_rfl))
  f218 := Tryz.func230.trans (congrArg some (by kernel_rfl))
  f219 := Tryz.func166.trans (congrArg some (by kernel_rfl))
  f221 := Tryz.func180.trans (congrArg some (by kernel_rfl))
  f224 := Tryz.func200.trans (congrArg some (by kernel_rfl))
  f225 := Tryz.func199.trans (congrArg some (by kernel_rfl))
  f260 := Tryz.func243.trans (congrArg some (by kernel_rfl))
  f266 := Tryz.func226.trans (congrArg some (by kernel_rfl))
  f267 := Tryz.func201.trans (congrArg some (by kernel_rfl))
  f268 := Tryz.func204.trans (congrArg some (by kernel_rfl))
  f314 := Tryz.func227.trans (congrArg some (by kernel_rfl))
  t0 := Tryz.underlying0
  a0 := Tryz.isAgg0
  z0 := Tryz.sizeOf0
  v0 := Tryz.zeroValue0
  t3 := Tryz.underlying3
  a3 := Tryz.isAgg3
  z3 := Tryz.sizeOf3
  v3 := Tryz.zeroValue3
  t4 := Tryz.underlying4
  a4 := Tryz.isAgg4
  z4 := Tryz.sizeOf4
  v4 := Tryz.zeroValue4
  t5 := Tryz.underlying5
  a5 := Tryz.isAgg5
  z5 := Tryz.sizeOf5
  v5 := Tryz.zeroValue5
  t9 := Tryz.underlying9
  a9 := Tryz.isAgg9
  z9 := Tryz.sizeOf9
  v9 := Tryz.zeroValue9
  t21 := Tryz.underlying21
  a21 := Tryz.isAgg21
  z21 := Tryz.sizeOf21
  v21 := Tryz.zeroValue21
  t31 := Tryz.underlying43
  a31 := Tryz.isAgg43
  z31 := Tryz.sizeOf43
  v31 := Tryz.zeroValue43
  t46 := Tryz.underlying55
  a46 := Tryz.isAgg55
  z46 := Tryz.sizeOf55
  v46 := Tryz.zeroValue55
  t51 := Tryz.underlying93
  a51 := Tryz.isAgg93
  z51 := Tryz.sizeOf93
  v51 := Tryz.zeroValue93
  t105 := Tryz.underlying263
  a105 := Tryz.isAgg263
  z105 := Tryz.sizeOf263
  v105 := Tryz.zeroValue263
  t119 := Tryz.underlying287
  a119 := Tryz.isAgg287
  z119 := Tryz.sizeOf287
  t138 := Tryz.underlying289
  a138 := Tryz.isAgg289
  z138 := Tryz.sizeOf289
  v138 := Tryz.zeroValue289
  t139 := Tryz.underlying290
  a139 := Tryz.isAgg290
  z139 := Tryz.sizeOf290
  v139 := Tryz.zeroValue290
  t146 := Tryz.underlying261
  a146 := Tryz.isAgg261
  z146 := Tryz.sizeOf261
  v146 := Tryz.zeroValue261
  g1 := by kernel_rfl
  g3 := by kernel_rfl
  g4 := by kernel_rfl
  i0 := by kernel_rfl
  i3 := by kernel_rfl
  i4 := by kernel_rfl
  i5 := by kernel_rfl
  i9 := by kernel_rfl
  i21 := by kernel_rfl
  i31 := by kernel_rfl
  i46 := by kernel_rfl
  i51 := by kernel_rfl
  i105 := by kernel_rfl
  i138 := by kernel_rfl
  i139 := by kernel_rfl
  i146 := by kernel_rfl
  m1 := by kernel_rfl
  s1_3 := fun w h => Go.Proofs.cell_of_shapedOpen_int (zero := #[.int .i64 0]) (t := 3) h (of_decide_eq_true (by kernel_rfl)) (by kernel_rfl) rfl (by kernel_rfl) (by kernel_rfl) Tryz.underlying3
  m3 := by kernel_rfl
  m4 := by kernel_rfl }
def Tryz.cutPS_ren : Go.Shelf.Ren := ⟨fun | 103 => 81 | 210 => 125 | 206 => 168 | n => n, fun | 9 => 9 | 4 => 4 | 24 => 129 | 3 => 3 | n => n, fun | n => n⟩
theorem Tryz.cutPS : Go.Proofs.LaysM.n103 Tryz.prog Tryz.cutPS_ren := {
  mixed := by kernel_rfl
  f103 := Tryz.func81.trans (congrArg some (by kernel_rfl))
  f206 := Tryz.func168.trans (congrArg some (by kernel_rfl))
  f210 := Tryz.func125.trans (congrArg some (by kernel_rfl))
  t3 := Tryz.underlying3
  a3 := Tryz.isAgg3
  z3 := Tryz.sizeOf3
  v3 := Tryz.zeroValue3
  t4 := Tryz.underlying4
  a4 := Tryz.isAgg4
  z4 := Tryz.sizeOf4
  v4 := Tryz.zeroValue4
  t9 := Tryz.underlying9
  a9 := Tryz.isAgg9
  z9 := Tryz.sizeOf9
  v9 := Tryz.zeroValue9
  t24 := Tryz.underlying129
  a24 := Tryz.isAgg129
  z24 := Tryz.sizeOf129
  v24 := Tryz.zeroValue129
  i3 := by kernel_rfl
  i4 := by kernel_rfl
  i9 := by kernel_rfl
  i24 := by kernel_rfl }
def Tryz.contS_ren : Go.Shelf.Ren := ⟨fun | 144 => 124 | 143 => 167 | 219 => 166 | 217 => 198 | 225 => 199 | 224 => 200 | 267 => 201 | 266 => 226 | 314 => 227 | n => n, fun | 9 => 9 | 4 => 4 | 3 => 3 | 5 => 5 | 46 => 55 | 146 => 261 | 51 => 93 | n => n, fun | 1 => 1 | n => n⟩
theorem Tryz.contS : Go.Proofs.LaysM.n144 Tryz.prog Tryz.contS_ren := {
  mixed := by kernel_rfl
  f143 := Tryz.func167.trans (congrArg some (by kernel_rfl))
  f144 := Tryz.func124.trans (congrArg some (by kernel_rfl))
  f217 := Tryz.func198.trans (congrArg some (by kernel_rfl))
  f219 := Tryz.func166.trans (congrArg some (by kernel_rfl))
  f224 := Tryz.func200.trans (congrArg some (by kernel_rfl))
  f225 := Tryz.func199.trans (congrArg some (by kernel_rfl))
  f266 := Tryz.func226.trans (congrArg some (by kernel_rfl))
  f267 := Tryz.func201.trans (congrArg some (by kernel_rfl))
  f314 := Tryz.func227.trans (congrArg some (by kernel_rfl))
  t3 := Tryz.underlying3
  a3 := Tryz.isAgg3
  z3 := Tryz.sizeOf3
  v3 := Tryz.zeroValue3
  t4 := Tryz.underlying4
  a4 := Tryz.isAgg4
  z4 := Tryz.sizeOf4
  v4 := Tryz.zeroValue4
  t5 := Tryz.underlying5
  a5 := Tryz.isAgg5
  z5 := Tryz.sizeOf5
  v5 := Tryz.zeroValue5
  t9 := Tryz.underlying9
  a9 := Tryz.isAgg9
  z9 := Tryz.sizeOf9
  v9 := Tryz.zeroValue9
  t46 := Tryz.underlying55
  a46 := Tryz.isAgg55
  z46 := Tryz.sizeOf55
  v46 := Tryz.zeroValue55
  t51 := Tryz.underlying93
  a51 := Tryz.isAgg93
  z51 := Tryz.sizeOf93
  v51 := Tryz.zeroValue93
  t146 := Tryz.underlying261
  a146 := Tryz.isAgg261
  z146 := Tryz.sizeOf261
  v146 := Tryz.zeroValue261
  g1 := by kernel_rfl
  i3 := by kernel_rfl
  i4 := by kernel_rfl
  i5 := by kernel_rfl
  i9 := by kernel_rfl
  i46 := by kernel_rfl
  i51 := by kernel_rfl
  i146 := by kernel_rfl
  m1 := by kernel_rfl
  s1_3 := fun w h => Go.Proofs.cell_of_shapedOpen_int (zero := #[.int .i64 0]) (t := 3) h (of_decide_eq_true (by kernel_rfl)) (by kernel_rfl) rfl (by kernel_rfl) (by kernel_rfl) Tryz.underlying3 }
def Tryz.atoiS_ren : Go.Shelf.Ren := ⟨fun | 172 => 149 | 244 => 181 | 245 => 182 | 247 => 206 | 279 => 207 | 280 => 208 | 281 => 209 | 282 => 210 | 287 => 231 | 316 => 232 | 171 => 78 | 205 => 233 | 321 => 244 | 322 => 245 | 243 => 122 | 246 => 165 | 283 => 194 | 284 => 195 | 285 => 196 | 286 => 197 | 129 => 222 | 317 => 221 | 318 => 223 | 319 => 224 | 320 => 225 | 337 => 241 | 338 => 242 | n => n, fun | 9 => 9 | 3 => 3 | 75 => 105 | 76 => 190 | 4 => 4 | 5 => 5 | 167 => 242 | 37 => 234 | 0 => 0 | 85 => 243 | 2 => 2 | 168 => 245 | 53 => 231 | 175 => 265 | 46 => 55 | 210 => 269 | 127 => 279 | 145 => 282 | 143 => 280 | 21 => 21 | 171 => 230 | 173 => 235 | 212 => 258 | 51 => 93 | 20 => 20 | 213 => 259 | 232 => 285 | 233 => 286 | 80 => 36 | n => n, fun | 15 => 3 | 16 => 4 | 17 => 2 | 18 => 5 | 19 => 6 | n => n⟩
theorem Tryz.atoiS : Go.Proofs.LaysC.n172 Tryz.prog Tryz.atoiS_ren := {
  mixed := by kernel_rfl
  f129 := Tryz.func222.trans (congrArg some (by kernel_rfl))
  f171 := Tryz.func78.trans (congrArg some (by kernel_rfl))
  f172 := Tryz.func149.trans (congrArg some (by kernel_rfl))
  f205 := Tryz.func233.trans (congrArg some (by kernel_rfl))
  f243 := Tryz.func122.trans (congrArg some (by kernel_rfl))
  f244 := Tryz.func181.trans (congrArg some (by kernel_rfl))
  f245 := Tryz.func182.trans (congrArg some (by kernel_rfl))
  f246 := Tryz.func165.trans (congrArg some (by kernel_rfl))
  f247 := Tryz.func206.trans (congrArg some (by kernel_rfl))
  f279 := Tryz.func207.trans (congrArg some (by kernel_rfl))
  f280 := Tryz.func208.trans (congrArg some (by kernel_rfl))
  f281 := Tryz.func209.trans (congrArg some (by kernel_rfl))
  f282 := Tryz.func210.trans (congrArg some (by kernel_rfl))
  f283 := Tryz.func194.trans (congrArg some (by kernel_rfl))
  f284 := Tryz.func195.trans (congrArg some (by kernel_rfl))
  f285 := Tryz.func196.trans (congrArg some (by kernel_rfl))
  f286 := Tryz.func197.trans (congrArg some (by kernel_rfl))
  f287 := Tryz.func231.trans (congrArg some (by kernel_rfl))
  f316 := Tryz.func232.trans (congrArg some (by kernel_rfl))
  f317 := Tryz.func221.trans (congrArg some (by kernel_rfl))
  f318 := Tryz.func223.trans (congrArg some (by kernel_rfl))
  f319 := Tryz.func224.trans (congrArg some (by kernel_rfl))
  f320 := Tryz.func225.trans (congrArg some (by kernel_rfl))
  f321 := Tryz.func244.trans (congrArg some (by kernel_rfl))
  f322 := Tryz.func245.trans (congrArg some (by kernel_rfl))
  f337 := Tryz.func241.trans (congrArg some (by kernel_rfl))
  f338 := Tryz.func242.trans (congrArg some (by kernel_rfl))
  t0 := Tryz.underlying0
  a0 := Tryz.isAgg0
  z0 := Tryz.sizeOf0
  v0 := Tryz.zeroValue0
  t2 := Tryz.underlying2
  a2 := Tryz.isAgg2
  z2 := Tryz.sizeOf2
  v2 := Tryz.zeroValue2
  t3 := Tryz.underlying3
  a3 := Tryz.isAgg3
  z3 := Tryz.sizeOf3
  v3 := Tryz.zeroValue3
  t4 := Tryz.underlying4
  a4 := Tryz.isAgg4
  z4 := Tryz.sizeOf4
  v4 := Tryz.zeroValue4
  t5 := Tryz.underlying5
  a5 := Tryz.isAgg5
  z5 := Tryz.sizeOf5
  v5 := Tryz.zeroValue5
  t9 := Tryz.underlying9
  a9 := Tryz.isAgg9
  z9 := Tryz.sizeOf9
  v9 := Tryz.zeroValue9
  t20 := Tryz.underlying20
  a20 := Tryz.isAgg20
  z20 := Tryz.sizeOf20
  v20 := Tryz.zeroValue20
  t21 := Tryz.underlying21
  a21 := Tryz.isAgg21
  z21 := Tryz.sizeOf21
  v21 := Tryz.zeroValue21
  t37 := Tryz.underlying234
  a37 := Tryz.isAgg234
  z37 := Tryz.sizeOf234
  v37 := Tryz.zeroValue234
  t46 := Tryz.underlying55
  a46 := Tryz.isAgg55
  z46 := Tryz.sizeOf55
  v46 := Tryz.zeroValue55
  t51 := Tryz.underlying93
  a51 := Tryz.isAgg93
  z51 := Tryz.sizeOf93
  v51 := Tryz.zeroValue93
  t53 := Tryz.underlying231
  a53 := Tryz.isAgg231
  z53 := Tryz.sizeOf231
  v53 := Tryz.zeroValue231
  t75 := Tryz.underlying105
  a75 := Tryz.isAgg105
  z75 := Tryz.sizeOf105
  v75 := Tryz.zeroValue105
  t76 := Tryz.underlying190
  a76 := Tryz.isAgg190
  z76 := Tryz.sizeOf190
  v76 := Tryz.zeroValue190
  t85 := Tryz.underlying243
  a85 := Tryz.isAgg243
  z85 := Tryz.sizeOf243
  v85 := Tryz.zeroValue243
  t127 := Tryz.underlying279
  a127 := Tryz.isAgg279
  z127 := Tryz.sizeOf279
  v127 := Tryz.zeroValue279
  t143 := Tryz.underlying280
  a143 := Tryz.isAgg280
  z143 := Tryz.sizeOf280
  v143 := Tryz.zeroValue280
  t145 := Tryz.underlying282
  a145 := Tryz.isAgg282
  z145 := Tryz.sizeOf282
  v145 := Tryz.zeroValue282
  t167 := Tryz.underlying242
  a167 := Tryz.isAgg242
  z167 := Tryz.sizeOf242
  v167 := Tryz.zeroValue242
  t168 := Tryz.underlying245
  a168 := Tryz.isAgg245
  z168 := Tryz.sizeOf245
  v168 := Tryz.zeroValue245
  t171 := Tryz.underlying230
  a171 := Tryz.isAgg230
  z171 := Tryz.sizeOf230
  v171 := Tryz.zeroValue230
  t173 := Tryz.underlying235
  a173 := Tryz.isAgg235
  z173 := Tryz.sizeOf235
  v173 := Tryz.zeroValue235
  t175 := Tryz.underlying265
  a175 := Tryz.isAgg265
  z175 := Tryz.sizeOf265
  v175 := Tryz.zeroValue265
  t210 := Tryz.underlying269
  a210 := Tryz.isAgg269
  z210 := Tryz.sizeOf269
  v210 := Tryz.zeroValue269
  t212 := Tryz.underlying258
  a212 := Tryz.isAgg258
  z212 := Tryz.sizeOf258
  v212 := Tryz.zeroValue258
  t213 := Tryz.underlying259
  a213 := Tryz.isAgg259
  z213 := Tryz.sizeOf259
  t232 := Tryz.underlying285
  a232 := Tryz.isAgg285
  z232 := Tryz.sizeOf285
  v232 := Tryz.zeroValue285
  t233 := Tryz.underlying286
  a233 := Tryz.isAgg286
  z233 := Tryz.sizeOf286
  v233 := Tryz.zeroValue286
  g15 := by kernel_rfl
  g16 := by kernel_rfl
  g17 := by kernel_rfl
  g18 := by kernel_rfl
  g19 := by kernel_rfl
  t80 := Tryz.underlying36
  a80 := Tryz.isAgg36
  z80 := Tryz.sizeOf36
  v80 := Tryz.zeroValue36
  i0 := by kernel_rfl
  i2 := by kernel_rfl
  i3 := by kernel_rfl
  i4 := by kernel_rfl
  i5 := by kernel_rfl
  i9 := by kernel_rfl
  i20 := by kernel_rfl
  i21 := by kernel_rfl
  i37 := by kernel_rfl
  i46 := by kernel_rfl
  i51 := by kernel_rfl
  i53 := by kernel_rfl
  i75 := by kernel_rfl
  i76 := by kernel_rfl
  i80 := by kernel_rfl
  i85 := by kernel_rfl
  i127 := by kernel_rfl
  i143 := by kernel_rfl
  i145 := by kernel_rfl
  i167 := by kernel_rfl
  i168 := by kernel_rfl
  i171 := by kernel_rfl
  i173 := by kernel_rfl
  i175 := by kernel_rfl
  i210 := by kernel_rfl
  i212 := by kernel_rfl
  i232 := by kernel_rfl
  i233 := by kernel_rfl
  m15 := by kernel_rfl
  m16 := by kernel_rfl
  m17 := by kernel_rfl
  m18 := by kernel_rfl
  m19 := by kernel_rfl
  c0 := by kernel_rfl
  c2 := by kernel_rfl
  c3 := by kernel_rfl
  c4 := by kernel_rfl
  c5 := by kernel_rfl
  c9 := by kernel_rfl
  c20 := by kernel_rfl
  c21 := by kernel_rfl
  c37 := by kernel_rfl
  c46 := by kernel_rfl
  c51 := by kernel_rfl
  c53 := by kernel_rfl
  c75 := by kernel_rfl
  c76 := by kernel_rfl
  c80 := by kernel_rfl
  c85 := by kernel_rfl
  c127 := by kernel_rfl
  c143 := by kernel_rfl
  c145 := by kernel_rfl
  c167 := by kernel_rfl
  c168 := by kernel_rfl
  c171 := by kernel_rfl
  c173 := by kernel_rfl
  c175 := by kernel_rfl
  c210 := by kernel_rfl
  c212 := by kernel_rfl
  c213 := by kernel_rfl
  c232 := by kernel_rfl
  c233 := by kernel_rfl }
end Go.Proofs
namespace Go.Proofs.YtbnjmkidbfmomaaGreatDoor
open Go.Sx Go.RowKit Go.Bt Go.Lib
structure WAt (w : World) : Prop where
  tz : M.TzAt w
  ml : ∃ m, w.cell? ⟨1, 0, none⟩ = some (.int .i64 m)
  pw : Lib.TabIs Tryz.prog w "internal/strconv.uint64pow10" .u64 Lib.pow10Tab
  syn : ∃ te pe, w.cell? ⟨3, 0, none⟩ = some (.iface te pe)
  rng : ∃ te pe, w.cell? ⟨4, 0, none⟩ = some (.iface te pe)
  er : w.cell? ⟨0, 0, none⟩ = some (.iface 196 (.agg #[.pointer (some ⟨9, 105, none⟩)]))
theorem cell_lt {w : World} {b o : Nat} {v : Value} (h : w.cell? ⟨b, o, none⟩ = some v) : b < w.heap.size := by
  apply Decidable.byContradiction
  intro hn
  have : w.heap[b]? = none := Array.getElem?_eq_none (by omega)
  simp [World.cell?, this] at h
theorem WAt.big {w : World} (h : WAt w) : 3 < w.heap.size := let ⟨_, _, h⟩ := h.syn; cell_lt h
theorem WAt.new {w0 w : World} {G : Heap} (h : WAt w0) (hn : New w0 w G) : WAt w :=
  ⟨h.tz.new hn, h.ml.imp fun _ e => hn.old e, var?_below hn.below (g := 2) (by kernel_rfl) (by have := h.big; omega) h.pw, h.syn.imp fun _ e => e.imp fun _ e => hn.old e, h.rng.imp fun _ e => e.imp fun _ e => hn.old e, hn.old h.er⟩
theorem New_drewN {w0 w : World} {G : Heap} (h : New w0 w G) (n : Nat) : New w0 (w.drewN n) G :=
  ⟨⟨h.below.os, h.below.tape, h.below.output, h.below.size, h.below.block⟩, h.nodup, h.ge, h.here, trivial⟩
theorem New_grow (w : World) (k : Nat) (os : Array Obj) : New w (_root_.Go.Sort.grow (w.drewN k) os) [] := by
  refine New.ofBelow ⟨rfl, rfl, rfl, ?_, fun b hb => ?_⟩
  · show w.heap.size ≤ (w.heap ++ os).size
    simp
  · show (w.heap ++ os)[b]? = w.heap[b]?
    simp [Array.getElem?_append, hb]
theorem size_mk (L : List UInt8) : (⟨L.toArray⟩ : ByteArray).size = L.length := by show L.toArray.size = _; rw [List.size_toArray]
abbrev dI : Int → List UInt8 := itoa
theorem itoa_ok (w : World) (ht : WAt w) (i : Int) (h0 : -9223372036854775808 ≤ i) (h1 : i ≤ 9223372036854775807) :
    Calls Tryz.prog 78 #[.int .i64 i] w (Post (X := Unit) (fun _ => str (dI i)) (fun _ => True) (fun _ => []) w) :=
  (Any.strconv_Itoa Tryz.itoaS i h0 h1 w ht.pw).mono fun _ _ ⟨he, k, os, hw⟩ => ⟨(), he, trivial, by rw [hw]; exact New_grow w k os⟩
theorem scut_ok (w : World) (ht : WAt w) (c : UInt8) (L : List UInt8) (hL : L.length ≤ 1000000) :
    Calls Tryz.prog 79 #[str L, str [c]] w (Post (X := Unit) (fun _ => .tuple #[str (brk c L).1, str ((brk c L).2.getD []), .bool (brk c L).2.isSome]) (fun _ => True) (fun _ => []) w) := by
  obtain ⟨m, hm⟩ := ht.ml
  have h := Any.strings_Cut { Tryz.cutS with } ⟨L.toArray⟩ ⟨#[c]⟩ m w (by rw [size_mk]; omega) hm
  rw [show (⟨L.toArray⟩ : ByteArray).data.toList = L from rfl, show (⟨#[c]⟩ : ByteArray).data.toList = [c] from rfl, cut_brk] at h
  exact h.mono fun _ _ ⟨he, n, hw⟩ => ⟨(), he, trivial, by rw [hw]; exact New_drewN (New.refl w) n⟩
theorem cutP_ok (w : World) (L p : List UInt8) :
    Calls Tryz.prog 81 #[str L, str p] w (Post (X := Unit) (fun _ => .tuple #[str (if p.isPrefixOf L = true then L.drop p.length else L), .bool (p.isPrefixOf L)]) (fun _ => True) (fun _ => []) w) :=
  (Any.strings_CutPrefix { Tryz.cutPS with } ⟨L.toArray⟩ ⟨p.toArray⟩ w).mono fun _ _ ⟨he, hw⟩ => ⟨(), he, trivial, by rw [hw]; exact New.refl w⟩
theorem byte_in (c : UInt8) : ∀ L : List UInt8, decide (0 ≤ indexByte L c) = decide (c ∈ L)
  | [] => by simp [indexByte]
  | b :: L => by
    have ih := byte_in c L
    have hge := indexByte_ge L c
    unfold indexByte
    by_cases h : b = c
    · subst h; simp
    · have h' : ¬ (b == c) = true := by simpa using h
      rw [if_neg h']
      by_cases h2 : indexByte L c = -1
      · have : ¬ c ∈ L := by
          have h3 : decide (0 ≤ indexByte L c) = false := by rw [h2]; rfl
          rw [ih] at h3
          exact of_decide_eq_false h3
        rw [h2]
        simp [this]; exact fun e => h e.symm
      · have h4 : 0 ≤ indexByte L c := by omega
        have : c ∈ L := of_decide_eq_true (ih ▸ decide_eq_true h4)
        rw [if_neg (by simpa using h2)]
        simp [this]; omega
theorem cont_ok (w : World) (L : List UInt8) (c : UInt8) :
    Calls Tryz.prog 124 #[str L, str [c]] w (Post (X := Unit) (fun _ => .bool (decide (c ∈ L))) (fun _ => True) (fun _ => []) w) :=
  (Any.strings_Contains_one { Tryz.contS with } ⟨L.toArray⟩ c w).mono fun _ _ ⟨he, hw⟩ => ⟨(), by rw [he]; exact congrArg (fun b => Ending.returned (.bool b)) (byte_in c L), trivial, by rw [hw]; exact New.refl w⟩
theorem split_ok (w : World) (ht : WAt w) (L : List UInt8) (hL : L.length ≤ 1000000) :
    Calls Tryz.prog 147 #[str L, str [32]] w (Post (X := Nat) (fun b => .slice (some ⟨b, 0, none⟩) (spl 32 L).length (spl 32 L).length) (fun _ => True) (fun b => [(b, .cells ((spl 32 L).map str).toArray 9 (0, 0))]) w) := by
  obtain ⟨m, hm⟩ := ht.ml
  have h := Any.strings_Split { Tryz.splitS with } Tryz.splitS.i9 ⟨L.toArray⟩ ⟨#[32]⟩ m w (by rw [size_mk]; omega) hm (by decide)
  obtain ⟨e1, e2⟩ := spl_data 32 L
  rw [e2] at h
  have e3 : (splitB ⟨#[32]⟩ 0 (countB ⟨L.toArray⟩ ⟨#[32]⟩) ⟨L.toArray⟩).map Value.string = (spl 32 L).map str := by
    rw [← e1, List.map_map]
    exact List.map_congr_left fun s _ => str_of s
  rw [e3] at h
  exact h.mono fun _ _ ⟨he, hw⟩ => ⟨w.heap.size, he, trivial, by rw [hw]; exact (New.refl w).alloc _⟩
def errV (b : Bool) (t : TypeId) (p : Value) : Value := match b with | true => .nilIface | false => .iface t p
theorem atoi_ok (w : World) (ht : WAt w) (L : List UInt8) (hL : L.length ≤ 1000000) :
    Calls Tryz.prog 149 #[str L] w (Post (X := Int × Bool × TypeId × Value) (fun x => .tuple #[.int .i64 x.1, errV x.2.1 x.2.2.1 x.2.2.2])
      (fun x => (-9223372036854775808 ≤ x.1 ∧ x.1 ≤ 9223372036854775807) ∧ ∀ u, u < 1000 → L = decDigits u → x.2.1 = true ∧ x.1 = (u : Int)) (fun _ => []) w) := by
  rcases h : Lib.atoiAll L with v | _ | _
  · have hb := atoiAll_bounds h
    refine (Any.strconv_Atoi_ok Tryz.atoiS ⟨L.toArray⟩ (by rw [size_mk]; omega) v h w).mono fun _ w' ⟨he, hw⟩ => ⟨(v, true, 0, .nilIface), he, ⟨hb, fun u hu e => ⟨rfl, ?_⟩⟩, ?_⟩
    · rw [e, atoi_dec hu] at h
      injection h with h; exact h.symm
    · rcases hw with rfl | ⟨t, rfl⟩
      · exact New.refl _
      · exact New.ofBelow (Lib.bytesWorld_below _ _ _)
  · obtain ⟨te, pe, hv⟩ := ht.syn
    refine (Any.strconv_Atoi_syntax Tryz.atoiS ⟨L.toArray⟩ (by rw [size_mk]; omega) h (.iface te pe) w hv (.inr ⟨te, pe, rfl⟩)).mono fun _ w' ⟨N, he, _, _, hB⟩ => ⟨(0, false, _, _), he, ⟨⟨by show (-9223372036854775808 : Int) ≤ 0; decide, by show (0 : Int) ≤ 9223372036854775807; decide⟩, fun u hu e => ?_⟩, New.ofBelow hB⟩
    rw [e, atoi_dec hu] at h; cases h
  · obtain ⟨te, pe, hv⟩ := ht.rng
    refine (Any.strconv_Atoi_range Tryz.atoiS ⟨L.toArray⟩ (by rw [size_mk]; omega) h (.iface te pe) w hv (.inr ⟨te, pe, rfl⟩)).mono fun _ w' ⟨N, he, _, _, hB⟩ => ⟨(Lib.atoiSat L, false, _, _), he, ⟨by show -9223372036854775808 ≤ Lib.atoiSat L ∧ Lib.atoiSat L ≤ 9223372036854775807; unfold atoiSat; split <;> decide, fun u hu e => ?_⟩, New.ofBelow hB⟩
    rw [e, atoi_dec hu] at h; cases h
section
variable {n : Nat} {w0 : World} {E : Env} {G : Heap} {d : Option Nat} {ty : TypeId} {pos : String} {aft : Array Edge} {g : Option (Nat × Bool)}
theorem run_neq_err (b : Bool) (t : TypeId) (p : Value) (w : World) : (binOp .neq 105 (errV b t p) .nilIface).run Tryz.prog w = .ok (.bool (!b)) w := by
  cases b <;> kernel_rfl
theorem PV.neqErr {x : Operand} {b : Bool} {t : TypeId} {p : Value} {t' : TypeId} (hx : evo E x = some (errV b t p)) : PV Tryz.prog n w0 E G ⟨d, .binOp .neq 105 x (.const .nilIface) t', ty, pos, aft, g⟩ (.bool (!b)) :=
  PV.cmp hx rfl (fun w => by cases b <;> (cases x <;> rfl)) (fun w => run_neq_err b t p w)
end
end Go.Proofs.YtbnjmkidbfmomaaGreatDoor
namespace Go.Sand
def sm : Nat → (Nat → Int) → Int
  | 0, _ => 0
  | n + 1, f => sm n f + f n
theorem sm_congr {f h : Nat → Int} : ∀ {n : Nat}, (∀ i, i < n → f i = h i) → sm n f = sm n h
  | 0, _ => rfl
  | n + 1, e => by
    show sm n f + f n = sm n h + h n
    rw [sm_congr fun i hi => e i (by omega), e n (by omega)]
theorem sm_add {f h : Nat → Int} : ∀ n : Nat, sm n (fun i => f i + h i) = sm n f + sm n h
  | 0 => rfl
  | n + 1 => by
    show sm n _ + (f n + h n) = sm n f + f n + (sm n h + h n)
    rw [sm_add n]; omega
theorem sm_mul {f : Nat → Int} (k : Int) : ∀ n : Nat, sm n (fun i => k * f i) = k * sm n f
  | 0 => by simp [sm]
  | n + 1 => by
    show sm n _ + k * f n = k * (sm n f + f n)
    rw [sm_mul k n, Int.mul_add]
theorem sm_neg {f : Nat → Int} : ∀ n : Nat, sm n (fun i => - f i) = - sm n f
  | 0 => rfl
  | n + 1 => by
    show sm n _ + - f n = - (sm n f + f n)
    rw [sm_neg n]; omega
theorem sm_zero : ∀ n : Nat, sm n (fun _ => 0) = 0
  | 0 => rfl
  | n + 1 => by show sm n _ + 0 = 0; rw [sm_zero n]; rfl
theorem sm_nonneg {f : Nat → Int} : ∀ {n : Nat}, (∀ i, i < n → 0 ≤ f i) → 0 ≤ sm n f
  | 0, _ => Int.le_refl _
  | n + 1, e => by
    have := sm_nonneg (f := f) (n := n) fun i hi => e i (by omega)
    have := e n (by omega)
    show 0 ≤ sm n f + f n
    omega
theorem sm_le {f h : Nat → Int} : ∀ {n : Nat}, (∀ i, i < n → f i ≤ h i) → sm n f ≤ sm n h
  | 0, _ => Int.le_refl _
  | n + 1, e => by
    have := sm_le (f := f) (h := h) (n := n) fun i hi => e i (by omega)
    have := e n (by omega)
    show sm n f + f n ≤ sm n h + h n
    omega
theorem sm_one {f : Nat → Int} : ∀ {n : Nat}, (∀ i, i < n → 0 ≤ f i) → ∀ k, k < n → f k ≤ sm n f
  | 0, _, k, hk => by omega
  | n + 1, e, k, hk => by
    have h1 := sm_nonneg (f := f) (n := n) fun i hi => e i (by omega)
    show f k ≤ sm n f + f n
    by_cases hkn : k = n
    · subst hkn; omega
    · have := sm_one (f := f) (n := n) (fun i hi => e i (by omega)) k (by omega)
      have := e n (by omega)
      omega
theorem sm_swap {f : Nat → Nat → Int} : ∀ n k : Nat, sm n (fun i => sm k (fun j => f i j)) = sm k (fun j => sm n (fun i => f i j))
  | 0, k => by rw [show (fun j => sm 0 (fun i => f i j)) = fun _ => 0 from rfl, sm_zero]; rfl
  | n + 1, k => by
    show sm n _ + sm k (fun j => f n j) = sm k (fun j => sm n (fun i => f i j) + f n j)
    rw [sm_add, sm_swap n k]
theorem sm_pt {f : Nat → Int} (k : Int) (i : Nat) : ∀ n : Nat, sm n (fun j => f j * (if j = i then k else 0)) = if i < n then f i * k else 0
  | 0 => by simp [sm]
  | n + 1 => by
    show sm n _ + f n * _ = _
    rw [sm_pt k i n]
    by_cases h : n = i
    · subst h; simp
    · rw [if_neg h]
      by_cases h2 : i < n
      · rw [if_pos h2, if_pos (by omega)]; omega
      · rw [if_neg h2, if_neg (by omega)]; omega
section
variable (n : Nat) (l : Nat → Nat → Int) (g : Nat → Int)
inductive Rch : Nat → Prop
  | gr (i : Nat) (hi : i < n) (h : 0 < g i) : Rch i
  | st (i j : Nat) (hi : i < n) (hj : j < n) (h : 0 < l i j) (r : Rch j) : Rch i
structure Gr : Prop where
  l0 : ∀ i j, i < n → j < n → 0 ≤ l i j
  sy : ∀ i j, i < n → j < n → l i j = l j i
  g0 : ∀ i, i < n → 0 ≤ g i
  rch : ∀ i, i < n → Rch n l g i
def lim (i : Nat) : Int := g i + sm n (l i)
def dl (m : Nat → Int) (i : Nat) : Int := lim n l g i * m i - sm n (fun j => l i j * m j)
end
section
variable {n : Nat} {l : Nat → Nat → Int} {g : Nat → Int}
theorem dl_eq (m : Nat → Int) (i : Nat) : dl n l g m i = g i * m i + sm n (fun j => l i j * (m i - m j)) := by
  have e : sm n (fun j => l i j * (m i - m j)) = m i * sm n (l i) - sm n (fun j => l i j * m j) := by
    rw [← sm_mul, Int.sub_eq_add_neg, ← sm_neg, ← sm_add]
    refine sm_congr fun j _ => ?_
    grind
  rw [e]
  unfold dl lim
  grind
theorem dl_add (m k : Nat → Int) (i : Nat) : dl n l g (fun j => m j + k j) i = dl n l g m i + dl n l g k i := by
  unfold dl
  have e : sm n (fun j => l i j * (m j + k j)) = sm n (fun j => l i j * m j) + sm n (fun j => l i j * k j) := by
    rw [← sm_add]
    exact sm_congr fun j _ => Int.mul_add _ _ _
  rw [e]
  grind
theorem dl_neg (m : Nat → Int) (i : Nat) : dl n l g (fun j => - m j) i = - dl n l g m i := by
  unfold dl
  have e : sm n (fun j => l i j * - m j) = - sm n (fun j => l i j * m j) := by
    rw [← sm_neg]
    exact sm_congr fun j _ => by grind
  rw [e]
  grind
theorem dl_sub (m k : Nat → Int) (i : Nat) : dl n l g (fun j => m j - k j) i = dl n l g m i - dl n l g k i := by
  have h1 := dl_add (n := n) (l := l) (g := g) m (fun j => - k j) i
  have h2 := dl_neg (n := n) (l := l) (g := g) k i
  have e : (fun j => m j - k j) = (fun j => m j + - k j) := by funext j; omega
  rw [e, h1, h2]; omega
theorem dl_zero (i : Nat) : dl n l g (fun _ => 0) i = 0 := by
  unfold dl
  rw [show (fun j => l i j * 0) = fun _ => (0 : Int) by funext j; simp, sm_zero]; simp
theorem dl_congr {m k : Nat → Int} (h : ∀ i, i < n → m i = k i) {i : Nat} (hi : i < n) : dl n l g m i = dl n l g k i := by
  unfold dl
  rw [h i hi, sm_congr (fun j hj => show l i j * m j = l i j * k j by rw [h j hj])]
theorem dl_pt (k : Int) {i : Nat} (hi : i < n) (j : Nat) : dl n l g (fun q => if q = i then k else 0) j = (if j = i then lim n l g i * k else 0) - l j i * k := by
  unfold dl
  rw [sm_pt, if_pos hi]
  by_cases e : j = i
  · subst e; simp
  · simp [e]
theorem sm_anti {f : Nat → Nat → Int} (h : ∀ i j, i < n → j < n → f i j = - f j i) : sm n (fun i => sm n (fun j => f i j)) = 0 := by
  have h1 := sm_swap (f := f) n n
  have h2 : sm n (fun j => sm n (fun i => f i j)) = - sm n (fun j => sm n (fun i => f j i)) := by
    rw [← sm_neg]
    refine sm_congr fun j hj => ?_
    rw [← sm_neg]
    exact sm_congr fun i hi => h i j hi hj
  omega
theorem out_sum (G : Gr n l g) (A : Nat → Bool) (m : Nat → Int) : sm n (fun i => if A i then dl n l g m i else 0) =
    sm n (fun i => if A i then g i * m i else 0) + sm n (fun i => sm n (fun j => if A i && !A j then l i j * (m i - m j) else 0)) := by
  have h0 := sm_anti (n := n) (f := fun i j => if A i && A j then l i j * (m i - m j) else 0) (fun i j hi hj => by
    simp only [Bool.and_comm (A j) (A i)]
    split
    · rw [G.sy i j hi hj]; grind
    · rfl)
  have e : sm n (fun i => if A i then dl n l g m i else 0) = sm n (fun i => (if A i then g i * m i else 0) + (sm n (fun j => if A i && A j then l i j * (m i - m j) else 0) + sm n (fun j => if A i && !A j then l i j * (m i - m j) else 0))) := by
    refine sm_congr fun i _ => ?_
    rw [← sm_add]
    cases hA : A i with
    | true =>
      simp only [if_true, Bool.true_and, dl_eq]
      congr 1
      refine sm_congr fun j _ => ?_
      cases A j <;> simp
    | false => simp [sm_zero]
  rw [e, sm_add, sm_add, h0]; omega
theorem way_out (A : Nat → Bool) {i : Nat} (h : Rch n l g i) (hi : A i = true) : ∃ j, j < n ∧ A j = true ∧ (0 < g j ∨ ∃ k, k < n ∧ A k = false ∧ 0 < l j k) := by
  induction h with
  | gr i hin h => exact ⟨i, hin, hi, .inl h⟩
  | st i j hin hj h r ih =>
    cases hA : A j with
    | true => exact ih hA
    | false => exact ⟨i, hin, hi, .inr ⟨j, hj, hA, h⟩⟩
theorem lim_pos (G : Gr n l g) {i : Nat} (hi : i < n) : 1 ≤ lim n l g i := by
  have h1 := G.g0 i hi
  have h2 := sm_nonneg (f := l i) (n := n) fun j hj => G.l0 i j hi hj
  unfold lim
  cases G.rch i hi with
  | gr _ _ h => omega
  | st _ j _ hj h _ =>
    have := sm_one (f := l i) (n := n) (fun j hj => G.l0 i j hi hj) j hj
    omega
def cnt : Nat → (Nat → Bool) → Nat
  | 0, _ => 0
  | n + 1, p => cnt n p + (if p n then 1 else 0)
theorem cnt_le (p : Nat → Bool) : ∀ n, cnt n p ≤ n
  | 0 => Nat.le_refl _
  | n + 1 => by have := cnt_le p n; show cnt n p + _ ≤ _; split <;> omega
theorem cnt_mono {p q : Nat → Bool} : ∀ {n : Nat}, (∀ i, i < n → q i = true → p i = true) → cnt n q ≤ cnt n p
  | 0, _ => Nat.le_refl _
  | n + 1, h => by
    have h1 := cnt_mono (p := p) (q := q) (n := n) fun i hi => h i (by omega)
    have h2 := h n (by omega)
    show cnt n q + _ ≤ cnt n p + _
    cases hq : q n
    · simp; omega
    · rw [h2 hq]; omega
theorem cnt_lt {p q : Nat → Bool} : ∀ {n : Nat}, (∀ i, i < n → q i = true → p i = true) → ∀ k, k < n → p k = true → q k = false → cnt n q < cnt n p
  | 0, _, k, hk, _, _ => by omega
  | n + 1, h, k, hk, h1, h2 => by
    have h3 := h n (by omega)
    show cnt n q + _ < cnt n p + _
    by_cases e : k = n
    · subst e
      have := cnt_mono (p := p) (q := q) (n := k) fun i hi => h i (by omega)
      simp [h1, h2]; omega
    · have := cnt_lt (p := p) (q := q) (n := n) (fun i hi => h i (by omega)) k (by omega) h1 h2
      cases hq : q n
      · simp; omega
      · rw [h3 hq]; omega
theorem cnt_none : ∀ n : Nat, cnt n (fun _ => false) = 0
  | 0 => rfl
  | n + 1 => by show cnt n _ + _ = 0; rw [cnt_none n]; rfl
theorem cnt_zero {p : Nat → Bool} {n : Nat} (h : cnt n p = 0) : ∀ i, i < n → p i = false := fun i hi => by
  cases hp : p i with
  | false => rfl
  | true =>
    have := cnt_lt (p := p) (q := fun _ => false) (n := n) (fun _ _ h => by cases h) i hi hp rfl
    omega
theorem bound (G : Gr n l g) {t m : Nat → Int} (ht : ∀ i, i < n → 0 ≤ t i) (hm : ∀ i, i < n → 0 ≤ m i) (hc : ∀ i, i < n → 0 ≤ t i - dl n l g m i) : ∀ i, i < n → m i ≤ n * sm n t := by
  have hT : 0 ≤ sm n t := sm_nonneg ht
  generalize hTe : sm n t = T at hT
  have key : ∀ k : Nat, k ≤ n → cnt n (fun i => decide ((k : Int) * T < m i)) ≤ n - k := by
    intro k
    induction k with
    | zero => intro _; exact cnt_le _ _
    | succ k ih =>
      intro hk
      have ih := ih (by omega)
      by_cases h0 : cnt n (fun i => decide ((k : Int) * T < m i)) = 0
      · have h1 := cnt_mono (p := fun i => decide ((k : Int) * T < m i)) (q := fun i => decide (((k + 1 : Nat) : Int) * T < m i)) (n := n) (fun i _ h => by
          simp only [decide_eq_true_eq] at h ⊢
          have : ((k + 1 : Nat) : Int) * T = (k : Int) * T + T := by grind
          omega)
        omega
      · have hex : ∃ i, i < n ∧ (k : Int) * T < m i := by
          refine Classical.byContradiction fun hno => h0 ?_
          have := cnt_mono (p := fun _ => false) (q := fun i => decide ((k : Int) * T < m i)) (n := n) (fun i hi h => by
            exact absurd ⟨i, hi, of_decide_eq_true h⟩ hno)
          have e := cnt_none n
          omega
        obtain ⟨i0, hi0, hmi0⟩ := hex
        obtain ⟨i, hi, hA, hw⟩ := way_out (fun i => decide ((k : Int) * T < m i)) (G.rch i0 hi0) (decide_eq_true hmi0)
        have hkT : 0 ≤ (k : Int) * T := Int.mul_nonneg (by omega) hT
        have hos := out_sum G (fun i => decide ((k : Int) * T < m i)) m
        have hle : sm n (fun i => if decide ((k : Int) * T < m i) = true then dl n l g m i else 0) ≤ T := by
          rw [← hTe]
          refine sm_le fun j hj => ?_
          have := hc j hj
          have := ht j hj
          split <;> omega
        have hn1 : ∀ j, j < n → 0 ≤ (if decide ((k : Int) * T < m j) = true then g j * m j else 0) := fun j hj => by
          split
          · exact Int.mul_nonneg (G.g0 j hj) (hm j hj)
          · omega
        have hn2 : ∀ p q, p < n → q < n → 0 ≤ (if (decide ((k : Int) * T < m p) && !decide ((k : Int) * T < m q)) = true then l p q * (m p - m q) else 0) := fun p q hp hq => by
          split
          · rename_i h
            simp only [Bool.and_eq_true, Bool.not_eq_true', decide_eq_true_eq, decide_eq_false_iff_not] at h
            exact Int.mul_nonneg (G.l0 p q hp hq) (by omega)
          · omega
        have hs1 := sm_nonneg hn1
        have hs2 := sm_nonneg (n := n) (fun p hp => sm_nonneg (n := n) (fun q hq => hn2 p q hp hq))
        have hmi : m i ≤ ((k + 1 : Nat) : Int) * T := by
          have e1 : ((k + 1 : Nat) : Int) * T = (k : Int) * T + T := by grind
          rw [e1]
          simp only [decide_eq_true_eq] at hA
          rcases hw with hg | ⟨j, hj, hAj, hl⟩
          · have h1 := sm_one hn1 i hi
            rw [if_pos (decide_eq_true hA)] at h1
            have h2 : 1 * m i ≤ g i * m i := Int.mul_le_mul_of_nonneg_right (by omega) (hm i hi)
            omega
          · simp only [decide_eq_false_iff_not] at hAj
            have h1 := sm_one (n := n) (fun p hp => sm_nonneg (n := n) (fun q hq => hn2 p q hp hq)) i hi
            have h3 := sm_one (n := n) (fun q hq => hn2 i q hi hq) j hj
            rw [if_pos (by simp [hA, hAj])] at h3
            have h2 : 1 * (m i - m j) ≤ l i j * (m i - m j) := Int.mul_le_mul_of_nonneg_right (by omega) (by omega)
            omega
        have := cnt_lt (p := fun i => decide ((k : Int) * T < m i)) (q := fun i => decide (((k + 1 : Nat) : Int) * T < m i)) (n := n) (fun i _ h => by
          simp only [decide_eq_true_eq] at h ⊢
          have : ((k + 1 : Nat) : Int) * T = (k : Int) * T + T := by grind
          omega) i hi hA (decide_eq_false (by omega))
        omega
  have h := key n (Nat.le_refl _)
  rw [Nat.sub_self] at h
  intro i hi
  have := cnt_zero (Nat.le_zero.1 h) i hi
  simp only [decide_eq_false_iff_not] at this
  omega
structure Run (n : Nat) (l : Nat → Nat → Int) (g : Nat → Int) (t c m : Nat → Int) : Prop where
  m0 : ∀ i, i < n → 0 ≤ m i
  eq : ∀ i, i < n → c i = t i - dl n l g m i
  c0 : ∀ i, i < n → 0 ≤ c i
  min : ∀ k : Nat → Int, (∀ i, i < n → 0 ≤ k i) → (∀ i, i < n → t i - dl n l g k i < lim n l g i) → ∀ i, i < n → m i ≤ k i
structure Stb (n : Nat) (l : Nat → Nat → Int) (g : Nat → Int) (t c m : Nat → Int) : Prop extends Run n l g t c m where
  calm : ∀ i, i < n → c i < lim n l g i
theorem Run.zero {t : Nat → Int} (ht : ∀ i, i < n → 0 ≤ t i) : Run n l g t t (fun _ => 0) :=
  ⟨fun _ _ => Int.le_refl _, fun i _ => by rw [dl_zero]; omega, ht, fun k hk _ i hi => hk i hi⟩
theorem Run.congr {t t' c c' m m' : Nat → Int} (h : Run n l g t c m) (ht : ∀ i, i < n → t' i = t i) (hc : ∀ i, i < n → c' i = c i) (hm : ∀ i, i < n → m' i = m i) : Run n l g t' c' m' where
  m0 i hi := by rw [hm i hi]; exact h.m0 i hi
  eq i hi := by rw [hc i hi, ht i hi, dl_congr hm hi]; exact h.eq i hi
  c0 i hi := by rw [hc i hi]; exact h.c0 i hi
  min k hk hk2 i hi := by rw [hm i hi]; exact h.min k hk (fun j hj => by rw [← ht j hj]; exact hk2 j hj) i hi
theorem Stb.congr {t t' c c' m m' : Nat → Int} (h : Stb n l g t c m) (ht : ∀ i, i < n → t' i = t i) (hc : ∀ i, i < n → c' i = c i) (hm : ∀ i, i < n → m' i = m i) : Stb n l g t' c' m' :=
  ⟨h.toRun.congr ht hc hm, fun i hi => by rw [hc i hi]; exact h.calm i hi⟩
theorem Run.step (G : Gr n l g) {t c m : Nat → Int} (h : Run n l g t c m) {i : Nat} (hi : i < n) (hd : l i i = 0) {k : Int} (hk : 0 ≤ k) (hle : k * lim n l g i ≤ c i) :
    Run n l g t (fun j => if j = i then c j - k * lim n l g i else c j + k * l i j) (fun j => if j = i then m j + k else m j) where
  m0 j hj := by
    have := h.m0 j hj
    split <;> omega
  eq j hj := by
    have e : dl n l g (fun j => if j = i then m j + k else m j) j = dl n l g m j + dl n l g (fun q => if q = i then k else 0) j := by
      rw [← dl_add]
      refine dl_congr (fun q _ => ?_) hj
      split <;> omega
    rw [e, dl_pt k hi]
    have := h.eq j hj
    by_cases hji : j = i
    · subst hji
      rw [if_pos rfl, if_pos rfl, hd]
      have : lim n l g j * k = k * lim n l g j := Int.mul_comm _ _
      omega
    · rw [if_neg hji, if_neg hji, G.sy j i hj hi]
      have : l i j * k = k * l i j := Int.mul_comm _ _
      omega
  c0 j hj := by
    have := h.c0 j hj
    by_cases hji : j = i
    · subst hji
      rw [if_pos rfl]; omega
    · rw [if_neg hji]
      have := Int.mul_nonneg hk (G.l0 i j hi hj)
      omega
  min s hs hs2 j hj := by
    have hmin := h.min s hs hs2
    by_cases hji : j = i
    · subst hji
      rw [if_pos rfl]
      refine Classical.byContradiction fun hno => ?_
      have h1 := hs2 j hi
      have h2 := h.eq j hi
      have h3 : dl n l g (fun q => s q - m q) j = dl n l g s j - dl n l g m j := dl_sub s m j
      have h4 : dl n l g (fun q => s q - m q) j ≤ lim n l g j * (s j - m j) := by
        unfold dl
        have := sm_nonneg (n := n) (f := fun q => l j q * (s q - m q)) fun q hq => Int.mul_nonneg (G.l0 j q hi hq) (by have := hmin q hq; omega)
        dsimp only
        omega
      have h5 : lim n l g j * (s j - m j) ≤ lim n l g j * (k - 1) := Int.mul_le_mul_of_nonneg_left (by omega) (by have := lim_pos G hi; omega)
      have h6 : lim n l g j * (k - 1) = k * lim n l g j - lim n l g j := by grind
      omega
    · rw [if_neg hji]
      exact hmin j hj
theorem Stb.unique {t c m c' m' : Nat → Int} (h : Stb n l g t c m) (h' : Stb n l g t c' m') : (∀ i, i < n → m i = m' i) ∧ ∀ i, i < n → c i = c' i := by
  have hm : ∀ i, i < n → m i = m' i := fun i hi => by
    have h1 := h.min m' h'.m0 (fun j hj => by rw [← h'.eq j hj]; exact h'.calm j hj) i hi
    have h2 := h'.min m h.m0 (fun j hj => by rw [← h.eq j hj]; exact h.calm j hj) i hi
    omega
  exact ⟨hm, fun i hi => by rw [h.eq i hi, h'.eq i hi, dl_congr hm hi]⟩
def NF (n : Nat) (l : Nat → Nat → Int) (c : Nat → Int) : Prop := ∀ A : Nat → Bool, (∃ i, i < n ∧ A i = true) → ∃ i, i < n ∧ A i = true ∧ sm n (fun j => if A j then l i j else 0) ≤ c i
def Alk (n : Nat) (l : Nat → Nat → Int) (g : Nat → Int) (a b : Nat → Int) : Prop := ∃ s : Nat → Int, ∀ i, i < n → b i = a i - dl n l g s i
structure Lst (n : Nat) (l : Nat → Nat → Int) (g : Nat → Int) (c : Nat → Int) : Prop where
  c0 : ∀ i, i < n → 0 ≤ c i
  calm : ∀ i, i < n → c i < lim n l g i
  nf : NF n l c
theorem stb_ex (G : Gr n l g) (hd : ∀ i, i < n → l i i = 0) {t : Nat → Int} (ht : ∀ i, i < n → 0 ≤ t i) : ∃ c m, Stb n l g t c m := by
  have key : ∀ (f : Nat) (c m : Nat → Int), Run n l g t c m → (n : Int) * (n * sm n t) - sm n m < (f : Int) → ∃ c m, Stb n l g t c m := by
    intro f
    induction f with
    | zero =>
      intro c m h hf
      exfalso
      have hb := bound G ht h.m0 (fun i hi => by rw [← h.eq i hi]; exact h.c0 i hi)
      have : sm n m ≤ (n : Int) * (n * sm n t) := by
        have h1 := sm_le (n := n) (f := m) (h := fun _ => n * sm n t) hb
        have h2 : ∀ k : Nat, sm k (fun _ => (n : Int) * sm n t) = (k : Int) * (n * sm n t) := by
          intro k
          induction k with
          | zero => simp [sm]
          | succ k ih => show sm k _ + _ = _; rw [ih]; grind
        rw [h2] at h1
        exact h1
      omega
    | succ f ih =>
      intro c m h hf
      by_cases hc : ∀ i, i < n → c i < lim n l g i
      · exact ⟨c, m, h, hc⟩
      · have : ∃ i, i < n ∧ lim n l g i ≤ c i := Classical.byContradiction fun h2 => hc fun i hi => Classical.byContradiction fun h3 => h2 ⟨i, hi, by omega⟩
        obtain ⟨i, hi, hle⟩ := this
        refine ih _ _ (h.step G hi (hd i hi) (k := 1) (by omega) (by omega)) ?_
        have e : sm n (fun j => if j = i then m j + 1 else m j) = sm n m + 1 := by
          have e2 := sm_add (f := m) (h := fun j => 1 * (if j = i then (1 : Int) else 0)) n
          rw [sm_pt (f := fun _ => 1) 1 i n, if_pos hi] at e2
          have e3 : sm n (fun j => if j = i then m j + 1 else m j) = sm n (fun j => m j + 1 * (if j = i then (1 : Int) else 0)) := sm_congr fun j _ => by split <;> omega
          omega
        rw [e]; omega
  have h0 : sm n (fun _ => 0) = 0 := sm_zero n
  have hn0 : 0 ≤ (n : Int) * (n * sm n t) := Int.mul_nonneg (by omega) (Int.mul_nonneg (by omega) (sm_nonneg ht))
  exact key ((n : Int) * (n * sm n t) + 1).toNat _ _ (Run.zero ht) (by rw [h0]; omega)
end
end Go.Sand
