/- Prices, or a round, for a plan: contracts. -/
import Derived.Test.YtghlkndanpegbaaBf
set_option linter.unusedVariables false
set_option linter.unusedSimpArgs false
namespace Go.Proofs.Ytghlkndanpegbaa
open Go.Sx Go.RowKit Go.Sand Go.Tp

section
variable {P : Program} {n : Nat} {w0 : World} {E : Env} {G : Heap} {ty : TypeId} {pos : String} {aft : Array Edge} {g : Option (Nat × Bool)} {ops : Array Oper} {Q : Exit → Act → World → Prop} {l : List Oper}
theorem PV.makeFuncB {d : Option Nat} {f : Nat} {pre caps : List Operand} {us vs : List Value} (hp : evs E pre = some us) (hx : evs E caps = some vs) : PV P n w0 E G ⟨d, .makeFunc (.func f) pre.toArray caps.toArray, ty, pos, aft, g⟩ (.func (.func f) us.toArray vs.toArray) :=
  fun a w hs => by
    have hm := hs.evs hx
    have hm2 := hs.evs hp
    simp only [execOp, List.map_toArray, hm, hm2]
    simp [Instr.makeFunc]
/-- A call of a function value that may be bound. -/
theorem TL.callB {d : Nat} {X : Type} {f k : Nat} {xs : List Operand} {ats : Array TypeId} {vs pre caps : List Value} (val : X → Value) (F : X → Prop) (G' : X → Heap) (hf : Sx.look k E = some (.func (.func f) pre.toArray caps.toArray)) (hx : evs E xs = some vs) (hfn : goFn P f = true)
    (hc : ∀ a w, S n w0 E G a w → Calls P f (pre ++ vs ++ caps).toArray w (fun e w' => ∃ x, e = .returned (val x) ∧ F x ∧ New w0 w' (G' x))) (hg : wants ops E g = some true) (hd : d < n)
    (h : ∀ x, F x → TL P n w0 ops Q l ((d, val x) :: E) (G' x)) :
    TL P n w0 ops Q (⟨some d, .call { callee := .value (.tmp k), args := xs.toArray, argTypes := ats }, ty, pos, aft, g⟩ :: l) E G :=
  TL.step hg fun a w hs => by
    have hm := hs.evs hx
    have hfe : a.eval (.tmp k) = .func (.func f) pre.toArray caps.toArray := hs.ev (x := .tmp k) hf
    have hr : (execOp a.eval ⟨some d, .call { callee := .value (.tmp k), args := xs.toArray, argTypes := ats }, ty, pos, aft, g⟩).run P w = .ok (.enter f (pre ++ vs ++ caps).toArray) w := by
      simp only [execOp, resolve, List.map_toArray, hm, hfe]
      show ((callFunc f (pre.toArray ++ vs.toArray ++ caps.toArray)).run P w) = _
      rw [run_goFn hfn]; simp
    unfold Oper.wp
    rw [hr]
    refine (hc a w hs).mono ?_
    rintro e w' ⟨x, rfl, hF, hN⟩
    exact h x hF _ _ ((hs.world hN).put hd _)
end
theorem TL.callBC {P : Program} {n : Nat} {w0 : World} {E : Env} {G : Heap} {ty : TypeId} {pos : String} {aft : Array Edge} {g : Option (Nat × Bool)} {ops : Array Oper} {Q : Exit → Act → World → Prop} {l : List Oper} {d : Nat} {X : Type} {f k : Nat} {xs : List Operand} {ats : Array TypeId} {vs pre caps : List Value} {val : X → Value} {F : X → Prop} {D : X → Heap} (hf : Sx.look k E = some (.func (.func f) pre.toArray caps.toArray)) (hx : evs E xs = some vs) (hfn : goFn P f = true)
    (hc : ∀ a w, S n w0 E G a w → Calls P f (pre ++ vs ++ caps).toArray w (Post val F D w)) (hg : wants ops E g = some true) (hd : d < n)
    (h : ∀ x, F x → TL P n w0 ops Q l ((d, val x) :: E) (D x ++ G)) :
    TL P n w0 ops Q (⟨some d, .call { callee := .value (.tmp k), args := xs.toArray, argTypes := ats }, ty, pos, aft, g⟩ :: l) E G :=
  TL.callB val F (fun x => D x ++ G) hf hx hfn (fun a w hs => (hc a w hs).mono fun e w' ⟨x, h1, h2, h3⟩ => ⟨x, h1, h2, hs.new.trans h3⟩) hg hd h
section
variable {P : Program} {n : Nat} {w0 : World} {E : Env} {G : Heap} {ty : TypeId} {pos : String} {aft : Array Edge} {g : Option (Nat × Bool)} {ops : Array Oper} {Q : Exit → Act → World → Prop} {l : List Oper} {α : Type}
/-- s = append(s, r1, r2, ..) of records. -/
theorem TL.appendRecs {R : Rec α} {d : Nat} {t tx e by_ K : Nat} {z : Value} {s x : Operand} {h0 : HD} {ys rs : List α} {b : Nat} {R' : Heap} (ht : P.underlying t = some (.slice e)) (htx : P.underlying tx = some (.slice e)) (hz : zeroI P e = some (z, R.sz, by_)) (hzs : z.cells.size = R.sz)
    (hsv : evo E s = some (gval h0 ys.length)) (hK : rs.length = K) (hx : evo E x = some (.slice (some ⟨b, 0, none⟩) K K)) (hm : (b, Obj.cells (rcs R rs).toArray e (0, 0)) ∈ G)
    (hok : goR R h0 ys) (hT : TakeH h0 e (rcs R ys) G R') (hb : (ys.length + K) * by_ ≤ 140737488355328) (hb2 : ys.length + K ≤ 1000000000) (hg : wants ops E g = some true) (hd : d < n)
    (h : ∀ h', goR R h' (ys ++ rs) → TL P n w0 ops Q l ((d, gval h' (ys ++ rs).length) :: E) (gbR R e h' (ys ++ rs) ++ R')) :
    TL P n w0 ops Q (⟨some d, .call { callee := .builtin .append, args := #[s, x], argTypes := #[t, tx] }, ty, pos, aft, g⟩ :: l) E G := by
  subst hK
  have hnews : ∀ (j : Nat) (w : Value), (rcs R rs)[j]? = some w → (rcs R rs).toArray[j]? = some w := fun j w h => by simpa using h
  have hone : (rcs R rs).all Value.oneCell' = true := List.all_eq_true.2 (rcs_one rs)
  refine TL.append (news := rcs R rs) (m := rs.length) hsv hx ht hz hzs R.pos hok hT (fun a w hs => src_blk htx hm (rcs_len rs) hnews hone hs.new) (fun w' hN => src_blk htx hm (rcs_len rs) hnews hone hN) hb (by omega) hg hd (fun h' hok' _ => ?_)
  have hh := h h'
  unfold goR gbR at hh
  rw [rcs_app, List.length_append] at hh
  exact hh hok'
theorem PV.makeIface {d : Option Nat} {t : Nat} {x : Operand} {v : Value} (hx : evo E x = some v) (ht : P.concrete t = true) : PV P n w0 E G ⟨d, .makeInterface t x, ty, pos, aft, g⟩ (.iface t v) :=
  fun a w hs => by simp [execOp, hs.ev hx, run_makeInterface (P := P) w t v ht]
end
theorem conc_96 : Try.prog.concrete 96 = true := by kernel_rfl
theorem conc_82 : Try.prog.concrete 82 = true := by kernel_rfl
/-- A pair of a round. -/
structure Pr where
  p : Int
  q : Int
  deriving Inhabited, DecidableEq
def prR : Rec Pr where
  cells r := [.int .i64 r.p, .int .i64 r.q]
  sz := 2
  len := fun _ => rfl
  one := fun r v hv => by
    simp only [List.mem_cons, List.not_mem_nil, or_false] at hv
    rcases hv with rfl | rfl <;> rfl
  pos := by decide
def prL (n : Nat) (g : Nat → Nat × Nat) : List Pr := mkL n fun t => ⟨(g t).1, (g t).2⟩
theorem prL_len (n : Nat) (g : Nat → Nat × Nat) : (prL n g).length = n := mkL_len _ _
theorem mkL_snoc {α : Type} (n : Nat) (f : Nat → α) : mkL (n + 1) f = mkL n f ++ [f n] := by
  unfold mkL
  rw [List.range_succ, List.map_append]
  rfl
theorem prL_one (s : LS) (y : Nat) : prL 1 (gy s y) = [⟨sb s y, jb s y⟩] := by
  show [(⟨(gy s y 0).1, (gy s y 0).2⟩ : Pr)] = _
  rw [show (0 : Nat) = 2 * 0 from rfl, gy_e]
  rfl
theorem prL_two (s : LS) (y : Nat) {m : Nat} (hm : 1 ≤ m) : prL (2 * m + 1) (gy s y) = prL (2 * m - 1) (gy s y) ++ [⟨ys s y m, jb s (ys s y m)⟩, ⟨sb s (ys s y m), jb s (ys s y m)⟩] := by
  obtain ⟨m, rfl⟩ : ∃ k, m = k + 1 := ⟨m - 1, by omega⟩
  unfold prL
  rw [show 2 * (m + 1) + 1 = (2 * m + 1 + 1) + 1 by omega, mkL_snoc, mkL_snoc, show 2 * (m + 1) - 1 = 2 * m + 1 by omega, List.append_assoc, gy_o, show 2 * m + 1 + 1 = 2 * (m + 1) by omega, gy_e]
  rfl
theorem prL_end {S B : Nat} {c x : Mat} {s : LS} {y L : Nat} (h : Cyc S B c x s y L) : prL (2 * L) (gy s y) = prL (2 * L - 1) (gy s y) ++ [⟨y, jb s y⟩] := by
  have hp := h.pos
  have hL : ys s y L = y := h.cl
  obtain ⟨m, rfl⟩ : ∃ k, L = k + 1 := ⟨L - 1, by omega⟩
  unfold prL
  rw [show 2 * (m + 1) = (2 * m + 1) + 1 by omega, mkL_snoc, show 2 * m + 1 + 1 - 1 = 2 * m + 1 by omega, gy_o, hL]
theorem fill_arr (a b : Int) : Instr.fill (fun i => some (i * 1, 1)) #[.int .i64 0, .int .i64 0] [(0, .int .i64 a), (1, .int .i64 b)] = some #[.int .i64 a, .int .i64 b] := by kernel_rfl
theorem fill_p1 (a b : Int) : Instr.fill (fun i => some (i * 2, 2)) ((Array.range (1 * 2)).map ((Value.agg #[.int .i64 0, .int .i64 0]).cells[· % (Value.agg #[.int .i64 0, .int .i64 0]).cells.size]!)) [(0, .agg #[.int .i64 a, .int .i64 b])] = some #[.int .i64 a, .int .i64 b] := by kernel_rfl
theorem fill_p2 (a b c d : Int) : Instr.fill (fun i => some (i * 2, 2)) ((Array.range (2 * 2)).map ((Value.agg #[.int .i64 0, .int .i64 0]).cells[· % (Value.agg #[.int .i64 0, .int .i64 0]).cells.size]!)) [(0, .agg #[.int .i64 a, .int .i64 b]), (1, .agg #[.int .i64 c, .int .i64 d])] = some #[.int .i64 a, .int .i64 b, .int .i64 c, .int .i64 d] := by kernel_rfl
theorem fill_pp (h k : HD) (a b : Nat) : Instr.fill ([(0, 1), (1, 1)][·]?) #[.slice none 0 0, .slice none 0 0] [(0, gval h a), (1, gval k b)] = some #[gval h a, gval k b] := by
  have h1 : ∀ (h : HD) (a : Nat), (gval h a).cells = #[gval h a] := fun h a => by cases h <;> rfl
  simp [Instr.fill, h1]
theorem pr_go1 (b : Nat) (r : Pr) : goR prR (some (b, 1, [])) [r] := ⟨rfl, rfl, Nat.le_refl _⟩
theorem mx_rep (n : Nat) (φ : Nat → Int) : List.replicate n (0 : Int) = mk n (mx φ (fun _ => 0) 0) := by
  rw [mx_zero]
  exact mk_eq (by simp) fun j hj => by simp [List.getD, hj]
theorem labAt {w : World} {p : Option Addr} {n : Nat} {f : Nat → Lab} (h : RecsAt labR w p (mkL n f)) {j : Nat} (hj : j < n) : ∃ q, p = some q ∧ w.cell? ((q.add (j * 2)).add 0) = some (.int .i64 (f j).c) ∧ w.cell? ((q.add (j * 2)).add 1) = some (.int .i64 (f j).f) := by
  obtain ⟨q, hq, hc⟩ := h j (by rw [mkL_len]; exact hj)
  exact ⟨q, hq, hc 0 _ (lab_c hj), hc 1 _ (lab_f hj)⟩


set_option maxRecDepth 100000 in
theorem storePrice_ok (w0 : World) (vl : Value) (S B : Nat) (s : LS) (hl : IsL w0 vl S B s) (i : Nat) (hi : i < S) (hbd : -1000000 ≤ s.a i ∧ s.a i ≤ 1000000) :
    Calls Try.prog 105 #[vl, .int .i64 i] w0 (Post (X := Unit) (fun _ => .int .i64 (-s.a i)) (fun _ => True) (fun _ => []) w0) := by
  obtain ⟨p, c, q, e, rfl, h1, h2⟩ := hl
  refine calls Try.func105 rfl (n := 12) rfl (by simp) ?_
  refine TC.seq ?_
  refine TC.region ?_
  refine TL.box rfl rfl (by decide) (fun b0 hb0 => ?_)
  refine TL.pure (PV.assign rfl) rfl (by decide) ?_
  refine TL.nil ?_
  refine TQ.thenC ?_
  refine TC.seq ?_
  obtain ⟨q1, hq1p, hq1c, hq1f⟩ := labAt h1 (j := i) (by omega)
  dsimp only at hq1c hq1f
  refine TC.region ?_
  refine TL.pure (PV.fieldAddr rfl Tb.fo_99_0) rfl (by decide) ?_
  refine TL.pure (PV.load rfl Tb.one_97 (by repeat (first | exact List.Mem.head _ | refine List.Mem.tail _ ?_ | refine List.mem_append_right _ ?_)) rfl) rfl (by decide) ?_
  refine TL.pure (PV.move rfl) rfl (by decide) ?_
  refine TL.pure (PV.indexA (j := i) rfl hq1p rfl Tb.elm_97 rfl (by omega)) rfl (by decide) ?_
  refine TL.pure (PV.fieldAddrA rfl Tb.fo_110_0) rfl (by decide) ?_
  refine TL.pure (PV.loadOld rfl Tb.one_3 hq1c) rfl (by decide) ?_
  refine TL.pure (PV.neg rfl (by omega)) rfl (by decide) ?_
  refine TL.pure (PV.assign rfl) rfl (by decide) ?_
  refine TL.nil ?_
  refine TQ.thenC ?_
  refine TC.ret ?_
  refine TQ.retE1 rfl rfl ?_
  exact ⟨(), rfl, trivial, List.nil_sublist _⟩

set_option maxRecDepth 100000 in
theorem buyerPrice_ok (w0 : World) (vl : Value) (S B : Nat) (s : LS) (hl : IsL w0 vl S B s) (j : Nat) (hi : j < B) (hbd : -1000000 ≤ s.b j ∧ s.b j ≤ 1000000) :
    Calls Try.prog 106 #[vl, .int .i64 j] w0 (Post (X := Unit) (fun _ => .int .i64 (s.b j)) (fun _ => True) (fun _ => []) w0) := by
  obtain ⟨p, c, q, e, rfl, h1, h2⟩ := hl
  refine calls Try.func106 rfl (n := 11) rfl (by simp) ?_
  refine TC.seq ?_
  refine TC.region ?_
  refine TL.box rfl rfl (by decide) (fun b0 hb0 => ?_)
  refine TL.pure (PV.assign rfl) rfl (by decide) ?_
  refine TL.nil ?_
  refine TQ.thenC ?_
  refine TC.seq ?_
  obtain ⟨q1, hq1p, hq1c, hq1f⟩ := labAt h2 (j := j) (by omega)
  dsimp only at hq1c hq1f
  refine TC.region ?_
  refine TL.pure (PV.fieldAddr rfl Tb.fo_99_1) rfl (by decide) ?_
  refine TL.pure (PV.load rfl Tb.one_97 (by repeat (first | exact List.Mem.head _ | refine List.Mem.tail _ ?_ | refine List.mem_append_right _ ?_)) rfl) rfl (by decide) ?_
  refine TL.pure (PV.move rfl) rfl (by decide) ?_
  refine TL.pure (PV.indexA (j := j) rfl hq1p rfl Tb.elm_97 rfl (by omega)) rfl (by decide) ?_
  refine TL.pure (PV.fieldAddrA rfl Tb.fo_110_0) rfl (by decide) ?_
  refine TL.pure (PV.loadOld rfl Tb.one_3 hq1c) rfl (by decide) ?_
  refine TL.pure (PV.assign rfl) rfl (by decide) ?_
  refine TL.nil ?_
  refine TQ.thenC ?_
  refine TC.ret ?_
  refine TQ.retE1 rfl rfl ?_
  exact ⟨(), rfl, trivial, List.nil_sublist _⟩

set_option maxRecDepth 100000 in
set_option maxHeartbeats 1000000 in
theorem listOf_ok (w0 : World) (n : Nat) (hn : n ≤ 1000000) (f : FuncId) (pre : List Value) (φ : Nat → Int) (hfn : goFn Try.prog f = true) (hcb : ∀ w G, New w0 w G → ∀ i, i < n → Calls Try.prog f (pre ++ [Value.int .i64 (i : Nat)] ++ []).toArray w (Post (X := Unit) (fun _ => .int .i64 (φ i)) (fun _ => True) (fun _ => []) w)) :
    Calls Try.prog 104 #[.int .i64 n, .func (.func f) pre.toArray #[]] w0 (Post (X := HD) (fun h => gval h n) (fun h => goI (h, mk n φ)) (fun h => gbI (h, mk n φ)) w0) := by
  refine calls Try.func104 rfl (n := 22) rfl (by simp) ?_
  refine TC.seq ?_
  refine TC.region ?_
  refine TL.pure (PV.assign rfl) rfl (by decide) ?_
  refine TL.nil ?_
  refine TQ.thenC ?_
  refine TC.seq ?_
  refine TC.region ?_
  refine TL.pure (PV.move rfl) rfl (by decide) ?_
  refine TL.makeI (k := n) rfl rfl Tb.sl_22 Tb.zi_3 rfl (by omega) (by omega) rfl (by decide) (fun b0 hb0 => ?_)
  refine TL.pure (PV.assign rfl) rfl (by decide) ?_
  refine TL.nil ?_
  refine TQ.thenC ?_
  refine TC.seq ?_
  refine TC.seq ?_
  refine TC.region ?_
  refine TL.pure (PV.move rfl) rfl (by decide) ?_
  refine TL.pure (PV.len rfl Tb.sl_22) rfl (by decide) ?_
  refine TL.pure (PV.move rfl) rfl (by decide) ?_
  refine TL.nil ?_
  refine TQ.thenC ?_
  refine TC.block ?_
  refine TC.loopK [1, 4, 5, 10] (X := Nat) (fun k => k ≤ n) (fun k => [(11, .int .i64 k)]) (fun k => [(b0, Obj.cells (intsA (mk n (mx φ (fun _ => 0) k))) 3 (0, 0))]) (fun k => n - k) 0 (Nat.zero_le _) (by repeat (first | exact True.intro | refine And.intro rfl ?_)) (by rw [mx_rep n φ]; exact List.Sublist.refl _) ?_
  intro k hk
  refine TC.seq ?_
  refine TC.region ?_
  refine TL.pure (PV.lss rfl rfl) rfl (by decide) ?_
  refine TL.nil ?_
  refine TQ.thenC ?_
  refine TC.seq ?_
  first | refine TC.condD rfl (fun hlt => ?_) (fun hlt => ?_) | refine TC.cond rfl (fun hlt => ?_) (fun hlt => ?_)
  · skip
    refine TC.skip ?_
    refine TQ.thenC ?_
    refine TC.seq ?_
    refine TC.block ?_
    refine TC.seq ?_
    refine TC.region ?_
    refine TL.pure (PV.move rfl) rfl (by decide) ?_
    refine TL.pure (PV.assign rfl) rfl (by decide) ?_
    refine TL.nil ?_
    refine TQ.thenC ?_
    refine TC.region ?_
    refine TL.pure (PV.move rfl) rfl (by decide) ?_
    refine TL.pure (PV.move rfl) rfl (by decide) ?_
    refine TL.pure (PV.move rfl) rfl (by decide) ?_
    refine TL.pure (PV.move rfl) rfl (by decide) ?_
    refine TL.callBC (f := f) (pre := pre) (caps := []) (X := Unit) (val := fun _ => .int .i64 (φ k)) (F := fun _ => True) (D := fun _ => []) rfl rfl hfn (fun a w hs => hcb w _ hs.new k (by omega)) rfl (by decide) (fun _ _ => ?_)
    refine TL.pure (PV.index1 (j := k) rfl rfl Tb.elm_22 rfl (by omega)) rfl (by decide) ?_
    refine TL.storeIv (xs := mk n (mx φ (fun _ => 0) k)) (xs' := mk n (mx φ (fun _ => 0) (k + 1))) (j := k) rfl rfl Tb.cells_3 (mx_set (by omega) rfl) (by repeat (first | exact Upd.head _ | apply Upd.tail | apply Upd.appR)) (by rw [mk_len]; omega) rfl rfl ?_
    refine TL.nil ?_
    refine TQ.blkN ?_
    refine TQ.thenC ?_
    refine TC.region ?_
    refine TL.pure (PV.add rfl rfl (by omega)) rfl (by decide) ?_
    refine TL.pure (PV.move rfl) rfl (by decide) ?_
    refine TL.nil ?_
    refine TQ.thenN ?_
    refine TQ.backK (k + 1) (by repeat (first | exact True.intro | refine And.intro rfl ?_)) (by repeat (first | exact True.intro | refine And.intro rfl ?_)) (List.Sublist.refl _) (by omega) (by omega)
  · skip
    refine TC.exit ?_
    refine TQ.thenE ?_
    refine TQ.thenE ?_
    refine TQ.blkS ?_
    refine TQ.thenC ?_
    refine TC.seq ?_
    refine TC.region ?_
    refine TL.pure (PV.move rfl) rfl (by decide) ?_
    refine TL.pure (PV.assign rfl) rfl (by decide) ?_
    refine TL.nil ?_
    refine TQ.thenC ?_
    refine TC.ret ?_
    refine TQ.retE1 rfl rfl ?_
    have hke : n ≤ k := by omega
    rw [mx_all hke]
    exact ⟨some (b0, n, []), rfl, ⟨by simp [mk_len], by simp [mk_len]⟩, by show List.Sublist [(b0, Obj.cells (ival (mk n φ) ++ []).toArray 3 (0, 0))] _; rw [List.append_nil]; exact List.Sublist.refl _⟩

set_option maxRecDepth 100000 in
set_option maxHeartbeats 2000000 in
theorem prices_ok (w0 : World) (vl : Value) (S B : Nat) (s : LS) (hl : IsL w0 vl S B s) (hS : S ≤ 1000) (hB : B ≤ 1000) (ha : ∀ i, i < S → -1000 ≤ s.a i ∧ s.a i ≤ 1000) (hb : ∀ j, j < B → -1000 ≤ s.b j ∧ s.b j ≤ 1000) :
    Calls Try.prog 93 #[vl] w0 (Post (X := HD × HD) (fun y => .agg #[gval y.1 S, gval y.2 B]) (fun y => goI (y.1, mk S fun i => -s.a i) ∧ goI (y.2, mk B s.b)) (fun y => gbI (y.2, mk B s.b) ++ gbI (y.1, mk S fun i => -s.a i)) w0) := by
  have hl0 := hl
  obtain ⟨p, c, q, e, rfl, h1, h2⟩ := hl
  refine calls Try.func93 rfl (n := 16) rfl (by simp) ?_
  refine TC.seq ?_
  refine TC.region ?_
  refine TL.box rfl rfl (by decide) (fun b0 hb0 => ?_)
  refine TL.alloc Tb.zero_96 rfl (by decide) (fun b1 hb1 => ?_)
  refine TL.nil ?_
  refine TQ.thenC ?_
  refine TC.seq ?_
  refine TC.mixV [true, true, true, true, true, false, true, true, true, true, true, false, true, false] [(b0, Obj.cells #[.slice p S c, .slice q B e] 99 (0, 0))] 14 Tb.mixed rfl (by kernel_rfl) (by kernel_rfl) (by kernel_rfl) (by kernel_rfl) (by repeat (first | exact List.Sublist.slnil | exact List.nil_sublist _ | exact List.Sublist.refl _ | refine List.Sublist.cons_cons _ ?_ | refine List.Sublist.cons _ ?_ | refine List.Sublist.trans ?_ (List.sublist_append_right _ _))) ?_
  refine TV.virt 0 rfl rfl (by decide) rfl (by kernel_rfl) (SOK.pure (PV.fieldAddr rfl Tb.fo_99_0) rfl) ?_
  refine TV.virt 1 rfl rfl (by decide) rfl (by kernel_rfl) (SOK.pure (PV.load rfl Tb.one_97 (by repeat (first | exact List.Mem.head _ | refine List.Mem.tail _ ?_ | refine List.mem_append_right _ ?_)) rfl) rfl) ?_
  refine TV.virt 2 rfl rfl (by decide) rfl (by kernel_rfl) (SOK.pure (PV.len rfl Tb.sl_97) rfl) ?_
  refine TV.virt 3 rfl rfl (by decide) rfl (by kernel_rfl) (SOK.pure (PV.loadBox (cs := [.slice p S c, .slice q B e]) rfl Tb.agg_99 (by repeat (first | exact List.Mem.head _ | refine List.Mem.tail _ ?_ | refine List.mem_append_right _ ?_)) rfl) rfl) ?_
  refine TV.virt 4 rfl rfl (by decide) rfl (by kernel_rfl) (SOK.pure (PV.makeFuncB (pre := [_]) (caps := []) rfl rfl) rfl) ?_
  refine TV.virt 6 rfl rfl (by decide) rfl (by kernel_rfl) (SOK.pure (PV.fieldAddr rfl Tb.fo_99_1) rfl) ?_
  refine TV.virt 7 rfl rfl (by decide) rfl (by kernel_rfl) (SOK.pure (PV.load rfl Tb.one_97 (by repeat (first | exact List.Mem.head _ | refine List.Mem.tail _ ?_ | refine List.mem_append_right _ ?_)) rfl) rfl) ?_
  refine TV.virt 8 rfl rfl (by decide) rfl (by kernel_rfl) (SOK.pure (PV.len rfl Tb.sl_97) rfl) ?_
  refine TV.virt 9 rfl rfl (by decide) rfl (by kernel_rfl) (SOK.pure (PV.loadBox (cs := [.slice p S c, .slice q B e]) rfl Tb.agg_99 (by repeat (first | exact List.Mem.head _ | refine List.Mem.tail _ ?_ | refine List.mem_append_right _ ?_)) rfl) rfl) ?_
  refine TV.virt 10 rfl rfl (by decide) rfl (by kernel_rfl) (SOK.pure (PV.makeFuncB (pre := [_]) (caps := []) rfl rfl) rfl) ?_
  refine TV.step [5] (by kernel_rfl) (by decide) rfl ⟨⟨_, rfl, ?_⟩, trivial⟩
  refine TL.call rfl Tb.gofn_104 (fun a w hs => listOf_ok w S (by omega) 105 [.agg #[.slice p S c, .slice q B e]] (fun i => -s.a i) Tb.gofn_105 (fun w2 G2 hn2 i hi => storePrice_ok w2 _ S B s ((hl0.new hs.new).new hn2) i hi (by have := ha i hi; omega))) rfl (by decide) (fun h8 hh8 => ?_)
  refine TL.nil ?_
  refine TV.next (.inl (by repeat (first | exact List.Sublist.slnil | exact List.nil_sublist _ | exact List.Sublist.refl _ | refine List.Sublist.cons_cons _ ?_ | refine List.Sublist.cons _ ?_ | refine List.Sublist.trans ?_ (List.sublist_append_right _ _)))) ?_
  refine TV.step [11] (by kernel_rfl) (by decide) rfl ⟨⟨_, rfl, ?_⟩, trivial⟩
  refine TL.call rfl Tb.gofn_104 (fun a w hs => listOf_ok w B (by omega) 106 [.agg #[.slice p S c, .slice q B e]] s.b Tb.gofn_106 (fun w2 G2 hn2 j hj => buyerPrice_ok w2 _ S B s ((hl0.new hs.new).new hn2) j hj (by have := hb j hj; omega))) rfl (by decide) (fun h9 hh9 => ?_)
  refine TL.nil ?_
  refine TV.next (.inl (by repeat (first | exact List.Sublist.slnil | exact List.nil_sublist _ | exact List.Sublist.refl _ | refine List.Sublist.cons_cons _ ?_ | refine List.Sublist.cons _ ?_ | refine List.Sublist.trans ?_ (List.sublist_append_right _ _)))) ?_
  refine TV.virt 12 rfl rfl (by decide) rfl (by kernel_rfl) (SOK.pure (PV.build rfl Tb.zero_96 Tb.pl_96 (fill_pp _ _ _ _)) rfl) ?_
  refine TV.step [13] (by kernel_rfl) (by decide) rfl ⟨⟨_, rfl, ?_⟩, trivial⟩
  refine TL.storeAgg (vs := [gval h8 S, gval h9 B]) rfl rfl Tb.cells_96 (by repeat (first | exact Upd.head _ | apply Upd.tail | apply Upd.appR)) rfl rfl (gv2_one _ _ _ _) rfl rfl ?_
  refine TL.nil ?_
  refine TV.next (.inr (by kernel_rfl)) ?_
  refine TV.done (by kernel_rfl) ?_
  refine TQ.thenC ?_
  refine TC.ret ?_
  refine TQ.retR rfl (Res.agg rfl Tb.agg_96 (by repeat (first | exact List.Mem.head _ | refine List.Mem.tail _ ?_ | refine List.mem_append_right _ ?_)) rfl Res.nil) ?_
  simp only [tup]
  exact ⟨(h8, h9), rfl, ⟨hh8, hh9⟩, List.Sublist.append_left (List.sublist_append_left _ _) _⟩

set_option maxRecDepth 100000 in
set_option maxHeartbeats 1000000 in
theorem storeBefore_ok (w0 : World) (vl : Value) (S B : Nat) (s : LS) (hl : IsL w0 vl S B s) (i : Nat) (hi : i < S) (hpa : s.pa i = jb s i) (hjB : jb s i < B) (hpb : s.pb (jb s i) = sb s i) :
    Calls Try.prog 107 #[vl, .int .i64 i] w0 (Post (X := Unit) (fun _ => .int .i64 (sb s i : Nat)) (fun _ => True) (fun _ => []) w0) := by
  obtain ⟨p, c, q, e, rfl, h1, h2⟩ := hl
  refine calls Try.func107 rfl (n := 16) rfl (by simp) ?_
  refine TC.seq ?_
  refine TC.region ?_
  refine TL.box rfl rfl (by decide) (fun b0 hb0 => ?_)
  refine TL.pure (PV.assign rfl) rfl (by decide) ?_
  refine TL.nil ?_
  refine TQ.thenC ?_
  refine TC.seq ?_
  obtain ⟨q1, hq1p, hq1c, hq1f⟩ := labAt h1 (j := i) (by omega)
  dsimp only at hq1c hq1f
  obtain ⟨q2, hq2p, hq2c, hq2f⟩ := labAt h2 (j := (jb s i)) hjB
  dsimp only at hq2c hq2f
  rw [hpa] at hq1f
  rw [hpb] at hq2f
  refine TC.any Tb.mixed rfl rfl ?_
  refine TA.op (OpOK.pure (PV.fieldAddr rfl Tb.fo_99_1) rfl (by decide)) (by decide) ?_
  refine TA.op (OpOK.pure (PV.load rfl Tb.one_97 (by repeat (first | exact List.Mem.head _ | refine List.Mem.tail _ ?_ | refine List.mem_append_right _ ?_)) rfl) rfl (by decide)) (by decide) ?_
  refine TA.op (OpOK.pure (PV.fieldAddr rfl Tb.fo_99_0) rfl (by decide)) (by decide) ?_
  refine TA.op (OpOK.pure (PV.load rfl Tb.one_97 (by repeat (first | exact List.Mem.head _ | refine List.Mem.tail _ ?_ | refine List.mem_append_right _ ?_)) rfl) rfl (by decide)) (by decide) ?_
  refine TA.op (OpOK.pure (PV.move rfl) rfl (by decide)) (by decide) ?_
  refine TA.op (OpOK.pure (PV.indexA (j := i) rfl hq1p rfl Tb.elm_97 rfl (by omega)) rfl (by decide)) (by decide) ?_
  refine TA.op (OpOK.pure (PV.fieldAddrA rfl Tb.fo_110_1) rfl (by decide)) (by decide) ?_
  refine TA.op (OpOK.pure (PV.loadOld rfl Tb.one_3 hq1f) rfl (by decide)) (by decide) ?_
  refine TA.op (OpOK.pure (PV.indexA (j := (jb s i)) rfl hq2p rfl Tb.elm_97 rfl (by omega)) rfl (by decide)) (by decide) ?_
  refine TA.op (OpOK.pure (PV.fieldAddrA rfl Tb.fo_110_1) rfl (by decide)) (by decide) ?_
  refine TA.op (OpOK.pure (PV.loadOld rfl Tb.one_3 hq2f) rfl (by decide)) (by decide) ?_
  refine TA.op (OpOK.pure (PV.assign rfl) rfl (by decide)) (by decide) ?_
  show TQ _ _ _ _ _
  refine TQ.thenC ?_
  refine TC.ret ?_
  refine TQ.retE1 rfl rfl ?_
  exact ⟨(), rfl, trivial, List.nil_sublist _⟩

end Go.Proofs.Ytghlkndanpegbaa
