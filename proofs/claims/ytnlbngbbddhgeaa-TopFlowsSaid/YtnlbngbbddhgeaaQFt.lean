/- Nets in new memory: contracts. -/
import Derived.Test.YtnlbngbbddhgeaaQFs
set_option linter.unusedVariables false
set_option linter.unusedSimpArgs false
namespace Go.Proofs.Ytnlbngbbddhgeaa
open Go.Sx Go.RowKit


theorem nv_one (a b c : Int) (h : HD) (K : Nat) : [Value.int .i64 a, .int .i64 b, .int .i64 c, gval h K].all Value.oneCell' = true := by cases h <;> rfl
theorem nil22 (a : Option Addr) (k c : Nat) (w : World) : (binOp .eql 22 (.slice a k c) (.slice none 0 0)).run Try.prog w = .ok (.bool a.isNone) w := Go.Lib.run_eql_slice_nil w 22 40 a k c 0 0 Tb.sl_22
theorem bdsNone {w : World} {p : Option Addr} {l : List Bd} {K : Nat} (hK : l.length = K) (hp : p = none) (h : BdsAt w p l) : l = [] ∧ K = 0 := by
  subst hp
  have := bds_nil h
  subst this; exact ⟨rfl, hK.symm⟩
theorem take_all_eq {α : Type} {xs ys : List α} (d : α) (hl : xs.length = ys.length) (h : ∀ j, j < xs.length → xs.getD j d = ys.getD j d) : xs = ys := by
  apply List.ext_getElem hl
  intro j h1 h2
  have := h j h1
  simpa [List.getD, h1, h2] using this
/-- A value reads as a net. -/
def IsN (w : World) (v : Value) (n s t : Int) (rs : List Bd) : Prop := ∃ p c, v = dnV n s t p rs.length c ∧ BdsAt w p rs
theorem IsN.new {w0 w : World} {G : Heap} {v : Value} {n s t : Int} {rs : List Bd} (h : IsN w0 v n s t rs) (hn : New w0 w G) : IsN w v n s t rs := by
  obtain ⟨p, c, rfl, hx⟩ := h
  exact ⟨p, c, rfl, hx.new hn⟩
theorem IsN.of {w : World} {n s t : Int} {p : Option Addr} {c : Nat} {rs : List Bd} (h : BdsAt w p rs) : IsN w (dnV n s t p rs.length c) n s t rs := ⟨p, c, rfl, h⟩
theorem IsN.gl {w0 w : World} {G : Heap} {h : HD} {n s t : Int} {rs : List Bd} {K : Nat} (hK : rs.length = K) (hn : New w0 w G) (hm : ∀ y ∈ gbB 40 h rs, y ∈ G) (ho : goB h rs) : IsN w (.agg #[.int .i64 n, .int .i64 s, .int .i64 t, gval h K]) n s t rs := by
  refine ⟨gp h, gc h, ?_, BdsAt.s hn hm ho⟩
  rw [gvB_eq ho hK]; subst hK; rfl
/-- A net that is handed out: with no error the one that is meant, else a net of nothing. -/
structure NX where
  n : Int
  s : Int
  t : Int
  h : HD
  l : List Bd
def NX.val (x : NX) : Value := .agg #[.int .i64 x.n, .int .i64 x.s, .int .i64 x.t, gval x.h x.l.length]
def NF (E n s t : Int) (rs : List Bd) (x : NX) : Prop := goB x.h x.l ∧ ((E = 0 ∧ x.n = n ∧ x.s = s ∧ x.t = t ∧ x.l = rs) ∨ (E ≠ 0 ∧ x.n = 0 ∧ x.s = 0 ∧ x.t = 0 ∧ x.l = []))
def NX.zero : NX := ⟨0, 0, 0, none, []⟩
theorem NF.bad {E n s t : Int} {rs : List Bd} (h : E ≠ 0) : NF E n s t rs NX.zero := ⟨⟨rfl, rfl⟩, .inr ⟨h, rfl, rfl, rfl, rfl⟩⟩
theorem NF.good {E n s t : Int} {rs : List Bd} {h : HD} (h0 : E = 0) (ho : goB h rs) : NF E n s t rs ⟨n, s, t, h, rs⟩ := ⟨ho, .inl ⟨h0, rfl, rfl, rfl, rfl⟩⟩
theorem NX.is {w0 w : World} {G : Heap} {E n s t : Int} {rs : List Bd} {x : NX} (hx : NF E n s t rs x) (hn : New w0 w G) (hm : ∀ y ∈ gbB 40 x.h x.l, y ∈ G) : IsN w x.val x.n x.s x.t x.l := IsN.gl rfl hn hm hx.1
/-- The width of a drain is another. -/
def wdB (rs : List Bd) (k : Nat) (w : Int) : List Bd := rs.set k (setF (rs.getD k default) 2 w)
theorem wdB_len (rs : List Bd) (k : Nat) (w : Int) : (wdB rs k w).length = rs.length := List.length_set
theorem wdB_get (rs : List Bd) {k j : Nat} (w : Int) (hj : j < rs.length) : (wdB rs k w).getD j default = if j = k then setF (rs.getD j default) 2 w else rs.getD j default := by
  unfold wdB
  by_cases e : j = k
  · subst e; simp [List.getD, hj]
  · rw [if_neg e, List.getD_eq_getElem?_getD, List.getElem?_set_ne (fun h => e h.symm), ← List.getD_eq_getElem?_getD]
theorem dr0_wdB {rs : List Bd} {k : Nat} (hk : k < rs.length) (w : Int) : dr0 (wdB rs k w) = Fl.wid (dr0 rs) k w := by
  have e : (dr0 rs)[k]? = some (mkE (rs.getD k default) 0) := by simp [dr0, mkL, hk]
  unfold Fl.wid
  rw [e]
  apply List.ext_getElem
  · rw [mkL_len, wdB_len, List.length_set, mkL_len]
  · intro j h1 h2
    have hj : j < rs.length := by rw [mkL_len, wdB_len] at h1; exact h1
    rw [List.getElem_set]
    simp only [dr0, mkL, List.getElem_map, List.getElem_range]
    rw [wdB_get rs w hj]
    by_cases e9 : j = k
    · subst e9; rw [if_pos rfl, if_pos rfl]; rfl
    · rw [if_neg e9, if_neg (fun h => e9 h.symm)]
theorem Vd.dI {n s t : Int} {rs : List Bd} (h : Vd n s t rs) : dI n s t rs = 0 := by
  have := h.n1; have := h.n8; have := h.s0; have := h.t0; have := h.st; have := h.len
  unfold Go.Proofs.Ytnlbngbbddhgeaa.dI
  rw [if_neg (by omega), if_neg (by omega), if_pos h.ok]
theorem Vd.all {n s t : Int} {rs : List Bd} (h1 : 2 ≤ n) (h2 : n ≤ 8) (h3 : 0 ≤ s ∧ s < n) (h4 : 0 ≤ t ∧ t < n) (h5 : s ≠ t) (h6 : rs.length ≤ 16) (h7 : ∀ j, j < rs.length → okD n (rs.getD j default) = true) : Vd n s t rs :=
  ⟨h1, h2, h3, h4, h5, h6, List.all_eq_true.2 fun r hr => by
    obtain ⟨j, hj, rfl⟩ := List.getElem_of_mem hr
    have := h7 j hj
    simpa [List.getD, hj] using this⟩
theorem Vd.wd {n s t : Int} {rs : List Bd} (h : Vd n s t rs) (k : Nat) {w : Int} (hw : 0 ≤ w ∧ w ≤ 20) : Vd n s t (wdB rs k w) :=
  .all h.n1 h.n8 h.s0 h.t0 h.st (by rw [wdB_len]; exact h.len) fun j hj => by
    rw [wdB_len] at hj
    have := h.at hj
    rw [wdB_get rs w hj]
    refine decide_eq_true ?_
    split
    · simp only [setF]; omega
    · omega
theorem W1.wd {n s t : Nat} {rs : List Bd} (h : Vd n s t rs) (k : Nat) {w : Int} (hw : 0 ≤ w ∧ w ≤ 40) : W1 n s t (wdB rs k w) :=
  ⟨h.w1.n8, h.w1.sn, h.w1.tn, h.w1.st, by rw [wdB_len]; exact h.len, fun j hj => by
    rw [wdB_len] at hj
    have := h.at hj
    rw [wdB_get rs w hj]
    split
    · simp only [setF]; omega
    · omega⟩
/-- The error of another width. -/
def widI (rs : List Bd) (k by_ : Int) : Int := if ¬ (0 ≤ k ∧ k < rs.length) then 4 else if ¬ (0 ≤ (rs.getD k.toNat default).m + by_ ∧ (rs.getD k.toNat default).m + by_ ≤ 20) then 1 else 0
theorem widI_4 {rs : List Bd} {k by_ : Int} (h : ¬ (0 ≤ k ∧ k < rs.length)) : widI rs k by_ = 4 := if_pos h
theorem widI_1 {rs : List Bd} {k by_ : Int} (h : 0 ≤ k ∧ k < rs.length) (h2 : ¬ (0 ≤ (rs.getD k.toNat default).m + by_ ∧ (rs.getD k.toNat default).m + by_ ≤ 20)) : widI rs k by_ = 1 := by unfold widI; rw [if_neg (by omega), if_pos h2]
theorem widI_0 {rs : List Bd} {k by_ : Int} (h : 0 ≤ k ∧ k < rs.length) (h2 : 0 ≤ (rs.getD k.toNat default).m + by_ ∧ (rs.getD k.toNat default).m + by_ ≤ 20) : widI rs k by_ = 0 := by unfold widI; rw [if_neg (by omega), if_neg (by omega)]
def wdR (rs : List Bd) (k by_ : Int) : List Bd := wdB rs k.toNat ((rs.getD k.toNat default).m + by_)
def flB (r : Bd) : Bd := ⟨r.b, r.a, r.m⟩
theorem take_flB {rs : List Bd} {k : Nat} (hk : k < rs.length) : (rs.take (k + 1)).map flB = (rs.take k).map flB ++ [flB (rs.getD k default)] := by
  rw [List.take_succ_eq_append_getElem hk, List.map_append]
  simp [List.getD, hk]
theorem flB_getD {rs : List Bd} {j : Nat} (hj : j < rs.length) : (rs.map flB).getD j default = flB (rs.getD j default) := by simp [List.getD, hj]
theorem dr0_flB (rs : List Bd) : dr0 (rs.map flB) = Fl.turn (dr0 rs) := by
  apply List.ext_getElem
  · simp [dr0, mkL, Fl.turn]
  · intro j h1 h2
    have hj : j < rs.length := by simpa [dr0, mkL] using h1
    simp only [dr0, mkL, Fl.turn, List.getElem_map, List.getElem_range]
    rw [flB_getD hj]; rfl
theorem flB_flB (rs : List Bd) : (rs.map flB).map flB = rs := by rw [List.map_map]; exact List.map_id' _
theorem Vd.fl {n s t : Int} {rs : List Bd} (h : Vd n s t rs) : Vd n t s (rs.map flB) :=
  .all h.n1 h.n8 h.t0 h.s0 h.st.symm (by rw [List.length_map]; exact h.len) fun j hj => by
    rw [List.length_map] at hj
    have := h.at hj
    rw [flB_getD hj]
    exact decide_eq_true (by simp only [flB]; omega)
theorem take_len {α : Type} {xs : List α} {k : Nat} (hk : k ≤ xs.length) : (xs.take k).length = k := by rw [List.length_take]; omega
theorem fill_d (a b c : Int) : Instr.fill ([(0, 1), (1, 1), (2, 1)][·]?) #[(Value.int .i64 0), (Value.int .i64 0), (Value.int .i64 0)] [(0, Value.int .i64 a), (1, Value.int .i64 b), (2, Value.int .i64 c)] = some #[.int .i64 a, .int .i64 b, .int .i64 c] := by kernel_rfl
def sameN (n s t : Int) (rs : List Bd) (n2 s2 t2 : Int) (rs2 : List Bd) : Bool := decide (n = n2 ∧ s = s2 ∧ t = t2 ∧ rs = rs2)


set_option maxRecDepth 100000 in
theorem isDrain_ok (w0 : World) (x0 x1 x2 : Value) (p : Option Addr) (K c : Nat) (k : Int) :
    Calls Try.prog 76 #[.agg #[x0, x1, x2, .slice p K c], .int .i64 k] w0 (Post (X := Unit) (fun _ => .bool (decide (0 ≤ k ∧ k < K))) (fun _ => True) (fun _ => []) w0) := by
  refine calls Try.func76 rfl (n := 14) rfl (by simp) ?_
  refine TC.seq ?_
  refine TC.region ?_
  refine TL.box rfl rfl (by decide) (fun b0 hb0 => ?_)
  refine TL.pure (PV.assign rfl) rfl (by decide) ?_
  refine TL.nil ?_
  refine TQ.thenC ?_
  refine TC.seq ?_
  refine TC.region ?_
  refine TL.pure (PV.move rfl) rfl (by decide) ?_
  refine TL.pure (PV.geq rfl rfl) rfl (by decide) ?_
  refine TL.pure (PV.move rfl) rfl (by decide) ?_
  first | refine TL.splitD 7 rfl (fun h0 => ?_) (fun h0 => ?_) | refine TL.split 7 rfl (fun h0 => ?_) (fun h0 => ?_)
  · skip
    refine TL.pure (PV.move rfl) rfl (by decide) ?_
    refine TL.pure (PV.fieldAddr rfl Tb.fo_24_3) rfl (by decide) ?_
    refine TL.pure (PV.load rfl Tb.one_22 (by repeat (first | exact List.Mem.head _ | refine List.Mem.tail _ ?_ | refine List.mem_append_right _ ?_)) rfl) rfl (by decide) ?_
    refine TL.pure (PV.len rfl Tb.sl_22) rfl (by decide) ?_
    refine TL.pure (PV.lss rfl rfl) rfl (by decide) ?_
    refine TL.pure (PV.pickT rfl rfl) rfl (by decide) ?_
    refine TL.pure (PV.assign rfl) rfl (by decide) ?_
    refine TL.nil ?_
    refine TQ.thenC ?_
    refine TC.ret ?_
    refine TQ.retE1 rfl rfl ?_
    exact ⟨(), congrArg Value.bool (by simp [*] <;> omega), trivial, List.nil_sublist _⟩
  · skip
    refine TL.skip rfl (fun k hk => by cases hk; decide) ?_
    refine TL.skip rfl (fun k hk => by cases hk; decide) ?_
    refine TL.skip rfl (fun k hk => by cases hk; decide) ?_
    refine TL.skip rfl (fun k hk => by cases hk; decide) ?_
    refine TL.skip rfl (fun k hk => by cases hk; decide) ?_
    refine TL.pure (PV.pickF rfl rfl) rfl (by decide) ?_
    refine TL.pure (PV.assign rfl) rfl (by decide) ?_
    refine TL.nil ?_
    refine TQ.thenC ?_
    refine TC.ret ?_
    refine TQ.retE1 rfl rfl ?_
    exact ⟨(), congrArg Value.bool (by simp [*] <;> omega), trivial, List.nil_sublist _⟩

set_option maxRecDepth 100000 in
theorem clone_ok (w0 : World) (p : Option Addr) (c K : Nat) (rs : List Bd) (hK : rs.length = K) (hr : BdsAt w0 p rs) (hl : K ≤ 100000) :
    Calls Try.prog 77 #[.slice p K c] w0 (Post (X := HD) (fun h => gval h K) (fun h => goB h rs) (fun h => gbB 40 h rs) w0) := by
  refine calls Try.func77 rfl (n := 8) rfl (by simp) ?_
  refine TC.seq ?_
  refine TC.region ?_
  refine TL.pure (PV.assign rfl) rfl (by decide) ?_
  refine TL.nil ?_
  refine TQ.thenC ?_
  refine TC.seq ?_
  refine TC.seq ?_
  refine TC.region ?_
  refine TL.pure (PV.move rfl) rfl (by decide) ?_
  refine TL.pure (PV.cmp rfl rfl (nilS_guard _ _ _ _ _ _) (nil22 _ _ _)) rfl (by decide) ?_
  refine TL.nil ?_
  refine TQ.thenC ?_
  first | refine TC.condD rfl (fun hnil => ?_) (fun hnil => ?_) | refine TC.cond rfl (fun hnil => ?_) (fun hnil => ?_)
  · skip
    refine TC.seq ?_
    refine TC.region ?_
    refine TL.pure (PV.assign rfl) rfl (by decide) ?_
    refine TL.nil ?_
    refine TQ.thenC ?_
    refine TC.ret ?_
    refine TQ.thenR ?_
    refine TQ.retE1 rfl rfl ?_
    have hp0 : p = none := by cases p <;> simp_all
    obtain ⟨e1, e2⟩ := bdsNone hK hp0 hr
    subst e1; subst e2
    exact ⟨none, rfl, ⟨rfl, rfl⟩, List.nil_sublist _⟩
  · skip
    refine TC.skip ?_
    refine TQ.thenC ?_
    refine TC.seq ?_
    refine TC.region ?_
    refine TL.buildSlice0 Tb.sl_22 Tb.zi_40 rfl (by decide) (fun bE hbE => ?_)
    refine TL.pure (PV.move rfl) rfl (by decide) ?_
    refine TL.appendBS Tb.sl_22 Tb.zi_40 rfl rfl (h0 := some (bE, 0, [])) (ys := []) (K0 := 0) (K := K) rfl rfl rfl hK (fun w' hN => hr.new hN) ⟨rfl, rfl, Nat.le_refl _⟩ (TakeH.here (some (bE, 0, [])) 40 [] _) (by omega) rfl (by decide) (fun h1 hh1 _ => ?_)
    refine TL.pure (PV.assign rfl) rfl (by decide) ?_
    refine TL.nil ?_
    refine TQ.thenC ?_
    refine TC.ret ?_
    refine TQ.retE1 rfl rfl ?_
    exact ⟨h1, by rw [Nat.zero_add], hh1, List.sublist_append_left _ _⟩

set_option maxRecDepth 100000 in
set_option maxHeartbeats 1000000 in
theorem Widen_v (w0 : World) (n s t : Nat) (p : Option Addr) (cap : Nat) (rs : List Bd) (hr : BdsAt w0 p rs) (hv : Vd n s t rs) (hd0 : dI n s t rs = 0) (k by_ : Int) (hby : -9223372036854775808 ≤ by_ ∧ by_ ≤ 9223372036854775807) :
    Calls Try.prog 43 #[dnV n s t p rs.length cap, .int .i64 k, .int .i64 by_] w0 (Post (X := NX) (fun x => .tuple #[x.val, .int .i64 (widI rs k by_)]) (fun x => NF (widI rs k by_) n s t (wdR rs k by_) x) (fun x => gbB 40 x.h x.l) w0) := by
  have hw := hv.w1
  have hlen := hv.len
  have hn8 := hw.n8
  have hsn := hw.sn
  have htn := hw.tn
  have h256 := p2_256 hn8
  have hpos := Nat.two_pow_pos n
  refine calls Try.func43 rfl (n := 55) rfl (by simp) ?_
  refine TC.seq ?_
  refine TC.region ?_
  refine TL.box rfl rfl (by decide) (fun b0 hb0 => ?_)
  refine TL.alloc Tb.zero_24 rfl (by decide) (fun b1 hb1 => ?_)
  refine TL.pure (PV.assign rfl) rfl (by decide) ?_
  refine TL.nil ?_
  refine TQ.thenC ?_
  refine TC.seq ?_
  refine TC.seq ?_
  refine TC.region ?_
  refine TL.pure (PV.loadBox rfl Tb.agg_24 (by repeat (first | exact List.Mem.head _ | refine List.Mem.tail _ ?_ | refine List.mem_append_right _ ?_)) rfl) rfl (by decide) ?_
  refine TL.call rfl Tb.gofn_20 (fun a w hs => validate_ok w n s t p cap rs (hr.new hs.new)) rfl (by decide) (fun _ _ => ?_)
  refine TL.pure (PV.assign rfl) rfl (by decide) ?_
  refine TL.nil ?_
  refine TQ.thenC ?_
  refine TC.seq ?_
  refine TC.region ?_
  refine TL.pure (PV.move rfl) rfl (by decide) ?_
  refine TL.pure (PV.neq rfl rfl) rfl (by decide) ?_
  refine TL.nil ?_
  refine TQ.thenC ?_
  first | refine TC.condD rfl (fun hv9 => ?_) (fun hv9 => ?_) | refine TC.cond rfl (fun hv9 => ?_) (fun hv9 => ?_)
  · skip
    refine TC.seq ?_
    refine TC.region ?_
    refine TL.pure (PV.build rfl Tb.zero_24 Tb.pl_24 rfl) rfl (by decide) ?_
    refine TL.pure (PV.move rfl) rfl (by decide) ?_
    refine TL.storeAgg (vs := [.int .i64 0, .int .i64 0, .int .i64 0, .slice none 0 0]) rfl rfl Tb.cells_24 (by repeat (first | exact Upd.head _ | apply Upd.tail | apply Upd.appR)) rfl rfl rfl rfl rfl ?_
    refine TL.pure (PV.assign rfl) rfl (by decide) ?_
    refine TL.nil ?_
    refine TQ.thenC ?_
    refine TC.ret ?_
    refine TQ.thenR ?_
    refine TQ.retR rfl (Res.agg rfl Tb.agg_24 (by repeat (first | exact List.Mem.head _ | refine List.Mem.tail _ ?_ | refine List.mem_append_right _ ?_)) rfl (Res.tmp rfl Res.nil)) ?_
    simp only [tup]
    exact absurd hd0 hv9
  · skip
    refine TC.skip ?_
    refine TQ.thenC ?_
    refine TC.seq ?_
    refine TC.seq ?_
    refine TC.region ?_
    refine TL.pure (PV.loadBox rfl Tb.agg_24 (by repeat (first | exact List.Mem.head _ | refine List.Mem.tail _ ?_ | refine List.mem_append_right _ ?_)) rfl) rfl (by decide) ?_
    refine TL.pure (PV.move rfl) rfl (by decide) ?_
    refine TL.call rfl Tb.gofn_76 (fun a w hs => isDrain_ok _ _ _ _ _ _ _ _) rfl (by decide) (fun _ _ => ?_)
    refine TL.pure ((by first | exact PV.notD rfl | exact PV.not rfl)) rfl (by decide) ?_
    refine TL.nil ?_
    refine TQ.thenC ?_
    first | refine TC.condD rfl (fun hnk => ?_) (fun hnk => ?_) | refine TC.cond rfl (fun hnk => ?_) (fun hnk => ?_)
    · skip
      refine TC.seq ?_
      refine TC.region ?_
      refine TL.pure (PV.build rfl Tb.zero_24 Tb.pl_24 rfl) rfl (by decide) ?_
      refine TL.storeAgg (vs := [.int .i64 0, .int .i64 0, .int .i64 0, .slice none 0 0]) rfl rfl Tb.cells_24 (by repeat (first | exact Upd.head _ | apply Upd.tail | apply Upd.appR)) rfl rfl rfl rfl rfl ?_
      refine TL.pure (PV.assign rfl) rfl (by decide) ?_
      refine TL.nil ?_
      refine TQ.thenC ?_
      refine TC.ret ?_
      refine TQ.thenR ?_
      refine TQ.retR rfl (Res.agg rfl Tb.agg_24 (by repeat (first | exact List.Mem.head _ | refine List.Mem.tail _ ?_ | refine List.mem_append_right _ ?_)) rfl (Res.tmp rfl Res.nil)) ?_
      simp only [tup]
      exact ⟨NX.zero, by rw [widI_4 (by simpa using hnk)]; rfl, NF.bad (by rw [widI_4 (by simpa using hnk)]; decide), List.nil_sublist _⟩
    · skip
      have hk9 : 0 ≤ k ∧ k < rs.length := by simpa using hnk
      obtain ⟨q, hqp, hq⟩ := hr k.toNat (by omega)
      have hma := hv.at (show k.toNat < rs.length by omega)
      refine TC.skip ?_
      refine TQ.thenC ?_
      refine TC.seq ?_
      refine TC.seq ?_
      refine TC.region ?_
      refine TL.pure (PV.fieldAddr rfl Tb.fo_24_3) rfl (by decide) ?_
      refine TL.pure (PV.load rfl Tb.one_22 (by repeat (first | exact List.Mem.head _ | refine List.Mem.tail _ ?_ | refine List.mem_append_right _ ?_)) rfl) rfl (by decide) ?_
      refine TL.pure (PV.move rfl) rfl (by decide) ?_
      refine TL.pure (PV.indexA (j := k.toNat) rfl hqp rfl Tb.elm_22 (by omega) (by omega)) rfl (by decide) ?_
      refine TL.pure (PV.fieldAddrA rfl Tb.fo_40_2) rfl (by decide) ?_
      refine TL.pure (PV.loadOld rfl Tb.one_3 (hq 2 _ rfl)) rfl (by decide) ?_
      refine TL.pure (PV.assign rfl) rfl (by decide) ?_
      refine TL.nil ?_
      refine TQ.thenC ?_
      refine TC.seq ?_
      refine TC.region ?_
      refine TL.pure (PV.move rfl) rfl (by decide) ?_
      refine TL.pure (PV.move rfl) rfl (by decide) ?_
      refine TL.pure (PV.neg rfl (by omega)) rfl (by decide) ?_
      refine TL.pure (PV.lss rfl rfl) rfl (by decide) ?_
      refine TL.pure (PV.move rfl) rfl (by decide) ?_
      first | refine TL.splitD 32 rfl (fun h2 => ?_) (fun h2 => ?_) | refine TL.split 32 rfl (fun h2 => ?_) (fun h2 => ?_)
      · skip
        refine TL.skip rfl (fun k hk => by cases hk; decide) ?_
        refine TL.skip rfl (fun k hk => by cases hk; decide) ?_
        refine TL.skip rfl (fun k hk => by cases hk; decide) ?_
        refine TL.skip rfl (fun k hk => by cases hk; decide) ?_
        refine TL.pure (PV.pickT rfl rfl) rfl (by decide) ?_
        refine TL.nil ?_
        refine TQ.thenC ?_
        refine TC.condT rfl ?_
        refine TC.seq ?_
        refine TC.region ?_
        refine TL.pure (PV.build rfl Tb.zero_24 Tb.pl_24 rfl) rfl (by decide) ?_
        refine TL.storeAgg (vs := [.int .i64 0, .int .i64 0, .int .i64 0, .slice none 0 0]) rfl rfl Tb.cells_24 (by repeat (first | exact Upd.head _ | apply Upd.tail | apply Upd.appR)) rfl rfl rfl rfl rfl ?_
        refine TL.pure (PV.assign rfl) rfl (by decide) ?_
        refine TL.nil ?_
        refine TQ.thenC ?_
        refine TC.ret ?_
        refine TQ.thenR ?_
        refine TQ.retR rfl (Res.agg rfl Tb.agg_24 (by repeat (first | exact List.Mem.head _ | refine List.Mem.tail _ ?_ | refine List.mem_append_right _ ?_)) rfl (Res.tmp rfl Res.nil)) ?_
        simp only [tup]
        exact ⟨NX.zero, by rw [widI_1 hk9 (by omega)]; rfl, NF.bad (by rw [widI_1 hk9 (by omega)]; decide), List.nil_sublist _⟩
      · skip
        refine TL.pure (PV.move rfl) rfl (by decide) ?_
        refine TL.pure (PV.move rfl) rfl (by decide) ?_
        refine TL.pure (PV.sub rfl rfl (by omega)) rfl (by decide) ?_
        refine TL.pure (PV.gtr rfl rfl) rfl (by decide) ?_
        refine TL.pure (PV.pickF rfl rfl) rfl (by decide) ?_
        refine TL.nil ?_
        refine TQ.thenC ?_
        first | refine TC.condD rfl (fun hnb => ?_) (fun hnb => ?_) | refine TC.cond rfl (fun hnb => ?_) (fun hnb => ?_)
        · skip
          refine TC.seq ?_
          refine TC.region ?_
          refine TL.pure (PV.build rfl Tb.zero_24 Tb.pl_24 rfl) rfl (by decide) ?_
          refine TL.storeAgg (vs := [.int .i64 0, .int .i64 0, .int .i64 0, .slice none 0 0]) rfl rfl Tb.cells_24 (by repeat (first | exact Upd.head _ | apply Upd.tail | apply Upd.appR)) rfl rfl rfl rfl rfl ?_
          refine TL.pure (PV.assign rfl) rfl (by decide) ?_
          refine TL.nil ?_
          refine TQ.thenC ?_
          refine TC.ret ?_
          refine TQ.thenR ?_
          refine TQ.retR rfl (Res.agg rfl Tb.agg_24 (by repeat (first | exact List.Mem.head _ | refine List.Mem.tail _ ?_ | refine List.mem_append_right _ ?_)) rfl (Res.tmp rfl Res.nil)) ?_
          simp only [tup]
          exact ⟨NX.zero, by rw [widI_1 hk9 (by omega)]; rfl, NF.bad (by rw [widI_1 hk9 (by omega)]; decide), List.nil_sublist _⟩
        · skip
          have hb9 : 0 ≤ (rs.getD k.toNat default).m + by_ ∧ (rs.getD k.toNat default).m + by_ ≤ 20 := by omega
          refine TC.skip ?_
          refine TQ.thenC ?_
          refine TC.seq ?_
          refine TC.region ?_
          refine TL.pure (PV.loadBox rfl Tb.agg_24 (by repeat (first | exact List.Mem.head _ | refine List.Mem.tail _ ?_ | refine List.mem_append_right _ ?_)) rfl) rfl (by decide) ?_
          refine TL.alloc Tb.zero_24 rfl (by decide) (fun bN hbN => ?_)
          refine TL.storeAgg rfl rfl Tb.cells_24 (by repeat (first | exact Upd.head _ | apply Upd.tail | apply Upd.appR)) rfl rfl (by first | rfl | exact sv_one _ _ _ | exact nv_one _ _ _ _ _) rfl rfl ?_
          refine TL.nil ?_
          refine TQ.thenC ?_
          refine TC.seq ?_
          refine TC.region ?_
          refine TL.pure (PV.fieldAddr rfl Tb.fo_24_3) rfl (by decide) ?_
          refine TL.pure (PV.load rfl Tb.one_22 (by repeat (first | exact List.Mem.head _ | refine List.Mem.tail _ ?_ | refine List.mem_append_right _ ?_)) rfl) rfl (by decide) ?_
          refine TL.call rfl Tb.gofn_77 (fun a w hs => clone_ok w p cap rs.length rs rfl (hr.new hs.new) (by omega)) rfl (by decide) (fun h1 hh1 => ?_)
          refine TL.pure (PV.fieldAddr rfl Tb.fo_24_3) rfl (by decide) ?_
          refine TL.store rfl rfl Tb.cells_22 (gval_one _ _) (by repeat (first | exact Upd.head _ | apply Upd.tail | apply Upd.appR)) (by show 3 < 4; decide) rfl rfl ?_
          refine TL.nil ?_
          refine TQ.thenC ?_
          refine TC.seq ?_
          refine TC.region ?_
          refine TL.pure (PV.fieldAddr rfl Tb.fo_24_3) rfl (by decide) ?_
          refine TL.pure (PV.load rfl Tb.one_22 (by repeat (first | exact List.Mem.head _ | refine List.Mem.tail _ ?_ | refine List.mem_append_right _ ?_)) rfl) rfl (by decide) ?_
          refine TL.pure (PV.move rfl) rfl (by decide) ?_
          refine TL.pure (PV.indexG (j := k.toNat) rfl rfl hh1 Tb.elm_22 (by omega) (by omega)) rfl (by decide) ?_
          refine TL.pure (PV.fieldAddr rfl Tb.fo_40_2) rfl (by decide) ?_
          refine TL.pure (PV.loadF (h := h1) (l := rs) (j := k.toNat) (f := 2) (v := .int .i64 (rs.getD k.toNat default).m) rfl Tb.one_3 (fun yy hyy => by repeat (first | exact List.mem_append_left _ hyy | refine List.mem_append_right _ ?_ | refine List.Mem.tail _ ?_)) hh1 (by omega) (by decide) rfl) rfl (by decide) ?_
          refine TL.pure (PV.move rfl) rfl (by decide) ?_
          refine TL.pure (PV.add rfl rfl (by omega)) rfl (by decide) ?_
          refine TL.pure (PV.indexG (j := k.toNat) rfl rfl hh1 Tb.elm_22 (by omega) (by omega)) rfl (by decide) ?_
          refine TL.pure (PV.fieldAddr rfl Tb.fo_40_2) rfl (by decide) ?_
          refine TL.putF (h := h1) (l0 := rs) (j := k.toNat) (f := 2) (v := (rs.getD k.toNat default).m + by_) rfl rfl Tb.cells_3 hh1 (by repeat (first | exact PutH.here _ _ _ _ | apply PutH.tail | apply PutH.app)) (by omega) (by decide) rfl rfl ?_
          refine TL.nil ?_
          refine TQ.thenC ?_
          refine TC.seq ?_
          refine TC.region ?_
          refine TL.pure (PV.loadBox rfl Tb.agg_24 (by repeat (first | exact List.Mem.head _ | refine List.Mem.tail _ ?_ | refine List.mem_append_right _ ?_)) rfl) rfl (by decide) ?_
          refine TL.storeAgg rfl rfl Tb.cells_24 (by repeat (first | exact Upd.head _ | apply Upd.tail | apply Upd.appR)) rfl rfl (by first | rfl | exact sv_one _ _ _ | exact nv_one _ _ _ _ _) rfl rfl ?_
          refine TL.pure (PV.assign rfl) rfl (by decide) ?_
          refine TL.nil ?_
          refine TQ.thenC ?_
          refine TC.ret ?_
          refine TQ.retR rfl (Res.agg rfl Tb.agg_24 (by repeat (first | exact List.Mem.head _ | refine List.Mem.tail _ ?_ | refine List.mem_append_right _ ?_)) rfl (Res.tmp rfl Res.nil)) ?_
          simp only [tup]
          exact ⟨⟨n, s, t, h1, wdR rs k by_⟩, by rw [widI_0 hk9 hb9]; unfold NX.val wdR; rw [wdB_len]; rfl, NF.good (widI_0 hk9 hb9) (goB_len hh1 (wdB_len _ _ _)), (by repeat (first | exact List.Sublist.slnil | exact List.nil_sublist _ | exact List.Sublist.refl _ | exact List.sublist_append_left _ _ | refine List.Sublist.cons_cons _ ?_ | refine (List.append_sublist_append_left _).2 ?_ | refine List.Sublist.cons _ ?_ | refine List.Sublist.trans ?_ (List.sublist_append_right _ _)))⟩

set_option maxRecDepth 100000 in
set_option maxHeartbeats 1000000 in
theorem Reverse_v (w0 : World) (n s t : Nat) (p : Option Addr) (cap : Nat) (rs : List Bd) (hr : BdsAt w0 p rs) (hv : Vd n s t rs) (hd0 : dI n s t rs = 0) :
    Calls Try.prog 46 #[dnV n s t p rs.length cap] w0 (Post (X := NX) (fun x => .tuple #[x.val, .int .i64 (0)]) (fun x => NF 0 n t s (rs.map flB) x) (fun x => gbB 40 x.h x.l) w0) := by
  have hw := hv.w1
  have hlen := hv.len
  have hn8 := hw.n8
  have hsn := hw.sn
  have htn := hw.tn
  have h256 := p2_256 hn8
  have hpos := Nat.two_pow_pos n
  refine calls Try.func46 rfl (n := 42) rfl (by simp) ?_
  refine TC.seq ?_
  refine TC.region ?_
  refine TL.box rfl rfl (by decide) (fun b0 hb0 => ?_)
  refine TL.alloc Tb.zero_24 rfl (by decide) (fun b1 hb1 => ?_)
  refine TL.pure (PV.assign rfl) rfl (by decide) ?_
  refine TL.nil ?_
  refine TQ.thenC ?_
  refine TC.seq ?_
  refine TC.seq ?_
  refine TC.region ?_
  refine TL.pure (PV.loadBox rfl Tb.agg_24 (by repeat (first | exact List.Mem.head _ | refine List.Mem.tail _ ?_ | refine List.mem_append_right _ ?_)) rfl) rfl (by decide) ?_
  refine TL.call rfl Tb.gofn_20 (fun a w hs => validate_ok w n s t p cap rs (hr.new hs.new)) rfl (by decide) (fun _ _ => ?_)
  refine TL.pure (PV.assign rfl) rfl (by decide) ?_
  refine TL.nil ?_
  refine TQ.thenC ?_
  refine TC.seq ?_
  refine TC.region ?_
  refine TL.pure (PV.move rfl) rfl (by decide) ?_
  refine TL.pure (PV.neq rfl rfl) rfl (by decide) ?_
  refine TL.nil ?_
  refine TQ.thenC ?_
  first | refine TC.condD rfl (fun hv9 => ?_) (fun hv9 => ?_) | refine TC.cond rfl (fun hv9 => ?_) (fun hv9 => ?_)
  · skip
    refine TC.seq ?_
    refine TC.region ?_
    refine TL.pure (PV.build rfl Tb.zero_24 Tb.pl_24 rfl) rfl (by decide) ?_
    refine TL.pure (PV.move rfl) rfl (by decide) ?_
    refine TL.storeAgg rfl rfl Tb.cells_24 (by repeat (first | exact Upd.head _ | apply Upd.tail | apply Upd.appR)) rfl rfl (by first | rfl | exact sv_one _ _ _ | exact nv_one _ _ _ _ _) rfl rfl ?_
    refine TL.pure (PV.assign rfl) rfl (by decide) ?_
    refine TL.nil ?_
    refine TQ.thenC ?_
    refine TC.ret ?_
    refine TQ.thenR ?_
    refine TQ.retR rfl (Res.agg rfl Tb.agg_24 (by repeat (first | exact List.Mem.head _ | refine List.Mem.tail _ ?_ | refine List.mem_append_right _ ?_)) rfl (Res.tmp rfl Res.nil)) ?_
    simp only [tup]
    exact absurd hd0 hv9
  · skip
    refine TC.skip ?_
    refine TQ.thenC ?_
    refine TC.seq ?_
    refine TC.region ?_
    refine TL.pure (PV.fieldAddr rfl Tb.fo_24_0) rfl (by decide) ?_
    refine TL.pure (PV.load rfl Tb.one_3 (by repeat (first | exact List.Mem.head _ | refine List.Mem.tail _ ?_ | refine List.mem_append_right _ ?_)) rfl) rfl (by decide) ?_
    refine TL.pure (PV.fieldAddr rfl Tb.fo_24_2) rfl (by decide) ?_
    refine TL.pure (PV.load rfl Tb.one_3 (by repeat (first | exact List.Mem.head _ | refine List.Mem.tail _ ?_ | refine List.mem_append_right _ ?_)) rfl) rfl (by decide) ?_
    refine TL.pure (PV.fieldAddr rfl Tb.fo_24_1) rfl (by decide) ?_
    refine TL.pure (PV.load rfl Tb.one_3 (by repeat (first | exact List.Mem.head _ | refine List.Mem.tail _ ?_ | refine List.mem_append_right _ ?_)) rfl) rfl (by decide) ?_
    refine TL.pure (PV.build rfl Tb.zero_24 Tb.pl_24 rfl) rfl (by decide) ?_
    refine TL.alloc Tb.zero_24 rfl (by decide) (fun bN hbN => ?_)
    refine TL.storeAgg (vs := [.int .i64 (n : Nat), .int .i64 (t : Nat), .int .i64 (s : Nat), .slice none 0 0]) rfl rfl Tb.cells_24 (by repeat (first | exact Upd.head _ | apply Upd.tail | apply Upd.appR)) rfl rfl rfl rfl rfl ?_
    refine TL.nil ?_
    refine TQ.thenC ?_
    refine TC.seq ?_
    refine TC.seq ?_
    refine TC.region ?_
    refine TL.pure (PV.fieldAddr rfl Tb.fo_24_3) rfl (by decide) ?_
    refine TL.pure (PV.load rfl Tb.one_22 (by repeat (first | exact List.Mem.head _ | refine List.Mem.tail _ ?_ | refine List.mem_append_right _ ?_)) rfl) rfl (by decide) ?_
    refine TL.pure (PV.len rfl Tb.sl_22) rfl (by decide) ?_
    refine TL.pure (PV.move rfl) rfl (by decide) ?_
    refine TL.nil ?_
    refine TQ.thenC ?_
    refine TC.block ?_
    refine TC.loopK [2, 3, 5, 22, 23] (X := Nat × HD) (fun x => x.1 ≤ rs.length ∧ goB x.2 ((rs.take x.1).map flB)) (fun x => [(24, .int .i64 (x.1 : Nat))]) (fun x => gbB 40 x.2 ((rs.take x.1).map flB) ++ [(bN, Obj.cells #[.int .i64 (n : Nat), .int .i64 (t : Nat), .int .i64 (s : Nat), gval x.2 x.1] 24 (0, 0)), (b1, Obj.cells #[.int .i64 0, .int .i64 0, .int .i64 0, .slice none 0 0] 24 (0, 0)), (b0, Obj.cells #[.int .i64 (n : Nat), .int .i64 (s : Nat), .int .i64 (t : Nat), .slice p rs.length cap] 24 (0, 0))]) (fun x => rs.length - x.1) (0, none) ⟨Nat.zero_le _, rfl, rfl⟩ (by repeat (first | exact True.intro | refine And.intro rfl ?_)) (by repeat (first | exact List.Sublist.slnil | exact List.nil_sublist _ | exact List.Sublist.refl _ | exact List.sublist_append_left _ _ | refine List.Sublist.cons_cons _ ?_ | refine (List.append_sublist_append_left _).2 ?_ | refine List.Sublist.cons _ ?_ | refine List.Sublist.trans ?_ (List.sublist_append_right _ _))) ?_
    intro x hx
    have hx1 := hx.1
    refine TC.seq ?_
    refine TC.region ?_
    refine TL.pure (PV.lss rfl rfl) rfl (by decide) ?_
    refine TL.nil ?_
    refine TQ.thenC ?_
    refine TC.seq ?_
    first | refine TC.condD rfl (fun hlt => ?_) (fun hlt => ?_) | refine TC.cond rfl (fun hlt => ?_) (fun hlt => ?_)
    · skip
      refine TC.skip ?_
      refine TQ.thenC ?_
      refine TC.seq ?_
      refine TC.block ?_
      refine TC.seq ?_
      have hxk : x.1 < rs.length := by omega
      obtain ⟨q, hqp, hq⟩ := hr x.1 (by omega)
      refine TC.region ?_
      refine TL.pure (PV.indexA rfl hqp rfl Tb.elm_22 rfl (by omega)) rfl (by decide) ?_
      refine TL.pure (PV.loadAggA rfl Tb.agg_40 rfl hq) rfl (by decide) ?_
      refine TL.alloc Tb.zero_40 rfl (by decide) (fun bD hbD => ?_)
      refine TL.storeAgg (vs := [.int .i64 (rs.getD x.1 default).a, .int .i64 (rs.getD x.1 default).b, .int .i64 (rs.getD x.1 default).m]) rfl rfl Tb.cells_40 (by repeat (first | exact Upd.head _ | apply Upd.tail | apply Upd.appR)) rfl rfl rfl rfl rfl ?_
      refine TL.nil ?_
      refine TQ.thenC ?_
      refine TC.region ?_
      refine TL.pure (PV.fieldAddr rfl Tb.fo_24_3) rfl (by decide) ?_
      refine TL.pure (PV.load rfl Tb.one_22 (by repeat (first | exact List.Mem.head _ | refine List.Mem.tail _ ?_ | refine List.mem_append_right _ ?_)) rfl) rfl (by decide) ?_
      refine TL.pure (PV.fieldAddr rfl Tb.fo_40_1) rfl (by decide) ?_
      refine TL.pure (PV.load rfl Tb.one_3 (by repeat (first | exact List.Mem.head _ | refine List.Mem.tail _ ?_ | refine List.mem_append_right _ ?_)) rfl) rfl (by decide) ?_
      refine TL.pure (PV.fieldAddr rfl Tb.fo_40_0) rfl (by decide) ?_
      refine TL.pure (PV.load rfl Tb.one_3 (by repeat (first | exact List.Mem.head _ | refine List.Mem.tail _ ?_ | refine List.mem_append_right _ ?_)) rfl) rfl (by decide) ?_
      refine TL.pure (PV.fieldAddr rfl Tb.fo_40_2) rfl (by decide) ?_
      refine TL.pure (PV.load rfl Tb.one_3 (by repeat (first | exact List.Mem.head _ | refine List.Mem.tail _ ?_ | refine List.mem_append_right _ ?_)) rfl) rfl (by decide) ?_
      refine TL.pure (PV.build rfl Tb.zero_40 Tb.pl_40 (fill_d _ _ _)) rfl (by decide) ?_
      refine TL.buildSlice (cs := (flB (rs.getD x.1 default)).cells.toArray) rfl Tb.sl_22 Tb.zi_40 (by decide) (fill_bd (flB (rs.getD x.1 default))) (by decide) rfl (by decide) (fun bE hbE => ?_)
      refine TL.appendBd (h0 := x.2) (ys := (rs.take x.1).map flB) (K0 := x.1) (r := flB (rs.getD x.1 default)) Tb.sl_22 Tb.zi_40 rfl rfl rfl rfl (by repeat (first | exact List.Mem.head _ | refine List.Mem.tail _ ?_ | refine List.mem_append_right _ ?_)) (by rw [List.length_map]; exact take_len hx1) hx.2 (by repeat (first | exact TakeH.here _ _ _ _ | apply TakeH.tail | apply TakeH.app)) (by omega) rfl (by decide) (fun h2 hh2 => ?_)
      refine TL.pure (PV.fieldAddr rfl Tb.fo_24_3) rfl (by decide) ?_
      refine TL.store rfl rfl Tb.cells_22 (gval_one _ _) (by repeat (first | exact Upd.head _ | apply Upd.tail | apply Upd.appR)) (by show 3 < 4; decide) rfl rfl ?_
      refine TL.nil ?_
      refine TQ.blkN ?_
      refine TQ.thenC ?_
      refine TC.region ?_
      refine TL.pure (PV.add rfl rfl (by omega)) rfl (by decide) ?_
      refine TL.pure (PV.move rfl) rfl (by decide) ?_
      refine TL.nil ?_
      refine TQ.thenN ?_
      refine TQ.backK (x.1 + 1, h2) (by repeat (first | exact True.intro | refine And.intro rfl ?_)) (by repeat (first | exact True.intro | refine And.intro rfl ?_)) (by rw [take_flB hxk]; first | exact (by repeat (first | exact List.Sublist.slnil | exact List.nil_sublist _ | exact List.Sublist.refl _ | exact List.sublist_append_left _ _ | refine List.Sublist.cons_cons _ ?_ | refine (List.append_sublist_append_left _).2 ?_ | refine List.Sublist.cons _ ?_ | refine List.Sublist.trans ?_ (List.sublist_append_right _ _))) | skip) ⟨by simp only; omega, by simp only; rw [take_flB hxk]; exact hh2⟩ (by simp only; omega)
    · skip
      refine TC.exit ?_
      refine TQ.thenE ?_
      refine TQ.thenE ?_
      refine TQ.blkS ?_
      refine TQ.thenC ?_
      refine TC.seq ?_
      have hxe : x.1 = rs.length := by omega
      refine TC.region ?_
      refine TL.pure (PV.loadBox rfl Tb.agg_24 (by repeat (first | exact List.Mem.head _ | refine List.Mem.tail _ ?_ | refine List.mem_append_right _ ?_)) rfl) rfl (by decide) ?_
      refine TL.storeAgg rfl rfl Tb.cells_24 (by repeat (first | exact Upd.head _ | apply Upd.tail | apply Upd.appR)) rfl rfl (by first | rfl | exact sv_one _ _ _ | exact nv_one _ _ _ _ _) rfl rfl ?_
      refine TL.pure (PV.assign rfl) rfl (by decide) ?_
      refine TL.nil ?_
      refine TQ.thenC ?_
      refine TC.ret ?_
      refine TQ.retR rfl (Res.agg rfl Tb.agg_24 (by repeat (first | exact List.Mem.head _ | refine List.Mem.tail _ ?_ | refine List.mem_append_right _ ?_)) rfl (Res.tmp rfl Res.nil)) ?_
      simp only [tup]
      exact ⟨⟨n, t, s, x.2, rs.map flB⟩, by unfold NX.val; rw [List.length_map, hxe], NF.good rfl (by have h9 := hx.2; rw [hxe, List.take_length] at h9; exact h9), by rw [hxe, List.take_length]; exact (by repeat (first | exact List.Sublist.slnil | exact List.nil_sublist _ | exact List.Sublist.refl _ | exact List.sublist_append_left _ _ | refine List.Sublist.cons_cons _ ?_ | refine (List.append_sublist_append_left _).2 ?_ | refine List.Sublist.cons _ ?_ | refine List.Sublist.trans ?_ (List.sublist_append_right _ _)))⟩

end Go.Proofs.Ytnlbngbbddhgeaa
