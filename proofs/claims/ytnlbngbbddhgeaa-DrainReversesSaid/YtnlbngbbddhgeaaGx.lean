/- Joined nets, and laws of leaving, turning, widening and joining: contracts. -/
import Derived.Test.YtnlbngbbddhgeaaGw
set_option linter.unusedVariables false
set_option linter.unusedSimpArgs false
namespace Go.Proofs.Ytnlbngbbddhgeaa
open Go.Sx Go.RowKit


section
variable {P : Program} {n : Nat} {w0 : World} {E : Env} {G : Heap} {ty : TypeId} {pos : String} {aft : Array Edge} {g : Option (Nat × Bool)}
theorem TL.callFN {ops : Array Oper} {Q : Exit → Act → World → Prop} {l : List Oper} {d f k : Nat} {xs : List Operand} {ats : Array TypeId} {vs caps : List Value} (v : Value) (hf : Sx.look k E = some (.func (.func f) #[] caps.toArray)) (hx : evs E xs = some vs) (hfn : goFn P f = true)
    (hc : ∀ a w, S n w0 E G a w → Calls P f (vs ++ caps).toArray w (Post (X := Unit) (fun _ => v) (fun _ => True) (fun _ => []) w)) (hg : wants ops E g = some true) (hd : d < n) (h : TL P n w0 ops Q l ((d, v) :: E) G) :
    TL P n w0 ops Q (⟨some d, .call { callee := .value (.tmp k), args := xs.toArray, argTypes := ats }, ty, pos, aft, g⟩ :: l) E G :=
  TL.callF (X := Unit) (fun _ => v) (fun _ => True) (fun _ => G) hf hx hfn (fun a w hs => (hc a w hs).mono fun e w' ⟨x, h1, h2, h3⟩ => ⟨(), h1, trivial, by have := hs.new.trans h3; exact this⟩) hg hd (fun _ _ => h)
theorem PV.neqBF {d : Option Nat} {x y : Operand} {a b : Bool} {t t' : TypeId} (hx : evo E x = some (.bool a)) (hy : evo E y = some (.bool b)) (ht : P.underlying t = some .bool) (h : a = b) : PV P n w0 E G ⟨d, .binOp .neq t x y t', ty, pos, aft, g⟩ (.bool false) := by
  subst h
  have := PV.neqB (P := P) (n := n) (w0 := w0) (G := G) (d := d) (t := t) (t' := t') (ty := ty) (pos := pos) (aft := aft) (g := g) hx hy ht
  simpa using this
theorem PV.lssF {d : Option Nat} {x y : Operand} {i j : Int} {t t' : TypeId} (hx : evo E x = some (.int .i64 i)) (hy : evo E y = some (.int .i64 j)) (h : j ≤ i) : PV P n w0 E G ⟨d, .binOp .lss t x y t', ty, pos, aft, g⟩ (.bool false) := by
  have := PV.lss (P := P) (n := n) (w0 := w0) (G := G) (d := d) (t := t) (t' := t') (ty := ty) (pos := pos) (aft := aft) (g := g) hx hy
  rwa [decide_eq_false (by omega)] at this
theorem PV.geqH {d : Option Nat} {x y : Operand} {i j : Int} {t t' : TypeId} (hx : evo E x = some (.int .i64 i)) (hy : evo E y = some (.int .i64 j)) (h : j ≤ i) : PV P n w0 E G ⟨d, .binOp .geq t x y t', ty, pos, aft, g⟩ (.bool true) := by
  have := PV.geq (P := P) (n := n) (w0 := w0) (G := G) (d := d) (t := t) (t' := t') (ty := ty) (pos := pos) (aft := aft) (g := g) hx hy
  rwa [decide_eq_true (by omega)] at this
end
def nmI (i j v : Int) : Int := if (if v = j then i else v) > j then (if v = j then i else v) - 1 else (if v = j then i else v)
def rnB (i j : Int) (r : Bd) : Bd := ⟨nmI i j r.a, nmI i j r.b, r.m⟩
def jo (i j : Int) (rs : List Bd) : List Bd := (rs.map (rnB i j)).filter fun r => decide (r.a ≠ r.b)
theorem jo_yes {i j : Int} {rs : List Bd} {k : Nat} (hk : k < rs.length) (h : nmI i j (rs.getD k default).a ≠ nmI i j (rs.getD k default).b) : jo i j (rs.take (k + 1)) = jo i j (rs.take k) ++ [rnB i j (rs.getD k default)] := by
  unfold jo
  rw [List.take_succ_eq_append_getElem hk, List.map_append, List.filter_append]
  have e : rs[k] = rs.getD k default := by simp [List.getD, hk]
  rw [e]
  simp only [List.map_cons, List.map_nil, List.filter_cons, List.filter_nil]
  rw [if_pos (decide_eq_true (by simpa [rnB] using h))]
theorem jo_no {i j : Int} {rs : List Bd} {k : Nat} (hk : k < rs.length) (h : ¬ nmI i j (rs.getD k default).a ≠ nmI i j (rs.getD k default).b) : jo i j (rs.take (k + 1)) = jo i j (rs.take k) := by
  unfold jo
  rw [List.take_succ_eq_append_getElem hk, List.map_append, List.filter_append]
  have e : rs[k] = rs.getD k default := by simp [List.getD, hk]
  rw [e]
  simp only [List.map_cons, List.map_nil, List.filter_cons, List.filter_nil]
  rw [if_neg (by simpa [rnB] using h), List.append_nil]
theorem jo_len (i j : Int) (rs : List Bd) : (jo i j rs).length ≤ rs.length := Nat.le_trans (List.length_filter_le _ _) (by simp)
theorem jo_take_len (i j : Int) (rs : List Bd) (k : Nat) : (jo i j (rs.take k)).length ≤ rs.length := Nat.le_trans (jo_len _ _ _) (by rw [List.length_take]; omega)
def joI (n s t i j : Int) : Int := if ¬ ((0 ≤ i ∧ i < n) ∧ (0 ≤ j ∧ j < n)) then 4 else if i = j ∨ (i = s ∧ j = t) ∨ (i = t ∧ j = s) then 1 else 0
theorem joI_4 {n s t i j : Int} (h : ¬ ((0 ≤ i ∧ i < n) ∧ (0 ≤ j ∧ j < n))) : joI n s t i j = 4 := if_pos h
theorem joI_1 {n s t i j : Int} (h : (0 ≤ i ∧ i < n) ∧ (0 ≤ j ∧ j < n)) (h2 : i = j ∨ (i = s ∧ j = t) ∨ (i = t ∧ j = s)) : joI n s t i j = 1 := by unfold joI; rw [if_neg (fun h9 => h9 h), if_pos h2]
theorem joI_0 {n s t i j : Int} (h : (0 ≤ i ∧ i < n) ∧ (0 ≤ j ∧ j < n)) (h2 : ¬ (i = j ∨ (i = s ∧ j = t) ∨ (i = t ∧ j = s))) : joI n s t i j = 0 := by unfold joI; rw [if_neg (fun h9 => h9 h), if_neg h2]
theorem joI_is {n s t i j : Int} (h : joI n s t i j = 0) : ((0 ≤ i ∧ i < n) ∧ (0 ≤ j ∧ j < n)) ∧ ¬ (i = j ∨ (i = s ∧ j = t) ∨ (i = t ∧ j = s)) := by
  unfold joI at h
  split at h
  · exact absurd h (by decide)
  · rename_i h1
    split at h
    · exact absurd h (by decide)
    · rename_i h2; exact ⟨Decidable.not_not.1 h1, h2⟩
theorem nm_eq {n s t i j : Int} (h : (0 ≤ i ∧ i < n) ∧ (0 ≤ j ∧ j < n)) (hs : 0 ≤ s ∧ s < n) (ht : 0 ≤ t ∧ t < n) (hst : s ≠ t) (hij : i ≠ j) : nmI i j s = nmI i j t ↔ ((i = s ∧ j = t) ∨ (i = t ∧ j = s)) := by
  unfold nmI
  (repeat' split) <;> omega
theorem nm_bd {n i j v : Int} (h : (0 ≤ i ∧ i < n) ∧ (0 ≤ j ∧ j < n)) (hij : i ≠ j) (hv : 0 ≤ v ∧ v < n) : 0 ≤ nmI i j v ∧ nmI i j v < n - 1 := by
  unfold nmI
  (repeat' split) <;> omega
theorem nm_bd0 {n i j v : Int} (h : (0 ≤ i ∧ i < n) ∧ (0 ≤ j ∧ j < n)) (hv : 0 ≤ v ∧ v < n) : 0 ≤ nmI i j v ∧ nmI i j v < n := by
  unfold nmI
  (repeat' split) <;> omega
theorem Vd.join {n s t i j : Int} {rs : List Bd} (hv : Vd n s t rs) (h : joI n s t i j = 0) : Vd (n - 1) (nmI i j s) (nmI i j t) (jo i j rs) := by
  obtain ⟨h1, h2⟩ := joI_is h
  have hs := hv.s0; have ht := hv.t0; have hst := hv.st; have hn := hv.n8
  have hne : nmI i j s ≠ nmI i j t := fun e => h2 (.inr ((nm_eq h1 hs ht hst (fun e => h2 (.inl e))).1 e))
  have b1 := nm_bd h1 (fun e => h2 (.inl e)) hs
  have b2 := nm_bd h1 (fun e => h2 (.inl e)) ht
  refine .all (by omega) (by omega) b1 b2 hne (by have := jo_len i j rs; have := hv.len; omega) fun k hk => ?_
  have hm : (jo i j rs).getD k default ∈ jo i j rs := by simp [List.getD, hk]
  obtain ⟨hm1, hm2⟩ := List.mem_filter.1 hm
  obtain ⟨r, hr, e⟩ := List.mem_map.1 hm1
  have h3 := ok_spec (List.all_eq_true.1 hv.ok r hr)
  have h4 := of_decide_eq_true hm2
  rw [← e] at h4 ⊢
  have c1 := nm_bd h1 (fun e => h2 (.inl e)) h3.1
  have c2 := nm_bd h1 (fun e => h2 (.inl e)) h3.2.1
  exact decide_eq_true (by simp only [rnB] at h4 ⊢; omega)
def nmN (i j : Int) (v : Nat) : Nat := (nmI i j v).toNat
theorem dr0_map (rs : List Bd) : dr0 rs = rs.map fun r => mkE r 0 := by
  apply List.ext_getElem
  · simp [dr0, mkL]
  · intro k h1 h2
    have hk : k < rs.length := by simpa [dr0, mkL] using h1
    simp [dr0, mkL, List.getD, hk]
theorem dr0_jo {n s t i j : Int} {rs : List Bd} (hv : Vd n s t rs) (h : joI n s t i j = 0) : dr0 (jo i j rs) = Fl.ren (nmN i j) (dr0 rs) := by
  obtain ⟨h1, h2⟩ := joI_is h
  rw [dr0_map, dr0_map]
  unfold Fl.ren jo
  have hok := hv.ok
  clear hv
  induction rs with
  | nil => rfl
  | cons r l ih =>
    rw [List.all_cons, Bool.and_eq_true] at hok
    have ih := ih hok.2
    have hr := ok_spec hok.1
    have c1 := nm_bd h1 (fun e => h2 (.inl e)) hr.1
    have c2 := nm_bd h1 (fun e => h2 (.inl e)) hr.2.1
    simp only [List.map_cons, List.filter_cons] at ih ⊢
    have ea : nmN i j (mkE r 0).f = (nmI i j r.a).toNat := by show (nmI i j ((r.a.toNat : Nat) : Int)).toNat = _; rw [show ((r.a.toNat : Nat) : Int) = r.a from by omega]
    have eb : nmN i j (mkE r 0).t = (nmI i j r.b).toNat := by show (nmI i j ((r.b.toNat : Nat) : Int)).toNat = _; rw [show ((r.b.toNat : Nat) : Int) = r.b from by omega]
    by_cases e : nmI i j r.a = nmI i j r.b
    · rw [if_neg (by simp [rnB, e]), if_neg (by simp only [ea, eb, e]; simp), ih]
    · rw [if_pos (by simp [rnB, e]), if_pos (by simp only [ea, eb]; exact decide_eq_true (by omega)), List.map_cons, ih]
      simp only [ea, eb]
      rfl
theorem mw_jo {n s t : Nat} {i j : Int} {rs : List Bd} (hv : Vd n s t rs) (h : joI n s t i j = 0) : Fl.mw s t (dr0 rs) ≤ Fl.mw (nmI i j s).toNat (nmI i j t).toNat (dr0 (jo i j rs)) := by
  have hj := hv.join h
  have h1 := hj.s0; have h2 := hj.t0; have h3 := hj.st
  rw [dr0_jo hv h]
  exact Fl.mw_ren (nmN i j) (by unfold nmN; omega) hv.w1.nn
theorem IsN.cast {w : World} {v : Value} {n s t n' s' t' : Int} {rs rs' : List Bd} (h : IsN w v n s t rs) (e1 : n = n') (e2 : s = s') (e3 : t = t') (e4 : rs = rs') : IsN w v n' s' t' rs' := by subst e1; subst e2; subst e3; subst e4; exact h
theorem NF.same {E n s t : Int} {rs : List Bd} {a1 a2 a3 b1 b2 b3 : Int} {ah bh : HD} {al bl : List Bd} (h1 : NF E n s t rs ⟨a1, a2, a3, ah, al⟩) (h2 : NF E n s t rs ⟨b1, b2, b3, bh, bl⟩) : b1 = a1 ∧ b2 = a2 ∧ b3 = a3 ∧ bl = al := by
  obtain ⟨_, ⟨e, x1, x2, x3, x4⟩ | ⟨e, x1, x2, x3, x4⟩⟩ := h1 <;> obtain ⟨_, ⟨e', y1, y2, y3, y4⟩ | ⟨e', y1, y2, y3, y4⟩⟩ := h2 <;> simp only at x1 x2 x3 x4 y1 y2 y3 y4
  · exact ⟨y1.trans x1.symm, y2.trans x2.symm, y3.trans x3.symm, y4.trans x4.symm⟩
  · exact absurd e e'
  · exact absurd e' e
  · exact ⟨y1.trans x1.symm, y2.trans x2.symm, y3.trans x3.symm, y4.trans x4.symm⟩
theorem NF.is {E n s t : Int} {rs : List Bd} {a1 a2 a3 : Int} {ah : HD} {al : List Bd} (h1 : NF E n s t rs ⟨a1, a2, a3, ah, al⟩) (h : E = 0) : a1 = n ∧ a2 = s ∧ a3 = t ∧ al = rs := by
  obtain ⟨_, ⟨_, x1, x2, x3, x4⟩ | ⟨h9, _⟩⟩ := h1
  · exact ⟨x1, x2, x3, x4⟩
  · exact absurd h h9
theorem NF.not {E n s t : Int} {rs : List Bd} {a1 a2 a3 : Int} {ah : HD} {al : List Bd} (h1 : NF E n s t rs ⟨a1, a2, a3, ah, al⟩) (h : E ≠ 0) : a1 = 0 ∧ a2 = 0 ∧ a3 = 0 ∧ al = [] := by
  obtain ⟨_, ⟨h9, _⟩ | ⟨_, x1, x2, x3, x4⟩⟩ := h1
  · exact absurd h9 h
  · exact ⟨x1, x2, x3, x4⟩
theorem NF.ok {E n s t : Int} {rs : List Bd} {a1 a2 a3 : Int} {ah : HD} {al : List Bd} (h1 : NF E n s t rs ⟨a1, a2, a3, ah, al⟩) : goB ah al := h1.1
theorem same_t {w : World} {va vb : Value} {n s t : Int} {rs : List Bd} (h1 : IsN w va n s t rs) (h2 : IsN w vb n s t rs) (hl : rs.length ≤ 100000) : Calls Try.prog 45 #[va, vb] w (Post (X := Unit) (fun _ => .bool true) (fun _ => True) (fun _ => []) w) := by
  have h := same_ok w va vb n s t n s t rs rs h1 h2 hl hl
  unfold sameN at h
  rw [decide_eq_true ⟨rfl, rfl, rfl, rfl⟩] at h
  exact h
theorem Reverse_N {w : World} {v : Value} {n s t : Nat} {rs : List Bd} (h : IsN w v n s t rs) (hv : Vd n s t rs) :
    Calls Try.prog 46 #[v] w (Post (X := HD) (fun h => .tuple #[.agg #[.int .i64 n, .int .i64 t, .int .i64 s, gval h rs.length], .int .i64 0]) (fun h => goB h (rs.map flB)) (fun h => gbB 40 h (rs.map flB)) w) := by
  obtain ⟨p, c, rfl, hr⟩ := h
  exact Reverse_g w n s t p c rs hr hv
theorem rReverse_g (w0 : World) (n s t : Nat) (p : Option Addr) (cap : Nat) (rs : List Bd) (hr : BdsAt w0 p rs) (hv : Vd n s t rs) :
    Calls Try.prog 47 #[dnV n s t p rs.length cap] w0 (Post (X := HD) (fun h => .tuple #[.agg #[.int .i64 n, .int .i64 t, .int .i64 s, gval h rs.length], .int .i64 0]) (fun h => goB h (rs.map flB)) (fun h => gbB 40 h (rs.map flB)) w0) :=
  (rReverse_v w0 n s t p cap rs hr hv hv.dI).mono fun e w' ⟨x, h1, h2, h3⟩ => by
    obtain ⟨xn, xs, xt, xh, xl⟩ := x
    obtain ⟨ho, ⟨_, e1, e2, e3, e4⟩ | ⟨h9, _⟩⟩ := h2
    · simp only at e1 e2 e3 e4 ho h3
      subst e1; subst e2; subst e3; subst e4
      exact ⟨xh, by rw [h1]; unfold NX.val; simp only [List.length_map], ho, h3⟩
    · exact absurd rfl h9
theorem Widen_N {w : World} {v : Value} {n s t : Nat} {rs : List Bd} (h : IsN w v n s t rs) (hv : Vd n s t rs) (k by_ : Int) (hby : -9223372036854775808 ≤ by_ ∧ by_ ≤ 9223372036854775807) :
    Calls Try.prog 43 #[v, .int .i64 k, .int .i64 by_] w (Post (X := NX) (fun x => .tuple #[x.val, .int .i64 (widI rs k by_)]) (fun x => NF (widI rs k by_) n s t (wdR rs k by_) x) (fun x => gbB 40 x.h x.l) w) := by
  obtain ⟨p, c, rfl, hr⟩ := h
  exact Widen_v w n s t p c rs hr hv hv.dI k by_ hby
theorem Widen_nN {w : World} {v : Value} {n s t : Int} {rs : List Bd} (h : IsN w v n s t rs) (hd0 : dI n s t rs ≠ 0) (k by_ : Int) :
    Calls Try.prog 43 #[v, .int .i64 k, .int .i64 by_] w (Post (X := Unit) (fun _ => .tuple #[.agg #[.int .i64 0, .int .i64 0, .int .i64 0, .slice none 0 0], .int .i64 (dI n s t rs)]) (fun _ => True) (fun _ => []) w) := by
  obtain ⟨p, c, rfl, hr⟩ := h
  exact Widen_n w n s t p c rs hr hd0 k by_
theorem bds0 {w : World} : BdsAt w none [] := fun j hj => absurd hj (Nat.not_lt_zero _)
theorem IsN.zero {w : World} : IsN w (.agg #[.int .i64 0, .int .i64 0, .int .i64 0, .slice none 0 0]) 0 0 0 [] := ⟨none, 0, rfl, bds0⟩
theorem mw_640 {n s t : Nat} {rs : List Bd} (hw : W1 n s t rs) : 0 ≤ Fl.mw s t (dr0 rs) ∧ Fl.mw s t (dr0 rs) ≤ 640 := by
  obtain ⟨S, hS⟩ := Fl.minC_ex hw.st hw.nn
  rw [← hS.eq]; exact hw.cut' S
/-- Another width: the most changes by at most as much. -/
theorem mw_wdR {n s t : Nat} {rs : List Bd} (hv : Vd n s t rs) {k by_ : Int} (h : widI rs k by_ = 0) :
    Vd n s t (wdR rs k by_) ∧ (0 ≤ k ∧ k < rs.length) ∧ (-20 ≤ by_ ∧ by_ ≤ 20) ∧ Fl.mw s t (dr0 (wdR rs k by_)) ≤ Fl.mw s t (dr0 rs) + max by_ 0 ∧ Fl.mw s t (dr0 rs) + min by_ 0 ≤ Fl.mw s t (dr0 (wdR rs k by_)) := by
  have hk : 0 ≤ k ∧ k < rs.length := Decidable.byContradiction fun h9 => by rw [widI_4 h9] at h; exact absurd h (by decide)
  have hb : 0 ≤ (rs.getD k.toNat default).m + by_ ∧ (rs.getD k.toNat default).m + by_ ≤ 20 := Decidable.byContradiction fun h9 => by rw [widI_1 hk h9] at h; exact absurd h (by decide)
  have hkn : k.toNat < rs.length := by omega
  have hma := hv.at hkn
  have h1 := Fl.mw_wid_up (k := k.toNat) (w := (rs.getD k.toNat default).m + by_) hv.w1.st hv.w1.nn (by rw [mkL_len]; exact hkn) hb.1
  rw [← dr0_wdB hkn, dr0_at hkn, show (rs.getD k.toNat default).m + by_ - (mkE (rs.getD k.toNat default) 0).w = by_ from by show (rs.getD k.toNat default).m + by_ - (rs.getD k.toNat default).m = by_; omega] at h1
  exact ⟨hv.wd _ hb, hk, by omega, h1.1, h1.2⟩
theorem wt_one {s t : Nat} {rs : List Bd} {k : Int} (hk : 0 ≤ k ∧ k < rs.length) : decide (Fl.mw s t (dr0 (wdR rs k 1)) > Fl.mw s t (dr0 rs)) = decide (k ∈ lst (wtS s t rs) rs.length) := by
  refine decide_eq_decide.2 ?_
  rw [mem_lst]
  unfold wtS wdR
  rw [decide_eq_true_iff]
  exact ⟨fun h => ⟨hk.1, hk.2, h⟩, fun h => h.2.2⟩


set_option maxRecDepth 100000 in
theorem has_ok (w0 : World) (vx : Value) (xs : List Int) (hv : IsI w0 vx xs) (u : Int) (hl : xs.length ≤ 1000000) :
    Calls Try.prog 41 #[vx, .int .i64 u] w0 (Post (X := Unit) (fun _ => .bool (decide (u ∈ xs))) (fun _ => True) (fun _ => []) w0) := by
  obtain ⟨p1, c1, rfl, hx⟩ := hv
  refine calls Try.func41 rfl (n := 18) rfl (by simp) ?_
  refine TC.seq ?_
  refine TC.region ?_
  refine TL.pure (PV.assign rfl) rfl (by decide) ?_
  refine TL.nil ?_
  refine TQ.thenC ?_
  refine TC.seq ?_
  refine TC.seq ?_
  refine TC.region ?_
  refine TL.pure (PV.assign rfl) rfl (by decide) ?_
  refine TL.nil ?_
  refine TQ.thenC ?_
  refine TC.block ?_
  -- live and written in the loop, not told: [4]
  refine TC.loopK [0, 1] (X := Nat) (fun k => k ≤ xs.length ∧ u ∉ xs.take k) (fun k => [(5, .int .i64 k)]) (fun k => []) (fun k => xs.length - k) 0 ⟨Nat.zero_le _, by simp⟩ (by repeat (first | exact True.intro | refine And.intro rfl ?_)) (by repeat (first | exact List.Sublist.slnil | exact List.nil_sublist _ | exact List.Sublist.refl _ | refine List.Sublist.cons_cons _ ?_ | refine List.Sublist.cons _ ?_ | refine List.Sublist.trans ?_ (List.sublist_append_right _ _))) ?_
  intro k hk
  refine TC.seq ?_
  refine TC.seq ?_
  refine TC.region ?_
  refine TL.pure (PV.move rfl) rfl (by decide) ?_
  refine TL.pure (PV.move rfl) rfl (by decide) ?_
  refine TL.pure (PV.len rfl Tb.sl_25) rfl (by decide) ?_
  refine TL.pure (PV.lss rfl rfl) rfl (by decide) ?_
  refine TL.nil ?_
  refine TQ.thenC ?_
  first | refine TC.condD rfl (fun hlt => ?_) (fun hlt => ?_) | refine TC.cond rfl (fun hlt => ?_) (fun hlt => ?_)
  · skip
    refine TC.skip ?_
    refine TQ.thenC ?_
    refine TC.seq ?_
    refine TC.block ?_
    refine TC.seq ?_
    obtain ⟨q, hqp, hq⟩ := hx k (by omega)
    refine TC.region ?_
    refine TL.pure (PV.move rfl) rfl (by decide) ?_
    refine TL.pure (PV.move rfl) rfl (by decide) ?_
    refine TL.pure (PV.indexA rfl hqp rfl Tb.elm_25 rfl (by omega)) rfl (by decide) ?_
    refine TL.pure (PV.loadOld rfl Tb.one_3 hq) rfl (by decide) ?_
    refine TL.pure (PV.move rfl) rfl (by decide) ?_
    refine TL.pure (PV.eql rfl rfl) rfl (by decide) ?_
    refine TL.nil ?_
    refine TQ.thenC ?_
    first | refine TC.condD rfl (fun heq => ?_) (fun heq => ?_) | refine TC.cond rfl (fun heq => ?_) (fun heq => ?_)
    · skip
      refine TC.seq ?_
      refine TC.region ?_
      refine TL.pure (PV.assign rfl) rfl (by decide) ?_
      refine TL.nil ?_
      refine TQ.thenC ?_
      refine TC.ret ?_
      refine TQ.blkR ?_
      refine TQ.thenR ?_
      refine TQ.thenR ?_
      refine TQ.blkR ?_
      refine TQ.thenR ?_
      refine TQ.retE1 rfl rfl ?_
      exact ⟨(), by rw [decide_eq_true (mem_at (k := k) (by omega) (by omega))], trivial, List.nil_sublist _⟩
    · skip
      refine TC.skip ?_
      refine TQ.blkN ?_
      refine TQ.thenC ?_
      refine TC.region ?_
      refine TL.pure (PV.move rfl) rfl (by decide) ?_
      refine TL.pure (PV.add rfl rfl (by omega)) rfl (by decide) ?_
      refine TL.pure (PV.assign rfl) rfl (by decide) ?_
      refine TL.nil ?_
      refine TQ.thenN ?_
      refine TQ.backK (k + 1) (by repeat (first | exact True.intro | refine And.intro rfl ?_)) (by repeat (first | exact True.intro | refine And.intro rfl ?_)) (by repeat (first | exact List.Sublist.slnil | exact List.nil_sublist _ | exact List.Sublist.refl _ | refine List.Sublist.cons_cons _ ?_ | refine List.Sublist.cons _ ?_ | refine List.Sublist.trans ?_ (List.sublist_append_right _ _))) ⟨by omega, fun h9 => ((take_mem (by omega)).1 h9).elim hk.2 heq⟩ (by omega)
  · skip
    refine TC.exit ?_
    refine TQ.thenE ?_
    refine TQ.thenE ?_
    refine TQ.blkS ?_
    refine TQ.thenC ?_
    refine TC.seq ?_
    have hke : k = xs.length := by omega
    refine TC.region ?_
    refine TL.pure (PV.assign rfl) rfl (by decide) ?_
    refine TL.nil ?_
    refine TQ.thenC ?_
    refine TC.ret ?_
    refine TQ.retE1 rfl rfl ?_
    exact ⟨(), by rw [decide_eq_false (by have h9 := hk.2; rw [hke, List.take_length] at h9; exact h9)], trivial, List.nil_sublist _⟩

end Go.Proofs.Ytnlbngbbddhgeaa
