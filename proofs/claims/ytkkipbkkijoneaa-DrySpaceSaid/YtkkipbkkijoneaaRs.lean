/- Steps turned round: the mathematics, and the law's contract. -/
import Derived.Test.YtkkipbkkijoneaaQs
set_option linter.unusedVariables false
set_option linter.unusedSimpArgs false
namespace Go.Proofs.Ytkkipbkkijoneaa
open Go.Sx Go.RowKit Go.Sand

theorem swS_swS (s : St) : swS (swS s) = s := rfl
theorem map_sw2 (ss : List St) : (ss.map swS).map swS = ss := by rw [List.map_map]; exact (List.map_congr_left fun s _ => rfl).trans (List.map_id _)
theorem VM.sw {n : Int} {ss : List St} {m : List Int} (h : VM n ss m) : VM n (ss.map swS) m := ⟨h.toVY.sw, h.ml, h.mb⟩
theorem stS_sw {ss : List St} {i : Int} (hi : 0 ≤ i ∧ i < ss.length) : stS (ss.map swS) i = swS (stS ss i) := sw_at (by omega)
theorem do_back {n : Int} {ss : List St} {m : List Int} (hV : VM n ss m) {i : Int} (hi : 0 ≤ i ∧ i < ss.length) (h : doI m (stS ss i) = 0) :
    doI (doN m (stS ss i)) (swS (stS ss i)) = 0 ∧ doN (doN m (stS ss i)) (swS (stS ss i)) = m := by
  have hk : i.toNat < ss.length := by omega
  have hF := hV.fits hk
  have hc := (do_of h).1
  have hV2 := hV.next hk h
  have h2 : doN (doN m (stS ss i)) (swS (stS ss i)) = m := ints_ext (by rw [doN_len, doN_len]) fun p hp => by
    rw [doN_len, doN_len] at hp
    rw [doN_at (by rw [doN_len]; exact hp), doN_at hp]
    show m.getD p 0 - (stS ss i).t.getD p 0 + (stS ss i).g.getD p 0 - (stS ss i).g.getD p 0 + (stS ss i).t.getD p 0 = _
    omega
  refine ⟨do_0 (can_yes fun p hp => ?_) fun p hp => ?_, h2⟩
  · have h1 := can_q hV hi hc p
    rw [doN_q hV hi]
    show (stS ss i).g.getD p 0 ≤ _
    omega
  · rw [h2]; exact hV.mb p
theorem rn_app {ss : List St} : ∀ (a b m : List Int) (k : Nat), (rn ss m a k).2.2 = 0 → rn ss m (a ++ b) k = rn ss (rn ss m a k).1 b (k + a.length)
  | [], b, m, k, _ => by simp [rn]
  | i :: a, b, m, k, h => by
    by_cases hd : doI m (stS ss i) = 0
    · rw [List.cons_append, rn, if_pos hd]
      rw [rn, if_pos hd] at h ⊢
      rw [rn_app a b (doN m (stS ss i)) (k + 1) h, List.length_cons]
      congr 1
      omega
    · rw [rn, if_neg hd] at h
      exact absurd h hd
theorem rn_back {n : Int} {ss : List St} : ∀ (l m : List Int) (k k2 : Nat), VM n ss m → (∀ j, j < l.length → 0 ≤ l.getD j 0 ∧ l.getD j 0 < ss.length) → (rn ss m l k).2.2 = 0 →
    rn (ss.map swS) (rn ss m l k).1 l.reverse k2 = (m, k2 + l.length, 0)
  | [], m, k, k2, _, _, _ => rfl
  | i :: l, m, k, k2, hV, hl, h0 => by
    have hi := hl 0 (by simp)
    simp only [List.getD_cons_zero] at hi
    have hk : i.toNat < ss.length := by omega
    by_cases hd : doI m (stS ss i) = 0
    · rw [rn, if_pos hd] at h0 ⊢
      have ih := rn_back l (doN m (stS ss i)) (k + 1) k2 (hV.next hk hd) (fun j hj => by have := hl (j + 1) (by simpa using hj); simpa using this) h0
      obtain ⟨h1, h2⟩ := do_back hV hi hd
      rw [List.reverse_cons, rn_app _ _ _ _ (by rw [ih]), ih]
      simp only [List.length_reverse]
      rw [rn, stS_sw hi, if_pos h1, h2, rn, List.length_cons]
      simp only [Prod.mk.injEq, and_true, true_and]
      omega
    · rw [rn, if_neg hd] at h0
      exact absurd h0 hd
theorem run_back {n : Int} {ss : List St} {xs ls : List Int} (h : RunOk n ss xs ls) : runR (trnR n ss).1 (trnR n ss).2 (runR n ss xs ls).1 ls.reverse = (xs, ls.length, 0) := by
  have htr : trnR n ss = (n, ss.map swS) := if_neg (by rw [h.vm.v]; decide)
  rw [htr]
  have hli := list_at h.li
  have h1 : ¬ filI n (ss.map swS) [(runR n ss xs ls).1] ≠ 0 := by rw [h.vme.sw.fil]; decide
  have h2 : ¬ listI (ss.map swS).length ls.reverse ≠ 0 := by
    unfold listI
    rw [List.length_reverse, if_neg (by omega), List.length_map, if_pos ?_]
    · decide
    · rw [List.all_reverse]
      exact all_yes (f := fun x => wiB x 0 (ss.length - 1)) (d := (0 : Int)) fun k hk => decide_eq_true (by have := hli.2 k hk; omega)
  rw [run_3 h1 h2]
  have h9 := h.ok
  rw [h.rn] at h9 ⊢
  rw [rn_back ls xs 0 0 h.vm hli.2 h9, Nat.zero_add]
theorem trn_sm {n : Int} {ss : List St} (h : SmS ss) : SmS (trnR n ss).2 := by
  unfold trnR
  split
  · exact ⟨by simp, fun k => ⟨by simp [List.getD, default, instInhabitedSt.default], by simp [List.getD, default, instInhabitedSt.default]⟩⟩
  · exact h.sw
theorem kind_turn {n : Int} {ss : List St} (h : ¬ validI n ss ≠ 0) (ys : List Int) : kindR 1 (trnR n ss).1 (trnR n ss).2 ys = kindR 0 n ss ys := by
  have htr : trnR n ss = (n, ss.map swS) := if_neg h
  have hV := vy_of h
  rw [htr]
  have hs : setI n (ss.map swS) ys = setI n ss ys := by
    unfold setI
    rw [if_neg h, if_neg (by rw [hV.sw.v]; decide)]
  unfold kindR
  simp only
  rw [hs, kS1, kS0, map_sw2]
def bkF (ls : List Int) (j : Nat) : Int := ls.getD (ls.length - 1 - j) 0
theorem bk_all (ls : List Int) : mk ls.length (bkF ls) = ls.reverse := (mk_eq (by simp) fun j hj => by
  unfold bkF
  rw [List.getD_eq_getElem?_getD, List.getD_eq_getElem?_getD, List.getElem?_reverse hj]).symm
theorem TurnY (w : World) (v : Value) (n : Int) (ss : List St) (h : IsY w v n ss) (hS : SmS ss) :
    Calls Try.prog 47 #[v] w (Post (X := HD × List SR) (fun y => .tuple #[.agg #[.int .i64 (trnR n ss).1, gval y.1 (trnR n ss).2.length], .int .i64 (validI n ss)]) (fun y => ydOk y (trnR n ss).2) (fun y => ydB y) w) := by
  obtain ⟨p, cp, rfl, hr⟩ := h
  exact Turn_ok w n p cp ss hr hS
theorem IsTrapY (w : World) (v : Value) (n : Int) (ss : List St) (h : IsY w v n ss) (hS : SmS ss) (vx : Value) (xs : List Int) (hv : IsI w vx xs) (hl : xs.length ≤ 1000000) :
    Calls Try.prog 50 #[v, vx] w (Post (X := Unit) (fun _ => .tuple #[.bool (kindR 1 n ss xs).1, .int .i64 (kindR 1 n ss xs).2]) (fun _ => True) (fun _ => []) w) := by
  obtain ⟨p, cp, rfl, hr⟩ := h
  exact IsTrap_ok w n p cp ss hr hS vx xs hv hl
theorem RunY (w : World) (v : Value) (n : Int) (ss : List St) (h : IsY w v n ss) (hS : SmS ss) (vx : Value) (xs : List Int) (hv : IsI w vx xs) (hl : xs.length ≤ 1000000) (vz : Value) (ls : List Int) (hw : IsI w vz ls) (hll : ls.length ≤ 1000000) :
    Calls Try.prog 27 #[v, vx, vz] w (Post (X := HD) (fun h => .tuple #[gval h (runR n ss xs ls).1.length, .int .i64 (runR n ss xs ls).2.1, .int .i64 (runR n ss xs ls).2.2]) (fun h => goI (h, (runR n ss xs ls).1)) (fun h => gbI (h, (runR n ss xs ls).1)) w) := by
  obtain ⟨p, cp, rfl, hr⟩ := h
  exact Run_ok w n p cp ss hr hS vx xs hv hl vz ls hw hll
/-- The steps of a yard in new memory; what they take may have been turned. -/
structure ShR (rs Y : List SR) : Prop where
  len : rs.length = Y.length
  t : ∀ j, j < Y.length → (rs.getD j default).ht = (Y.getD j default).ht ∧ (rs.getD j default).s.t.length = (Y.getD j default).s.t.length
theorem ShR.refl (Y : List SR) : ShR Y Y := ⟨rfl, fun _ _ => ⟨rfl, rfl⟩⟩
def tkS (r : SR) (l : List Int) : SR := ⟨r.ht, r.hg, ⟨l, r.s.g⟩⟩
theorem ShR.set {rs Y : List SR} (h : ShR rs Y) {k : Nat} (hk : k < Y.length) {l : List Int} (hl : l.length = (rs.getD k default).s.t.length) : ShR (rs.set k (tkS (rs.getD k default) l)) Y :=
  ⟨by rw [List.length_set]; exact h.len, fun j hj => by
    have h1 := h.t j hj
    by_cases e : k = j
    · subst e
      have e2 : (rs.set k (tkS (rs.getD k default) l)).getD k default = tkS (rs.getD k default) l := by
        rw [List.getD_eq_getElem?_getD, List.getElem?_set_self (by rw [h.len]; exact hk)]; rfl
      rw [e2]
      exact ⟨h1.1, by show l.length = _; rw [hl]; exact h1.2⟩
    · have e2 : (rs.set k (tkS (rs.getD k default) l)).getD j default = rs.getD j default := by
        rw [List.getD_eq_getElem?_getD, List.getElem?_set_ne e, ← List.getD_eq_getElem?_getD]
      rw [e2]; exact h1⟩
theorem srB_cons (r : SR) (rs : List SR) : srB (r :: rs) = gbI (r.ht, r.s.t) ++ (gbI (r.hg, r.s.g) ++ srB rs) := by simp [srB]
theorem srB_app (a b : List SR) : srB (a ++ b) = srB a ++ srB b := by simp [srB]
theorem srB_set {rs : List SR} {k : Nat} (hk : k < rs.length) (l : List Int) (R : Heap) : srB (rs.set k (tkS (rs.getD k default) l)) ++ R = srB (rs.take k) ++ (gbI ((rs.getD k default).ht, l) ++ (gbI ((rs.getD k default).hg, (rs.getD k default).s.g) ++ (srB (rs.drop (k + 1)) ++ R))) := by
  have e : rs.set k (tkS (rs.getD k default) l) = rs.take k ++ tkS (rs.getD k default) l :: rs.drop (k + 1) := List.set_eq_take_append_cons_drop.trans (if_pos hk)
  rw [e, srB_app, srB_cons]
  simp only [List.append_assoc]
  rfl
theorem srB_at {rs : List SR} {k : Nat} (hk : k < rs.length) (R : Heap) : srB rs ++ R = srB (rs.take k) ++ (gbI ((rs.getD k default).ht, (rs.getD k default).s.t) ++ (gbI ((rs.getD k default).hg, (rs.getD k default).s.g) ++ (srB (rs.drop (k + 1)) ++ R))) := by
  rw [← srB_set hk]
  congr 2
  refine (List.ext_getElem (by rw [List.length_set]) fun j h1 h2 => ?_)
  rw [List.getElem_set]
  by_cases e : k = j
  · subst e
    rw [if_pos rfl]
    simp [tkS, List.getD, hk]
  · rw [if_neg e]


end Go.Proofs.Ytkkipbkkijoneaa
