/- Steps turned round: the mathematics, and the law's contract. -/
import Derived.Test.YtkkipbkkijoneaaDq
set_option linter.unusedVariables false
set_option linter.unusedSimpArgs false
namespace Go.Proofs.Ytkkipbkkijoneaa
open Go.Sx Go.RowKit Go.Sand

theorem swS_swS (s : St) : swS (swS s) = s := rfl
theorem map_sw2 (ss : List St) : (ss.map swS).map swS = ss := by rw [List.map_map]; exact (List.map_congr_left fun s _ => rfl).trans (List.map_id _)
theorem VM.sw {n : Int} {ss : List St} {m : List Int} (h : VM n ss m) : VM n (ss.map swS) m := ⟨h.toVY.sw, h.ml, h.mb⟩
theorem stS_sw {ss : List St} {i : Int} (hi : 0 ≤ i ∧ i < ss.length) : stS (ss.map swS) i = swS (stS ss i) := sw_at (by omega)
theorem do_back {n : Int} {ss : List St} {m : List Int} (hV : VM n ss m) {i : Int} (hi : 0 ≤ i ∧ i < ss.length) (h : doI m (stS ss i) = 0) :
    doI (doN m (stS ss i)) (swS (stS ss i)) = 0 ∧ doN (doN m (stS ss i)) (swS (stS ss i)) = m := by
  have hk : i.toNat < ss.length := by omega
  have hF := hV.fits hk
  have hc := (do_of h).1
  have hV2 := hV.next hk h
  have h2 : doN (doN m (stS ss i)) (swS (stS ss i)) = m := ints_ext (by rw [doN_len, doN_len]) fun p hp => by
    rw [doN_len, doN_len] at hp
    rw [doN_at (by rw [doN_len]; exact hp), doN_at hp]
    show m.getD p 0 - (stS ss i).t.getD p 0 + (stS ss i).g.getD p 0 - (stS ss i).g.getD p 0 + (stS ss i).t.getD p 0 = _
    omega
  refine ⟨do_0 (can_yes fun p hp => ?_) fun p hp => ?_, h2⟩
  · have h1 := can_q hV hi hc p
    rw [doN_q hV hi]
    show (stS ss i).g.getD p 0 ≤ _
    omega
  · rw [h2]; exact hV.mb p
theorem rn_app {ss : List St} : ∀ (a b m : List Int) (k : Nat), (rn ss m a k).2.2 = 0 → rn ss m (a ++ b) k = rn ss (rn ss m a k).1 b (k + a.length)
  | [], b, m, k, _ => by simp [rn]
  | i :: a, b, m, k, h => by
    by_cases hd : doI m (stS ss i) = 0
    · rw [List.cons_append, rn, if_pos hd]
      rw [rn, if_pos hd] at h ⊢
      rw [rn_app a b (doN m (stS ss i)) (k + 1) h, List.length_cons]
      congr 1
      omega
    · rw [rn, if_neg hd] at h
      exact absurd h hd
theorem rn_back {n : Int} {ss : List St} : ∀ (l m : List Int) (k k2 : Nat), VM n ss m → (∀ j, j < l.length → 0 ≤ l.getD j 0 ∧ l.getD j 0 < ss.length) → (rn ss m l k).2.2 = 0 →
    rn (ss.map swS) (rn ss m l k).1 l.reverse k2 = (m, k2 + l.length, 0)
  | [], m, k, k2, _, _, _ => rfl
  | i :: l, m, k, k2, hV, hl, h0 => by
    have hi := hl 0 (by simp)
    simp only [List.getD_cons_zero] at hi
    have hk : i.toNat < ss.length := by omega
    by_cases hd : doI m (stS ss i) = 0
    · rw [rn, if_pos hd] at h0 ⊢
      have ih := rn_back l (doN m (stS ss i)) (k + 1) k2 (hV.next hk hd) (fun j hj => by have := hl (j + 1) (by simpa using hj); simpa using this) h0
      obtain ⟨h1, h2⟩ := do_back hV hi hd
      rw [List.reverse_cons, rn_app _ _ _ _ (by rw [ih]), ih]
      simp only [List.length_reverse]
      rw [rn, stS_sw hi, if_pos h1, h2, rn, List.length_cons]
      simp only [Prod.mk.injEq, and_true, true_and]
      omega
    · rw [rn, if_neg hd] at h0
      exact absurd h0 hd
theorem run_back {n : Int} {ss : List St} {xs ls : List Int} (h : RunOk n ss xs ls) : runR (trnR n ss).1 (trnR n ss).2 (runR n ss xs ls).1 ls.reverse = (xs, ls.length, 0) := by
  have htr : trnR n ss = (n, ss.map swS) := if_neg (by rw [h.vm.v]; decide)
  rw [htr]
  have hli := list_at h.li
  have h1 : ¬ filI n (ss.map swS) [(runR n ss xs ls).1] ≠ 0 := by rw [h.vme.sw.fil]; decide
  have h2 : ¬ listI (ss.map swS).length ls.reverse ≠ 0 := by
    unfold listI
    rw [List.length_reverse, if_neg (by omega), List.length_map, if_pos ?_]
    · decide
    · rw [List.all_reverse]
      exact all_yes (f := fun x => wiB x 0 (ss.length - 1)) (d := (0 : Int)) fun k hk => decide_eq_true (by have := hli.2 k hk; omega)
  rw [run_3 h1 h2]
  have h9 := h.ok
  rw [h.rn] at h9 ⊢
  rw [rn_back ls xs 0 0 h.vm hli.2 h9, Nat.zero_add]
theorem trn_sm {n : Int} {ss : List St} (h : SmS ss) : SmS (trnR n ss).2 := by
  unfold trnR
  split
  · exact ⟨by simp, fun k => ⟨by simp [List.getD, default, instInhabitedSt.default], by simp [List.getD, default, instInhabitedSt.default]⟩⟩
  · exact h.sw
theorem kind_turn {n : Int} {ss : List St} (h : ¬ validI n ss ≠ 0) (ys : List Int) : kindR 1 (trnR n ss).1 (trnR n ss).2 ys = kindR 0 n ss ys := by
  have htr : trnR n ss = (n, ss.map swS) := if_neg h
  have hV := vy_of h
  rw [htr]
  have hs : setI n (ss.map swS) ys = setI n ss ys := by
    unfold setI
    rw [if_neg h, if_neg (by rw [hV.sw.v]; decide)]
  unfold kindR
  simp only
  rw [hs, kS1, kS0, map_sw2]
def bkF (ls : List Int) (j : Nat) : Int := ls.getD (ls.length - 1 - j) 0
theorem bk_all (ls : List Int) : mk ls.length (bkF ls) = ls.reverse := (mk_eq (by simp) fun j hj => by
  unfold bkF
  rw [List.getD_eq_getElem?_getD, List.getD_eq_getElem?_getD, List.getElem?_reverse hj]).symm
theorem TurnY (w : World) (v : Value) (n : Int) (ss : List St) (h : IsY w v n ss) (hS : SmS ss) :
    Calls Try.prog 47 #[v] w (Post (X := HD × List SR) (fun y => .tuple #[.agg #[.int .i64 (trnR n ss).1, gval y.1 (trnR n ss).2.length], .int .i64 (validI n ss)]) (fun y => ydOk y (trnR n ss).2) (fun y => ydB y) w) := by
  obtain ⟨p, cp, rfl, hr⟩ := h
  exact Turn_ok w n p cp ss hr hS
theorem IsTrapY (w : World) (v : Value) (n : Int) (ss : List St) (h : IsY w v n ss) (hS : SmS ss) (vx : Value) (xs : List Int) (hv : IsI w vx xs) (hl : xs.length ≤ 1000000) :
    Calls Try.prog 50 #[v, vx] w (Post (X := Unit) (fun _ => .tuple #[.bool (kindR 1 n ss xs).1, .int .i64 (kindR 1 n ss xs).2]) (fun _ => True) (fun _ => []) w) := by
  obtain ⟨p, cp, rfl, hr⟩ := h
  exact IsTrap_ok w n p cp ss hr hS vx xs hv hl
theorem RunY (w : World) (v : Value) (n : Int) (ss : List St) (h : IsY w v n ss) (hS : SmS ss) (vx : Value) (xs : List Int) (hv : IsI w vx xs) (hl : xs.length ≤ 1000000) (vz : Value) (ls : List Int) (hw : IsI w vz ls) (hll : ls.length ≤ 1000000) :
    Calls Try.prog 27 #[v, vx, vz] w (Post (X := HD) (fun h => .tuple #[gval h (runR n ss xs ls).1.length, .int .i64 (runR n ss xs ls).2.1, .int .i64 (runR n ss xs ls).2.2]) (fun h => goI (h, (runR n ss xs ls).1)) (fun h => gbI (h, (runR n ss xs ls).1)) w) := by
  obtain ⟨p, cp, rfl, hr⟩ := h
  exact Run_ok w n p cp ss hr hS vx xs hv hl vz ls hw hll
/-- The steps of a yard in new memory; what they take may have been turned. -/
structure ShR (rs Y : List SR) : Prop where
  len : rs.length = Y.length
  t : ∀ j, j < Y.length → (rs.getD j default).ht = (Y.getD j default).ht ∧ (rs.getD j default).s.t.length = (Y.getD j default).s.t.length
theorem ShR.refl (Y : List SR) : ShR Y Y := ⟨rfl, fun _ _ => ⟨rfl, rfl⟩⟩
def tkS (r : SR) (l : List Int) : SR := ⟨r.ht, r.hg, ⟨l, r.s.g⟩⟩
theorem ShR.set {rs Y : List SR} (h : ShR rs Y) {k : Nat} (hk : k < Y.length) {l : List Int} (hl : l.length = (rs.getD k default).s.t.length) : ShR (rs.set k (tkS (rs.getD k default) l)) Y :=
  ⟨by rw [List.length_set]; exact h.len, fun j hj => by
    have h1 := h.t j hj
    by_cases e : k = j
    · subst e
      have e2 : (rs.set k (tkS (rs.getD k default) l)).getD k default = tkS (rs.getD k default) l := by
        rw [List.getD_eq_getElem?_getD, List.getElem?_set_self (by rw [h.len]; exact hk)]; rfl
      rw [e2]
      exact ⟨h1.1, by show l.length = _; rw [hl]; exact h1.2⟩
    · have e2 : (rs.set k (tkS (rs.getD k default) l)).getD j default = rs.getD j default := by
        rw [List.getD_eq_getElem?_getD, List.getElem?_set_ne e, ← List.getD_eq_getElem?_getD]
      rw [e2]; exact h1⟩
theorem srB_cons (r : SR) (rs : List SR) : srB (r :: rs) = gbI (r.ht, r.s.t) ++ (gbI (r.hg, r.s.g) ++ srB rs) := by simp [srB]
theorem srB_app (a b : List SR) : srB (a ++ b) = srB a ++ srB b := by simp [srB]
theorem srB_set {rs : List SR} {k : Nat} (hk : k < rs.length) (l : List Int) (R : Heap) : srB (rs.set k (tkS (rs.getD k default) l)) ++ R = srB (rs.take k) ++ (gbI ((rs.getD k default).ht, l) ++ (gbI ((rs.getD k default).hg, (rs.getD k default).s.g) ++ (srB (rs.drop (k + 1)) ++ R))) := by
  have e : rs.set k (tkS (rs.getD k default) l) = rs.take k ++ tkS (rs.getD k default) l :: rs.drop (k + 1) := List.set_eq_take_append_cons_drop.trans (if_pos hk)
  rw [e, srB_app, srB_cons]
  simp only [List.append_assoc]
  rfl
theorem srB_at {rs : List SR} {k : Nat} (hk : k < rs.length) (R : Heap) : srB rs ++ R = srB (rs.take k) ++ (gbI ((rs.getD k default).ht, (rs.getD k default).s.t) ++ (gbI ((rs.getD k default).hg, (rs.getD k default).s.g) ++ (srB (rs.drop (k + 1)) ++ R))) := by
  rw [← srB_set hk]
  congr 2
  refine (List.ext_getElem (by rw [List.length_set]) fun j h1 h2 => ?_)
  rw [List.getElem_set]
  by_cases e : k = j
  · subst e
    rw [if_pos rfl]
    simp [tkS, List.getD, hk]
  · rw [if_neg e]


set_option maxRecDepth 100000 in
set_option maxHeartbeats 8000000 in
theorem dryTurns_ok (w0 : World) (n : Int) (p : Option Addr) (cp : Nat) (ss : List St) (hr : StsAt w0 p ss) (pl : Option Addr) (cl : Nat) (xs : List Int) (hx : IntsAt w0 pl xs) (p2 : Option Addr) (c2 : Nat) (ys : List Int) (hy : IntsAt w0 p2 ys) (pz : Option Addr) (cz : Nat) (ls : List Int) (hz : IntsAt w0 pz ls) :
    Calls Try.prog 15 #[yv n p ss.length cp, .agg #[.slice pl xs.length cl, .slice p2 ys.length c2], .slice pz ls.length cz] w0 (Post (X := Unit) (fun _ => .bool true) (fun _ => True) (fun _ => []) w0) := by
  refine calls Try.func15 rfl (n := 170) rfl (by simp) ?_
  refine TC.seq ?_
  refine TC.region ?_
  refine TL.box rfl rfl (by decide) (fun b0 hb0 => ?_)
  refine TL.box rfl rfl (by decide) (fun b1 hb1 => ?_)
  refine TL.pure (PV.assign rfl) rfl (by decide) ?_
  refine TL.nil ?_
  refine TQ.thenC ?_
  refine TC.seq ?_
  refine TC.seq ?_
  refine TC.region ?_
  refine TL.pure (PV.loadBox rfl Tb.agg_24 (by repeat (first | exact List.Mem.head _ | refine List.Mem.tail _ ?_ | refine List.mem_append_right _ ?_)) rfl) rfl (by decide) ?_
  refine TL.call rfl Tb.gofn_17 (fun a w hs => long_ok w _ _ _ _ (hr.new hs.new)) rfl (by decide) (fun _ _ => ?_)
  refine TL.pure (PV.move rfl) rfl (by decide) ?_
  first | refine TL.splitD 29 rfl (fun e1 => ?_) (fun e1 => ?_) | refine TL.split 29 rfl (fun e1 => ?_) (fun e1 => ?_)
  · skip
    refine TL.skip rfl (fun k hk => by cases hk; decide) ?_
    refine TL.skip rfl (fun k hk => by cases hk; decide) ?_
    refine TL.skip rfl (fun k hk => by cases hk; decide) ?_
    refine TL.pure (PV.pickT rfl rfl) rfl (by decide) ?_
    refine TL.pure (PV.move rfl) rfl (by decide) ?_
    refine TL.skip rfl (fun k hk => by cases hk; decide) ?_
    refine TL.skip rfl (fun k hk => by cases hk; decide) ?_
    refine TL.skip rfl (fun k hk => by cases hk; decide) ?_
    refine TL.pure (PV.pickT rfl rfl) rfl (by decide) ?_
    refine TL.pure (PV.move rfl) rfl (by decide) ?_
    refine TL.skip rfl (fun k hk => by cases hk; decide) ?_
    refine TL.skip rfl (fun k hk => by cases hk; decide) ?_
    refine TL.pure (PV.pickT rfl rfl) rfl (by decide) ?_
    refine TL.nil ?_
    refine TQ.thenC ?_
    refine TC.condT rfl ?_
    refine TC.seq ?_
    refine TC.region ?_
    refine TL.call rfl Tb.gofn_19 (fun a w hs => known_ok w) rfl (by decide) (fun _ _ => ?_)
    refine TL.pure (PV.assign rfl) rfl (by decide) ?_
    refine TL.nil ?_
    refine TQ.thenC ?_
    refine TC.ret ?_
    refine TQ.thenR ?_
    refine TQ.retE1 rfl rfl ?_
    first | exact ⟨(), rfl, trivial, List.nil_sublist _⟩ | (exfalso; simp_all; done)
  · skip
    refine TL.pure (PV.fieldAddr rfl Tb.fo_43_0) rfl (by decide) ?_
    refine TL.pure (PV.load rfl Tb.one_25 (by repeat (first | exact List.Mem.head _ | refine List.Mem.tail _ ?_ | refine List.mem_append_right _ ?_)) rfl) rfl (by decide) ?_
    refine TL.call rfl Tb.gofn_18 (fun a w hs => large_ok w _ _ (IsI.of (hx.new hs.new))) rfl (by decide) (fun _ _ => ?_)
    refine TL.pure (PV.pickF rfl rfl) rfl (by decide) ?_
    refine TL.pure (PV.move rfl) rfl (by decide) ?_
    first | refine TL.splitD 34 rfl (fun e2 => ?_) (fun e2 => ?_) | refine TL.split 34 rfl (fun e2 => ?_) (fun e2 => ?_)
    · skip
      refine TL.skip rfl (fun k hk => by cases hk; decide) ?_
      refine TL.skip rfl (fun k hk => by cases hk; decide) ?_
      refine TL.skip rfl (fun k hk => by cases hk; decide) ?_
      refine TL.pure (PV.pickT rfl rfl) rfl (by decide) ?_
      refine TL.pure (PV.move rfl) rfl (by decide) ?_
      refine TL.skip rfl (fun k hk => by cases hk; decide) ?_
      refine TL.skip rfl (fun k hk => by cases hk; decide) ?_
      refine TL.pure (PV.pickT rfl rfl) rfl (by decide) ?_
      refine TL.nil ?_
      refine TQ.thenC ?_
      refine TC.condT rfl ?_
      refine TC.seq ?_
      refine TC.region ?_
      refine TL.call rfl Tb.gofn_19 (fun a w hs => known_ok w) rfl (by decide) (fun _ _ => ?_)
      refine TL.pure (PV.assign rfl) rfl (by decide) ?_
      refine TL.nil ?_
      refine TQ.thenC ?_
      refine TC.ret ?_
      refine TQ.thenR ?_
      refine TQ.retE1 rfl rfl ?_
      first | exact ⟨(), rfl, trivial, List.nil_sublist _⟩ | (exfalso; simp_all; done)
    · skip
      refine TL.pure (PV.fieldAddr rfl Tb.fo_43_1) rfl (by decide) ?_
      refine TL.pure (PV.load rfl Tb.one_25 (by repeat (first | exact List.Mem.head _ | refine List.Mem.tail _ ?_ | refine List.mem_append_right _ ?_)) rfl) rfl (by decide) ?_
      refine TL.call rfl Tb.gofn_18 (fun a w hs => large_ok w _ _ (IsI.of (hy.new hs.new))) rfl (by decide) (fun _ _ => ?_)
      refine TL.pure (PV.pickF rfl rfl) rfl (by decide) ?_
      refine TL.pure (PV.move rfl) rfl (by decide) ?_
      first | refine TL.splitD 39 rfl (fun e3 => ?_) (fun e3 => ?_) | refine TL.split 39 rfl (fun e3 => ?_) (fun e3 => ?_)
      · skip
        refine TL.skip rfl (fun k hk => by cases hk; decide) ?_
        refine TL.skip rfl (fun k hk => by cases hk; decide) ?_
        refine TL.pure (PV.pickT rfl rfl) rfl (by decide) ?_
        refine TL.nil ?_
        refine TQ.thenC ?_
        refine TC.condT rfl ?_
        refine TC.seq ?_
        refine TC.region ?_
        refine TL.call rfl Tb.gofn_19 (fun a w hs => known_ok w) rfl (by decide) (fun _ _ => ?_)
        refine TL.pure (PV.assign rfl) rfl (by decide) ?_
        refine TL.nil ?_
        refine TQ.thenC ?_
        refine TC.ret ?_
        refine TQ.thenR ?_
        refine TQ.retE1 rfl rfl ?_
        first | exact ⟨(), rfl, trivial, List.nil_sublist _⟩ | (exfalso; simp_all; done)
      · skip
        refine TL.pure (PV.move rfl) rfl (by decide) ?_
        refine TL.call rfl Tb.gofn_18 (fun a w hs => large_ok w _ _ (IsI.of (hz.new hs.new))) rfl (by decide) (fun _ _ => ?_)
        refine TL.pure (PV.pickF rfl rfl) rfl (by decide) ?_
        refine TL.nil ?_
        refine TQ.thenC ?_
        first | refine TC.condD rfl (fun e4 => ?_) (fun e4 => ?_) | refine TC.cond rfl (fun e4 => ?_) (fun e4 => ?_)
        · skip
          refine TC.seq ?_
          refine TC.region ?_
          refine TL.call rfl Tb.gofn_19 (fun a w hs => known_ok w) rfl (by decide) (fun _ _ => ?_)
          refine TL.pure (PV.assign rfl) rfl (by decide) ?_
          refine TL.nil ?_
          refine TQ.thenC ?_
          refine TC.ret ?_
          refine TQ.thenR ?_
          refine TQ.retE1 rfl rfl ?_
          first | exact ⟨(), rfl, trivial, List.nil_sublist _⟩ | (exfalso; simp_all; done)
        · skip
          refine TC.skip ?_
          refine TQ.thenC ?_
          refine TC.seq ?_
          have hS := long_0 e1
          have hl : xs.length ≤ 1000000 := by omega
          have hl2 : ys.length ≤ 1000000 := by omega
          have hll : ls.length ≤ 1000000 := by omega
          refine TC.region ?_
          refine TL.pure (PV.loadBox rfl Tb.agg_24 (by repeat (first | exact List.Mem.head _ | refine List.Mem.tail _ ?_ | refine List.mem_append_right _ ?_)) rfl) rfl (by decide) ?_
          refine TL.call rfl Tb.gofn_57 (fun a w hs => copy_ok w _ _ _ _ (hr.new hs.new) hS) rfl (by decide) (fun y0 hy0 => ?_)
          rw [id_map] at hy0
          rw [id_map]
          refine TL.alloc Tb.zero_24 rfl (by decide) (fun bO hbO => ?_)
          refine TL.storeAgg (vs := [.int .i64 n, gval y0.1 ss.length]) rfl rfl Tb.cells_24 (by repeat (first | exact Upd.head _ | apply Upd.tail | apply Upd.appR)) rfl rfl (sv_one _ _ _) rfl rfl ?_
          refine TL.nil ?_
          refine TQ.thenC ?_
          refine TC.seq ?_
          refine TC.region ?_
          refine TL.pure (PV.loadBox (cs := [.int .i64 n, gval y0.1 ss.length]) rfl Tb.agg_24 (by repeat (first | exact List.Mem.head _ | refine List.Mem.tail _ ?_ | refine List.mem_append_right _ ?_)) rfl) rfl (by decide) ?_
          refine TL.call rfl Tb.gofn_47 (fun a w hs => TurnY w _ n ss (IsY.sr hy0 hs.new (fun yy hyy => by repeat (first | exact List.mem_append_left _ hyy | exact List.mem_append_left _ (List.mem_append_right _ hyy) | exact List.mem_append_left _ (List.mem_append_left _ hyy) | refine List.mem_append_right _ ?_ | refine List.Mem.tail _ ?_))) hS) rfl (by decide) (fun y1 hy1 => ?_)
          refine TL.pure (PV.move rfl) rfl (by decide) ?_
          refine TL.pure (PV.extract rfl rfl) rfl (by decide) ?_
          refine TL.pure (PV.extract rfl rfl) rfl (by decide) ?_
          refine TL.alloc Tb.zero_24 rfl (by decide) (fun bA hbA => ?_)
          refine TL.storeAgg (vs := [.int .i64 (trnR n ss).1, gval y1.1 (trnR n ss).2.length]) rfl rfl Tb.cells_24 (by repeat (first | exact Upd.head _ | apply Upd.tail | apply Upd.appR)) rfl rfl (sv_one _ _ _) rfl rfl ?_
          refine TL.pure (PV.assign rfl) rfl (by decide) ?_
          refine TL.nil ?_
          refine TQ.thenC ?_
          refine TC.seq ?_
          refine TC.region ?_
          refine TL.pure (PV.loadBox rfl Tb.agg_24 (by repeat (first | exact List.Mem.head _ | refine List.Mem.tail _ ?_ | refine List.mem_append_right _ ?_)) rfl) rfl (by decide) ?_
          refine TL.call rfl Tb.gofn_58 (fun a w hs => rTurn_ok w _ _ _ _ (hr.new hs.new) hS) rfl (by decide) (fun y2 hy2 => ?_)
          refine TL.pure (PV.move rfl) rfl (by decide) ?_
          refine TL.pure (PV.extract rfl rfl) rfl (by decide) ?_
          refine TL.pure (PV.extract rfl rfl) rfl (by decide) ?_
          refine TL.alloc Tb.zero_24 rfl (by decide) (fun bB hbB => ?_)
          refine TL.storeAgg (vs := [.int .i64 (trnR n ss).1, gval y2.1 (trnR n ss).2.length]) rfl rfl Tb.cells_24 (by repeat (first | exact Upd.head _ | apply Upd.tail | apply Upd.appR)) rfl rfl (sv_one _ _ _) rfl rfl ?_
          refine TL.pure (PV.assign rfl) rfl (by decide) ?_
          refine TL.nil ?_
          refine TQ.thenC ?_
          refine TC.seq ?_
          refine TC.seq ?_
          refine TC.region ?_
          refine TL.pure (PV.loadBox (cs := [.int .i64 (trnR n ss).1, gval y1.1 (trnR n ss).2.length]) rfl Tb.agg_24 (by repeat (first | exact List.Mem.head _ | refine List.Mem.tail _ ?_ | refine List.mem_append_right _ ?_)) rfl) rfl (by decide) ?_
          refine TL.pure (PV.loadBox (cs := [.int .i64 (trnR n ss).1, gval y2.1 (trnR n ss).2.length]) rfl Tb.agg_24 (by repeat (first | exact List.Mem.head _ | refine List.Mem.tail _ ?_ | refine List.mem_append_right _ ?_)) rfl) rfl (by decide) ?_
          refine TL.call rfl Tb.gofn_59 (fun a w hs => Same_ok w _ _ (trnR n ss).1 (trnR n ss).1 (trnR n ss).2 (trnR n ss).2 (IsY.sr hy1 hs.new (fun yy hyy => by repeat (first | exact List.mem_append_left _ hyy | exact List.mem_append_left _ (List.mem_append_right _ hyy) | exact List.mem_append_left _ (List.mem_append_left _ hyy) | refine List.mem_append_right _ ?_ | refine List.Mem.tail _ ?_))) (IsY.sr hy2 hs.new (fun yy hyy => by repeat (first | exact List.mem_append_left _ hyy | exact List.mem_append_left _ (List.mem_append_right _ hyy) | exact List.mem_append_left _ (List.mem_append_left _ hyy) | refine List.mem_append_right _ ?_ | refine List.Mem.tail _ ?_))) (trn_sm hS) (trn_sm hS)) rfl (by decide) (fun _ _ => ?_)
          refine TL.pure ((by first | exact PV.notD rfl | exact PV.not rfl)) rfl (by decide) ?_
          refine TL.pure (PV.move rfl) rfl (by decide) ?_
          first | refine TL.splitD 60 rfl (fun g1 => ?_) (fun g1 => ?_) | refine TL.split 60 rfl (fun g1 => ?_) (fun g1 => ?_)
          · skip
            exact (g1 ⟨rfl, rfl⟩).elim
          · skip
            refine TL.pure (PV.move rfl) rfl (by decide) ?_
            refine TL.pure (PV.move rfl) rfl (by decide) ?_
            refine TL.pure (PV.neq rfl rfl) rfl (by decide) ?_
            refine TL.pure (PV.pickF rfl rfl) rfl (by decide) ?_
            refine TL.nil ?_
            refine TQ.thenC ?_
            first | refine TC.condD rfl (fun g2 => ?_) (fun g2 => ?_) | refine TC.cond rfl (fun g2 => ?_) (fun g2 => ?_)
            · skip
              exact (g2 rfl).elim
            · skip
              refine TC.skip ?_
              refine TQ.thenC ?_
              refine TC.seq ?_
              refine TC.region ?_
              refine TL.pure (PV.loadBox rfl Tb.agg_24 (by repeat (first | exact List.Mem.head _ | refine List.Mem.tail _ ?_ | refine List.mem_append_right _ ?_)) rfl) rfl (by decide) ?_
              refine TL.pure (PV.fieldAddr rfl Tb.fo_43_1) rfl (by decide) ?_
              refine TL.pure (PV.load rfl Tb.one_25 (by repeat (first | exact List.Mem.head _ | refine List.Mem.tail _ ?_ | refine List.mem_append_right _ ?_)) rfl) rfl (by decide) ?_
              refine TL.call rfl Tb.gofn_48 (fun a w hs => IsSiphon_ok w _ _ _ _ (hr.new hs.new) hS _ _ (IsI.of (hy.new hs.new)) hl2) rfl (by decide) (fun _ _ => ?_)
              refine TL.pure (PV.move rfl) rfl (by decide) ?_
              refine TL.pure (PV.extract rfl rfl) rfl (by decide) ?_
              refine TL.pure (PV.extract rfl rfl) rfl (by decide) ?_
              refine TL.pure (PV.assign rfl) rfl (by decide) ?_
              refine TL.pure (PV.assign rfl) rfl (by decide) ?_
              refine TL.nil ?_
              refine TQ.thenC ?_
              refine TC.seq ?_
              refine TC.region ?_
              refine TL.pure (PV.loadBox (cs := [.int .i64 (trnR n ss).1, gval y1.1 (trnR n ss).2.length]) rfl Tb.agg_24 (by repeat (first | exact List.Mem.head _ | refine List.Mem.tail _ ?_ | refine List.mem_append_right _ ?_)) rfl) rfl (by decide) ?_
              refine TL.pure (PV.fieldAddr rfl Tb.fo_43_1) rfl (by decide) ?_
              refine TL.pure (PV.load rfl Tb.one_25 (by repeat (first | exact List.Mem.head _ | refine List.Mem.tail _ ?_ | refine List.mem_append_right _ ?_)) rfl) rfl (by decide) ?_
              refine TL.call rfl Tb.gofn_50 (fun a w hs => IsTrapY w _ (trnR n ss).1 (trnR n ss).2 (IsY.sr hy1 hs.new (fun yy hyy => by repeat (first | exact List.mem_append_left _ hyy | exact List.mem_append_left _ (List.mem_append_right _ hyy) | exact List.mem_append_left _ (List.mem_append_left _ hyy) | refine List.mem_append_right _ ?_ | refine List.Mem.tail _ ?_))) (trn_sm hS) _ _ (IsI.of (hy.new hs.new)) hl2) rfl (by decide) (fun _ _ => ?_)
              refine TL.pure (PV.move rfl) rfl (by decide) ?_
              refine TL.pure (PV.extract rfl rfl) rfl (by decide) ?_
              refine TL.pure (PV.extract rfl rfl) rfl (by decide) ?_
              refine TL.pure (PV.assign rfl) rfl (by decide) ?_
              refine TL.pure (PV.assign rfl) rfl (by decide) ?_
              refine TL.nil ?_
              refine TQ.thenC ?_
              refine TC.seqG [2, 3, 4, 6, 7, 8] (X := Unit) (fun x => True) (fun x => [(16, .bool true)]) ?_ ?_
              · skip
                refine TC.region ?_
                refine TL.pure (PV.move rfl) rfl (by decide) ?_
                refine TL.pure (PV.neq rfl rfl) rfl (by decide) ?_
                refine TL.pure (PV.move rfl) rfl (by decide) ?_
                first | refine TL.splitD 81 rfl (fun c1 => ?_) (fun c1 => ?_) | refine TL.split 81 rfl (fun c1 => ?_) (fun c1 => ?_)
                · skip
                  refine TL.skip rfl (fun k hk => by cases hk; decide) ?_
                  try (have hkk := kind_turn c1 ys; rw [hkk])
                  refine TL.skip rfl (fun k hk => by cases hk; decide) ?_
                  refine TL.skip rfl (fun k hk => by cases hk; decide) ?_
                  refine TL.skip rfl (fun k hk => by cases hk; decide) ?_
                  refine TL.skipU rfl (fun k hk => by cases hk; decide) ?_
                  refine TL.skipU rfl (fun k hk => by cases hk; decide) ?_
                  refine TL.skipU rfl (fun k hk => by cases hk; decide) ?_
                  refine TL.skip rfl (fun k hk => by cases hk; decide) ?_
                  refine TL.pure (PV.pickT rfl rfl) rfl (by decide) ?_
                  refine TL.pure (PV.assign rfl) rfl (by decide) ?_
                  refine TL.nil ?_
                  refine TQ.thenN ?_
                  refine TQ.midK () (And.intro (by first | rfl | (show some (Value.bool (decide _)) = _; rw [decide_eq_true rfl]) | (show some (Value.bool _) = _; simp)) True.intro) (by repeat (first | exact True.intro | refine And.intro rfl ?_)) (by repeat (first | exact List.Sublist.slnil | exact List.nil_sublist _ | exact List.Sublist.refl _ | refine List.Sublist.cons_cons _ ?_ | refine List.Sublist.cons _ ?_ | refine List.Sublist.trans ?_ (List.sublist_append_right _ _))) (by first | trivial | omega)
                · skip
                  refine TL.pure (PV.move rfl) rfl (by decide) ?_
                  try (have hkk := kind_turn c1 ys; rw [hkk])
                  refine TL.pure (PV.move rfl) rfl (by decide) ?_
                  refine TL.pure (PV.eql rfl rfl) rfl (by decide) ?_
                  refine TL.pure (PV.move rfl) rfl (by decide) ?_
                  first | refine TL.splitD 85 rfl (fun c2 => ?_) (fun c2 => ?_) | refine TL.split 85 rfl (fun c2 => ?_) (fun c2 => ?_)
                  · skip
                    refine TL.pure (PV.move rfl) rfl (by decide) ?_
                    refine TL.pure (PV.move rfl) rfl (by decide) ?_
                    refine TL.pure (PV.eqlB rfl rfl Tb.bool_4) rfl (by decide) ?_
                    refine TL.pure (PV.pickT rfl rfl) rfl (by decide) ?_
                    refine TL.pure (PV.pickF rfl rfl) rfl (by decide) ?_
                    refine TL.pure (PV.assign rfl) rfl (by decide) ?_
                    refine TL.nil ?_
                    refine TQ.thenN ?_
                    refine TQ.midK () (And.intro (by first | rfl | (show some (Value.bool (decide _)) = _; rw [decide_eq_true rfl]) | (show some (Value.bool _) = _; simp)) True.intro) (by repeat (first | exact True.intro | refine And.intro rfl ?_)) (by repeat (first | exact List.Sublist.slnil | exact List.nil_sublist _ | exact List.Sublist.refl _ | refine List.Sublist.cons_cons _ ?_ | refine List.Sublist.cons _ ?_ | refine List.Sublist.trans ?_ (List.sublist_append_right _ _))) (by first | trivial | omega)
                  · skip
                    exact (c2 rfl).elim
              · skip
                intro xj hj9
                refine TC.lit [(2, _), (3, _), (4, _), (6, _), (7, _), (8, _), (16, _)] (by repeat (first | exact True.intro | refine And.intro rfl ?_)) ?_
                refine TC.seq ?_
                refine TC.region ?_
                refine TL.pure (PV.loadBox rfl Tb.agg_24 (by repeat (first | exact List.Mem.head _ | refine List.Mem.tail _ ?_ | refine List.mem_append_right _ ?_)) rfl) rfl (by decide) ?_
                refine TL.pure (PV.fieldAddr rfl Tb.fo_43_0) rfl (by decide) ?_
                refine TL.pure (PV.load rfl Tb.one_25 (by repeat (first | exact List.Mem.head _ | refine List.Mem.tail _ ?_ | refine List.mem_append_right _ ?_)) rfl) rfl (by decide) ?_
                refine TL.pure (PV.move rfl) rfl (by decide) ?_
                refine TL.call rfl Tb.gofn_27 (fun a w hs => Run_ok w _ _ _ _ (hr.new hs.new) hS _ _ (IsI.of (hx.new hs.new)) hl _ _ (IsI.of (hz.new hs.new)) hll) rfl (by decide) (fun hA hhA => ?_)
                refine TL.pure (PV.move rfl) rfl (by decide) ?_
                refine TL.pure (PV.extract rfl rfl) rfl (by decide) ?_
                refine TL.pure (PV.extract rfl rfl) rfl (by decide) ?_
                refine TL.pure (PV.extract rfl rfl) rfl (by decide) ?_
                refine TL.pure (PV.assign rfl) rfl (by decide) ?_
                refine TL.pure (PV.assign rfl) rfl (by decide) ?_
                refine TL.pure (PV.assign rfl) rfl (by decide) ?_
                refine TL.nil ?_
                refine TQ.thenC ?_
                refine TC.seqG [3, 6, 7, 8] (X := Unit) (fun x => True) (fun x => [(16, .bool true)]) ?_ ?_
                · skip
                  refine TC.seq ?_
                  refine TC.region ?_
                  refine TL.pure (PV.move rfl) rfl (by decide) ?_
                  refine TL.pure (PV.eql rfl rfl) rfl (by decide) ?_
                  refine TL.nil ?_
                  refine TQ.thenC ?_
                  first | refine TC.condD rfl (fun a1 => ?_) (fun a1 => ?_) | refine TC.cond rfl (fun a1 => ?_) (fun a1 => ?_)
                  · skip
                    refine TC.seq ?_
                    have hrk := run_ok (fun h => h a1)
                    refine TC.region ?_
                    refine TL.pure (PV.assign rfl) rfl (by decide) ?_
                    refine TL.nil ?_
                    refine TQ.thenC ?_
                    refine TC.seq ?_
                    refine TC.seq ?_
                    refine TC.region ?_
                    refine TL.pure (PV.move rfl) rfl (by decide) ?_
                    refine TL.pure (PV.len rfl Tb.sl_25) rfl (by decide) ?_
                    refine TL.pure (PV.sub rfl rfl (by omega)) rfl (by decide) ?_
                    refine TL.pure (PV.assign rfl) rfl (by decide) ?_
                    refine TL.nil ?_
                    refine TQ.thenC ?_
                    refine TC.block ?_
                    refine TC.lit [(2, _), (3, _), (4, _), (6, _), (7, _), (8, _), (16, _), (17, _), (20, _), (21, _)] (by repeat (first | exact True.intro | refine And.intro rfl ?_)) ?_
                    refine TC.loopK [2, 3, 4, 6, 7, 8, 16, 17] (X := Nat × HD) (fun x => x.1 ≤ ls.length ∧ goI (x.2, mk x.1 (bkF ls))) (fun x => [(21, .int .i64 ((ls.length : Int) - 1 - x.1)), (20, gval x.2 x.1)]) (fun x => gbI (x.2, mk x.1 (bkF ls)) ++ (gbI (hA, (runR n ss xs ls).1) ++ ((bB, Obj.cells #[.int .i64 (trnR n ss).1, gval y2.1 (trnR n ss).2.length] 24 (0, 0)) :: (ydB y2 ++ ((bA, Obj.cells #[.int .i64 (trnR n ss).1, gval y1.1 (trnR n ss).2.length] 24 (0, 0)) :: (ydB y1 ++ ((bO, Obj.cells #[.int .i64 n, gval y0.1 ss.length] 24 (0, 0)) :: (ydB y0 ++ [(b1, Obj.cells #[.slice pl xs.length cl, .slice p2 ys.length c2] 43 (0, 0)), (b0, Obj.cells #[.int .i64 n, .slice p ss.length cp] 24 (0, 0))])))))))) (fun x => ls.length - x.1) (0, none) ⟨Nat.zero_le _, goI_nil⟩ (by refine And.intro ?_ (And.intro rfl True.intro); show some (Value.int .i64 _) = some (Value.int .i64 _); congr 2; simp) (List.Sublist.refl _) ?_
                    intro x hx9
                    refine TC.lit [(2, _), (3, _), (4, _), (6, _), (7, _), (8, _), (16, _), (17, _), (20, _), (21, _)] (by repeat (first | exact True.intro | refine And.intro rfl ?_)) ?_
                    refine TC.seq ?_
                    refine TC.seq ?_
                    refine TC.region ?_
                    refine TL.pure (PV.move rfl) rfl (by decide) ?_
                    refine TL.pure (PV.geq rfl rfl) rfl (by decide) ?_
                    refine TL.nil ?_
                    refine TQ.thenC ?_
                    first | refine TC.condD rfl (fun hlt => ?_) (fun hlt => ?_) | refine TC.cond rfl (fun hlt => ?_) (fun hlt => ?_)
                    · skip
                      refine TC.skip ?_
                      refine TQ.thenC ?_
                      refine TC.seq ?_
                      refine TC.block ?_
                      obtain ⟨q1, hq1p, hq1⟩ := hz (ls.length - 1 - x.1) (by omega)
                      refine TC.region ?_
                      refine TL.pure (PV.move rfl) rfl (by decide) ?_
                      refine TL.pure (PV.move rfl) rfl (by decide) ?_
                      refine TL.pure (PV.move rfl) rfl (by decide) ?_
                      refine TL.pure (PV.indexA (j := ls.length - 1 - x.1) rfl hq1p rfl Tb.elm_25 (by omega) (by omega)) rfl (by decide) ?_
                      refine TL.pure (PV.loadOld rfl Tb.one_3 hq1) rfl (by decide) ?_
                      refine TL.buildSlice (cs := #[.int .i64 (bkF ls x.1)]) rfl Tb.sl_25 Tb.zi_3 (by decide) (fill_i _) (by decide) rfl (by decide) (fun bE hbE => ?_)
                      refine TL.appendI (x0 := (x.2, mk x.1 (bkF ls))) (by show some (gval x.2 x.1) = some (gval x.2 (mk x.1 _).length); rw [mk_len]) rfl (by repeat (first | exact List.Mem.head _ | refine List.Mem.tail _ ?_ | refine List.mem_append_right _ ?_)) hx9.2 (by repeat (first | exact TakeH.here _ _ _ _ | apply TakeH.tail | apply TakeH.app)) (by show (mk x.1 _).length ≤ 1000000; rw [mk_len]; omega) rfl (by decide) (fun hh hho => ?_)
                      refine TL.pure (PV.assign rfl) rfl (by decide) ?_
                      refine TL.nil ?_
                      refine TQ.blkN ?_
                      refine TQ.thenC ?_
                      refine TC.region ?_
                      refine TL.pure (PV.move rfl) rfl (by decide) ?_
                      refine TL.pure (PV.sub rfl rfl (by omega)) rfl (by decide) ?_
                      refine TL.pure (PV.assign rfl) rfl (by decide) ?_
                      refine TL.nil ?_
                      refine TQ.thenN ?_
                      refine TQ.backK (x.1 + 1, hh) (by refine And.intro ?_ (And.intro ?_ True.intro); (show some (Value.int .i64 _) = some (Value.int .i64 _); congr 2; simp only; omega); (show some (gval hh (mk x.1 _ ++ [_]).length) = some (gval hh (x.1 + 1)); rw [List.length_append, mk_len]; rfl)) (by repeat (first | exact True.intro | refine And.intro rfl ?_)) (by simp only [mk_succ]; exact List.Sublist.append_left (List.sublist_cons_self _ _) _) ⟨by simp only; omega, by simp only; rw [mk_succ]; exact hho⟩ (by simp only; omega)
                    · skip
                      refine TC.exit ?_
                      refine TQ.thenE ?_
                      refine TQ.thenE ?_
                      refine TQ.blkS ?_
                      refine TQ.thenC ?_
                      refine TC.seq ?_
                      have hxe : x.1 = ls.length := by omega
                      have hbk : runR (trnR n ss).1 (trnR n ss).2 (runR n ss xs ls).1 (mk x.1 (bkF ls)) = (xs, ls.length, 0) := by rw [hxe, bk_all]; exact run_back hrk
                      refine TC.region ?_
                      refine TL.pure (PV.loadBox (cs := [.int .i64 (trnR n ss).1, gval y1.1 (trnR n ss).2.length]) rfl Tb.agg_24 (by repeat (first | exact List.Mem.head _ | refine List.Mem.tail _ ?_ | refine List.mem_append_right _ ?_)) rfl) rfl (by decide) ?_
                      refine TL.pure (PV.move rfl) rfl (by decide) ?_
                      refine TL.pure (PV.move rfl) rfl (by decide) ?_
                      refine TL.call rfl Tb.gofn_27 (fun a w hs => RunY w _ (trnR n ss).1 (trnR n ss).2 (IsY.sr hy1 hs.new (fun yy hyy => by repeat (first | exact List.mem_append_left _ hyy | exact List.mem_append_left _ (List.mem_append_right _ hyy) | exact List.mem_append_left _ (List.mem_append_left _ hyy) | refine List.mem_append_right _ ?_ | refine List.Mem.tail _ ?_))) (trn_sm hS) _ _ (IsI.g (h := hA) (xs := (runR n ss xs ls).1) hs.new (fun yy hyy => by repeat (first | exact List.mem_append_left _ hyy | exact List.mem_append_left _ (List.mem_append_right _ hyy) | exact List.mem_append_left _ (List.mem_append_left _ hyy) | refine List.mem_append_right _ ?_ | refine List.Mem.tail _ ?_)) hhA) (runR_l hl) _ (mk x.1 (bkF ls)) (IsI.gl (mk_len _ _) hs.new (fun yy hyy => by repeat (first | exact List.mem_append_left _ hyy | exact List.mem_append_left _ (List.mem_append_right _ hyy) | exact List.mem_append_left _ (List.mem_append_left _ hyy) | refine List.mem_append_right _ ?_ | refine List.Mem.tail _ ?_)) hx9.2) (by rw [mk_len]; omega)) rfl (by decide) (fun hR hhR => ?_)
                      rw [hbk] at hhR
                      rw [hbk]
                      refine TL.pure (PV.move rfl) rfl (by decide) ?_
                      refine TL.pure (PV.extract rfl rfl) rfl (by decide) ?_
                      refine TL.pure (PV.extract rfl rfl) rfl (by decide) ?_
                      refine TL.pure (PV.extract rfl rfl) rfl (by decide) ?_
                      refine TL.pure (PV.assign rfl) rfl (by decide) ?_
                      refine TL.pure (PV.assign rfl) rfl (by decide) ?_
                      refine TL.pure (PV.assign rfl) rfl (by decide) ?_
                      refine TL.nil ?_
                      refine TQ.thenC ?_
                      refine TC.region ?_
                      refine TL.pure (PV.move rfl) rfl (by decide) ?_
                      refine TL.pure (PV.move rfl) rfl (by decide) ?_
                      first | refine TL.splitD 125 rfl (fun k1 => ?_) (fun k1 => ?_) | refine TL.split 125 rfl (fun k1 => ?_) (fun k1 => ?_)
                      · skip
                        refine TL.pure (PV.move rfl) rfl (by decide) ?_
                        refine TL.pure (PV.eql rfl rfl) rfl (by decide) ?_
                        refine TL.pure (PV.pickT rfl rfl) rfl (by decide) ?_
                        refine TL.pure (PV.move rfl) rfl (by decide) ?_
                        first | refine TL.splitD 129 rfl (fun k2 => ?_) (fun k2 => ?_) | refine TL.split 129 rfl (fun k2 => ?_) (fun k2 => ?_)
                        · skip
                          refine TL.pure (PV.move rfl) rfl (by decide) ?_
                          refine TL.pure (PV.fieldAddr rfl Tb.fo_43_0) rfl (by decide) ?_
                          refine TL.pure (PV.load rfl Tb.one_25 (by repeat (first | exact List.Mem.head _ | refine List.Mem.tail _ ?_ | refine List.mem_append_right _ ?_)) rfl) rfl (by decide) ?_
                          refine TL.call rfl Tb.gofn_26 (fun a w hs => sameInts_ok w _ _ (IsI.g (h := hR) (xs := xs) hs.new (fun yy hyy => by repeat (first | exact List.mem_append_left _ hyy | exact List.mem_append_left _ (List.mem_append_right _ hyy) | exact List.mem_append_left _ (List.mem_append_left _ hyy) | refine List.mem_append_right _ ?_ | refine List.Mem.tail _ ?_)) hhR) _ _ (IsI.of (hx.new hs.new)) hl hl) rfl (by decide) (fun _ _ => ?_)
                          refine TL.pure (PV.pickT rfl rfl) rfl (by decide) ?_
                          refine TL.pure (PV.assign rfl) rfl (by decide) ?_
                          refine TL.nil ?_
                          refine TQ.thenN ?_
                          refine TQ.midK () (And.intro (by first | rfl | (show some (Value.bool (decide _)) = _; rw [decide_eq_true rfl]) | (show some (Value.bool _) = _; simp)) True.intro) (by repeat (first | exact True.intro | refine And.intro rfl ?_)) (by repeat (first | exact List.Sublist.slnil | exact List.nil_sublist _ | exact List.Sublist.refl _ | refine List.Sublist.cons_cons _ ?_ | refine List.Sublist.cons _ ?_ | refine List.Sublist.trans ?_ (List.sublist_append_right _ _))) (by first | trivial | omega)
                        · skip
                          exact (k2 rfl).elim
                      · skip
                        cases k1
                  · skip
                    refine TC.skip ?_
                    refine TQ.thenN ?_
                    refine TQ.midK () (And.intro (by first | rfl | (show some (Value.bool (decide _)) = _; rw [decide_eq_true rfl]) | (show some (Value.bool _) = _; simp)) True.intro) (by repeat (first | exact True.intro | refine And.intro rfl ?_)) (by repeat (first | exact List.Sublist.slnil | exact List.nil_sublist _ | exact List.Sublist.refl _ | refine List.Sublist.cons_cons _ ?_ | refine List.Sublist.cons _ ?_ | refine List.Sublist.trans ?_ (List.sublist_append_right _ _))) (by first | trivial | omega)
                · skip
                  intro xj hj9
                  have hy1l := hy1.len
                  have hsm := trn_sm (n := n) hS
                  have hsm1 := hsm.1
                  refine TC.perm (G' := (srB y1.2 ++ (gbR srR 63 y1.1 y1.2 ++ ((bA, Obj.cells #[.int .i64 (trnR n ss).1, gval y1.1 (trnR n ss).2.length] 24 (0, 0)) :: ((bO, Obj.cells #[.int .i64 n, gval y0.1 ss.length] 24 (0, 0)) :: (ydB y0 ++ [(b1, Obj.cells #[.slice pl xs.length cl, .slice p2 ys.length c2] 43 (0, 0)), (b0, Obj.cells #[.int .i64 n, .slice p ss.length cp] 24 (0, 0))]))))) ++ (gbI (hA, (runR n ss xs ls).1) ++ ((bB, Obj.cells #[.int .i64 (trnR n ss).1, gval y2.1 (trnR n ss).2.length] 24 (0, 0)) :: ydB y2))) (perm_of fun c9 => by simp only [ydB, Value.cells, yv, List.map_append, List.sum_append, List.map_cons, List.sum_cons, List.map_nil, List.sum_nil]; omega) ?_
                  refine TC.lit [(3, _), (6, _), (7, _), (8, _), (16, _)] (by repeat (first | exact True.intro | refine And.intro rfl ?_)) ?_
                  refine TC.seq ?_
                  refine TC.seq ?_
                  refine TC.region ?_
                  refine TL.pure (PV.assign rfl) rfl (by decide) ?_
                  refine TL.nil ?_
                  refine TQ.thenC ?_
                  refine TC.block ?_
                  refine TC.lit [(3, _), (6, _), (7, _), (8, _), (16, _), (25, _)] (by repeat (first | exact True.intro | refine And.intro rfl ?_)) ?_
                  have hy1l := hy1.len
                  refine TC.loopK [3, 6, 7, 8, 16] (X := Nat × List SR) (fun x => x.1 ≤ y1.2.length ∧ ShR x.2 y1.2) (fun x => [(25, .int .i64 x.1)]) (fun x => srB x.2 ++ (gbR srR 63 y1.1 y1.2 ++ ((bA, Obj.cells #[.int .i64 (trnR n ss).1, gval y1.1 (trnR n ss).2.length] 24 (0, 0)) :: ((bO, Obj.cells #[.int .i64 n, gval y0.1 ss.length] 24 (0, 0)) :: (ydB y0 ++ [(b1, Obj.cells #[.slice pl xs.length cl, .slice p2 ys.length c2] 43 (0, 0)), (b0, Obj.cells #[.int .i64 n, .slice p ss.length cp] 24 (0, 0))]))))) (fun x => y1.2.length - x.1) (0, y1.2) ⟨Nat.zero_le _, ShR.refl _⟩ (by repeat (first | exact True.intro | refine And.intro rfl ?_)) (List.sublist_append_left _ _) ?_
                  intro x hx9
                  refine TC.lit [(3, _), (6, _), (7, _), (8, _), (16, _), (25, _)] (by repeat (first | exact True.intro | refine And.intro rfl ?_)) ?_
                  refine TC.seq ?_
                  refine TC.seq ?_
                  refine TC.region ?_
                  refine TL.pure (PV.move rfl) rfl (by decide) ?_
                  refine TL.pure (PV.fieldAddr rfl Tb.fo_24_1) rfl (by decide) ?_
                  refine TL.pure (PV.load rfl Tb.one_22 (by repeat (first | exact List.Mem.head _ | refine List.Mem.tail _ ?_ | refine List.mem_append_right _ ?_)) rfl) rfl (by decide) ?_
                  refine TL.pure (PV.lenG rfl (show gok y1.1 (trnR n ss).2.length 2 (rcs srR y1.2) by rw [← hy1l]; exact hy1.1) Tb.sl_22) rfl (by decide) ?_
                  refine TL.pure (PV.lss rfl rfl) rfl (by decide) ?_
                  refine TL.nil ?_
                  refine TQ.thenC ?_
                  first | refine TC.condD rfl (fun hlt2 => ?_) (fun hlt2 => ?_) | refine TC.cond rfl (fun hlt2 => ?_) (fun hlt2 => ?_)
                  · skip
                    refine TC.skip ?_
                    refine TQ.thenC ?_
                    refine TC.seq ?_
                    refine TC.block ?_
                    refine TC.seq ?_
                    have hxl := hx9.2.len
                    have hxt := hx9.2.t x.1 (by omega)
                    have hxt2 := hxt.2
                    have hYs : (y1.2.getD x.1 default).s = (trnR n ss).2.getD x.1 default := by rw [← hy1.2.2]; simp [List.getD, show x.1 < y1.2.length by omega]
                    have hYl := (hsm.2 x.1).1
                    rw [← hYs] at hYl
                    have hY1 : y1.2.getD x.1 default ∈ y1.2 := by rw [List.getD_eq_getElem?_getD, List.getElem?_eq_getElem (by omega)]; exact List.getElem_mem _
                    have hgo := (hy1.2.1 _ hY1).1
                    refine TC.congrG (G' := srB (x.2.take x.1) ++ (gbI ((x.2.getD x.1 default).ht, (x.2.getD x.1 default).s.t) ++ (gbI ((x.2.getD x.1 default).hg, (x.2.getD x.1 default).s.g) ++ (srB (x.2.drop (x.1 + 1)) ++ (gbR srR 63 y1.1 y1.2 ++ ((bA, Obj.cells #[.int .i64 (trnR n ss).1, gval y1.1 (trnR n ss).2.length] 24 (0, 0)) :: ((bO, Obj.cells #[.int .i64 n, gval y0.1 ss.length] 24 (0, 0)) :: (ydB y0 ++ [(b1, Obj.cells #[.slice pl xs.length cl, .slice p2 ys.length c2] 43 (0, 0)), (b0, Obj.cells #[.int .i64 n, .slice p ss.length cp] 24 (0, 0))])))))))) (srB_at (rs := x.2) (k := x.1) (by omega) _).symm ?_
                    refine TC.region ?_
                    refine TL.pure (PV.assign rfl) rfl (by decide) ?_
                    refine TL.nil ?_
                    refine TQ.thenC ?_
                    refine TC.block ?_
                    refine TC.lit [(3, _), (6, _), (7, _), (8, _), (16, _), (25, _), (26, _)] (by repeat (first | exact True.intro | refine And.intro rfl ?_)) ?_
                    refine TC.loopK [3, 6, 7, 8, 16, 25] (X := Nat × List Int) (fun u => u.1 ≤ (x.2.getD x.1 default).s.t.length ∧ u.2.length = (x.2.getD x.1 default).s.t.length) (fun u => [(26, .int .i64 u.1)]) (fun u => srB (x.2.take x.1) ++ (gbI ((x.2.getD x.1 default).ht, u.2) ++ (gbI ((x.2.getD x.1 default).hg, (x.2.getD x.1 default).s.g) ++ (srB (x.2.drop (x.1 + 1)) ++ (gbR srR 63 y1.1 y1.2 ++ ((bA, Obj.cells #[.int .i64 (trnR n ss).1, gval y1.1 (trnR n ss).2.length] 24 (0, 0)) :: ((bO, Obj.cells #[.int .i64 n, gval y0.1 ss.length] 24 (0, 0)) :: (ydB y0 ++ [(b1, Obj.cells #[.slice pl xs.length cl, .slice p2 ys.length c2] 43 (0, 0)), (b0, Obj.cells #[.int .i64 n, .slice p ss.length cp] 24 (0, 0))])))))))) (fun u => (x.2.getD x.1 default).s.t.length - u.1) (0, (x.2.getD x.1 default).s.t) ⟨Nat.zero_le _, rfl⟩ (by repeat (first | exact True.intro | refine And.intro rfl ?_)) (List.Sublist.refl _) ?_
                    intro u hu9
                    refine TC.lit [(3, _), (6, _), (7, _), (8, _), (16, _), (25, _), (26, _)] (by repeat (first | exact True.intro | refine And.intro rfl ?_)) ?_
                    refine TC.seq ?_
                    refine TC.seq ?_
                    have hgo2 : goI ((x.2.getD x.1 default).ht, u.2) := by rw [hxt.1]; exact go_lenI hgo (by rw [hu9.2, hxt.2])
                    refine TC.region ?_
                    refine TL.pure (PV.move rfl) rfl (by decide) ?_
                    refine TL.pure (PV.fieldAddr rfl Tb.fo_24_1) rfl (by decide) ?_
                    refine TL.pure (PV.load rfl Tb.one_22 (by repeat (first | exact List.Mem.head _ | refine List.Mem.tail _ ?_ | refine List.mem_append_right _ ?_)) rfl) rfl (by decide) ?_
                    refine TL.pure (PV.move rfl) rfl (by decide) ?_
                    refine TL.pure (PV.indexG (h := y1.1) (len := (trnR n ss).2.length) (ys := rcs srR y1.2) (j := x.1) rfl rfl (by rw [← hy1l]; exact hy1.1) Tb.elm_22 rfl (by omega)) rfl (by decide) ?_
                    refine TL.pure (PV.fieldAddr rfl Tb.fo_63_0) rfl (by decide) ?_
                    refine TL.pure (PV.loadRecF (R := srR) (h := y1.1) (l := y1.2) (j := x.1) (f := 0) (v := gval (y1.2.getD x.1 default).ht (y1.2.getD x.1 default).s.t.length) (e := 63) rfl Tb.one_25 (fun yy hyy => by repeat (first | exact List.mem_append_left _ hyy | exact List.mem_append_left _ (List.mem_append_right _ hyy) | exact List.mem_append_left _ (List.mem_append_left _ hyy) | refine List.mem_append_right _ ?_ | refine List.Mem.tail _ ?_)) hy1.1 (by omega) (by decide) rfl) rfl (by decide) ?_
                    refine TL.pure (PV.lenG (ys := ival (y1.2.getD x.1 default).s.t) rfl hgo Tb.sl_25) rfl (by decide) ?_
                    refine TL.pure (PV.lss rfl rfl) rfl (by decide) ?_
                    refine TL.nil ?_
                    refine TQ.thenC ?_
                    first | refine TC.condD rfl (fun hlt3 => ?_) (fun hlt3 => ?_) | refine TC.cond rfl (fun hlt3 => ?_) (fun hlt3 => ?_)
                    · skip
                      refine TC.skip ?_
                      refine TQ.thenC ?_
                      refine TC.seq ?_
                      refine TC.block ?_
                      refine TC.region ?_
                      refine TL.pure (PV.fieldAddr rfl Tb.fo_24_1) rfl (by decide) ?_
                      refine TL.pure (PV.load rfl Tb.one_22 (by repeat (first | exact List.Mem.head _ | refine List.Mem.tail _ ?_ | refine List.mem_append_right _ ?_)) rfl) rfl (by decide) ?_
                      refine TL.pure (PV.move rfl) rfl (by decide) ?_
                      refine TL.pure (PV.indexG (h := y1.1) (len := (trnR n ss).2.length) (ys := rcs srR y1.2) (j := x.1) rfl rfl (by rw [← hy1l]; exact hy1.1) Tb.elm_22 rfl (by omega)) rfl (by decide) ?_
                      refine TL.pure (PV.fieldAddr rfl Tb.fo_63_0) rfl (by decide) ?_
                      refine TL.pure (PV.loadRecF (R := srR) (h := y1.1) (l := y1.2) (j := x.1) (f := 0) (v := gval (y1.2.getD x.1 default).ht (y1.2.getD x.1 default).s.t.length) (e := 63) rfl Tb.one_25 (fun yy hyy => by repeat (first | exact List.mem_append_left _ hyy | exact List.mem_append_left _ (List.mem_append_right _ hyy) | exact List.mem_append_left _ (List.mem_append_left _ hyy) | refine List.mem_append_right _ ?_ | refine List.Mem.tail _ ?_)) hy1.1 (by omega) (by decide) rfl) rfl (by decide) ?_
                      refine TL.pure (PV.move rfl) rfl (by decide) ?_
                      refine TL.pure (PV.indexG (h := (y1.2.getD x.1 default).ht) (len := (y1.2.getD x.1 default).s.t.length) (ys := ival (y1.2.getD x.1 default).s.t) (j := u.1) rfl rfl hgo Tb.elm_25 rfl (by omega)) rfl (by decide) ?_
                      refine TL.putI (h := (x.2.getD x.1 default).ht) (xs := u.2) (xs' := u.2.set u.1 (-1)) (j := u.1) (by rw [hxt.1]; rfl) rfl Tb.cells_3 hgo2 rfl (by repeat (first | exact PutH.here _ _ _ _ | apply PutH.tail | apply PutH.app)) (by omega) rfl rfl ?_
                      refine TL.nil ?_
                      refine TQ.blkN ?_
                      refine TQ.thenC ?_
                      refine TC.region ?_
                      refine TL.pure (PV.move rfl) rfl (by decide) ?_
                      refine TL.pure (PV.add rfl rfl (by omega)) rfl (by decide) ?_
                      refine TL.pure (PV.assign rfl) rfl (by decide) ?_
                      refine TL.nil ?_
                      refine TQ.thenN ?_
                      refine TQ.backK (u.1 + 1, u.2.set u.1 (-1)) (by repeat (first | exact True.intro | refine And.intro rfl ?_)) (by repeat (first | exact True.intro | refine And.intro rfl ?_)) (List.Sublist.refl _) ⟨by simp only; omega, by simp only [List.length_set]; exact hu9.2⟩ (by simp only; omega)
                    · skip
                      refine TC.exit ?_
                      refine TQ.thenE ?_
                      refine TQ.thenE ?_
                      refine TQ.blkS ?_
                      refine TQ.blkN ?_
                      refine TQ.thenC ?_
                      refine TC.region ?_
                      refine TL.pure (PV.move rfl) rfl (by decide) ?_
                      refine TL.pure (PV.add rfl rfl (by omega)) rfl (by decide) ?_
                      refine TL.pure (PV.assign rfl) rfl (by decide) ?_
                      refine TL.nil ?_
                      refine TQ.thenN ?_
                      refine TQ.backK (x.1 + 1, x.2.set x.1 (tkS (x.2.getD x.1 default) u.2)) (by repeat (first | exact True.intro | refine And.intro rfl ?_)) (by repeat (first | exact True.intro | refine And.intro rfl ?_)) (by rw [srB_set (by omega)]; exact List.Sublist.refl _) ⟨by simp only; omega, hx9.2.set (by omega) hu9.2⟩ (by simp only; omega)
                  · skip
                    refine TC.exit ?_
                    refine TQ.thenE ?_
                    refine TQ.thenE ?_
                    refine TQ.blkS ?_
                    refine TQ.thenC ?_
                    refine TC.seq ?_
                    refine TC.region ?_
                    refine TL.pure (PV.move rfl) rfl (by decide) ?_
                    refine TL.pure (PV.move rfl) rfl (by decide) ?_
                    first | refine TL.splitD 162 rfl (fun k3 => ?_) (fun k3 => ?_) | refine TL.split 162 rfl (fun k3 => ?_) (fun k3 => ?_)
                    · skip
                      refine TL.pure (PV.loadBox (cs := [.int .i64 n, gval y0.1 ss.length]) rfl Tb.agg_24 (by repeat (first | exact List.Mem.head _ | refine List.Mem.tail _ ?_ | refine List.mem_append_right _ ?_)) rfl) rfl (by decide) ?_
                      refine TL.pure (PV.loadBox rfl Tb.agg_24 (by repeat (first | exact List.Mem.head _ | refine List.Mem.tail _ ?_ | refine List.mem_append_right _ ?_)) rfl) rfl (by decide) ?_
                      refine TL.call rfl Tb.gofn_59 (fun a w hs => Same_ok w _ _ n n ss ss (IsY.sr hy0 hs.new (fun yy hyy => by repeat (first | exact List.mem_append_left _ hyy | exact List.mem_append_left _ (List.mem_append_right _ hyy) | exact List.mem_append_left _ (List.mem_append_left _ hyy) | refine List.mem_append_right _ ?_ | refine List.Mem.tail _ ?_))) (IsY.of (hr.new hs.new)) hS hS) rfl (by decide) (fun _ _ => ?_)
                      refine TL.pure (PV.pickT rfl rfl) rfl (by decide) ?_
                      refine TL.pure (PV.move rfl) rfl (by decide) ?_
                      first | refine TL.splitD 167 rfl (fun k4 => ?_) (fun k4 => ?_) | refine TL.split 167 rfl (fun k4 => ?_) (fun k4 => ?_)
                      · skip
                        refine TL.call rfl Tb.gofn_19 (fun a w hs => known_ok w) rfl (by decide) (fun _ _ => ?_)
                        refine TL.pure (PV.pickT rfl rfl) rfl (by decide) ?_
                        refine TL.pure (PV.assign rfl) rfl (by decide) ?_
                        refine TL.nil ?_
                        refine TQ.thenC ?_
                        refine TC.ret ?_
                        refine TQ.retE1 rfl rfl ?_
                        first | exact ⟨(), rfl, trivial, List.nil_sublist _⟩ | (exfalso; simp_all; done)
                      · skip
                        exact (k4 ⟨rfl, rfl⟩).elim
                    · skip
                      cases k3

end Go.Proofs.Ytkkipbkkijoneaa
