/- Ck Cj Cc Ha -/
import Derived.Test.YtbnjmkidbfmomaaGreatDoorV05
import Derived.Test.YtbnjmkidbfmomaaGreatDoorV06
import Derived.Test.YtbnjmkidbfmomaaGreatDoorV07
import Derived.Test.YtbnjmkidbfmomaaGreatDoorV08
import Derived.Test.YtbnjmkidbfmomaaGreatDoorV10
set_option linter.unusedVariables false
set_option linter.unusedSimpArgs false
set_option maxRecDepth 100000
namespace Go.Proofs.YtbnjmkidbfmomaaGreatDoor.C
open Go.Sx Go.RowKit
theorem op_ne {ls : List (List Int)} {xs : List Int} {c : Nat} (h : opB ls xs c = true) : ¬ xs.getD c 0 = (dep ls : Int) := fun e => by rw [op_full e] at h; cases h
theorem op_near {ls : List (List Int)} {xs : List Int} {c d : Nat} (h : opB ls xs c = true) (hd : d < ls.length) (hn : (d : Int) = c - 1 ∨ (d : Int) = c + 1) : xs.getD c 0 ≤ xs.getD d 0 := by
  unfold opB at h
  rw [Bool.and_eq_true] at h
  have h1 : (d : Int) ∈ nearL ls c := by
    unfold nearL
    rw [List.mem_filter]
    refine ⟨by rcases hn with e | e <;> simp [e], ?_⟩
    unfold nrB wiB
    exact decide_eq_true (by omega)
  have := of_decide_eq_true (List.all_eq_true.1 h.2 _ h1)
  simpa using this
theorem set_at {xs : List Int} {c d : Nat} {v : Int} (hc : c < xs.length) : (xs.set c v).getD d 0 = if c = d then v else xs.getD d 0 := by
  simp only [List.getD_eq_getElem?_getD, List.getElem?_set]
  by_cases h : c = d
  · subst h
    simp [hc]
  · simp [h]
theorem worK_set {ls : List (List Int)} {k : List Int} {c : Nat} (hk : c < k.length) (h0 : 0 ≤ k.getD c 0) : ∀ n, worK ls (k.set c (k.getD c 0 + 1)) n = worK ls k n + if c < n then (ls.getD c []).getD (k.getD c 0).toNat 0 else 0
  | 0 => by simp [worK]
  | n + 1 => by
    have ih := worK_set hk h0 n (ls := ls)
    show worK ls (k.set c (k.getD c 0 + 1)) n + sumN (ls.getD n []) ((k.set c (k.getD c 0 + 1)).getD n 0).toNat = worK ls k n + sumN (ls.getD n []) (k.getD n 0).toNat + _
    rw [ih, set_at hk]
    by_cases e : c = n
    · subst e
      rw [if_pos rfl, if_neg (Nat.lt_irrefl _), if_pos (by omega), show (k.getD c 0 + 1).toNat = (k.getD c 0).toNat + 1 by omega]
      show _ + (sumN (ls.getD c []) _ + (ls.getD c []).getD _ 0) = _
      omega
    · rw [if_neg e]
      by_cases h : c < n
      · rw [if_pos h, if_pos (by omega)]
        omega
      · rw [if_neg h, if_neg (by omega)]
        omega
theorem op_get {ls : List (List Int)} {xs : List Int} : ∀ {n u : Nat}, u < (opN ls xs n).length → ∃ c : Nat, c < n ∧ (opN ls xs n).getD u 0 = c ∧ opB ls xs c = true
  | 0, u, h => by simp [opN] at h
  | n + 1, u, h => by
    unfold opN at h ⊢
    by_cases hb : opB ls xs n = true
    · rw [if_pos hb] at h ⊢
      rw [List.length_append, List.length_singleton] at h
      by_cases hu : u < (opN ls xs n).length
      · obtain ⟨c, h1, h2, h3⟩ := op_get hu
        exact ⟨c, by omega, by rw [← h2, List.getD_eq_getElem?_getD, List.getElem?_append_left hu, List.getD_eq_getElem?_getD], h3⟩
      · refine ⟨n, by omega, ?_, hb⟩
        rw [List.getD_eq_getElem?_getD, List.getElem?_append_right (by omega), show u - (opN ls xs n).length = 0 by omega]
        rfl
    · rw [if_neg hb] at h ⊢
      obtain ⟨c, h1, h2, h3⟩ := op_get h
      exact ⟨c, by omega, h2, h3⟩
theorem op_idx {ls : List (List Int)} {xs : List Int} {c : Nat} (hb : opB ls xs c = true) : ∀ {n : Nat}, c < n → ∃ u, u < (opN ls xs n).length ∧ (opN ls xs n).getD u 0 = c
  | 0, h => by omega
  | n + 1, h => by
    unfold opN
    by_cases e : c = n
    · subst e
      rw [if_pos hb]
      refine ⟨(opN ls xs c).length, by simp, ?_⟩
      rw [List.getD_eq_getElem?_getD, List.getElem?_append_right (Nat.le_refl _), Nat.sub_self]
      rfl
    · obtain ⟨u, h1, h2⟩ := op_idx hb (n := n) (by omega)
      split
      · exact ⟨u, by rw [List.length_append]; omega, by rw [← h2, List.getD_eq_getElem?_getD, List.getElem?_append_left h1, List.getD_eq_getElem?_getD]⟩
      · exact ⟨u, h1, h2⟩
end Go.Proofs.YtbnjmkidbfmomaaGreatDoor.C
namespace Go.Proofs.YtbnjmkidbfmomaaGreatDoor.C
open Go.Sx Go.RowKit
abbrev upL (xs : List Int) (c : Nat) : List Int := xs.set c (xs.getD c 0 + 1)
theorem pad_at {xs : List Int} (c : Nat) : (pad6 xs).getD c 0 = xs.getD c 0 := by
  unfold pad6
  simp only [List.getD_eq_getElem?_getD]
  by_cases h : c < xs.length
  · rw [List.getElem?_append_left h]
  · rw [List.getElem?_append_right (by omega), List.getElem?_eq_none (l := xs) (by omega), List.getElem?_replicate]
    split <;> rfl
theorem near_is {ls : List (List Int)} {c u : Nat} (hu : u < (nearL ls c).length) : (nearL ls c).getD u 0 = c - 1 ∨ (nearL ls c).getD u 0 = c ∨ (nearL ls c).getD u 0 = c + 1 := by
  have h : (nearL ls c).getD u 0 ∈ nearL ls c := by
    rw [List.getD_eq_getElem?_getD, List.getElem?_eq_getElem hu]; exact List.getElem_mem _
  have h2 := (List.mem_filter.1 h).1
  simpa using h2
theorem up_at {xs : List Int} {c k : Nat} (hc : c < xs.length) : (upL xs c).getD k 0 = if c = k then xs.getD c 0 + 1 else xs.getD k 0 := set_at hc
theorem HO.up {ls : List (List Int)} {xs : List Int} {c : Nat} (h : HO ls xs) (hc : c < ls.length) (ho : opB ls (pad6 xs) c = true) : HO ls (upL xs c) := by
  have hl := h.len
  have hn := op_ne ho
  rw [pad_at] at hn
  have hnear : ∀ d : Nat, d < ls.length → ((d : Int) = c - 1 ∨ (d : Int) = c + 1) → xs.getD c 0 ≤ xs.getD d 0 := fun d hd he => by
    have := op_near ho hd he
    rwa [pad_at, pad_at] at this
  have ha := h.at_ c
  refine ⟨⟨h.vb, by rw [List.length_set]; exact hl, fun k => ?_⟩, fun k hk => ?_⟩
  · rw [up_at (by omega)]
    have := h.at_ k
    split <;> omega
  · rw [up_at (by omega), up_at (by omega)]
    have hs := h.stp k hk
    by_cases e1 : c = k + 1
    · subst e1
      rw [if_pos rfl, if_neg (by omega)]
      have := hnear k (by omega) (.inl (by omega))
      omega
    · by_cases e2 : c = k
      · subst e2
        rw [if_neg (by omega), if_pos rfl]
        have := hnear (c + 1) hk (.inr (by omega))
        omega
      · rw [if_neg e1, if_neg e2]; exact hs
theorem op_right {ls : List (List Int)} {xs : List Int} {c : Nat} (h : HO ls xs) (hc : c < ls.length) (h1 : xs.getD c 0 + 1 ≤ dep ls) (h2 : rightB (upL xs c) = true) : opB ls (pad6 xs) c = true := by
  have hl := h.len
  refine op_yes (by rw [pad_at]; omega) fun u hu => ?_
  have hb := near_bd hu
  rw [pad_at, pad_at]
  have hst : ∀ k, k + 1 < ls.length → (upL xs c).getD (k + 1) 0 - (upL xs c).getD k 0 ≤ 1 ∧ -1 ≤ (upL xs c).getD (k + 1) 0 - (upL xs c).getD k 0 := fun k hk => by
    have := List.all_eq_true.1 h2 k (List.mem_range.2 (by rw [List.length_set]; omega))
    have := of_decide_eq_true this
    exact ⟨this.2, this.1⟩
  rcases near_is hu with e | e | e
  · obtain ⟨d, rfl⟩ : ∃ d, c = d + 1 := ⟨c - 1, by omega⟩
    rw [e, show ((d + 1 : Nat) : Int) - 1 = (d : Int) by omega, Int.toNat_natCast]
    have := (hst d hc).1
    rw [up_at (by omega), up_at (by omega), if_pos rfl, if_neg (by omega)] at this
    omega
  · rw [e, Int.toNat_natCast]; omega
  · rw [e, show (c : Int) + 1 = ((c + 1 : Nat) : Int) by omega, Int.toNat_natCast]
    have := (hst c (by omega)).2
    rw [up_at (by omega), up_at (by omega), if_neg (by omega), if_pos rfl] at this
    omega
theorem op_not {ls : List (List Int)} {xs : List Int} {c : Nat} (h : HO ls xs) (hc : c < ls.length) (h1 : ¬ xs.getD c 0 + 1 ≤ dep ls) : opB ls (pad6 xs) c = false := by
  cases ho : opB ls (pad6 xs) c with
  | false => rfl
  | true =>
    have h2 := op_ne ho
    rw [pad_at] at h2
    have := h.at_ c
    omega
theorem op_notr {ls : List (List Int)} {xs : List Int} {c : Nat} (h : HO ls xs) (hc : c < ls.length) (h1 : ¬ rightB (upL xs c) = true) : opB ls (pad6 xs) c = false := by
  cases ho : opB ls (pad6 xs) c with
  | false => rfl
  | true =>
    have h2 := h.up hc ho
    have hl := h2.len
    exact absurd (right_yes fun k hk => decide_eq_true (h2.stp k (by omega))) h1
theorem opn_bad {ls : List (List Int)} {xs : List Int} (h : holI ls xs ≠ 0) : opnI ls xs = [] := if_neg h
theorem opn_ok {ls : List (List Int)} {xs : List Int} (h : ¬ holI ls xs ≠ 0) : opnI ls xs = opN ls (pad6 xs) ls.length := if_pos (Decidable.of_not_not h)
set_option maxHeartbeats 2000000 in
theorem ropen_ok (w0 : World) (p : Option Addr) (cap : Nat) (ls : List (List Int)) (hr : LsAt w0 p ls) (pl : Option Addr) (cl : Nat) (xs : List Int) (hx : IntsAt w0 pl xs) (hx9 : HO ls xs) (N : Nat) (hN : xs.length = N) :
    Calls Tryz.prog 163 #[bv p ls.length cap, .slice pl N cl] w0 (Post (X := HD × List Int) (fun y => gvI y) (fun y => OS ls (pad6 xs) ls.length y) (fun y => gbI y) w0) := by
  have hn9 := hx9.vb.n
  have hd9 := hx9.vb.d
  have hxl := hx9.len
  obtain rfl : N = ls.length := by omega
  refine calls Tryz.func163 rfl (n := 39) rfl (by simp) ?_
  refine zr (TL.box rfl rfl dc (fun b0 hb0 => ?_))
  refine za rfl (zk (za rfl (zn (TC.seq (zr (za rfl (zn (TC.block (TC.lit [(1, _), (2, _), (4, _), (5, _), (6, _)] l9z ?_)))))))))
  refine TC.loopK [1, 2, 4] (X := Nat × HD × List Int) (fun x => OS ls (pad6 xs) x.1 x.2) (fun x => [(6, .int .i64 x.1), (5, gvI x.2)]) (fun x => gbI x.2 ++ [(b0, Obj.cells #[.slice p ls.length cap] 24 (0, 0))]) (fun x => ls.length - x.1) (0, none, []) (OS.zero _ _) l9z (List.Sublist.refl _) ?_
  intro x hx8
  have hle8 := hx8.le
  refine TC.lit [(1, _), (2, _), (4, _), (5, _), (6, _)] l9z ?_
  refine TC.seq (zr (zm rfl (zm rfl (zq (PV.len rfl Tb.sl_25) rfl (zq (PV.lss rfl rfl) rfl (zn (TC.cd rfl (fun hlt => ?_) (fun hlt => ?_))))))))
  refine TC.skip (TQ.thenC (TC.seq (TC.block (zr (TL.buildSlice0 Tb.sl_25 Tb.zi_3 rfl dc (fun bA hbA => ?_))))))
  refine zm rfl (TL.append0 (m := ls.length) (news := ival xs) (bA := bA) rfl rfl Tb.sl_25 Tb.zi_3 rfl t9z (fun w' hN2 => ints_src Tb.sl_25 hxl (hx.new hN2)) om om rfl dc (fun h9 ho9 => ?_))
  refine za rfl (zn (TC.seq ?_))
  have hxa := hx9.at_ x.1
  have hu9 : goI (h9, (upL xs x.1)) := go_lenI ho9 (by rw [List.length_set]; exact hxl)
  have hul : (upL xs x.1).length = ls.length := by rw [List.length_set]; exact hxl
  have hub : ∀ k, -10 ≤ (upL xs x.1).getD k 0 ∧ (upL xs x.1).getD k 0 ≤ 10 := fun k => by rw [up_at (by omega)]; have := hx9.at_ k; split <;> omega
  have huc : (upL xs x.1).getD x.1 0 = xs.getD x.1 0 + 1 := by rw [up_at (by omega), if_pos rfl]
  refine TC.region (zm rfl (zm rfl (zq (PV.indexG (j := x.1) rfl rfl ho9 Tb.elm_25 rfl (by omega)) rfl (zq (PV.loadGI (y := (h9, xs)) (j := x.1) (v := xs.getD x.1 0) rfl Tb.one_3 (fun yy hyy => by repeat (first | exact List.mem_append_left _ hyy | exact List.mem_append_left _ (List.mem_append_right _ hyy) | exact List.mem_append_left _ (List.mem_append_left _ hyy) | refine List.mem_append_right _ ?_ | refine List.Mem.tail _ ?_)) (go_lenI ho9 hxl) (by show x.1 < xs.length; omega) rfl) rfl ?_))))
  refine zq (PV.add rfl rfl om) rfl (zq (PV.indexG (j := x.1) rfl rfl ho9 Tb.elm_25 rfl om) rfl (TL.putI (h := h9) (xs := xs) (xs' := (upL xs x.1)) (j := x.1) rfl rfl Tb.cells_3 (go_lenI ho9 hxl) rfl p9z om rfl rfl ?_))
  refine zn (TC.seq (TC.any Tb.mixed rfl rfl ?_))
  refine TA.op (OpOK.pure (PV.move rfl) rfl dc) dc ?_
  refine TA.op (OpOK.pure (PV.move rfl) rfl dc) dc ?_
  refine TA.op (OpOK.pure (PV.indexG (j := x.1) rfl rfl ho9 Tb.elm_25 rfl om) rfl dc) dc ?_
  refine TA.op (OpOK.pure (PV.loadGI (y := (h9, (upL xs x.1))) (j := x.1) (v := xs.getD x.1 0 + 1) rfl Tb.one_3 (fun yy hyy => by repeat (first | exact List.mem_append_left _ hyy | exact List.mem_append_left _ (List.mem_append_right _ hyy) | exact List.mem_append_left _ (List.mem_append_left _ hyy) | refine List.mem_append_right _ ?_ | refine List.Mem.tail _ ?_)) hu9 (by show x.1 < (upL _ _).length; omega) huc) rfl (by decide)) (by decide) ?_
  refine TA.op (OpOK.pure (PV.loadBox rfl Tb.agg_24 m9z rfl) rfl dc) dc ?_
  refine TA.op (OpOK.call rfl Tb.gofn_169 (fun a w hs => rdepth_ok w _ _ _ (hr.new hs.new) om) rfl dc) dc ?_
  refine TA.op (OpOK.pure (PV.leq rfl rfl) rfl dc) dc ?_
  refine TA.op (OpOK.pure (PV.move rfl) rfl dc) dc ?_
  first | refine TA.splitD 30 rfl (fun g1 => ?_) (fun g1 => ?_) | refine TA.split 30 rfl (fun g1 => ?_) (fun g1 => ?_)
  refine TA.op (OpOK.pure (PV.move rfl) rfl dc) dc ?_
  refine TA.op (OpOK.call rfl Tb.gofn_134 (fun a w hs => (by rw [gval_eq (gog hu9 hul)]; have h6 := right_ok w _ (gc h9) (upL xs x.1) (IntsAt.g (x := (h9, (upL xs x.1))) hs.new (fun yy hyy => by repeat (first | exact List.mem_append_left _ hyy | exact List.mem_append_left _ (List.mem_append_right _ hyy) | exact List.mem_append_left _ (List.mem_append_left _ hyy) | refine List.mem_append_right _ ?_ | refine List.Mem.tail _ ?_)) hu9) (by omega) (fun k => by have := hub k; omega); rw [hul] at h6; exact h6)) rfl (by decide)) (by decide) ?_
  refine TA.op (OpOK.pure (PV.pickT rfl rfl) rfl dc) dc ?_
  show TQ _ _ _ _ _
  refine TQ.thenC (TC.cd rfl (fun hr => ?_) (fun hr => ?_))
  refine TC.region (zm rfl (zm rfl (TL.buildSlice (cs := #[.int .i64 x.1]) rfl Tb.sl_25 Tb.zi_3 dc (fill_i _) dc rfl dc (fun bE hbE => ?_))))
  refine TL.appendI (x0 := x.2) rfl rfl m9z hx8.ok h9z (by have := op_len ls (pad6 xs) x.1; rw [← hx8.eq] at this; omega) rfl dc (fun hh hho => ?_)
  let nx : Nat × HD × List Int := (x.1 + 1, hh, x.2.2 ++ [(x.1 : Int)])
  have hn1 : nx.1 = x.1 + 1 := rfl
  have hnx : OS ls (pad6 xs) nx.1 nx.2 := hx8.step (by omega) (op_right hx9 (by omega) (by first | omega | exact g1 | (have := of_decide_eq_true g1; omega)) hr) hho
  refine za rfl (TL.nil (TQ.blkN (TQ.thenC (TC.region (zm rfl (zq (PV.add rfl rfl (by omega)) rfl (za rfl (TL.nil (TQ.thenN (TQ.backK nx l9z l9z (by first | exact List.sublist_append_right _ _ | exact List.Sublist.append_left (List.Sublist.cons _ (List.sublist_append_right _ _)) _) hnx (by omega)))))))))))
  let nx : Nat × HD × List Int := (x.1 + 1, x.2)
  have hn1 : nx.1 = x.1 + 1 := rfl
  have hnx : OS ls (pad6 xs) nx.1 nx.2 := hx8.skip (by omega) (op_notr hx9 (by omega) (by first | exact hr | simpa using hr))
  refine TC.skip (TQ.blkN (TQ.thenC (TC.region (zm rfl (zq (PV.add rfl rfl (by omega)) rfl (za rfl (TL.nil (TQ.thenN (TQ.backK nx l9z l9z (by first | exact List.sublist_append_right _ _ | exact List.Sublist.append_left (List.Sublist.cons _ (List.sublist_append_right _ _)) _) hnx (by omega))))))))))
  refine TA.op (OpOK.skip rfl) dc ?_
  refine TA.op (OpOK.skip rfl) dc ?_
  refine TA.op (OpOK.pure (PV.pickF rfl rfl) rfl dc) dc ?_
  show TQ _ _ _ _ _
  refine TQ.thenC (TC.condF rfl ?_)
  let nx : Nat × HD × List Int := (x.1 + 1, x.2)
  have hn1 : nx.1 = x.1 + 1 := rfl
  have hnx : OS ls (pad6 xs) nx.1 nx.2 := hx8.skip (by omega) (op_not hx9 (by omega) (by first | omega | (have := of_decide_eq_false g1; omega)))
  refine TC.skip (TQ.blkN (TQ.thenC (TC.region (zm rfl (zq (PV.add rfl rfl (by omega)) rfl (za rfl (TL.nil (TQ.thenN (TQ.backK nx l9z l9z (by first | exact List.sublist_append_right _ _ | exact List.Sublist.append_left (List.Sublist.cons _ (List.sublist_append_right _ _)) _) hnx (by omega))))))))))
  refine TC.exit (TQ.thenE (TQ.thenE (TQ.blkS (TQ.thenC (zr (zm rfl (za rfl (zt (TQ.retE1 rfl rfl ?_)))))))))
  exact ⟨x.2, rfl, (by rw [show ls.length = x.1 by omega]; exact hx8), List.sublist_append_left _ _⟩
theorem rOpen_ok (w0 : World) (p : Option Addr) (cap : Nat) (ls : List (List Int)) (hr : LsAt w0 p ls) (pl : Option Addr) (cl : Nat) (xs : List Int) (hx : IntsAt w0 pl xs) :
    Calls Tryz.prog 118 #[bv p ls.length cap, .slice pl xs.length cl] w0 (Post (X := HD) (fun h => .tuple #[gval h (opnI ls xs).length, .int .i64 (holI ls xs)]) (fun h => goI (h, opnI ls xs)) (fun h => gbI (h, opnI ls xs)) w0) := by
  refine calls Tryz.func118 rfl (n := 16) rfl (by simp) ?_
  refine zr (TL.box rfl rfl dc (fun b0 hb0 => ?_))
  refine za rfl (za rfl (zk (zq (PV.loadBox rfl Tb.agg_24 m9z rfl) rfl ?_)))
  refine zm rfl (TL.call rfl Tb.gofn_94 (fun a w hs => rcheckHollow_ok w _ _ _ (hr.new hs.new) _ _ _ (hx.new hs.new)) rfl dc (fun _ _ => ?_))
  refine za rfl (zn (TC.seq (zr (zm rfl (zq (PV.neq rfl rfl) rfl (zn (TC.cd rfl (fun hbad => ?_) (fun hbad => ?_))))))))
  refine zr (zm rfl (za rfl (za rfl (zt (TQ.thenR (TQ.retE2 rfl rfl rfl ?_))))))
  exact ⟨none, by rw [opn_bad hbad]; rfl, by rw [opn_bad hbad]; exact goI_nil, by rw [opn_bad hbad]; exact nils⟩
  refine TC.skip (TQ.thenC (zr (zq (PV.loadBox rfl Tb.agg_24 m9z rfl) rfl ?_)))
  refine zm rfl (TL.call rfl Tb.gofn_163 (fun a w hs => ropen_ok w _ _ _ (hr.new hs.new) _ _ _ (hx.new hs.new) (ho_of hbad) _ rfl) rfl dc (fun y9 hy9 => ?_))
  refine za rfl (za rfl (zt (TQ.retE2 rfl rfl rfl ?_)))
  exact ⟨y9.1, by rw [opn_ok hbad, Decidable.of_not_not hbad, ← hy9.eq], by rw [opn_ok hbad, ← hy9.eq]; exact hy9.ok, by rw [opn_ok hbad, ← hy9.eq]; exact List.sublist_append_left _ _⟩
end Go.Proofs.YtbnjmkidbfmomaaGreatDoor.C
namespace Go.Proofs.YtbnjmkidbfmomaaGreatDoor.C
open Go.Sx Go.RowKit
theorem mem_getD {xs : List Int} {v : Int} : v ∈ xs ↔ ∃ k, k < xs.length ∧ xs.getD k 0 = v := by
  constructor
  · intro h
    obtain ⟨j, hj, rfl⟩ := List.getElem_of_mem h
    exact ⟨j, hj, by simp [List.getD, hj]⟩
  · rintro ⟨k, hk, rfl⟩
    simp [List.getD, hk]
theorem mem_op {ls : List (List Int)} {xs : List Int} {n : Nat} {v : Int} (h0 : 0 ≤ v) (hn : v < n) : v ∈ opN ls xs n ↔ opB ls xs v.toNat = true := by
  rw [mem_getD]
  constructor
  · rintro ⟨k, hk, e⟩
    obtain ⟨c, h1, h2, h3⟩ := op_get hk
    obtain rfl : v = c := by rw [← e, h2]
    rwa [Int.toNat_natCast]
  · intro h
    obtain ⟨u, h1, h2⟩ := op_idx h (n := n) (by omega)
    exact ⟨u, h1, by omega⟩
theorem rep_at (n k : Nat) : (List.replicate n (0 : Int)).getD k 0 = 0 := by
  by_cases hk : k < n <;> simp [List.getD, hk]
theorem ho_zero {ls : List (List Int)} (hv : VB ls) : HO ls (List.replicate ls.length 0) :=
  ⟨⟨hv, by simp, fun k => by rw [rep_at]; omega⟩, fun k _ => by rw [rep_at, rep_at]; omega⟩
theorem indexI_ok (w0 : World) (pl : Option Addr) (cl : Nat) (xs : List Int) (hx : IntsAt w0 pl xs) (hl : xs.length ≤ 1000000) (v : Int) :
    Calls Tryz.prog 215 #[.slice pl xs.length cl, .int .i64 v] w0 (Post (X := Int) (fun i => .int .i64 i) (fun i => (i = -1 ∧ ∀ j, j < xs.length → ¬ v = xs.getD j 0) ∨ (0 ≤ i ∧ ∃ k, k < xs.length ∧ v = xs.getD k 0)) (fun _ => []) w0) := by
  refine calls Tryz.func215 rfl (n := 19) rfl (by simp) ?_
  refine zr (za rfl (zn (TC.seq (zr (zm rfl (zq (PV.len rfl Tb.sl_25) rfl (zm rfl (zn (TC.block (TC.loopG [0, 1, 7] (X := Nat) (fun k => k ≤ xs.length ∧ ∀ j, j < k → ¬ v = xs.getD j 0) (fun k => [(8, .int .i64 k)]) (fun k => xs.length - k) 0 ⟨Nat.zero_le _, fun j hj => absurd hj (Nat.not_lt_zero _)⟩ l9z ?_))))))))))
  intro k hk
  refine zr (zq (PV.lss rfl rfl) rfl (zn (TC.seq (TC.cd rfl (fun hlt => ?_) (fun hlt => ?_)))))
  refine TC.skip (TQ.thenC (TC.seq (TC.block (zr (zm rfl (za rfl (zn (TC.seq ?_))))))))
  obtain ⟨q2, hq2p, hq2⟩ := hx k (by omega)
  refine TC.region (zm rfl (zm rfl (zm rfl (zq (PV.indexA rfl hq2p rfl Tb.elm_25 rfl om) rfl (zq (PV.loadOld rfl Tb.one_3 hq2) rfl (zq (PV.eql rfl rfl) rfl (zn (TC.cd rfl (fun hno => ?_) (fun hno => ?_)))))))))
  refine zr (zm rfl (za rfl (zt (TQ.blkR (TQ.thenR (TQ.thenR (TQ.blkR (TQ.thenR (TQ.retE1 rfl rfl ?_)))))))))
  first | exact ⟨k, rfl, .inr ⟨by omega, k, by omega, hno⟩, nils⟩ | exact ⟨-1, rfl, .inl ⟨rfl, fun j hj => hk.2 j (by omega)⟩, nils⟩
  refine TC.skip (TQ.blkN (TQ.thenC (TC.region (zq (PV.add rfl rfl om) rfl (zm rfl (TL.nil (TQ.thenN (TQ.backK (k + 1) l9z l9z s9z ⟨by omega, fun j hj => if e : j < k then hk.2 j e else (show k = j by omega) ▸ hno⟩ om))))))))
  refine TC.exit (TQ.thenE (TQ.thenE (TQ.blkS (TQ.thenC (zr (za rfl (zt (TQ.retE1 rfl rfl ?_))))))))
  first | exact ⟨k, rfl, .inr ⟨by omega, k, by omega, hno⟩, nils⟩ | exact ⟨-1, rfl, .inl ⟨rfl, fun j hj => hk.2 j (by omega)⟩, nils⟩
theorem containsI_ok (w0 : World) (pl : Option Addr) (cl : Nat) (xs : List Int) (hx : IntsAt w0 pl xs) (hl : xs.length ≤ 1000000) (v : Int) :
    Calls Tryz.prog 185 #[.slice pl xs.length cl, .int .i64 v] w0 (Post (X := Unit) (fun _ => .bool (decide (v ∈ xs))) (fun _ => True) (fun _ => []) w0) := by
  refine calls Tryz.func185 rfl (n := 9) rfl (by simp) ?_
  refine zr (za rfl (zk (zm rfl (zm rfl (TL.call rfl Tb.gofn_215 (fun a w hs => indexI_ok w _ _ xs (hx.new hs.new) hl v) rfl dc (fun i9 hi9 => ?_))))))
  refine zq (PV.geq rfl rfl) rfl (za rfl (zt (TQ.retE1 rfl rfl ?_)))
  refine ⟨(), ?_, trivial, nils⟩
  congr 1
  rw [decide_eq_decide, mem_getD]
  rcases hi9 with ⟨rfl, h9⟩ | ⟨h9, k, hk, hk2⟩
  exact ⟨fun h => absurd h (by decide), fun ⟨k, hk, h⟩ => absurd h.symm (h9 k hk)⟩
  exact ⟨fun _ => ⟨k, hk, hk2.symm⟩, fun _ => h9⟩
theorem has_ok (w0 : World) (pl : Option Addr) (cl : Nat) (xs : List Int) (hx : IntsAt w0 pl xs) (hl : xs.length ≤ 1000000) (v : Int) :
    Calls Tryz.prog 119 #[.slice pl xs.length cl, .int .i64 v] w0 (Post (X := Unit) (fun _ => .bool (decide (v ∈ xs))) (fun _ => True) (fun _ => []) w0) := by
  refine calls Tryz.func119 rfl (n := 18) rfl (by simp) ?_
  refine zr (za rfl (zn (TC.seq (zr (za rfl (zn (TC.block (TC.loopG [0, 1] (X := Nat) (fun k => k ≤ xs.length ∧ ∀ j, j < k → ¬ xs.getD j 0 = v) (fun k => [(5, .int .i64 k)]) (fun k => xs.length - k) 0 ⟨Nat.zero_le _, fun j hj => absurd hj (Nat.not_lt_zero _)⟩ l9z ?_))))))))
  intro k hk
  refine TC.seq (zr (zm rfl (zm rfl (zq (PV.len rfl Tb.sl_25) rfl (zq (PV.lss rfl rfl) rfl (zn (TC.cd rfl (fun hlt => ?_) (fun hlt => ?_))))))))
  refine TC.skip (TQ.thenC (TC.seq (TC.block (TC.seq ?_))))
  obtain ⟨q2, hq2p, hq2⟩ := hx k (by omega)
  refine TC.region (zm rfl (zm rfl (zq (PV.indexA rfl hq2p rfl Tb.elm_25 rfl om) rfl (zq (PV.loadOld rfl Tb.one_3 hq2) rfl (zm rfl (zq (PV.eql rfl rfl) rfl (zn (TC.cd rfl (fun hno => ?_) (fun hno => ?_)))))))))
  refine zr (za rfl (zt (TQ.blkR (TQ.thenR (TQ.thenR (TQ.blkR (TQ.thenR (TQ.retE1 rfl rfl ?_))))))))
  exact ⟨(), by rw [decide_eq_true (mem_getD.2 ⟨k, by omega, hno⟩)], trivial, nils⟩
  refine TC.skip (TQ.blkN (TQ.thenC (TC.region (zm rfl (zq (PV.add rfl rfl om) rfl (za rfl (TL.nil (TQ.thenN (TQ.backK (k + 1) l9z l9z s9z ⟨by omega, fun j hj => if e : j < k then hk.2 j e else (show k = j by omega) ▸ hno⟩ om)))))))))
  refine TC.exit (TQ.thenE (TQ.thenE (TQ.blkS (TQ.thenC (zr (za rfl (zt (TQ.retE1 rfl rfl ?_))))))))
  exact ⟨(), by rw [decide_eq_false (fun h => by obtain ⟨j, hj, e⟩ := mem_getD.1 h; exact hk.2 j (by omega) e)], trivial, nils⟩
end Go.Proofs.YtbnjmkidbfmomaaGreatDoor.C
namespace Go.Proofs.YtbnjmkidbfmomaaGreatDoor.H
open Go.Sx Go.RowKit Go.Sand
abbrev hv (p : Option Addr) (n c : Nat) (q : Option Addr) (k d : Nat) : Value := .agg #[.slice p n c, .slice q k d]
def wiB (a lo hi : Int) : Bool := decide (lo ≤ a ∧ a ≤ hi)
theorem all_no {α : Type} {l : List α} {f : α → Bool} {k : Nat} {d : α} (hk : k < l.length) (h : f (l.getD k d) = false) : l.all f = false := by
  rw [Bool.eq_false_iff]
  intro h1
  have := List.all_eq_true.1 h1 (l.getD k d) (by simp [List.getD, hk])
  rw [this] at h
  cases h
theorem all_yes {α : Type} {l : List α} {f : α → Bool} {d : α} (h : ∀ k, k < l.length → f (l.getD k d) = true) : l.all f = true := by
  refine List.all_eq_true.2 fun x hx => ?_
  obtain ⟨j, hj, rfl⟩ := List.getElem_of_mem hx
  have := h j hj
  simpa [List.getD, hj] using this
theorem all_at' {α : Type} {l : List α} {f : α → Bool} {k : Nat} {d : α} (h : l.all f = true) (hk : k < l.length) : f (l.getD k d) = true := by
  rw [List.all_eq_true] at h
  exact h _ (by simp [List.getD, hk])
def numB (n most : Int) (xs : List Int) : Bool := decide ((xs.length : Int) = n) && xs.all fun x => wiB x 0 most
abbrev lk (ls : List (List Int)) : Nat → Nat → Int := fun i j => getM ls i j
abbrev gd (gs : List Int) : Nat → Int := fun i => gs.getD i 0
def MutP (ls : List (List Int)) (n : Nat) : Prop := ∀ i j, i < n → j < n → getM ls i j = getM ls j i ∧ (i = j → getM ls i j = 0)
structure Shp (ls : List (List Int)) (gs : List Int) : Prop where
  n : 1 ≤ gs.length ∧ gs.length ≤ 5
  len : ls.length = gs.length
  row : ∀ k, k < ls.length → numB gs.length 2 (ls.getD k []) = true
  gr : numB gs.length 2 gs = true
  mu : MutP ls gs.length
def JoiP (ls : List (List Int)) (gs : List Int) : Prop := ∀ i, i < gs.length → Rch gs.length (lk ls) (gd gs) i
open Classical in
noncomputable def validI (ls : List (List Int)) (gs : List Int) : Int := if Shp ls gs then if JoiP ls gs then 0 else 9 else 1
theorem valid_1 {ls : List (List Int)} {gs : List Int} (h : ¬ Shp ls gs) : validI ls gs = 1 := if_neg h
theorem valid_9 {ls : List (List Int)} {gs : List Int} (h : Shp ls gs) (h2 : ¬ JoiP ls gs) : validI ls gs = 9 := by unfold validI; rw [if_pos h, if_neg h2]
theorem valid_0 {ls : List (List Int)} {gs : List Int} (h : Shp ls gs) (h2 : JoiP ls gs) : validI ls gs = 0 := by unfold validI; rw [if_pos h, if_pos h2]
theorem num_len {n most : Int} {xs : List Int} (h : numB n most xs = true) : (xs.length : Int) = n := by
  unfold numB at h
  simp only [Bool.and_eq_true, decide_eq_true_eq] at h
  exact h.1
theorem num_at {n most : Int} {xs : List Int} (h : numB n most xs = true) (h0 : 0 ≤ most) (k : Nat) : 0 ≤ xs.getD k 0 ∧ xs.getD k 0 ≤ most := by
  unfold numB at h
  simp only [Bool.and_eq_true, decide_eq_true_eq] at h
  by_cases hk : k < xs.length
  · have := all_at' (d := 0) h.2 hk
    exact of_decide_eq_true this
  · have e : xs.getD k 0 = 0 := by simp [List.getD, hk]
    omega
theorem num_1 {n most : Int} {xs : List Int} (h : ¬ (xs.length : Int) = n) : numB n most xs = false := by unfold numB; rw [decide_eq_false h, Bool.false_and]
theorem num_2 {n most : Int} {xs : List Int} {k : Nat} (hk : k < xs.length) (h : ¬ (0 ≤ xs.getD k 0 ∧ xs.getD k 0 ≤ most)) : numB n most xs = false := by
  unfold numB
  rw [all_no (k := k) (d := 0) hk (decide_eq_false h), Bool.and_false]
theorem num_3 {n most : Int} {xs : List Int} (h : (xs.length : Int) = n) (h2 : ∀ k, k < xs.length → 0 ≤ xs.getD k 0 ∧ xs.getD k 0 ≤ most) : numB n most xs = true := by
  unfold numB
  rw [decide_eq_true h, all_yes (f := fun x => wiB x 0 most) (d := 0) (fun k hk => decide_eq_true (h2 k hk))]
  rfl
theorem Shp.rowl {ls : List (List Int)} {gs : List Int} (h : Shp ls gs) {k : Nat} (hk : k < ls.length) : (ls.getD k []).length = gs.length := by
  have := num_len (h.row k hk)
  omega
theorem Shp.ent {ls : List (List Int)} {gs : List Int} (h : Shp ls gs) (i j : Nat) : 0 ≤ getM ls i j ∧ getM ls i j ≤ 2 := by
  by_cases hi : i < ls.length
  · exact num_at (h.row i hi) (by decide) j
  · have e : ls.getD i [] = [] := by simp [List.getD, hi]
    unfold getM
    rw [e]
    exact ⟨by simp, by simp⟩
theorem Shp.gat {ls : List (List Int)} {gs : List Int} (h : Shp ls gs) (i : Nat) : 0 ≤ gs.getD i 0 ∧ gs.getD i 0 ≤ 2 := num_at h.gr (by decide) i
structure HB (ls : List (List Int)) (gs : List Int) : Prop extends Shp ls gs where
  G : Gr gs.length (lk ls) (gd gs)
theorem hb_of {ls : List (List Int)} {gs : List Int} (h : ¬ validI ls gs ≠ 0) : HB ls gs := by
  have h0 := Decidable.of_not_not h
  by_cases h1 : Shp ls gs
  · by_cases h2 : JoiP ls gs
    · exact ⟨h1, ⟨fun i j _ _ => (h1.ent i j).1, fun i j hi hj => (h1.mu i j hi hj).1, fun i _ => (h1.gat i).1, h2⟩⟩
    · rw [valid_9 h1 h2] at h0; cases h0
  · rw [valid_1 h1] at h0; cases h0
def Fst (φ : Int → Bool) (xs : List Int) (i : Int) : Prop := (i = -1 ∧ ∀ j, j < xs.length → φ (xs.getD j 0) = false) ∨ ∃ k : Nat, i = k ∧ k < xs.length ∧ φ (xs.getD k 0) = true
theorem fst_any {φ : Int → Bool} {xs : List Int} {i : Int} (h : Fst φ xs i) : xs.any φ = decide (0 ≤ i) := by
  rcases h with ⟨rfl, h⟩ | ⟨k, rfl, hk, h⟩
  · rw [decide_eq_false (by decide), List.any_eq_false]
    intro x hx
    obtain ⟨j, hj, rfl⟩ := List.getElem_of_mem hx
    have := h j hj
    simpa [List.getD, hj] using this
  · rw [decide_eq_true (by omega), List.any_eq_true]
    exact ⟨xs.getD k 0, by simp [List.getD, hk], h⟩
theorem any_all (most : Int) : ∀ xs : List Int, (!xs.any fun x => decide (x < 0) || decide (most < x)) = xs.all fun x => wiB x 0 most
  | [] => rfl
  | x :: xs => by
    rw [List.any_cons, List.all_cons, Bool.not_or, any_all most xs]
    congr 1
    unfold wiB
    rw [Bool.eq_iff_iff]
    simp
theorem within_ok (w0 : World) (a lo hi : Int) :
    Calls Tryz.prog 127 #[.int .i64 a, .int .i64 lo, .int .i64 hi] w0 (Post (X := Unit) (fun _ => .bool (wiB a lo hi)) (fun _ => True) (fun _ => []) w0) := by
  refine calls Tryz.func127 rfl (n := 15) rfl (by simp) ?_
  refine zr (za rfl (zk (zm rfl (zm rfl (zq (PV.geq rfl rfl) rfl (zm rfl (TL.sp 10 rfl (fun e1 => ?_) (fun e1 => ?_))))))))
  refine zm rfl (zm rfl (zq (PV.leq rfl rfl) rfl (zq (PV.pickT rfl rfl) rfl (za rfl (zt (TQ.retE1 rfl rfl ?_))))))
  exact ⟨(), by unfold wiB; congr 1; rw [decide_eq_decide]; simp_all, trivial, nils⟩
  refine zx rfl (zx rfl (zx rfl (zq (PV.pickF rfl rfl) rfl (za rfl (zt (TQ.retE1 rfl rfl ?_))))))
  exact ⟨(), by unfold wiB; rw [decide_eq_false (by omega)], trivial, nils⟩
theorem indexFunc_ok (w0 : World) (pl : Option Addr) (cl : Nat) (xs : List Int) (hx : IntsAt w0 pl xs) (hl : xs.length ≤ 1000000) (f : FuncId) (caps : List Value) (φ : Int → Bool) (hfn : goFn Tryz.prog f = true) (hcb : ∀ w G, New w0 w G → ∀ x : Int, Calls Tryz.prog f (Value.int .i64 x :: caps).toArray w (Post (X := Unit) (fun _ => .bool (φ x)) (fun _ => True) (fun _ => []) w)) :
    Calls Tryz.prog 202 #[.slice pl xs.length cl, .func (.func f) #[] caps.toArray] w0 (Post (X := Int) (fun i => .int .i64 i) (fun i => Fst φ xs i) (fun _ => []) w0) := by
  refine calls Tryz.func202 rfl (n := 19) rfl (by simp) ?_
  refine zr (za rfl (zn (TC.seq (zr (zm rfl (zq (PV.len rfl Tb.sl_25) rfl (zm rfl (zn (TC.block (TC.loopG [0, 1, 7] (X := Nat) (fun k => k ≤ xs.length ∧ ∀ j, j < k → φ (xs.getD j 0) = false) (fun k => [(8, .int .i64 k)]) (fun k => xs.length - k) 0 ⟨Nat.zero_le _, fun j hj => absurd hj (Nat.not_lt_zero _)⟩ l9z ?_))))))))))
  intro k hk
  refine zr (zq (PV.lss rfl rfl) rfl (zn (TC.seq (TC.cd rfl (fun hlt => ?_) (fun hlt => ?_)))))
  refine TC.skip (TQ.thenC (TC.seq (TC.block (zr (zm rfl (za rfl (zn (TC.seq ?_))))))))
  obtain ⟨q2, hq2p, hq2⟩ := hx k (by omega)
  refine TC.region (zm rfl (zm rfl (zm rfl (zq (PV.indexA rfl hq2p rfl Tb.elm_25 rfl om) rfl (zq (PV.loadOld rfl Tb.one_3 hq2) rfl (TL.callF (f := f) (caps := caps) (X := Unit) (fun _ => .bool (φ (xs.getD k 0))) (fun _ => True) (fun _ => []) rfl rfl hfn (fun a w hs => (hcb w _ hs.new (xs.getD k 0)).mono fun e w' ⟨x9, h1, h2, h3⟩ => ⟨x9, h1, h2, hs.new.trans h3⟩) rfl dc (fun _ _ => ?_)))))))
  refine zn (TC.cd rfl (fun hno => ?_) (fun hno => ?_))
  refine zr (zm rfl (za rfl (zt (TQ.blkR (TQ.thenR (TQ.thenR (TQ.blkR (TQ.thenR (TQ.retE1 rfl rfl ?_)))))))))
  first | exact ⟨k, rfl, .inr ⟨k, rfl, by omega, by simpa using hno⟩, nils⟩ | exact ⟨-1, rfl, .inl ⟨rfl, fun j hj => hk.2 j (by omega)⟩, nils⟩
  refine TC.skip (TQ.blkN (TQ.thenC (TC.region (zq (PV.add rfl rfl om) rfl (zm rfl (TL.nil (TQ.thenN (TQ.backK (k + 1) l9z l9z s9z ⟨by omega, fun j hj => if e : j < k then hk.2 j e else (show k = j by omega) ▸ (by simpa using hno)⟩ om))))))))
  refine TC.exit (TQ.thenE (TQ.thenE (TQ.blkS (TQ.thenC (zr (za rfl (zt (TQ.retE1 rfl rfl ?_))))))))
  first | exact ⟨k, rfl, .inr ⟨k, rfl, by omega, by simpa using hno⟩, nils⟩ | exact ⟨-1, rfl, .inl ⟨rfl, fun j hj => hk.2 j (by omega)⟩, nils⟩
theorem containsFunc_ok (w0 : World) (pl : Option Addr) (cl : Nat) (xs : List Int) (hx : IntsAt w0 pl xs) (hl : xs.length ≤ 1000000) (f : FuncId) (caps : List Value) (φ : Int → Bool) (hfn : goFn Tryz.prog f = true) (hcb : ∀ w G, New w0 w G → ∀ x : Int, Calls Tryz.prog f (Value.int .i64 x :: caps).toArray w (Post (X := Unit) (fun _ => .bool (φ x)) (fun _ => True) (fun _ => []) w)) :
    Calls Tryz.prog 170 #[.slice pl xs.length cl, .func (.func f) #[] caps.toArray] w0 (Post (X := Unit) (fun _ => .bool (xs.any φ)) (fun _ => True) (fun _ => []) w0) := by
  refine calls Tryz.func170 rfl (n := 9) rfl (by simp) ?_
  refine zr (za rfl (zk (zm rfl (zm rfl (TL.call rfl Tb.gofn_202 (fun a w hs => indexFunc_ok w _ _ xs (hx.new hs.new) hl f caps φ hfn (fun w2 G2 hn2 x => hcb w2 _ (hs.new.trans hn2) x)) rfl dc (fun i9 hi9 => ?_))))))
  refine zq (PV.geq rfl rfl) rfl (za rfl (zt (TQ.retE1 rfl rfl ?_)))
  exact ⟨(), by rw [fst_any hi9], trivial, nils⟩
theorem areNumbersF_ok (w0 : World) (x most : Int) (a : Addr) (ha : w0.cell? a = some (.int .i64 most)) :
    Calls Tryz.prog 171 #[.int .i64 x, .pointer (some a)] w0 (Post (X := Unit) (fun _ => .bool (decide (x < 0) || decide (most < x))) (fun _ => True) (fun _ => []) w0) := by
  refine calls Tryz.func171 rfl (n := 11) rfl (by simp) ?_
  refine zr (za rfl (zk (zm rfl (zq (PV.lss rfl rfl) rfl (zm rfl (TL.sp 6 rfl (fun e1 => ?_) (fun e1 => ?_)))))))
  refine zx rfl (zx rfl (zx rfl (zq (PV.pickT rfl rfl) rfl (za rfl (zt (TQ.retE1 rfl rfl ?_))))))
  first | exact ⟨(), by rw [decide_eq_true e1]; rfl, trivial, nils⟩ | exact ⟨(), by rw [decide_eq_false e1]; rfl, trivial, nils⟩
  refine zm rfl (zq (PV.loadOld rfl Tb.one_3 (ha)) rfl (zq (PV.gtr rfl rfl) rfl (zq (PV.pickF rfl rfl) rfl (za rfl (zt (TQ.retE1 rfl rfl ?_))))))
  first | exact ⟨(), by rw [decide_eq_true e1]; rfl, trivial, nils⟩ | exact ⟨(), by rw [decide_eq_false e1]; rfl, trivial, nils⟩
theorem areNumbers_ok (w0 : World) (pl : Option Addr) (cl : Nat) (xs : List Int) (hx : IntsAt w0 pl xs) (hl : xs.length ≤ 1000000) (n most : Int) :
    Calls Tryz.prog 135 #[.slice pl xs.length cl, .int .i64 n, .int .i64 most] w0 (Post (X := Unit) (fun _ => .bool (numB n most xs)) (fun _ => True) (fun _ => []) w0) := by
  refine calls Tryz.func135 rfl (n := 17) rfl (by simp) ?_
  refine zr (TL.box rfl rfl dc (fun b0 hb0 => ?_))
  refine za rfl (zk (zm rfl (zq (PV.len rfl Tb.sl_25) rfl (zm rfl (zq (PV.eql rfl rfl) rfl (zm rfl (TL.sp 11 rfl (fun e1 => ?_) (fun e1 => ?_))))))))
  refine zm rfl (zq (PV.makeFunc rfl) rfl (TL.call rfl Tb.gofn_170 (fun a w hs => containsFunc_ok w _ _ xs (hx.new hs.new) hl 171 [.pointer (some ⟨b0, 0, none⟩)] (fun x => decide (x < 0) || decide (most < x)) Tb.gofn_171 (fun w2 G2 hn2 x => areNumbersF_ok w2 x most ⟨b0, 0, none⟩ ((hs.new.trans hn2).cell m9z rfl))) rfl dc (fun _ _ => ?_)))
  refine zq ((by first | exact PV.notD rfl | exact PV.not rfl)) rfl ?_
  refine zq (PV.pickT rfl rfl) rfl (za rfl (zt (TQ.retE1 rfl rfl ?_)))
  first | exact ⟨(), by unfold numB; rw [decide_eq_true e1, any_all]; rfl, trivial, nils⟩ | exact ⟨(), by rw [num_1 e1], trivial, nils⟩
  refine zx rfl (zx rfl (zx rfl (zx rfl (zq (PV.pickF rfl rfl) rfl (za rfl (zt (TQ.retE1 rfl rfl ?_)))))))
  first | exact ⟨(), by unfold numB; rw [decide_eq_true e1, any_all]; rfl, trivial, nils⟩ | exact ⟨(), by rw [num_1 e1], trivial, nils⟩
end Go.Proofs.YtbnjmkidbfmomaaGreatDoor.H
