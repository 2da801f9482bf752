/- Open by the reference: contracts; which columns are open: the law's contract. -/
import Derived.Test.YtfgjojoipbbacaaDB
set_option linter.unusedVariables false
set_option linter.unusedSimpArgs false
namespace Go.Proofs.Ytfgjojoipbbacaa
open Go.Sx Go.RowKit

abbrev upL (xs : List Int) (c : Nat) : List Int := xs.set c (xs.getD c 0 + 1)
theorem pad_at {xs : List Int} (c : Nat) : (pad6 xs).getD c 0 = xs.getD c 0 := by
  unfold pad6
  simp only [List.getD_eq_getElem?_getD]
  by_cases h : c < xs.length
  · rw [List.getElem?_append_left h]
  · rw [List.getElem?_append_right (by omega), List.getElem?_eq_none (l := xs) (by omega), List.getElem?_replicate]
    split <;> rfl
theorem pad_up {xs : List Int} {c : Nat} (hc : c < xs.length) (hl : xs.length ≤ 6) : pad6 (upL xs c) = (pad6 xs).set c ((pad6 xs).getD c 0 + 1) := by
  rw [pad_at]
  unfold pad6 upL
  rw [List.length_set, List.set_append_left _ _ hc]
theorem near_is {ls : List (List Int)} {c u : Nat} (hu : u < (nearL ls c).length) : (nearL ls c).getD u 0 = c - 1 ∨ (nearL ls c).getD u 0 = c ∨ (nearL ls c).getD u 0 = c + 1 := by
  have h : (nearL ls c).getD u 0 ∈ nearL ls c := by
    rw [List.getD_eq_getElem?_getD, List.getElem?_eq_getElem hu]; exact List.getElem_mem _
  have h2 := (List.mem_filter.1 h).1
  simpa using h2
theorem up_at {xs : List Int} {c k : Nat} (hc : c < xs.length) : (upL xs c).getD k 0 = if c = k then xs.getD c 0 + 1 else xs.getD k 0 := set_at hc
theorem HO.up {ls : List (List Int)} {xs : List Int} {c : Nat} (h : HO ls xs) (hc : c < ls.length) (ho : opB ls (pad6 xs) c = true) : HO ls (upL xs c) := by
  have hl := h.len
  have hn := op_ne ho
  rw [pad_at] at hn
  have hnear : ∀ d : Nat, d < ls.length → ((d : Int) = c - 1 ∨ (d : Int) = c + 1) → xs.getD c 0 ≤ xs.getD d 0 := fun d hd he => by
    have := op_near ho hd he
    rwa [pad_at, pad_at] at this
  have ha := h.at_ c
  refine ⟨⟨h.vb, by rw [List.length_set]; exact hl, fun k => ?_⟩, fun k hk => ?_⟩
  · rw [up_at (by omega)]
    have := h.at_ k
    split <;> omega
  · rw [up_at (by omega), up_at (by omega)]
    have hs := h.stp k hk
    by_cases e1 : c = k + 1
    · subst e1
      rw [if_pos rfl, if_neg (by omega)]
      have := hnear k (by omega) (.inl (by omega))
      omega
    · by_cases e2 : c = k
      · subst e2
        rw [if_neg (by omega), if_pos rfl]
        have := hnear (c + 1) hk (.inr (by omega))
        omega
      · rw [if_neg e1, if_neg e2]; exact hs
theorem op_right {ls : List (List Int)} {xs : List Int} {c : Nat} (h : HO ls xs) (hc : c < ls.length) (h1 : xs.getD c 0 + 1 ≤ dep ls) (h2 : rightB (upL xs c) = true) : opB ls (pad6 xs) c = true := by
  have hl := h.len
  refine op_yes (by rw [pad_at]; omega) fun u hu => ?_
  have hb := near_bd hu
  rw [pad_at, pad_at]
  have hst : ∀ k, k + 1 < ls.length → (upL xs c).getD (k + 1) 0 - (upL xs c).getD k 0 ≤ 1 ∧ -1 ≤ (upL xs c).getD (k + 1) 0 - (upL xs c).getD k 0 := fun k hk => by
    have := List.all_eq_true.1 h2 k (List.mem_range.2 (by rw [List.length_set]; omega))
    have := of_decide_eq_true this
    exact ⟨this.2, this.1⟩
  rcases near_is hu with e | e | e
  · obtain ⟨d, rfl⟩ : ∃ d, c = d + 1 := ⟨c - 1, by omega⟩
    rw [e, show ((d + 1 : Nat) : Int) - 1 = (d : Int) by omega, Int.toNat_natCast]
    have := (hst d hc).1
    rw [up_at (by omega), up_at (by omega), if_pos rfl, if_neg (by omega)] at this
    omega
  · rw [e, Int.toNat_natCast]; omega
  · rw [e, show (c : Int) + 1 = ((c + 1 : Nat) : Int) by omega, Int.toNat_natCast]
    have := (hst c (by omega)).2
    rw [up_at (by omega), up_at (by omega), if_neg (by omega), if_pos rfl] at this
    omega
theorem op_not {ls : List (List Int)} {xs : List Int} {c : Nat} (h : HO ls xs) (hc : c < ls.length) (h1 : ¬ xs.getD c 0 + 1 ≤ dep ls) : opB ls (pad6 xs) c = false := by
  cases ho : opB ls (pad6 xs) c with
  | false => rfl
  | true =>
    have h2 := op_ne ho
    rw [pad_at] at h2
    have := h.at_ c
    omega
theorem op_notr {ls : List (List Int)} {xs : List Int} {c : Nat} (h : HO ls xs) (hc : c < ls.length) (h1 : ¬ rightB (upL xs c) = true) : opB ls (pad6 xs) c = false := by
  cases ho : opB ls (pad6 xs) c with
  | false => rfl
  | true =>
    have h2 := h.up hc ho
    have hl := h2.len
    exact absurd (right_yes fun k hk => decide_eq_true (h2.stp k (by omega))) h1
theorem opn_len {ls : List (List Int)} {xs : List Int} : (opnI ls xs).length ≤ 1000000 := by
  unfold opnI
  split
  · rename_i h
    have h1 := op_len ls (pad6 xs) ls.length
    have h2 := (ho_of (by rw [h]; decide)).vb.n
    omega
  · exact Nat.zero_le _
/-- What is open may be cut. -/
theorem opens {ls : List (List Int)} {xs : List Int} {u : Nat} (hu : u < (opnI ls xs).length) : ∃ c : Nat, c < ls.length ∧ (opnI ls xs).getD u 0 = c ∧ holI ls (upL xs c) = 0 ∧ xs.length = ls.length ∧ ls.length ≤ 6 ∧ 0 ≤ xs.getD c 0 ∧ xs.getD c 0 ≤ 4 := by
  unfold opnI at hu ⊢
  by_cases h : holI ls xs = 0
  · rw [if_pos h] at hu ⊢
    have h0 : ¬ holI ls xs ≠ 0 := by rw [h]; decide
    obtain ⟨c, h1, h2, h3⟩ := op_get hu
    have hx := ho_of h0
    have := hx.at_ c
    have := hx.vb.d
    exact ⟨c, h1, h2, ho_to (hol_val h0) (hx.up h1 h3), hx.len, hx.vb.n.2, by omega, by omega⟩
  · rw [if_neg h] at hu; simp at hu
theorem opn_bad {ls : List (List Int)} {xs : List Int} (h : holI ls xs ≠ 0) : opnI ls xs = [] := if_neg h
theorem opn_ok {ls : List (List Int)} {xs : List Int} (h : ¬ holI ls xs ≠ 0) : opnI ls xs = opN ls (pad6 xs) ls.length := if_pos (Decidable.of_not_not h)
theorem not_t {b : Bool} (h : ¬ b = true) : b = false := by simpa using h


set_option maxRecDepth 100000 in
set_option maxHeartbeats 2000000 in
theorem ropen_ok (w0 : World) (p : Option Addr) (cap : Nat) (ls : List (List Int)) (hr : LsAt w0 p ls) (pl : Option Addr) (cl : Nat) (xs : List Int) (hx : IntsAt w0 pl xs) (hx9 : HO ls xs) (N : Nat) (hN : xs.length = N) :
    Calls Try.prog 87 #[bv p ls.length cap, .slice pl N cl] w0 (Post (X := HD × List Int) (fun y => gvI y) (fun y => OS ls (pad6 xs) ls.length y) (fun y => gbI y) w0) := by
  have hn9 := hx9.vb.n
  have hd9 := hx9.vb.d
  have hxl := hx9.len
  obtain rfl : N = ls.length := by omega
  refine calls Try.func87 rfl (n := 39) rfl (by simp) ?_
  refine TC.seq ?_
  refine TC.region ?_
  refine TL.box rfl rfl (by decide) (fun b0 hb0 => ?_)
  refine TL.pure (PV.assign rfl) rfl (by decide) ?_
  refine TL.nil ?_
  refine TQ.thenC ?_
  refine TC.seq ?_
  refine TC.region ?_
  refine TL.pure (PV.assign rfl) rfl (by decide) ?_
  refine TL.nil ?_
  refine TQ.thenC ?_
  refine TC.seq ?_
  refine TC.seq ?_
  refine TC.region ?_
  refine TL.pure (PV.assign rfl) rfl (by decide) ?_
  refine TL.nil ?_
  refine TQ.thenC ?_
  refine TC.block ?_
  refine TC.lit [(1, _), (2, _), (4, _), (5, _), (6, _)] (by repeat (first | exact True.intro | refine And.intro rfl ?_)) ?_
  refine TC.loopK [1, 2, 4] (X := Nat × HD × List Int) (fun x => OS ls (pad6 xs) x.1 x.2) (fun x => [(6, .int .i64 x.1), (5, gvI x.2)]) (fun x => gbI x.2 ++ [(b0, Obj.cells #[.slice p ls.length cap] 24 (0, 0))]) (fun x => ls.length - x.1) (0, none, []) (OS.zero _ _) (by repeat (first | exact True.intro | refine And.intro rfl ?_)) (List.Sublist.refl _) ?_
  intro x hx8
  have hle8 := hx8.le
  refine TC.lit [(1, _), (2, _), (4, _), (5, _), (6, _)] (by repeat (first | exact True.intro | refine And.intro rfl ?_)) ?_
  refine TC.seq ?_
  refine TC.seq ?_
  refine TC.region ?_
  refine TL.pure (PV.move rfl) rfl (by decide) ?_
  refine TL.pure (PV.move rfl) rfl (by decide) ?_
  refine TL.pure (PV.len rfl Tb.sl_25) rfl (by decide) ?_
  refine TL.pure (PV.lss rfl rfl) rfl (by decide) ?_
  refine TL.nil ?_
  refine TQ.thenC ?_
  first | refine TC.condD rfl (fun hlt => ?_) (fun hlt => ?_) | refine TC.cond rfl (fun hlt => ?_) (fun hlt => ?_)
  · skip
    refine TC.skip ?_
    refine TQ.thenC ?_
    refine TC.seq ?_
    refine TC.block ?_
    refine TC.seq ?_
    refine TC.region ?_
    refine TL.buildSlice0 Tb.sl_25 Tb.zi_3 rfl (by decide) (fun bA hbA => ?_)
    refine TL.pure (PV.move rfl) rfl (by decide) ?_
    refine TL.append0 (m := ls.length) (news := ival xs) (bA := bA) rfl rfl Tb.sl_25 Tb.zi_3 rfl (by repeat (first | exact Take.head _ | apply Take.tail | apply Take.appR)) (fun w' hN2 => ints_src Tb.sl_25 hxl (hx.new hN2)) (by omega) (by omega) rfl (by decide) (fun h9 ho9 => ?_)
    refine TL.pure (PV.assign rfl) rfl (by decide) ?_
    refine TL.nil ?_
    refine TQ.thenC ?_
    refine TC.seq ?_
    have hxa := hx9.at_ x.1
    have hu9 : goI (h9, (upL xs x.1)) := go_lenI ho9 (by rw [List.length_set]; exact hxl)
    have hul : (upL xs x.1).length = ls.length := by rw [List.length_set]; exact hxl
    have hub : ∀ k, -10 ≤ (upL xs x.1).getD k 0 ∧ (upL xs x.1).getD k 0 ≤ 10 := fun k => by rw [up_at (by omega)]; have := hx9.at_ k; split <;> omega
    have huc : (upL xs x.1).getD x.1 0 = xs.getD x.1 0 + 1 := by rw [up_at (by omega), if_pos rfl]
    refine TC.region ?_
    refine TL.pure (PV.move rfl) rfl (by decide) ?_
    refine TL.pure (PV.move rfl) rfl (by decide) ?_
    refine TL.pure (PV.indexG (j := x.1) rfl rfl ho9 Tb.elm_25 rfl (by omega)) rfl (by decide) ?_
    refine TL.pure (PV.loadGI (y := (h9, xs)) (j := x.1) (v := xs.getD x.1 0) rfl Tb.one_3 (fun yy hyy => by repeat (first | exact List.mem_append_left _ hyy | exact List.mem_append_left _ (List.mem_append_right _ hyy) | exact List.mem_append_left _ (List.mem_append_left _ hyy) | refine List.mem_append_right _ ?_ | refine List.Mem.tail _ ?_)) (go_lenI ho9 hxl) (by show x.1 < xs.length; omega) rfl) rfl (by decide) ?_
    refine TL.pure (PV.add rfl rfl (by omega)) rfl (by decide) ?_
    refine TL.pure (PV.indexG (j := x.1) rfl rfl ho9 Tb.elm_25 rfl (by omega)) rfl (by decide) ?_
    refine TL.putI (h := h9) (xs := xs) (xs' := (upL xs x.1)) (j := x.1) rfl rfl Tb.cells_3 (go_lenI ho9 hxl) rfl (by repeat (first | exact PutH.here _ _ _ _ | apply PutH.tail | apply PutH.app)) (by omega) rfl rfl ?_
    refine TL.nil ?_
    refine TQ.thenC ?_
    refine TC.seq ?_
    refine TC.any Tb.mixed rfl rfl ?_
    refine TA.op (OpOK.pure (PV.move rfl) rfl (by decide)) (by decide) ?_
    refine TA.op (OpOK.pure (PV.move rfl) rfl (by decide)) (by decide) ?_
    refine TA.op (OpOK.pure (PV.indexG (j := x.1) rfl rfl ho9 Tb.elm_25 rfl (by omega)) rfl (by decide)) (by decide) ?_
    refine TA.op (OpOK.pure (PV.loadGI (y := (h9, (upL xs x.1))) (j := x.1) (v := xs.getD x.1 0 + 1) rfl Tb.one_3 (fun yy hyy => by repeat (first | exact List.mem_append_left _ hyy | exact List.mem_append_left _ (List.mem_append_right _ hyy) | exact List.mem_append_left _ (List.mem_append_left _ hyy) | refine List.mem_append_right _ ?_ | refine List.Mem.tail _ ?_)) hu9 (by show x.1 < (upL _ _).length; omega) huc) rfl (by decide)) (by decide) ?_
    refine TA.op (OpOK.pure (PV.loadBox rfl Tb.agg_24 (by repeat (first | exact List.Mem.head _ | refine List.Mem.tail _ ?_ | refine List.mem_append_right _ ?_)) rfl) rfl (by decide)) (by decide) ?_
    refine TA.op (OpOK.call rfl Tb.gofn_96 (fun a w hs => rdepth_ok w _ _ _ (hr.new hs.new) (by omega)) rfl (by decide)) (by decide) ?_
    refine TA.op (OpOK.pure (PV.leq rfl rfl) rfl (by decide)) (by decide) ?_
    refine TA.op (OpOK.pure (PV.move rfl) rfl (by decide)) (by decide) ?_
    first | refine TA.splitD 30 rfl (fun g1 => ?_) (fun g1 => ?_) | refine TA.split 30 rfl (fun g1 => ?_) (fun g1 => ?_)
    · skip
      refine TA.op (OpOK.pure (PV.move rfl) rfl (by decide)) (by decide) ?_
      refine TA.op (OpOK.call rfl Tb.gofn_67 (fun a w hs => (by rw [gval_eq (gog hu9 hul)]; have h6 := right_ok w _ (gc h9) (upL xs x.1) (IntsAt.g (x := (h9, (upL xs x.1))) hs.new (fun yy hyy => by repeat (first | exact List.mem_append_left _ hyy | exact List.mem_append_left _ (List.mem_append_right _ hyy) | exact List.mem_append_left _ (List.mem_append_left _ hyy) | refine List.mem_append_right _ ?_ | refine List.Mem.tail _ ?_)) hu9) (by omega) (fun k => by have := hub k; omega); rw [hul] at h6; exact h6)) rfl (by decide)) (by decide) ?_
      refine TA.op (OpOK.pure (PV.pickT rfl rfl) rfl (by decide)) (by decide) ?_
      show TQ _ _ _ _ _
      refine TQ.thenC ?_
      first | refine TC.condD rfl (fun hr => ?_) (fun hr => ?_) | refine TC.cond rfl (fun hr => ?_) (fun hr => ?_)
      · skip
        refine TC.region ?_
        refine TL.pure (PV.move rfl) rfl (by decide) ?_
        refine TL.pure (PV.move rfl) rfl (by decide) ?_
        refine TL.buildSlice (cs := #[.int .i64 x.1]) rfl Tb.sl_25 Tb.zi_3 (by decide) (fill_i _) (by decide) rfl (by decide) (fun bE hbE => ?_)
        refine TL.appendI (x0 := x.2) rfl rfl (by repeat (first | exact List.Mem.head _ | refine List.Mem.tail _ ?_ | refine List.mem_append_right _ ?_)) hx8.ok (by repeat (first | exact TakeH.here _ _ _ _ | apply TakeH.tail | apply TakeH.app)) (by have := op_len ls (pad6 xs) x.1; rw [← hx8.eq] at this; omega) rfl (by decide) (fun hh hho => ?_)
        let nx : Nat × HD × List Int := (x.1 + 1, hh, x.2.2 ++ [(x.1 : Int)])
        have hn1 : nx.1 = x.1 + 1 := rfl
        have hnx : OS ls (pad6 xs) nx.1 nx.2 := hx8.step (by omega) (op_right hx9 (by omega) (by first | omega | exact g1 | (have := of_decide_eq_true g1; omega)) hr) hho
        refine TL.pure (PV.assign rfl) rfl (by decide) ?_
        refine TL.nil ?_
        refine TQ.blkN ?_
        refine TQ.thenC ?_
        refine TC.region ?_
        refine TL.pure (PV.move rfl) rfl (by decide) ?_
        refine TL.pure (PV.add rfl rfl (by omega)) rfl (by decide) ?_
        refine TL.pure (PV.assign rfl) rfl (by decide) ?_
        refine TL.nil ?_
        refine TQ.thenN ?_
        refine TQ.backK nx (by repeat (first | exact True.intro | refine And.intro rfl ?_)) (by repeat (first | exact True.intro | refine And.intro rfl ?_)) (by first | exact List.sublist_append_right _ _ | exact List.Sublist.append_left (List.Sublist.cons _ (List.sublist_append_right _ _)) _) hnx (by omega)
      · skip
        let nx : Nat × HD × List Int := (x.1 + 1, x.2)
        have hn1 : nx.1 = x.1 + 1 := rfl
        have hnx : OS ls (pad6 xs) nx.1 nx.2 := hx8.skip (by omega) (op_notr hx9 (by omega) (by first | exact hr | simpa using hr))
        refine TC.skip ?_
        refine TQ.blkN ?_
        refine TQ.thenC ?_
        refine TC.region ?_
        refine TL.pure (PV.move rfl) rfl (by decide) ?_
        refine TL.pure (PV.add rfl rfl (by omega)) rfl (by decide) ?_
        refine TL.pure (PV.assign rfl) rfl (by decide) ?_
        refine TL.nil ?_
        refine TQ.thenN ?_
        refine TQ.backK nx (by repeat (first | exact True.intro | refine And.intro rfl ?_)) (by repeat (first | exact True.intro | refine And.intro rfl ?_)) (by first | exact List.sublist_append_right _ _ | exact List.Sublist.append_left (List.Sublist.cons _ (List.sublist_append_right _ _)) _) hnx (by omega)
    · skip
      refine TA.op (OpOK.skip rfl) (by decide) ?_
      refine TA.op (OpOK.skip rfl) (by decide) ?_
      refine TA.op (OpOK.pure (PV.pickF rfl rfl) rfl (by decide)) (by decide) ?_
      show TQ _ _ _ _ _
      refine TQ.thenC ?_
      refine TC.condF rfl ?_
      let nx : Nat × HD × List Int := (x.1 + 1, x.2)
      have hn1 : nx.1 = x.1 + 1 := rfl
      have hnx : OS ls (pad6 xs) nx.1 nx.2 := hx8.skip (by omega) (op_not hx9 (by omega) (by first | omega | (have := of_decide_eq_false g1; omega)))
      refine TC.skip ?_
      refine TQ.blkN ?_
      refine TQ.thenC ?_
      refine TC.region ?_
      refine TL.pure (PV.move rfl) rfl (by decide) ?_
      refine TL.pure (PV.add rfl rfl (by omega)) rfl (by decide) ?_
      refine TL.pure (PV.assign rfl) rfl (by decide) ?_
      refine TL.nil ?_
      refine TQ.thenN ?_
      refine TQ.backK nx (by repeat (first | exact True.intro | refine And.intro rfl ?_)) (by repeat (first | exact True.intro | refine And.intro rfl ?_)) (by first | exact List.sublist_append_right _ _ | exact List.Sublist.append_left (List.Sublist.cons _ (List.sublist_append_right _ _)) _) hnx (by omega)
  · skip
    refine TC.exit ?_
    refine TQ.thenE ?_
    refine TQ.thenE ?_
    refine TQ.blkS ?_
    refine TQ.thenC ?_
    refine TC.seq ?_
    refine TC.region ?_
    refine TL.pure (PV.move rfl) rfl (by decide) ?_
    refine TL.pure (PV.assign rfl) rfl (by decide) ?_
    refine TL.nil ?_
    refine TQ.thenC ?_
    refine TC.ret ?_
    refine TQ.retE1 rfl rfl ?_
    exact ⟨x.2, rfl, (by rw [show ls.length = x.1 by omega]; exact hx8), List.sublist_append_left _ _⟩

set_option maxRecDepth 100000 in
theorem rOpen_ok (w0 : World) (p : Option Addr) (cap : Nat) (ls : List (List Int)) (hr : LsAt w0 p ls) (pl : Option Addr) (cl : Nat) (xs : List Int) (hx : IntsAt w0 pl xs) :
    Calls Try.prog 52 #[bv p ls.length cap, .slice pl xs.length cl] w0 (Post (X := HD) (fun h => .tuple #[gval h (opnI ls xs).length, .int .i64 (holI ls xs)]) (fun h => goI (h, opnI ls xs)) (fun h => gbI (h, opnI ls xs)) w0) := by
  refine calls Try.func52 rfl (n := 16) rfl (by simp) ?_
  refine TC.seq ?_
  refine TC.region ?_
  refine TL.box rfl rfl (by decide) (fun b0 hb0 => ?_)
  refine TL.pure (PV.assign rfl) rfl (by decide) ?_
  refine TL.pure (PV.assign rfl) rfl (by decide) ?_
  refine TL.nil ?_
  refine TQ.thenC ?_
  refine TC.seq ?_
  refine TC.region ?_
  refine TL.pure (PV.loadBox rfl Tb.agg_24 (by repeat (first | exact List.Mem.head _ | refine List.Mem.tail _ ?_ | refine List.mem_append_right _ ?_)) rfl) rfl (by decide) ?_
  refine TL.pure (PV.move rfl) rfl (by decide) ?_
  refine TL.call rfl Tb.gofn_24 (fun a w hs => rcheckHollow_ok w _ _ _ (hr.new hs.new) _ _ _ (hx.new hs.new)) rfl (by decide) (fun _ _ => ?_)
  refine TL.pure (PV.assign rfl) rfl (by decide) ?_
  refine TL.nil ?_
  refine TQ.thenC ?_
  refine TC.seq ?_
  refine TC.seq ?_
  refine TC.region ?_
  refine TL.pure (PV.move rfl) rfl (by decide) ?_
  refine TL.pure (PV.neq rfl rfl) rfl (by decide) ?_
  refine TL.nil ?_
  refine TQ.thenC ?_
  first | refine TC.condD rfl (fun hbad => ?_) (fun hbad => ?_) | refine TC.cond rfl (fun hbad => ?_) (fun hbad => ?_)
  · skip
    refine TC.seq ?_
    refine TC.region ?_
    refine TL.pure (PV.move rfl) rfl (by decide) ?_
    refine TL.pure (PV.assign rfl) rfl (by decide) ?_
    refine TL.pure (PV.assign rfl) rfl (by decide) ?_
    refine TL.nil ?_
    refine TQ.thenC ?_
    refine TC.ret ?_
    refine TQ.thenR ?_
    refine TQ.retE2 rfl rfl rfl ?_
    exact ⟨none, by rw [opn_bad hbad]; rfl, by rw [opn_bad hbad]; exact goI_nil, by rw [opn_bad hbad]; exact List.nil_sublist _⟩
  · skip
    refine TC.skip ?_
    refine TQ.thenC ?_
    refine TC.seq ?_
    refine TC.region ?_
    refine TL.pure (PV.loadBox rfl Tb.agg_24 (by repeat (first | exact List.Mem.head _ | refine List.Mem.tail _ ?_ | refine List.mem_append_right _ ?_)) rfl) rfl (by decide) ?_
    refine TL.pure (PV.move rfl) rfl (by decide) ?_
    refine TL.call rfl Tb.gofn_87 (fun a w hs => ropen_ok w _ _ _ (hr.new hs.new) _ _ _ (hx.new hs.new) (ho_of hbad) _ rfl) rfl (by decide) (fun y9 hy9 => ?_)
    refine TL.pure (PV.assign rfl) rfl (by decide) ?_
    refine TL.pure (PV.assign rfl) rfl (by decide) ?_
    refine TL.nil ?_
    refine TQ.thenC ?_
    refine TC.ret ?_
    refine TQ.retE2 rfl rfl rfl ?_
    exact ⟨y9.1, by rw [opn_ok hbad, Decidable.of_not_not hbad, ← hy9.eq], by rw [opn_ok hbad, ← hy9.eq]; exact hy9.ok, by rw [opn_ok hbad, ← hy9.eq]; exact List.sublist_append_left _ _⟩

set_option maxRecDepth 100000 in
set_option maxHeartbeats 2000000 in
theorem cutOpens_ok (w0 : World) (p : Option Addr) (cap : Nat) (ls : List (List Int)) (hr : LsAt w0 p ls) (hl2 : ls.length ≤ 9223372036854775807) (hcap : CapsAt w0 p ls) (pl : Option Addr) (cl : Nat) (xs : List Int) (hx : IntsAt w0 pl xs) :
    Calls Try.prog 11 #[bv p ls.length cap, .slice pl xs.length cl] w0 (Post (X := Unit) (fun _ => .bool true) (fun _ => True) (fun _ => []) w0) := by
  refine calls Try.func11 rfl (n := 60) rfl (by simp) ?_
  refine TC.seq ?_
  refine TC.region ?_
  refine TL.box rfl rfl (by decide) (fun b0 hb0 => ?_)
  refine TL.pure (PV.assign rfl) rfl (by decide) ?_
  refine TL.nil ?_
  refine TQ.thenC ?_
  refine TC.seq ?_
  refine TC.seq ?_
  refine TC.region ?_
  refine TL.pure (PV.loadBox rfl Tb.agg_24 (by repeat (first | exact List.Mem.head _ | refine List.Mem.tail _ ?_ | refine List.mem_append_right _ ?_)) rfl) rfl (by decide) ?_
  refine TL.pure (PV.move rfl) rfl (by decide) ?_
  refine TL.buildSlice (cs := #[.slice pl xs.length cl]) rfl Tb.sl_22 Tb.zi_25 (by decide) (fill_o _ _ _) (by decide) rfl (by decide) (fun bS hbS => ?_)
  refine TL.call rfl Tb.gofn_17 (fun a w hs => long_ok w _ _ _ (hr.new hs.new) _ 1 [xs] (LsAt.one hs.new (by repeat (first | exact List.Mem.head _ | refine List.Mem.tail _ ?_ | refine List.mem_append_right _ ?_)) (hx.new hs.new)) (show 1 ≤ 1000 by decide) hl2) rfl (by decide) (fun _ _ => ?_)
  refine TL.nil ?_
  refine TQ.thenC ?_
  first | refine TC.condD rfl (fun hlong => ?_) (fun hlong => ?_) | refine TC.cond rfl (fun hlong => ?_) (fun hlong => ?_)
  · skip
    refine TC.seq ?_
    refine TC.region ?_
    refine TL.call rfl Tb.gofn_18 (fun a w hs => sane_ok w) rfl (by decide) (fun _ _ => ?_)
    refine TL.pure (PV.assign rfl) rfl (by decide) ?_
    refine TL.nil ?_
    refine TQ.thenC ?_
    refine TC.ret ?_
    refine TQ.thenR ?_
    refine TQ.retE1 rfl rfl ?_
    first | exact ⟨(), rfl, trivial, List.nil_sublist _⟩ | (exfalso; simp_all; done)
  · skip
    refine TC.skip ?_
    refine TQ.thenC ?_
    refine TC.seq ?_
    refine TC.region ?_
    refine TL.pure (PV.loadBox rfl Tb.agg_24 (by repeat (first | exact List.Mem.head _ | refine List.Mem.tail _ ?_ | refine List.mem_append_right _ ?_)) rfl) rfl (by decide) ?_
    refine TL.pure (PV.move rfl) rfl (by decide) ?_
    refine TL.call rfl Tb.gofn_51 (fun a w hs => Open_ok w _ _ _ (hr.new hs.new) _ _ _ (hx.new hs.new)) rfl (by decide) (fun a9 ha9 => ?_)
    refine TL.pure (PV.move rfl) rfl (by decide) ?_
    refine TL.pure (PV.extract rfl rfl) rfl (by decide) ?_
    refine TL.pure (PV.extract rfl rfl) rfl (by decide) ?_
    refine TL.pure (PV.assign rfl) rfl (by decide) ?_
    refine TL.pure (PV.assign rfl) rfl (by decide) ?_
    refine TL.nil ?_
    refine TQ.thenC ?_
    refine TC.seq ?_
    refine TC.region ?_
    refine TL.pure (PV.loadBox rfl Tb.agg_24 (by repeat (first | exact List.Mem.head _ | refine List.Mem.tail _ ?_ | refine List.mem_append_right _ ?_)) rfl) rfl (by decide) ?_
    refine TL.pure (PV.move rfl) rfl (by decide) ?_
    refine TL.call rfl Tb.gofn_52 (fun a w hs => rOpen_ok w _ _ _ (hr.new hs.new) _ _ _ (hx.new hs.new)) rfl (by decide) (fun b9 hb9 => ?_)
    refine TL.pure (PV.move rfl) rfl (by decide) ?_
    refine TL.pure (PV.extract rfl rfl) rfl (by decide) ?_
    refine TL.pure (PV.extract rfl rfl) rfl (by decide) ?_
    refine TL.pure (PV.assign rfl) rfl (by decide) ?_
    refine TL.pure (PV.assign rfl) rfl (by decide) ?_
    refine TL.nil ?_
    refine TQ.thenC ?_
    refine TC.seq ?_
    refine TC.seq ?_
    refine TC.region ?_
    refine TL.pure (PV.move rfl) rfl (by decide) ?_
    refine TL.pure (PV.move rfl) rfl (by decide) ?_
    refine TL.call rfl Tb.gofn_29 (fun a w hs => sameGG w (a9) (opnI ls xs) ha9 (IntsAt.g (x := (a9, opnI ls xs)) hs.new (fun yy hyy => by repeat (first | exact List.mem_append_left _ hyy | exact List.mem_append_left _ (List.mem_append_right _ hyy) | exact List.mem_append_left _ (List.mem_append_left _ hyy) | refine List.mem_append_right _ ?_ | refine List.Mem.tail _ ?_)) ha9) (b9) (opnI ls xs) hb9 (IntsAt.g (x := (b9, opnI ls xs)) hs.new (fun yy hyy => by repeat (first | exact List.mem_append_left _ hyy | exact List.mem_append_left _ (List.mem_append_right _ hyy) | exact List.mem_append_left _ (List.mem_append_left _ hyy) | refine List.mem_append_right _ ?_ | refine List.Mem.tail _ ?_)) hb9) opn_len opn_len) rfl (by decide) (fun _ _ => ?_)
    refine TL.pure ((by first | exact PV.notD rfl | exact PV.not rfl)) rfl (by decide) ?_
    refine TL.pure (PV.move rfl) rfl (by decide) ?_
    first | refine TL.splitD 32 rfl (fun h1 => ?_) (fun h1 => ?_) | refine TL.split 32 rfl (fun h1 => ?_) (fun h1 => ?_)
    · skip
      refine TL.skip rfl (fun k hk => by cases hk; decide) ?_
      refine TL.skip rfl (fun k hk => by cases hk; decide) ?_
      refine TL.skip rfl (fun k hk => by cases hk; decide) ?_
      refine TL.pure (PV.pickT rfl rfl) rfl (by decide) ?_
      refine TL.nil ?_
      refine TQ.thenC ?_
      refine TC.condT rfl ?_
      refine TC.seq ?_
      refine TC.region ?_
      refine TL.pure (PV.assign rfl) rfl (by decide) ?_
      refine TL.nil ?_
      refine TQ.thenC ?_
      refine TC.ret ?_
      refine TQ.thenR ?_
      refine TQ.retE1 rfl rfl ?_
      first | exact ⟨(), rfl, trivial, List.nil_sublist _⟩ | (exfalso; simp_all; done)
    · skip
      refine TL.pure (PV.move rfl) rfl (by decide) ?_
      refine TL.pure (PV.move rfl) rfl (by decide) ?_
      refine TL.pure (PV.neq rfl rfl) rfl (by decide) ?_
      refine TL.pure (PV.pickF rfl rfl) rfl (by decide) ?_
      refine TL.nil ?_
      refine TQ.thenC ?_
      first | refine TC.condD rfl (fun h2 => ?_) (fun h2 => ?_) | refine TC.cond rfl (fun h2 => ?_) (fun h2 => ?_)
      · skip
        refine TC.seq ?_
        refine TC.region ?_
        refine TL.pure (PV.assign rfl) rfl (by decide) ?_
        refine TL.nil ?_
        refine TQ.thenC ?_
        refine TC.ret ?_
        refine TQ.thenR ?_
        refine TQ.retE1 rfl rfl ?_
        first | exact ⟨(), rfl, trivial, List.nil_sublist _⟩ | (exfalso; simp_all; done)
      · skip
        refine TC.skip ?_
        refine TQ.thenC ?_
        refine TC.seq ?_
        refine TC.seq ?_
        refine TC.region ?_
        refine TL.pure (PV.assign rfl) rfl (by decide) ?_
        refine TL.nil ?_
        refine TQ.thenC ?_
        refine TC.block ?_
        -- live and written in the loop, not told: [4]
        refine TC.lit [(1, _), (2, _), (5, _), (9, _)] (by repeat (first | exact True.intro | refine And.intro rfl ?_)) ?_
        refine TC.loopK [1, 2, 5] (X := Nat) (fun u => u ≤ (opnI ls xs).length) (fun u => [(9, .int .i64 u)]) (fun u => gbI (a9, opnI ls xs) ++ [(b0, Obj.cells #[.slice p ls.length cap] 24 (0, 0))]) (fun u => (opnI ls xs).length - u) 0 (Nat.zero_le _) (by repeat (first | exact True.intro | refine And.intro rfl ?_)) (by exact List.Sublist.trans (List.Sublist.append_left (List.Sublist.cons _ (List.Sublist.refl _)) _) (List.sublist_append_right _ _)) ?_
        intro u hu
        have hol := opn_len (ls := ls) (xs := xs)
        refine TC.lit [(1, _), (2, _), (5, _), (9, _)] (by repeat (first | exact True.intro | refine And.intro rfl ?_)) ?_
        refine TC.seq ?_
        refine TC.seq ?_
        refine TC.region ?_
        refine TL.pure (PV.move rfl) rfl (by decide) ?_
        refine TL.pure (PV.move rfl) rfl (by decide) ?_
        refine TL.pure (PV.lenG rfl ha9 Tb.sl_25) rfl (by decide) ?_
        refine TL.pure (PV.lss rfl rfl) rfl (by decide) ?_
        refine TL.nil ?_
        refine TQ.thenC ?_
        first | refine TC.condD rfl (fun hlt => ?_) (fun hlt => ?_) | refine TC.cond rfl (fun hlt => ?_) (fun hlt => ?_)
        · skip
          refine TC.skip ?_
          refine TQ.thenC ?_
          refine TC.seq ?_
          refine TC.block ?_
          refine TC.seq ?_
          obtain ⟨c, hc, hcu, hch, hxl, hl6, hx0, hx4⟩ := opens (u := u) (ls := ls) (xs := xs) (by omega)
          refine TC.region ?_
          refine TL.buildSlice0 Tb.sl_25 Tb.zi_3 rfl (by decide) (fun bA hbA => ?_)
          refine TL.pure (PV.move rfl) rfl (by decide) ?_
          refine TL.append0 (m := xs.length) (news := ival xs) (bA := bA) rfl rfl Tb.sl_25 Tb.zi_3 rfl (by repeat (first | exact Take.head _ | apply Take.tail | apply Take.appR)) (fun w' hN2 => ints_src Tb.sl_25 rfl (hx.new hN2)) (by omega) (by omega) rfl (by decide) (fun h9 ho9 => ?_)
          refine TL.pure (PV.assign rfl) rfl (by decide) ?_
          refine TL.nil ?_
          refine TQ.thenC ?_
          refine TC.seq ?_
          refine TC.region ?_
          refine TL.pure (PV.move rfl) rfl (by decide) ?_
          refine TL.pure (PV.move rfl) rfl (by decide) ?_
          refine TL.pure (PV.move rfl) rfl (by decide) ?_
          refine TL.pure (PV.indexG (j := u) rfl rfl ha9 Tb.elm_25 rfl (by omega)) rfl (by decide) ?_
          refine TL.pure (PV.loadGI (y := (a9, opnI ls xs)) (j := u) (v := (c : Int)) rfl Tb.one_3 (fun yy hyy => by repeat (first | exact List.mem_append_left _ hyy | exact List.mem_append_left _ (List.mem_append_right _ hyy) | exact List.mem_append_left _ (List.mem_append_left _ hyy) | refine List.mem_append_right _ ?_ | refine List.Mem.tail _ ?_)) ha9 (by show u < (opnI ls xs).length; omega) hcu) rfl (by decide) ?_
          refine TL.pure (PV.indexG (j := c) rfl rfl ho9 Tb.elm_25 rfl (by omega)) rfl (by decide) ?_
          refine TL.pure (PV.loadGI (y := (h9, xs)) (j := c) (v := xs.getD c 0) rfl Tb.one_3 (fun yy hyy => by repeat (first | exact List.mem_append_left _ hyy | exact List.mem_append_left _ (List.mem_append_right _ hyy) | exact List.mem_append_left _ (List.mem_append_left _ hyy) | refine List.mem_append_right _ ?_ | refine List.Mem.tail _ ?_)) ho9 (by show c < xs.length; omega) rfl) rfl (by decide) ?_
          refine TL.pure (PV.add rfl rfl (by omega)) rfl (by decide) ?_
          refine TL.pure (PV.indexG (j := c) rfl rfl ho9 Tb.elm_25 rfl (by omega)) rfl (by decide) ?_
          refine TL.putI (h := h9) (xs := xs) (xs' := upL xs c) (j := c) rfl rfl Tb.cells_3 ho9 rfl (by repeat (first | exact PutH.here _ _ _ _ | apply PutH.tail | apply PutH.app)) (by omega) rfl rfl ?_
          refine TL.nil ?_
          refine TQ.thenC ?_
          refine TC.seq ?_
          have hu9 : goI (h9, upL xs c) := go_len ho9 (List.length_set ..) |> fun h => (by unfold goI; rw [show (upL xs c).length = xs.length from List.length_set ..]; exact h)
          refine TC.region ?_
          refine TL.pure (PV.loadBox rfl Tb.agg_24 (by repeat (first | exact List.Mem.head _ | refine List.Mem.tail _ ?_ | refine List.mem_append_right _ ?_)) rfl) rfl (by decide) ?_
          refine TL.pure (PV.move rfl) rfl (by decide) ?_
          refine TL.call rfl Tb.gofn_23 (fun a w hs => (by rw [gval_eq (gog hu9 (List.length_set ..))]; have h6 := checkHollow_ok w p cap ls (hr.new hs.new) _ (gc h9) (upL xs c) (IntsAt.g (x := (h9, upL xs c)) hs.new (fun yy hyy => by repeat (first | exact List.mem_append_left _ hyy | exact List.mem_append_left _ (List.mem_append_right _ hyy) | exact List.mem_append_left _ (List.mem_append_left _ hyy) | refine List.mem_append_right _ ?_ | refine List.Mem.tail _ ?_)) hu9); rw [List.length_set, hch] at h6; exact h6)) rfl (by decide) (fun _ _ => ?_)
          refine TL.pure (PV.neq rfl rfl) rfl (by decide) ?_
          refine TL.nil ?_
          refine TQ.thenC ?_
          first | refine TC.condD rfl (fun hbad => ?_) (fun hbad => ?_) | refine TC.cond rfl (fun hbad => ?_) (fun hbad => ?_)
          · skip
            refine TC.seq ?_
            refine TC.region ?_
            refine TL.pure (PV.assign rfl) rfl (by decide) ?_
            refine TL.nil ?_
            refine TQ.thenC ?_
            refine TC.ret ?_
            refine TQ.blkR ?_
            refine TQ.thenR ?_
            refine TQ.thenR ?_
            refine TQ.blkR ?_
            refine TQ.thenR ?_
            refine TQ.retE1 rfl rfl ?_
            first | exact ⟨(), rfl, trivial, List.nil_sublist _⟩ | (exfalso; simp_all; done)
          · skip
            refine TC.skip ?_
            refine TQ.blkN ?_
            refine TQ.thenC ?_
            refine TC.region ?_
            refine TL.pure (PV.move rfl) rfl (by decide) ?_
            refine TL.pure (PV.add rfl rfl (by omega)) rfl (by decide) ?_
            refine TL.pure (PV.assign rfl) rfl (by decide) ?_
            refine TL.nil ?_
            refine TQ.thenN ?_
            refine TQ.backK (u + 1) (by repeat (first | exact True.intro | refine And.intro rfl ?_)) (by repeat (first | exact True.intro | refine And.intro rfl ?_)) (List.sublist_append_right _ _) (by omega) (by omega)
        · skip
          refine TC.exit ?_
          refine TQ.thenE ?_
          refine TQ.thenE ?_
          refine TQ.blkS ?_
          refine TQ.thenC ?_
          refine TC.seq ?_
          refine TC.region ?_
          refine TL.call rfl Tb.gofn_18 (fun a w hs => sane_ok w) rfl (by decide) (fun _ _ => ?_)
          refine TL.pure (PV.assign rfl) rfl (by decide) ?_
          refine TL.nil ?_
          refine TQ.thenC ?_
          refine TC.ret ?_
          refine TQ.retE1 rfl rfl ?_
          first | exact ⟨(), rfl, trivial, List.nil_sublist _⟩ | (exfalso; simp_all; done)

end Go.Proofs.Ytfgjojoipbbacaa
