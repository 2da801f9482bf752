/- Best, Deepest: contracts; every right hollow is found. -/
import Derived.Test.YtfgjojoipbbacaaCK
set_option linter.unusedVariables false
set_option linter.unusedSimpArgs false
namespace Go.Proofs.Ytfgjojoipbbacaa
open Go.Sx Go.RowKit
theorem deepest {k : List Int} : ∀ n, 0 < n → ∃ c, c < n ∧ ∀ d, d < n → k.getD d 0 ≤ k.getD c 0
  | 0, h => by omega
  | 1, _ => ⟨0, by omega, fun d hd => by
      have e : d = 0 := by omega
      subst e
      exact Int.le_refl _⟩
  | n + 2, _ => by
    obtain ⟨c, hc, h⟩ := deepest (k := k) (n + 1) (by omega)
    by_cases e : k.getD (n + 1) 0 ≤ k.getD c 0
    · exact ⟨c, by omega, fun d hd => by
        by_cases e2 : d < n + 1
        · exact h d e2
        · obtain rfl : d = n + 1 := by omega
          exact e⟩
    · exact ⟨n + 1, by omega, fun d hd => by
        by_cases e2 : d < n + 1
        · have := h d e2; omega
        · obtain rfl : d = n + 1 := by omega
          exact Int.le_refl _⟩
theorem set_back {k : List Int} {c : Nat} (hc : c < k.length) : (k.set c (k.getD c 0 - 1)).set c ((k.set c (k.getD c 0 - 1)).getD c 0 + 1) = k := by
  rw [set_at hc, if_pos rfl]
  refine ints_ext (by simp) fun j hj => ?_
  rw [set_at (by simpa using hc)]
  by_cases e : c = j
  · subst e; rw [if_pos rfl]; omega
  · rw [if_neg e, set_at hc, if_neg e]
theorem RH.back {ls : List (List Int)} {k : List Int} {c : Nat} (hb : VB ls) (h : RH ls k) (hc : c < ls.length) (h0 : 0 < k.getD c 0) (hm : ∀ d, d < ls.length → k.getD d 0 ≤ k.getD c 0) : RH ls (k.set c (k.getD c 0 - 1)) ∧ opB ls (k.set c (k.getD c 0 - 1)) c = true := by
  have hn := hb.n
  have hl := h.len
  have hrc := h.rng c hc
  refine ⟨⟨by simp [hl], fun d hd => ?_, fun d hd => ?_, fun d hd => ?_⟩, op_yes ?_ fun u hu => ?_⟩
  · rw [set_at (by omega)]
    have := h.rng d hd
    split <;> omega
  · rw [set_at (by omega), if_neg (by omega)]
    exact h.out d hd
  · rw [set_at (by omega), set_at (by omega)]
    have h1 := h.stp d hd
    have h2 := hm d (by omega)
    have h3 := hm (d + 1) hd
    by_cases e1 : c = d
    · subst e1
      rw [if_neg (by omega), if_pos rfl]
      omega
    · by_cases e2 : c = d + 1
      · subst e2
        rw [if_pos rfl, if_neg (by omega)]
        omega
      · rw [if_neg e2, if_neg e1]
        exact h1
  · rw [set_at (by omega), if_pos rfl]
    omega
  · obtain ⟨n1, n2⟩ := near_bd hu
    have hmem : (nearL ls c).getD u 0 ∈ nearL ls c := by
      rw [show (nearL ls c).getD u 0 = (nearL ls c)[u] by simp [List.getD, hu]]
      exact List.getElem_mem _
    have h3 := (List.mem_filter.1 hmem).1
    generalize (nearL ls c).getD u 0 = e at n1 n2 h3
    simp only [List.mem_cons, List.not_mem_nil, or_false] at h3
    rw [set_at (by omega), set_at (by omega), if_pos rfl]
    by_cases e1 : c = e.toNat
    · rw [if_pos e1]; omega
    · rw [if_neg e1]
      rcases h3 with h3 | h3 | h3
      · have h4 := h.stp e.toNat (by omega)
        rw [show e.toNat + 1 = c by omega] at h4
        omega
      · omega
      · have h4 := h.stp c (by omega)
        rw [show c + 1 = e.toNat by omega] at h4
        omega
def totN (k : List Int) : Nat → Nat
  | 0 => 0
  | n + 1 => totN k n + (k.getD n 0).toNat
theorem tot_set {k : List Int} {c : Nat} (hc : c < k.length) (h0 : 0 < k.getD c 0) : ∀ n, totN (k.set c (k.getD c 0 - 1)) n + (if c < n then 1 else 0) = totN k n
  | 0 => rfl
  | n + 1 => by
    have ih := tot_set hc h0 n
    show totN (k.set c (k.getD c 0 - 1)) n + ((k.set c (k.getD c 0 - 1)).getD n 0).toNat + _ = totN k n + (k.getD n 0).toNat
    rw [set_at hc, ← ih]
    by_cases e : c = n
    · subst e
      rw [if_pos rfl, if_pos (by omega), if_neg (Nat.lt_irrefl _)]
      omega
    · rw [if_neg e]
      by_cases h : c < n
      · rw [if_pos h, if_pos (by omega)]; omega
      · rw [if_neg h, if_neg (by omega)]; omega
/-- Every right hollow is found. -/
theorem WI.all {ls : List (List Int)} {es : List Ent} (hb : VB ls) (h : WI ls es []) : ∀ (t : Nat) (k : List Int), RH ls k → totN k ls.length = t → k ∈ keysE es := by
    intro t
    induction t using Nat.strongRecOn with
    | _ t ihh => ?_
    intro k hk ht
    have hn := hb.n
    obtain ⟨c, hc, hm⟩ := deepest (k := k) ls.length (by omega)
    have hrc := hk.rng c hc
    by_cases h0 : k.getD c 0 = 0
    · have e : k = Zl := ints_ext hk.len fun j _ => by
        rw [Zl_at]
        by_cases hj : j < ls.length
        · have h1 := hm j hj
          have h2 := hk.rng j hj
          omega
        · exact hk.out j (by omega)
      rw [e]
      exact h.zero
    · obtain ⟨h1, h2⟩ := hk.back hb hc (by omega) hm
      have hts := tot_set (k := k) (c := c) (by have := hk.len; omega) (by omega) ls.length
      rw [if_pos hc] at hts
      have := ihh (totN (k.set c (k.getD c 0 - 1)) ls.length) (by omega) _ h1 rfl
      have h3 := h.clo _ this (by simp) c hc h2
      rwa [set_back (by have := hk.len; omega)] at h3


set_option maxRecDepth 100000 in
set_option maxHeartbeats 1000000 in
theorem Best_ok (w0 : World) (p : Option Addr) (cap : Nat) (ls : List (List Int)) (hr : LsAt w0 p ls) :
    Calls Try.prog 25 #[bv p ls.length cap] w0 (Post (X := HD × List Ent × List Nat) (fun x => .tuple #[gval x.1 (if validI ls = 0 then (joinF min x.2.1 x.2.2).1.take ls.length else []).length, .int .i64 (if validI ls = 0 then (joinF min x.2.1 x.2.2).2 else 0), .int .i64 (validI ls)]) (fun x => goI (x.1, if validI ls = 0 then (joinF min x.2.1 x.2.2).1.take ls.length else []) ∧ (validI ls = 0 → WI ls x.2.1 [] ∧ Ord x.2.1.length x.2.2 ∧ ∀ j, j < x.2.1.length → j ∈ x.2.2)) (fun x => gbI (x.1, if validI ls = 0 then (joinF min x.2.1 x.2.2).1.take ls.length else [])) w0) := by
  refine calls Try.func25 rfl (n := 10) rfl (by simp) ?_
  refine TC.seq ?_
  refine TC.region ?_
  refine TL.box rfl rfl (by decide) (fun b0 hb0 => ?_)
  refine TL.pure (PV.assign rfl) rfl (by decide) ?_
  refine TL.pure (PV.assign rfl) rfl (by decide) ?_
  refine TL.pure (PV.assign rfl) rfl (by decide) ?_
  refine TL.nil ?_
  refine TQ.thenC ?_
  refine TC.seq ?_
  refine TC.region ?_
  refine TL.pure (PV.loadBox rfl Tb.agg_24 (by repeat (first | exact List.Mem.head _ | refine List.Mem.tail _ ?_ | refine List.mem_append_right _ ?_)) rfl) rfl (by decide) ?_
  refine TL.call rfl Tb.gofn_68 (fun a w hs => joinBoth_ok w _ _ _ (hr.new hs.new)) rfl (by decide) (fun y9 hy9 => ?_)
  refine TL.pure (PV.extract rfl rfl) rfl (by decide) ?_
  refine TL.pure (PV.extract rfl rfl) rfl (by decide) ?_
  refine TL.pure (PV.extract rfl rfl) rfl (by decide) ?_
  refine TL.pure (PV.assign rfl) rfl (by decide) ?_
  refine TL.pure (PV.assign rfl) rfl (by decide) ?_
  refine TL.pure (PV.assign rfl) rfl (by decide) ?_
  refine TL.nil ?_
  refine TQ.thenC ?_
  refine TC.ret ?_
  refine TQ.retE3 rfl rfl rfl rfl ?_
  exact ⟨y9, rfl, hy9, List.sublist_append_left _ _⟩

set_option maxRecDepth 100000 in
set_option maxHeartbeats 1000000 in
theorem Deepest_ok (w0 : World) (p : Option Addr) (cap : Nat) (ls : List (List Int)) (hr : LsAt w0 p ls) :
    Calls Try.prog 27 #[bv p ls.length cap] w0 (Post (X := HD × List Ent × List Nat) (fun x => .tuple #[gval x.1 (if validI ls = 0 then (joinF max x.2.1 x.2.2).1.take ls.length else []).length, .int .i64 (if validI ls = 0 then (joinF max x.2.1 x.2.2).2 else 0), .int .i64 (validI ls)]) (fun x => goI (x.1, if validI ls = 0 then (joinF max x.2.1 x.2.2).1.take ls.length else []) ∧ (validI ls = 0 → WI ls x.2.1 [] ∧ Ord x.2.1.length x.2.2 ∧ ∀ j, j < x.2.1.length → j ∈ x.2.2)) (fun x => gbI (x.1, if validI ls = 0 then (joinF max x.2.1 x.2.2).1.take ls.length else [])) w0) := by
  refine calls Try.func27 rfl (n := 10) rfl (by simp) ?_
  refine TC.seq ?_
  refine TC.region ?_
  refine TL.box rfl rfl (by decide) (fun b0 hb0 => ?_)
  refine TL.pure (PV.assign rfl) rfl (by decide) ?_
  refine TL.pure (PV.assign rfl) rfl (by decide) ?_
  refine TL.pure (PV.assign rfl) rfl (by decide) ?_
  refine TL.nil ?_
  refine TQ.thenC ?_
  refine TC.seq ?_
  refine TC.region ?_
  refine TL.pure (PV.loadBox rfl Tb.agg_24 (by repeat (first | exact List.Mem.head _ | refine List.Mem.tail _ ?_ | refine List.mem_append_right _ ?_)) rfl) rfl (by decide) ?_
  refine TL.call rfl Tb.gofn_68 (fun a w hs => joinEither_ok w _ _ _ (hr.new hs.new)) rfl (by decide) (fun y9 hy9 => ?_)
  refine TL.pure (PV.extract rfl rfl) rfl (by decide) ?_
  refine TL.pure (PV.extract rfl rfl) rfl (by decide) ?_
  refine TL.pure (PV.extract rfl rfl) rfl (by decide) ?_
  refine TL.pure (PV.assign rfl) rfl (by decide) ?_
  refine TL.pure (PV.assign rfl) rfl (by decide) ?_
  refine TL.pure (PV.assign rfl) rfl (by decide) ?_
  refine TL.nil ?_
  refine TQ.thenC ?_
  refine TC.ret ?_
  refine TQ.retE3 rfl rfl rfl rfl ?_
  exact ⟨y9, rfl, hy9, List.sublist_append_left _ _⟩

end Go.Proofs.Ytfgjojoipbbacaa
