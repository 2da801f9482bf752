/- The errors of yards, fillings and lists: contracts. -/
import Derived.Test.YtkkipbkkijoneaaDa
set_option linter.unusedVariables false
set_option linter.unusedSimpArgs false
namespace Go.Proofs.Ytkkipbkkijoneaa
open Go.Sx Go.RowKit

theorem fst_find {α : Type} [Inhabited α] {φ : α → Bool} {xs : List α} {i : Int} (h : Fst φ xs i) : i = -1 ∨ ∃ k : Nat, i = k ∧ k < xs.length := by
  rcases h with ⟨rfl, _⟩ | ⟨k, rfl, hk, _⟩
  · exact .inl rfl
  · exact .inr ⟨k, rfl, hk⟩
/-- The error of a yard and fillings. -/
def filI (n : Int) (ss : List St) (xss : List (List Int)) : Int := if validI n ss ≠ 0 then validI n ss else if xss.all (numB n 0 50) = true then 0 else 1
theorem fil_v {n : Int} {ss : List St} {xss : List (List Int)} (h : validI n ss ≠ 0) : filI n ss xss = validI n ss := if_pos h
theorem fil_1 {n : Int} {ss : List St} {xss : List (List Int)} (h : ¬ validI n ss ≠ 0) {k : Nat} (hk : k < xss.length) (h2 : numB n 0 50 (xss.getD k []) = false) : filI n ss xss = 1 := by
  unfold filI; rw [if_neg h, if_neg (by rw [all_no hk h2]; decide)]
theorem fil_0 {n : Int} {ss : List St} {xss : List (List Int)} (h : ¬ validI n ss ≠ 0) (h2 : ∀ k, k < xss.length → numB n 0 50 (xss.getD k []) = true) : filI n ss xss = 0 := by
  unfold filI; rw [if_neg h, if_pos (all_yes h2)]
theorem fil_of {n : Int} {ss : List St} {xss : List (List Int)} (h : ¬ filI n ss xss ≠ 0) : VY n ss ∧ ∀ k, k < xss.length → numB n 0 50 (xss.getD k []) = true := by
  have h0 := Decidable.of_not_not h
  unfold filI at h0
  split at h0
  · rename_i h1; exact absurd h0 h1
  · split at h0
    · rename_i h1 h2
      exact ⟨vy_of h1, fun k hk => all_at' h2 hk⟩
    · cases h0
/-- A yard and a filling of it. -/
structure VM (n : Int) (ss : List St) (xs : List Int) : Prop extends VY n ss where
  ml : (xs.length : Int) = n
  mb : ∀ k, 0 ≤ xs.getD k 0 ∧ xs.getD k 0 ≤ 50
theorem vm_of {n : Int} {ss : List St} {xs : List Int} (h : ¬ filI n ss [xs] ≠ 0) : VM n ss xs := by
  obtain ⟨h1, h2⟩ := fil_of h
  have h3 : numB n 0 50 xs = true := h2 0 (by simp)
  exact ⟨h1, num_len h3, num_at h3 (by decide)⟩
theorem vm2_of {n : Int} {ss : List St} {xs ys : List Int} (h : ¬ filI n ss [xs, ys] ≠ 0) : VM n ss xs ∧ VM n ss ys := by
  obtain ⟨h1, h2⟩ := fil_of h
  have h3 : numB n 0 50 xs = true := h2 0 (by simp)
  have h4 : numB n 0 50 ys = true := h2 1 (by simp)
  exact ⟨⟨h1, num_len h3, num_at h3 (by decide)⟩, ⟨h1, num_len h4, num_at h4 (by decide)⟩⟩
theorem VM.l6 {n : Int} {ss : List St} {xs : List Int} (h : VM n ss xs) : xs.length ≤ 6 := by have := h.ml; have := h.hn; omega
theorem VM.num {n : Int} {ss : List St} {xs : List Int} (h : VM n ss xs) : numB n 0 50 xs = true := num_3 h.ml fun k _ => h.mb k
theorem vm_vy {n : Int} {ss : List St} {xs : List Int} (h : VY n ss) (h2 : numB n 0 50 xs = true) : VM n ss xs := ⟨h, num_len h2, num_at h2 (by decide)⟩
theorem VM.fil {n : Int} {ss : List St} {xs : List Int} (h : VM n ss xs) : filI n ss [xs] = 0 := fil_0 (by rw [h.v]; decide) fun k hk => by
  have e : k = 0 := by simp only [List.length_cons, List.length_nil] at hk; omega
  subst e
  exact h.num
theorem one_len {xs : List Int} (h : xs.length ≤ 1000000) (k : Nat) : ([xs].getD k []).length ≤ 1000000 := by
  match k with
  | 0 => exact h
  | k + 1 => simp [List.getD]
theorem two_len {xs ys : List Int} (h : xs.length ≤ 1000000) (h2 : ys.length ≤ 1000000) (k : Nat) : ([xs, ys].getD k []).length ≤ 1000000 := by
  match k with
  | 0 => exact h
  | 1 => exact h2
  | k + 2 => simp [List.getD]
/-- The error of a yard, a filling and a step. -/
def stpI (n : Int) (ss : List St) (xs : List Int) (i : Int) : Int := if filI n ss [xs] ≠ 0 then filI n ss [xs] else listI ss.length [i]
theorem list_one {k : Nat} {i : Int} (h : ¬ listI k [i] ≠ 0) : ∃ u : Nat, i = u ∧ u < k := by
  have := (list_at h).2 0 (by simp)
  simp only [List.getD_cons_zero] at this
  exact ⟨i.toNat, by omega, by omega⟩
theorem stp_of {n : Int} {ss : List St} {xs : List Int} {i : Int} (h : ¬ stpI n ss xs i ≠ 0) : VM n ss xs ∧ ∃ u : Nat, i = u ∧ u < ss.length := by
  unfold stpI at h
  split at h
  · rename_i h1; exact absurd h1 h
  · rename_i h1; exact ⟨vm_of h1, list_one h⟩


set_option maxRecDepth 100000 in
set_option maxHeartbeats 1000000 in
theorem rvalidate_ok (w0 : World) (n : Int) (p : Option Addr) (cp : Nat) (ss : List St) (hr : StsAt w0 p ss) (hS : SmS ss) :
    Calls Try.prog 25 #[yv n p ss.length cp] w0 (Post (X := Unit) (fun _ => .int .i64 (validI n ss)) (fun _ => True) (fun _ => []) w0) := by
  refine calls Try.func25 rfl (n := 41) rfl (by simp) ?_
  refine TC.seq ?_
  refine TC.region ?_
  refine TL.box rfl rfl (by decide) (fun b0 hb0 => ?_)
  refine TL.pure (PV.assign rfl) rfl (by decide) ?_
  refine TL.nil ?_
  refine TQ.thenC ?_
  refine TC.seq ?_
  refine TC.seq ?_
  refine TC.region ?_
  refine TL.pure (PV.fieldAddr rfl Tb.fo_24_0) rfl (by decide) ?_
  refine TL.pure (PV.load rfl Tb.one_3 (by repeat (first | exact List.Mem.head _ | refine List.Mem.tail _ ?_ | refine List.mem_append_right _ ?_)) rfl) rfl (by decide) ?_
  refine TL.call rfl Tb.gofn_71 (fun a w hs => within_ok w _ _ _) rfl (by decide) (fun _ _ => ?_)
  refine TL.pure ((by first | exact PV.notD rfl | exact PV.not rfl)) rfl (by decide) ?_
  refine TL.nil ?_
  refine TQ.thenC ?_
  first | refine TC.condD rfl (fun a1 => ?_) (fun a1 => ?_) | refine TC.cond rfl (fun a1 => ?_) (fun a1 => ?_)
  · skip
    refine TC.seq ?_
    refine TC.region ?_
    refine TL.pure (PV.assign rfl) rfl (by decide) ?_
    refine TL.nil ?_
    refine TQ.thenC ?_
    refine TC.ret ?_
    refine TQ.thenR ?_
    refine TQ.retE1 rfl rfl ?_
    exact ⟨(), by rw [valid_1 (by omega)], trivial, List.nil_sublist _⟩
  · skip
    refine TC.skip ?_
    refine TQ.thenC ?_
    refine TC.seq ?_
    refine TC.seq ?_
    refine TC.region ?_
    refine TL.pure (PV.fieldAddr rfl Tb.fo_24_1) rfl (by decide) ?_
    refine TL.pure (PV.load rfl Tb.one_22 (by repeat (first | exact List.Mem.head _ | refine List.Mem.tail _ ?_ | refine List.mem_append_right _ ?_)) rfl) rfl (by decide) ?_
    refine TL.pure (PV.len rfl Tb.sl_22) rfl (by decide) ?_
    refine TL.pure (PV.gtr rfl rfl) rfl (by decide) ?_
    refine TL.nil ?_
    refine TQ.thenC ?_
    first | refine TC.condD rfl (fun a3 => ?_) (fun a3 => ?_) | refine TC.cond rfl (fun a3 => ?_) (fun a3 => ?_)
    · skip
      refine TC.seq ?_
      refine TC.region ?_
      refine TL.pure (PV.assign rfl) rfl (by decide) ?_
      refine TL.nil ?_
      refine TQ.thenC ?_
      refine TC.ret ?_
      refine TQ.thenR ?_
      refine TQ.retE1 rfl rfl ?_
      exact ⟨(), by rw [valid_3 (by omega) (by omega)], trivial, List.nil_sublist _⟩
    · skip
      refine TC.skip ?_
      refine TQ.thenC ?_
      refine TC.seq ?_
      refine TC.seq ?_
      refine TC.region ?_
      refine TL.pure (PV.assign rfl) rfl (by decide) ?_
      refine TL.nil ?_
      refine TQ.thenC ?_
      refine TC.block ?_
      -- live and written in the loop, not told: [2]
      refine TC.loopG [1] (X := Nat) (fun k => k ≤ ss.length ∧ ∀ j, j < k → okS n (ss.getD j default) = true) (fun k => [(3, .int .i64 k)]) (fun k => ss.length - k) 0 ⟨Nat.zero_le _, fun j hj => absurd hj (Nat.not_lt_zero _)⟩ (by repeat (first | exact True.intro | refine And.intro rfl ?_)) ?_
      intro k hk
      refine TC.seq ?_
      refine TC.seq ?_
      refine TC.region ?_
      refine TL.pure (PV.move rfl) rfl (by decide) ?_
      refine TL.pure (PV.fieldAddr rfl Tb.fo_24_1) rfl (by decide) ?_
      refine TL.pure (PV.load rfl Tb.one_22 (by repeat (first | exact List.Mem.head _ | refine List.Mem.tail _ ?_ | refine List.mem_append_right _ ?_)) rfl) rfl (by decide) ?_
      refine TL.pure (PV.len rfl Tb.sl_22) rfl (by decide) ?_
      refine TL.pure (PV.lss rfl rfl) rfl (by decide) ?_
      refine TL.nil ?_
      refine TQ.thenC ?_
      first | refine TC.condD rfl (fun hlt => ?_) (fun hlt => ?_) | refine TC.cond rfl (fun hlt => ?_) (fun hlt => ?_)
      · skip
        refine TC.skip ?_
        refine TQ.thenC ?_
        refine TC.seq ?_
        refine TC.block ?_
        refine TC.seq ?_
        have hS1 := hS.1
        have a1 : 1 ≤ n ∧ n ≤ 6 := by simpa using a1
        obtain ⟨q1, hq1p, pa, pb, ca, cb, hq10, hq11, hta, htb⟩ := hr k (by omega)
        refine TC.mixV [true, true, true, true, true, true, true, true, false, true, true, true, true, true, true, true, true, true, true, false, true, true] [(b0, Obj.cells #[.int .i64 n, .slice p ss.length cp] 24 (0, 0))] 22 Tb.mixed rfl (by kernel_rfl) (by kernel_rfl) (by kernel_rfl) (by kernel_rfl) (by repeat (first | exact List.Sublist.slnil | exact List.nil_sublist _ | exact List.Sublist.refl _ | refine List.Sublist.cons_cons _ ?_ | refine List.Sublist.cons _ ?_ | refine List.Sublist.trans ?_ (List.sublist_append_right _ _))) ?_
        refine TV.virt 0 rfl rfl (by decide) rfl (by kernel_rfl) (SOK.pure (PV.fieldAddr rfl Tb.fo_24_1) rfl) ?_
        refine TV.virt 1 rfl rfl (by decide) rfl (by kernel_rfl) (SOK.pure (PV.load rfl Tb.one_22 (by repeat (first | exact List.Mem.head _ | refine List.Mem.tail _ ?_ | refine List.mem_append_right _ ?_)) rfl) rfl) ?_
        refine TV.virt 2 rfl rfl (by decide) rfl (by kernel_rfl) (SOK.pure (PV.move rfl) rfl) ?_
        refine TV.virt 3 rfl rfl (by decide) rfl (by kernel_rfl) (SOK.pure (PV.indexA rfl hq1p rfl Tb.elm_22 rfl (by omega)) rfl) ?_
        refine TV.virt 4 rfl rfl (by decide) rfl (by kernel_rfl) (SOK.pure (PV.fieldAddrA rfl Tb.fo_63_0) rfl) ?_
        refine TV.virt 5 rfl rfl (by decide) rfl (by kernel_rfl) (SOK.pure (PV.loadOld rfl Tb.one_25 hq10) rfl) ?_
        refine TV.virt 6 rfl rfl (by decide) rfl (by kernel_rfl) (SOK.pure (PV.fieldAddr rfl Tb.fo_24_0) rfl) ?_
        refine TV.virt 7 rfl rfl (by decide) rfl (by kernel_rfl) (SOK.pure (PV.load rfl Tb.one_3 (by repeat (first | exact List.Mem.head _ | refine List.Mem.tail _ ?_ | refine List.mem_append_right _ ?_)) rfl) rfl) ?_
        refine TV.step [8] (by kernel_rfl) (by decide) rfl ⟨⟨_, rfl, ?_⟩, trivial⟩
        refine TL.call rfl Tb.gofn_72 (fun a w hs => rall_ok w _ _ _ (hta.new hs.new) (hS.2 k).1 _ _ _) rfl (by decide) (fun _ _ => ?_)
        refine TL.nil ?_
        refine TV.next (.inl (by repeat (first | exact List.Sublist.slnil | exact List.nil_sublist _ | exact List.Sublist.refl _ | refine List.Sublist.cons_cons _ ?_ | refine List.Sublist.cons _ ?_ | refine List.Sublist.trans ?_ (List.sublist_append_right _ _)))) ?_
        refine TV.virt 9 rfl rfl (by decide) rfl (by kernel_rfl) (SOK.pure ((by first | exact PV.notD rfl | exact PV.not rfl)) rfl) ?_
        refine TV.virt 10 rfl rfl (by decide) rfl (by kernel_rfl) (SOK.pure (PV.move rfl) rfl) ?_
        first | refine TV.splitD 29 rfl (fun a4 => ?_) (fun a4 => ?_) | refine TV.split 29 rfl (fun a4 => ?_) (fun a4 => ?_)
        · skip
          refine TV.virt 11 rfl rfl (by decide) rfl (by kernel_rfl) (SOK.skip rfl) ?_
          refine TV.virt 12 rfl rfl (by decide) rfl (by kernel_rfl) (SOK.skip rfl) ?_
          refine TV.virt 13 rfl rfl (by decide) rfl (by kernel_rfl) (SOK.skip rfl) ?_
          refine TV.virt 14 rfl rfl (by decide) rfl (by kernel_rfl) (SOK.skip rfl) ?_
          refine TV.virt 15 rfl rfl (by decide) rfl (by kernel_rfl) (SOK.skip rfl) ?_
          refine TV.virt 16 rfl rfl (by decide) rfl (by kernel_rfl) (SOK.skip rfl) ?_
          refine TV.virt 17 rfl rfl (by decide) rfl (by kernel_rfl) (SOK.skip rfl) ?_
          refine TV.virt 18 rfl rfl (by decide) rfl (by kernel_rfl) (SOK.skip rfl) ?_
          refine TV.step [19] (by kernel_rfl) (by decide) rfl ⟨⟨_, rfl, ?_⟩, trivial⟩
          refine TL.skip rfl (fun k hk => by cases hk; decide) ?_
          refine TL.nil ?_
          refine TV.next (.inl (by repeat (first | exact List.Sublist.slnil | exact List.nil_sublist _ | exact List.Sublist.refl _ | refine List.Sublist.cons_cons _ ?_ | refine List.Sublist.cons _ ?_ | refine List.Sublist.trans ?_ (List.sublist_append_right _ _)))) ?_
          refine TV.virt 20 rfl rfl (by decide) rfl (by kernel_rfl) (SOK.skip rfl) ?_
          refine TV.virt 21 rfl rfl (by decide) rfl (by kernel_rfl) (SOK.pure (PV.pickT rfl rfl) rfl) ?_
          refine TV.done (by kernel_rfl) ?_
          refine TQ.thenC ?_
          refine TC.condT rfl ?_
          refine TC.seq ?_
          refine TC.region ?_
          refine TL.pure (PV.assign rfl) rfl (by decide) ?_
          refine TL.nil ?_
          refine TQ.thenC ?_
          refine TC.ret ?_
          refine TQ.blkR ?_
          refine TQ.thenR ?_
          refine TQ.thenR ?_
          refine TQ.blkR ?_
          refine TQ.thenR ?_
          refine TQ.retE1 rfl rfl ?_
          exact ⟨(), by rw [valid_n (k := k) (by omega) (by omega) (by omega) (by unfold okS; simp_all)], trivial, List.nil_sublist _⟩
        · skip
          refine TV.virt 11 rfl rfl (by decide) rfl (by kernel_rfl) (SOK.pure (PV.fieldAddr rfl Tb.fo_24_1) rfl) ?_
          refine TV.virt 12 rfl rfl (by decide) rfl (by kernel_rfl) (SOK.pure (PV.load rfl Tb.one_22 (by repeat (first | exact List.Mem.head _ | refine List.Mem.tail _ ?_ | refine List.mem_append_right _ ?_)) rfl) rfl) ?_
          refine TV.virt 13 rfl rfl (by decide) rfl (by kernel_rfl) (SOK.pure (PV.move rfl) rfl) ?_
          refine TV.virt 14 rfl rfl (by decide) rfl (by kernel_rfl) (SOK.pure (PV.indexA rfl hq1p rfl Tb.elm_22 rfl (by omega)) rfl) ?_
          refine TV.virt 15 rfl rfl (by decide) rfl (by kernel_rfl) (SOK.pure (PV.fieldAddrA rfl Tb.fo_63_1) rfl) ?_
          refine TV.virt 16 rfl rfl (by decide) rfl (by kernel_rfl) (SOK.pure (PV.loadOld rfl Tb.one_25 hq11) rfl) ?_
          refine TV.virt 17 rfl rfl (by decide) rfl (by kernel_rfl) (SOK.pure (PV.fieldAddr rfl Tb.fo_24_0) rfl) ?_
          refine TV.virt 18 rfl rfl (by decide) rfl (by kernel_rfl) (SOK.pure (PV.load rfl Tb.one_3 (by repeat (first | exact List.Mem.head _ | refine List.Mem.tail _ ?_ | refine List.mem_append_right _ ?_)) rfl) rfl) ?_
          refine TV.step [19] (by kernel_rfl) (by decide) rfl ⟨⟨_, rfl, ?_⟩, trivial⟩
          refine TL.call rfl Tb.gofn_72 (fun a w hs => rall_ok w _ _ _ (htb.new hs.new) (hS.2 k).2 _ _ _) rfl (by decide) (fun _ _ => ?_)
          refine TL.nil ?_
          refine TV.next (.inl (by repeat (first | exact List.Sublist.slnil | exact List.nil_sublist _ | exact List.Sublist.refl _ | refine List.Sublist.cons_cons _ ?_ | refine List.Sublist.cons _ ?_ | refine List.Sublist.trans ?_ (List.sublist_append_right _ _)))) ?_
          refine TV.virt 20 rfl rfl (by decide) rfl (by kernel_rfl) (SOK.pure ((by first | exact PV.notD rfl | exact PV.not rfl)) rfl) ?_
          refine TV.virt 21 rfl rfl (by decide) rfl (by kernel_rfl) (SOK.pure (PV.pickF rfl rfl) rfl) ?_
          refine TV.done (by kernel_rfl) ?_
          refine TQ.thenC ?_
          first | refine TC.condD rfl (fun a5 => ?_) (fun a5 => ?_) | refine TC.cond rfl (fun a5 => ?_) (fun a5 => ?_)
          · skip
            refine TC.seq ?_
            refine TC.region ?_
            refine TL.pure (PV.assign rfl) rfl (by decide) ?_
            refine TL.nil ?_
            refine TQ.thenC ?_
            refine TC.ret ?_
            refine TQ.blkR ?_
            refine TQ.thenR ?_
            refine TQ.thenR ?_
            refine TQ.blkR ?_
            refine TQ.thenR ?_
            refine TQ.retE1 rfl rfl ?_
            exact ⟨(), by rw [valid_n (k := k) (by omega) (by omega) (by omega) (by unfold okS; simp_all)], trivial, List.nil_sublist _⟩
          · skip
            refine TC.skip ?_
            refine TQ.blkN ?_
            refine TQ.thenC ?_
            refine TC.region ?_
            refine TL.pure (PV.move rfl) rfl (by decide) ?_
            refine TL.pure (PV.add rfl rfl (by omega)) rfl (by decide) ?_
            refine TL.pure (PV.assign rfl) rfl (by decide) ?_
            refine TL.nil ?_
            refine TQ.thenN ?_
            refine TQ.backK (k + 1) (by repeat (first | exact True.intro | refine And.intro rfl ?_)) (by repeat (first | exact True.intro | refine And.intro rfl ?_)) (by repeat (first | exact List.Sublist.slnil | exact List.nil_sublist _ | exact List.Sublist.refl _ | refine List.Sublist.cons_cons _ ?_ | refine List.Sublist.cons _ ?_ | refine List.Sublist.trans ?_ (List.sublist_append_right _ _))) ⟨by omega, fun j hj => if e : j < k then hk.2 j e else (show k = j by omega) ▸ (by unfold okS; simp_all)⟩ (by omega)
      · skip
        refine TC.exit ?_
        refine TQ.thenE ?_
        refine TQ.thenE ?_
        refine TQ.blkS ?_
        refine TQ.thenC ?_
        refine TC.seq ?_
        refine TC.region ?_
        refine TL.pure (PV.assign rfl) rfl (by decide) ?_
        refine TL.nil ?_
        refine TQ.thenC ?_
        refine TC.ret ?_
        refine TQ.retE1 rfl rfl ?_
        exact ⟨(), by rw [valid_0 (by omega) (by omega) (fun j hj => hk.2 j (by omega))], trivial, List.nil_sublist _⟩

set_option maxRecDepth 100000 in
set_option maxHeartbeats 1000000 in
theorem valFil_ok (w0 : World) (n : Int) (p : Option Addr) (cp : Nat) (ss : List St) (hr : StsAt w0 p ss) (hS : SmS ss) (q : Option Addr) (cq N : Nat) (xss : List (List Int)) (hq : LsAt w0 q xss) (hN : xss.length = N) (hlo : ∀ k, (xss.getD k []).length ≤ 1000000) (hln : xss.length ≤ 1000000) :
    Calls Try.prog 73 #[yv n p ss.length cp, .slice q N cq] w0 (Post (X := Unit) (fun _ => .int .i64 (filI n ss xss)) (fun _ => True) (fun _ => []) w0) := by
  refine calls Try.func73 rfl (n := 25) rfl (by simp) ?_
  refine TC.seq ?_
  refine TC.region ?_
  refine TL.box rfl rfl (by decide) (fun b0 hb0 => ?_)
  refine TL.pure (PV.assign rfl) rfl (by decide) ?_
  refine TL.nil ?_
  refine TQ.thenC ?_
  refine TC.seq ?_
  refine TC.seq ?_
  refine TC.region ?_
  refine TL.pure (PV.loadBox rfl Tb.agg_24 (by repeat (first | exact List.Mem.head _ | refine List.Mem.tail _ ?_ | refine List.mem_append_right _ ?_)) rfl) rfl (by decide) ?_
  refine TL.call rfl Tb.gofn_24 (fun a w hs => validate_ok w _ _ _ _ (hr.new hs.new) hS) rfl (by decide) (fun _ _ => ?_)
  refine TL.pure (PV.assign rfl) rfl (by decide) ?_
  refine TL.nil ?_
  refine TQ.thenC ?_
  refine TC.seq ?_
  refine TC.region ?_
  refine TL.pure (PV.move rfl) rfl (by decide) ?_
  refine TL.pure (PV.neq rfl rfl) rfl (by decide) ?_
  refine TL.nil ?_
  refine TQ.thenC ?_
  first | refine TC.condD rfl (fun a1 => ?_) (fun a1 => ?_) | refine TC.cond rfl (fun a1 => ?_) (fun a1 => ?_)
  · skip
    refine TC.seq ?_
    refine TC.region ?_
    refine TL.pure (PV.move rfl) rfl (by decide) ?_
    refine TL.pure (PV.assign rfl) rfl (by decide) ?_
    refine TL.nil ?_
    refine TQ.thenC ?_
    refine TC.ret ?_
    refine TQ.thenR ?_
    refine TQ.retE1 rfl rfl ?_
    exact ⟨(), by rw [fil_v a1], trivial, List.nil_sublist _⟩
  · skip
    refine TC.skip ?_
    refine TQ.thenC ?_
    refine TC.seq ?_
    refine TC.seq ?_
    refine TC.region ?_
    refine TL.pure (PV.move rfl) rfl (by decide) ?_
    refine TL.pure (PV.len rfl Tb.sl_97) rfl (by decide) ?_
    refine TL.pure (PV.move rfl) rfl (by decide) ?_
    refine TL.nil ?_
    refine TQ.thenC ?_
    refine TC.block ?_
    -- live and written in the loop, not told: [4]
    refine TC.loopG [2, 13, 14] (X := Nat) (fun k => k ≤ xss.length ∧ ∀ j, j < k → numB n 0 50 (xss.getD j []) = true) (fun k => [(15, .int .i64 k)]) (fun k => xss.length - k) 0 ⟨Nat.zero_le _, fun j hj => absurd hj (Nat.not_lt_zero _)⟩ (by repeat (first | exact True.intro | refine And.intro rfl ?_)) ?_
    intro k hk
    refine TC.seq ?_
    refine TC.region ?_
    refine TL.pure (PV.lss rfl rfl) rfl (by decide) ?_
    refine TL.nil ?_
    refine TQ.thenC ?_
    refine TC.seq ?_
    first | refine TC.condD rfl (fun hlt => ?_) (fun hlt => ?_) | refine TC.cond rfl (fun hlt => ?_) (fun hlt => ?_)
    · skip
      refine TC.skip ?_
      refine TQ.thenC ?_
      refine TC.seq ?_
      refine TC.block ?_
      refine TC.seq ?_
      obtain ⟨q1, hq1p, p1, c1, hq1, hi1⟩ := hq k (by omega)
      refine TC.region ?_
      refine TL.pure (PV.indexA rfl hq1p rfl Tb.elm_97 rfl (by omega)) rfl (by decide) ?_
      refine TL.pure (PV.loadOld rfl Tb.one_25 hq1) rfl (by decide) ?_
      refine TL.pure (PV.assign rfl) rfl (by decide) ?_
      refine TL.nil ?_
      refine TQ.thenC ?_
      refine TC.seq ?_
      refine TC.region ?_
      refine TL.pure (PV.move rfl) rfl (by decide) ?_
      refine TL.pure (PV.fieldAddr rfl Tb.fo_24_0) rfl (by decide) ?_
      refine TL.pure (PV.load rfl Tb.one_3 (by repeat (first | exact List.Mem.head _ | refine List.Mem.tail _ ?_ | refine List.mem_append_right _ ?_)) rfl) rfl (by decide) ?_
      refine TL.call rfl Tb.gofn_70 (fun a w hs => areNumbers_ok w _ _ _ (hi1.new hs.new) (hlo k) _ _ _) rfl (by decide) (fun _ _ => ?_)
      refine TL.pure ((by first | exact PV.notD rfl | exact PV.not rfl)) rfl (by decide) ?_
      refine TL.nil ?_
      refine TQ.thenC ?_
      first | refine TC.condD rfl (fun hno => ?_) (fun hno => ?_) | refine TC.cond rfl (fun hno => ?_) (fun hno => ?_)
      · skip
        refine TC.seq ?_
        refine TC.region ?_
        refine TL.pure (PV.assign rfl) rfl (by decide) ?_
        refine TL.nil ?_
        refine TQ.thenC ?_
        refine TC.ret ?_
        refine TQ.blkR ?_
        refine TQ.thenR ?_
        refine TQ.thenR ?_
        refine TQ.blkR ?_
        refine TQ.thenR ?_
        refine TQ.retE1 rfl rfl ?_
        exact ⟨(), by rw [fil_1 a1 (k := k) (by omega) (by simpa using hno)], trivial, List.nil_sublist _⟩
      · skip
        refine TC.skip ?_
        refine TQ.blkN ?_
        refine TQ.thenC ?_
        refine TC.region ?_
        refine TL.pure (PV.add rfl rfl (by omega)) rfl (by decide) ?_
        refine TL.pure (PV.move rfl) rfl (by decide) ?_
        refine TL.nil ?_
        refine TQ.thenN ?_
        refine TQ.backK (k + 1) (by repeat (first | exact True.intro | refine And.intro rfl ?_)) (by repeat (first | exact True.intro | refine And.intro rfl ?_)) (by repeat (first | exact List.Sublist.slnil | exact List.nil_sublist _ | exact List.Sublist.refl _ | refine List.Sublist.cons_cons _ ?_ | refine List.Sublist.cons _ ?_ | refine List.Sublist.trans ?_ (List.sublist_append_right _ _))) ⟨by omega, fun j hj => if e : j < k then hk.2 j e else (show k = j by omega) ▸ (by simpa using hno)⟩ (by omega)
    · skip
      refine TC.exit ?_
      refine TQ.thenE ?_
      refine TQ.thenE ?_
      refine TQ.blkS ?_
      refine TQ.thenC ?_
      refine TC.seq ?_
      refine TC.region ?_
      refine TL.pure (PV.assign rfl) rfl (by decide) ?_
      refine TL.nil ?_
      refine TQ.thenC ?_
      refine TC.ret ?_
      refine TQ.retE1 rfl rfl ?_
      exact ⟨(), by rw [fil_0 a1 (fun j hj => hk.2 j (by omega))], trivial, List.nil_sublist _⟩

set_option maxRecDepth 100000 in
set_option maxHeartbeats 1000000 in
theorem rfilled_ok (w0 : World) (n : Int) (p : Option Addr) (cp : Nat) (ss : List St) (hr : StsAt w0 p ss) (hS : SmS ss) (pl : Option Addr) (cl : Nat) (xs : List Int) (hx : IntsAt w0 pl xs) (hl : xs.length ≤ 1000000) :
    Calls Try.prog 75 #[yv n p ss.length cp, .slice pl xs.length cl] w0 (Post (X := Unit) (fun _ => .int .i64 (filI n ss [xs])) (fun _ => True) (fun _ => []) w0) := by
  refine calls Try.func75 rfl (n := 16) rfl (by simp) ?_
  refine TC.seq ?_
  refine TC.region ?_
  refine TL.box rfl rfl (by decide) (fun b0 hb0 => ?_)
  refine TL.pure (PV.assign rfl) rfl (by decide) ?_
  refine TL.nil ?_
  refine TQ.thenC ?_
  refine TC.seq ?_
  refine TC.seq ?_
  refine TC.region ?_
  refine TL.pure (PV.loadBox rfl Tb.agg_24 (by repeat (first | exact List.Mem.head _ | refine List.Mem.tail _ ?_ | refine List.mem_append_right _ ?_)) rfl) rfl (by decide) ?_
  refine TL.call rfl Tb.gofn_25 (fun a w hs => rvalidate_ok w _ _ _ _ (hr.new hs.new) hS) rfl (by decide) (fun _ _ => ?_)
  refine TL.pure (PV.assign rfl) rfl (by decide) ?_
  refine TL.nil ?_
  refine TQ.thenC ?_
  refine TC.seq ?_
  refine TC.region ?_
  refine TL.pure (PV.move rfl) rfl (by decide) ?_
  refine TL.pure (PV.neq rfl rfl) rfl (by decide) ?_
  refine TL.nil ?_
  refine TQ.thenC ?_
  first | refine TC.condD rfl (fun a1 => ?_) (fun a1 => ?_) | refine TC.cond rfl (fun a1 => ?_) (fun a1 => ?_)
  · skip
    refine TC.seq ?_
    refine TC.region ?_
    refine TL.pure (PV.move rfl) rfl (by decide) ?_
    refine TL.pure (PV.assign rfl) rfl (by decide) ?_
    refine TL.nil ?_
    refine TQ.thenC ?_
    refine TC.ret ?_
    refine TQ.thenR ?_
    refine TQ.retE1 rfl rfl ?_
    exact ⟨(), by rw [fil_v a1], trivial, List.nil_sublist _⟩
  · skip
    refine TC.skip ?_
    refine TQ.thenC ?_
    refine TC.seq ?_
    refine TC.seq ?_
    refine TC.region ?_
    refine TL.pure (PV.move rfl) rfl (by decide) ?_
    refine TL.pure (PV.fieldAddr rfl Tb.fo_24_0) rfl (by decide) ?_
    refine TL.pure (PV.load rfl Tb.one_3 (by repeat (first | exact List.Mem.head _ | refine List.Mem.tail _ ?_ | refine List.mem_append_right _ ?_)) rfl) rfl (by decide) ?_
    refine TL.call rfl Tb.gofn_72 (fun a w hs => rall_ok w _ _ _ (hx.new hs.new) hl _ _ _) rfl (by decide) (fun _ _ => ?_)
    refine TL.pure ((by first | exact PV.notD rfl | exact PV.not rfl)) rfl (by decide) ?_
    refine TL.nil ?_
    refine TQ.thenC ?_
    first | refine TC.condD rfl (fun a2 => ?_) (fun a2 => ?_) | refine TC.cond rfl (fun a2 => ?_) (fun a2 => ?_)
    · skip
      refine TC.seq ?_
      refine TC.region ?_
      refine TL.pure (PV.assign rfl) rfl (by decide) ?_
      refine TL.nil ?_
      refine TQ.thenC ?_
      refine TC.ret ?_
      refine TQ.thenR ?_
      refine TQ.retE1 rfl rfl ?_
      exact ⟨(), by rw [fil_1 a1 (k := 0) (by simp) (by simpa using a2)], trivial, List.nil_sublist _⟩
    · skip
      refine TC.skip ?_
      refine TQ.thenC ?_
      refine TC.seq ?_
      refine TC.region ?_
      refine TL.pure (PV.assign rfl) rfl (by decide) ?_
      refine TL.nil ?_
      refine TQ.thenC ?_
      refine TC.ret ?_
      refine TQ.retE1 rfl rfl ?_
      exact ⟨(), by rw [fil_0 a1 (fun j hj => by obtain rfl : j = 0 := (by simp only [List.length_cons, List.length_nil] at hj; omega); simpa using a2)], trivial, List.nil_sublist _⟩

set_option maxRecDepth 100000 in
set_option maxHeartbeats 1000000 in
theorem checkList_ok (w0 : World) (n : Int) (p : Option Addr) (cp : Nat) (ss : List St) (hr : StsAt w0 p ss) (hS1 : ss.length ≤ 1000000) (pl : Option Addr) (cl : Nat) (xs : List Int) (hx : IntsAt w0 pl xs) (hl : xs.length ≤ 1000000) :
    Calls Try.prog 74 #[yv n p ss.length cp, .slice pl xs.length cl] w0 (Post (X := Unit) (fun _ => .int .i64 (listI ss.length xs)) (fun _ => True) (fun _ => []) w0) := by
  refine calls Try.func74 rfl (n := 15) rfl (by simp) ?_
  refine TC.seq ?_
  refine TC.region ?_
  refine TL.box rfl rfl (by decide) (fun b0 hb0 => ?_)
  refine TL.pure (PV.assign rfl) rfl (by decide) ?_
  refine TL.nil ?_
  refine TQ.thenC ?_
  refine TC.seq ?_
  refine TC.seq ?_
  refine TC.region ?_
  refine TL.pure (PV.move rfl) rfl (by decide) ?_
  refine TL.pure (PV.len rfl Tb.sl_25) rfl (by decide) ?_
  refine TL.pure (PV.gtr rfl rfl) rfl (by decide) ?_
  refine TL.nil ?_
  refine TQ.thenC ?_
  first | refine TC.condD rfl (fun a1 => ?_) (fun a1 => ?_) | refine TC.cond rfl (fun a1 => ?_) (fun a1 => ?_)
  · skip
    refine TC.seq ?_
    refine TC.region ?_
    refine TL.pure (PV.assign rfl) rfl (by decide) ?_
    refine TL.nil ?_
    refine TQ.thenC ?_
    refine TC.ret ?_
    refine TQ.thenR ?_
    refine TQ.retE1 rfl rfl ?_
    exact ⟨(), by rw [list_3 (by omega)], trivial, List.nil_sublist _⟩
  · skip
    refine TC.skip ?_
    refine TQ.thenC ?_
    refine TC.seq ?_
    refine TC.seq ?_
    refine TC.region ?_
    refine TL.pure (PV.move rfl) rfl (by decide) ?_
    refine TL.pure (PV.fieldAddr rfl Tb.fo_24_1) rfl (by decide) ?_
    refine TL.pure (PV.load rfl Tb.one_22 (by repeat (first | exact List.Mem.head _ | refine List.Mem.tail _ ?_ | refine List.mem_append_right _ ?_)) rfl) rfl (by decide) ?_
    refine TL.pure (PV.len rfl Tb.sl_22) rfl (by decide) ?_
    refine TL.pure (PV.sub rfl rfl (by omega)) rfl (by decide) ?_
    refine TL.call rfl Tb.gofn_105 (fun a w hs => areWithin_ok w _ _ _ (hx.new hs.new) hl _ _) rfl (by decide) (fun _ _ => ?_)
    refine TL.pure ((by first | exact PV.notD rfl | exact PV.not rfl)) rfl (by decide) ?_
    refine TL.nil ?_
    refine TQ.thenC ?_
    first | refine TC.condD rfl (fun a2 => ?_) (fun a2 => ?_) | refine TC.cond rfl (fun a2 => ?_) (fun a2 => ?_)
    · skip
      refine TC.seq ?_
      refine TC.region ?_
      refine TL.pure (PV.assign rfl) rfl (by decide) ?_
      refine TL.nil ?_
      refine TQ.thenC ?_
      refine TC.ret ?_
      refine TQ.thenR ?_
      refine TQ.retE1 rfl rfl ?_
      exact ⟨(), by unfold listI; rw [if_neg (by omega), if_neg (by simpa using a2)], trivial, List.nil_sublist _⟩
    · skip
      refine TC.skip ?_
      refine TQ.thenC ?_
      refine TC.seq ?_
      refine TC.region ?_
      refine TL.pure (PV.assign rfl) rfl (by decide) ?_
      refine TL.nil ?_
      refine TQ.thenC ?_
      refine TC.ret ?_
      refine TQ.retE1 rfl rfl ?_
      exact ⟨(), by unfold listI; rw [if_neg (by omega), if_pos (by simpa using a2)], trivial, List.nil_sublist _⟩

set_option maxRecDepth 100000 in
set_option maxHeartbeats 1000000 in
theorem rlisted_ok (w0 : World) (n : Int) (p : Option Addr) (cp : Nat) (ss : List St) (hr : StsAt w0 p ss) (hS1 : ss.length ≤ 1000000) (pl : Option Addr) (cl : Nat) (xs : List Int) (hx : IntsAt w0 pl xs) (hl : xs.length ≤ 1000000) :
    Calls Try.prog 76 #[yv n p ss.length cp, .slice pl xs.length cl] w0 (Post (X := Unit) (fun _ => .int .i64 (listI ss.length xs)) (fun _ => True) (fun _ => []) w0) := by
  refine calls Try.func76 rfl (n := 25) rfl (by simp) ?_
  refine TC.seq ?_
  refine TC.region ?_
  refine TL.box rfl rfl (by decide) (fun b0 hb0 => ?_)
  refine TL.pure (PV.assign rfl) rfl (by decide) ?_
  refine TL.nil ?_
  refine TQ.thenC ?_
  refine TC.seq ?_
  refine TC.seq ?_
  refine TC.region ?_
  refine TL.pure (PV.move rfl) rfl (by decide) ?_
  refine TL.pure (PV.len rfl Tb.sl_25) rfl (by decide) ?_
  refine TL.pure (PV.gtr rfl rfl) rfl (by decide) ?_
  refine TL.nil ?_
  refine TQ.thenC ?_
  first | refine TC.condD rfl (fun a1 => ?_) (fun a1 => ?_) | refine TC.cond rfl (fun a1 => ?_) (fun a1 => ?_)
  · skip
    refine TC.seq ?_
    refine TC.region ?_
    refine TL.pure (PV.assign rfl) rfl (by decide) ?_
    refine TL.nil ?_
    refine TQ.thenC ?_
    refine TC.ret ?_
    refine TQ.thenR ?_
    refine TQ.retE1 rfl rfl ?_
    exact ⟨(), by rw [list_3 (by omega)], trivial, List.nil_sublist _⟩
  · skip
    refine TC.skip ?_
    refine TQ.thenC ?_
    refine TC.seq ?_
    refine TC.seq ?_
    refine TC.region ?_
    refine TL.pure (PV.assign rfl) rfl (by decide) ?_
    refine TL.nil ?_
    refine TQ.thenC ?_
    refine TC.block ?_
    -- live and written in the loop, not told: [4]
    refine TC.loopG [1, 2] (X := Nat) (fun k => k ≤ xs.length ∧ ∀ j, j < k → wiB (xs.getD j 0) 0 (ss.length - 1) = true) (fun k => [(5, .int .i64 k)]) (fun k => xs.length - k) 0 ⟨Nat.zero_le _, fun j hj => absurd hj (Nat.not_lt_zero _)⟩ (by repeat (first | exact True.intro | refine And.intro rfl ?_)) ?_
    intro k hk
    refine TC.seq ?_
    refine TC.seq ?_
    refine TC.region ?_
    refine TL.pure (PV.move rfl) rfl (by decide) ?_
    refine TL.pure (PV.move rfl) rfl (by decide) ?_
    refine TL.pure (PV.len rfl Tb.sl_25) rfl (by decide) ?_
    refine TL.pure (PV.lss rfl rfl) rfl (by decide) ?_
    refine TL.nil ?_
    refine TQ.thenC ?_
    first | refine TC.condD rfl (fun hlt => ?_) (fun hlt => ?_) | refine TC.cond rfl (fun hlt => ?_) (fun hlt => ?_)
    · skip
      refine TC.skip ?_
      refine TQ.thenC ?_
      refine TC.seq ?_
      refine TC.block ?_
      refine TC.seq ?_
      obtain ⟨q2, hq2p, hq2⟩ := hx k (by omega)
      refine TC.mixV [true, true, true, true, true, true, true, true, false, true] [(b0, Obj.cells #[.int .i64 n, .slice p ss.length cp] 24 (0, 0))] 10 Tb.mixed rfl (by kernel_rfl) (by kernel_rfl) (by kernel_rfl) (by kernel_rfl) (by repeat (first | exact List.Sublist.slnil | exact List.nil_sublist _ | exact List.Sublist.refl _ | refine List.Sublist.cons_cons _ ?_ | refine List.Sublist.cons _ ?_ | refine List.Sublist.trans ?_ (List.sublist_append_right _ _))) ?_
      refine TV.virt 0 rfl rfl (by decide) rfl (by kernel_rfl) (SOK.pure (PV.move rfl) rfl) ?_
      refine TV.virt 1 rfl rfl (by decide) rfl (by kernel_rfl) (SOK.pure (PV.move rfl) rfl) ?_
      refine TV.virt 2 rfl rfl (by decide) rfl (by kernel_rfl) (SOK.pure (PV.indexA rfl hq2p rfl Tb.elm_25 rfl (by omega)) rfl) ?_
      refine TV.virt 3 rfl rfl (by decide) rfl (by kernel_rfl) (SOK.pure (PV.loadOld rfl Tb.one_3 hq2) rfl) ?_
      refine TV.virt 4 rfl rfl (by decide) rfl (by kernel_rfl) (SOK.pure (PV.fieldAddr rfl Tb.fo_24_1) rfl) ?_
      refine TV.virt 5 rfl rfl (by decide) rfl (by kernel_rfl) (SOK.pure (PV.load rfl Tb.one_22 (by repeat (first | exact List.Mem.head _ | refine List.Mem.tail _ ?_ | refine List.mem_append_right _ ?_)) rfl) rfl) ?_
      refine TV.virt 6 rfl rfl (by decide) rfl (by kernel_rfl) (SOK.pure (PV.len rfl Tb.sl_22) rfl) ?_
      refine TV.virt 7 rfl rfl (by decide) rfl (by kernel_rfl) (SOK.pure (PV.sub rfl rfl (by omega)) rfl) ?_
      refine TV.step [8] (by kernel_rfl) (by decide) rfl ⟨⟨_, rfl, ?_⟩, trivial⟩
      refine TL.call rfl Tb.gofn_71 (fun a w hs => within_ok w _ _ _) rfl (by decide) (fun _ _ => ?_)
      refine TL.nil ?_
      refine TV.next (.inl (by repeat (first | exact List.Sublist.slnil | exact List.nil_sublist _ | exact List.Sublist.refl _ | refine List.Sublist.cons_cons _ ?_ | refine List.Sublist.cons _ ?_ | refine List.Sublist.trans ?_ (List.sublist_append_right _ _)))) ?_
      refine TV.virt 9 rfl rfl (by decide) rfl (by kernel_rfl) (SOK.pure ((by first | exact PV.notD rfl | exact PV.not rfl)) rfl) ?_
      refine TV.done (by kernel_rfl) ?_
      refine TQ.thenC ?_
      first | refine TC.condD rfl (fun hno => ?_) (fun hno => ?_) | refine TC.cond rfl (fun hno => ?_) (fun hno => ?_)
      · skip
        refine TC.seq ?_
        refine TC.region ?_
        refine TL.pure (PV.assign rfl) rfl (by decide) ?_
        refine TL.nil ?_
        refine TQ.thenC ?_
        refine TC.ret ?_
        refine TQ.blkR ?_
        refine TQ.thenR ?_
        refine TQ.thenR ?_
        refine TQ.blkR ?_
        refine TQ.thenR ?_
        refine TQ.retE1 rfl rfl ?_
        exact ⟨(), by unfold listI; rw [if_neg (by omega), if_neg (by rw [all_no (f := fun x => wiB x 0 (ss.length - 1)) (k := k) (d := (0 : Int)) (by omega) (decide_eq_false hno)]; decide)], trivial, List.nil_sublist _⟩
      · skip
        refine TC.skip ?_
        refine TQ.blkN ?_
        refine TQ.thenC ?_
        refine TC.region ?_
        refine TL.pure (PV.move rfl) rfl (by decide) ?_
        refine TL.pure (PV.add rfl rfl (by omega)) rfl (by decide) ?_
        refine TL.pure (PV.assign rfl) rfl (by decide) ?_
        refine TL.nil ?_
        refine TQ.thenN ?_
        refine TQ.backK (k + 1) (by repeat (first | exact True.intro | refine And.intro rfl ?_)) (by repeat (first | exact True.intro | refine And.intro rfl ?_)) (by repeat (first | exact List.Sublist.slnil | exact List.nil_sublist _ | exact List.Sublist.refl _ | refine List.Sublist.cons_cons _ ?_ | refine List.Sublist.cons _ ?_ | refine List.Sublist.trans ?_ (List.sublist_append_right _ _))) ⟨by omega, fun j hj => if e : j < k then hk.2 j e else (show k = j by omega) ▸ (decide_eq_true (by simpa using hno))⟩ (by omega)
    · skip
      refine TC.exit ?_
      refine TQ.thenE ?_
      refine TQ.thenE ?_
      refine TQ.blkS ?_
      refine TQ.thenC ?_
      refine TC.seq ?_
      refine TC.region ?_
      refine TL.pure (PV.assign rfl) rfl (by decide) ?_
      refine TL.nil ?_
      refine TQ.thenC ?_
      refine TC.ret ?_
      refine TQ.retE1 rfl rfl ?_
      exact ⟨(), by unfold listI; rw [if_neg (by omega), if_pos (all_yes (d := 0) (fun j hj => hk.2 j (by omega)))], trivial, List.nil_sublist _⟩

set_option maxRecDepth 100000 in
set_option maxHeartbeats 1000000 in
theorem valStep_ok (w0 : World) (n : Int) (p : Option Addr) (cp : Nat) (ss : List St) (hr : StsAt w0 p ss) (hS : SmS ss) (pl : Option Addr) (cl : Nat) (xs : List Int) (hx : IntsAt w0 pl xs) (hl : xs.length ≤ 1000000) (i : Int) :
    Calls Try.prog 62 #[yv n p ss.length cp, .slice pl xs.length cl, .int .i64 i] w0 (Post (X := Unit) (fun _ => .int .i64 (stpI n ss xs i)) (fun _ => True) (fun _ => []) w0) := by
  refine calls Try.func62 rfl (n := 19) rfl (by simp) ?_
  refine TC.seq ?_
  refine TC.region ?_
  refine TL.box rfl rfl (by decide) (fun b0 hb0 => ?_)
  refine TL.pure (PV.assign rfl) rfl (by decide) ?_
  refine TL.nil ?_
  refine TQ.thenC ?_
  refine TC.seq ?_
  refine TC.seq ?_
  refine TC.region ?_
  refine TL.pure (PV.loadBox rfl Tb.agg_24 (by repeat (first | exact List.Mem.head _ | refine List.Mem.tail _ ?_ | refine List.mem_append_right _ ?_)) rfl) rfl (by decide) ?_
  refine TL.pure (PV.move rfl) rfl (by decide) ?_
  refine TL.buildSlice (cs := #[.slice pl xs.length cl]) rfl Tb.sl_97 Tb.zi_25 (by decide) (fill_o _ _ _) (by decide) rfl (by decide) (fun bS hbS => ?_)
  refine TL.call rfl Tb.gofn_73 (fun a w hs => valFil_ok w _ _ _ _ (hr.new hs.new) hS _ _ 1 [xs] (LsAt.one hs.new (by repeat (first | exact List.Mem.head _ | refine List.Mem.tail _ ?_ | refine List.mem_append_right _ ?_)) (hx.new hs.new)) rfl (one_len hl) (by simp)) rfl (by decide) (fun _ _ => ?_)
  refine TL.pure (PV.assign rfl) rfl (by decide) ?_
  refine TL.nil ?_
  refine TQ.thenC ?_
  refine TC.seq ?_
  refine TC.region ?_
  refine TL.pure (PV.move rfl) rfl (by decide) ?_
  refine TL.pure (PV.neq rfl rfl) rfl (by decide) ?_
  refine TL.nil ?_
  refine TQ.thenC ?_
  first | refine TC.condD rfl (fun a1 => ?_) (fun a1 => ?_) | refine TC.cond rfl (fun a1 => ?_) (fun a1 => ?_)
  · skip
    refine TC.seq ?_
    refine TC.region ?_
    refine TL.pure (PV.move rfl) rfl (by decide) ?_
    refine TL.pure (PV.assign rfl) rfl (by decide) ?_
    refine TL.nil ?_
    refine TQ.thenC ?_
    refine TC.ret ?_
    refine TQ.thenR ?_
    refine TQ.retE1 rfl rfl ?_
    exact ⟨(), by unfold stpI; rw [if_pos a1], trivial, List.nil_sublist _⟩
  · skip
    refine TC.skip ?_
    refine TQ.thenC ?_
    refine TC.seq ?_
    refine TC.region ?_
    refine TL.pure (PV.loadBox rfl Tb.agg_24 (by repeat (first | exact List.Mem.head _ | refine List.Mem.tail _ ?_ | refine List.mem_append_right _ ?_)) rfl) rfl (by decide) ?_
    refine TL.pure (PV.move rfl) rfl (by decide) ?_
    refine TL.buildSlice (cs := #[.int .i64 i]) rfl Tb.sl_25 Tb.zi_3 (by decide) (fill_i _) (by decide) rfl (by decide) (fun bE hbE => ?_)
    refine TL.call rfl Tb.gofn_74 (fun a w hs => checkList_ok w _ _ _ _ (hr.new hs.new) hS.1 _ _ [i] (IntsAt.one1 hs.new (by repeat (first | exact List.Mem.head _ | refine List.Mem.tail _ ?_ | refine List.mem_append_right _ ?_))) (by simp)) rfl (by decide) (fun _ _ => ?_)
    refine TL.pure (PV.assign rfl) rfl (by decide) ?_
    refine TL.nil ?_
    refine TQ.thenC ?_
    refine TC.ret ?_
    refine TQ.retE1 rfl rfl ?_
    exact ⟨(), by unfold stpI; rw [if_neg a1], trivial, List.nil_sublist _⟩

set_option maxRecDepth 100000 in
set_option maxHeartbeats 1000000 in
theorem rstepped_ok (w0 : World) (n : Int) (p : Option Addr) (cp : Nat) (ss : List St) (hr : StsAt w0 p ss) (hS : SmS ss) (pl : Option Addr) (cl : Nat) (xs : List Int) (hx : IntsAt w0 pl xs) (hl : xs.length ≤ 1000000) (i : Int) :
    Calls Try.prog 65 #[yv n p ss.length cp, .slice pl xs.length cl, .int .i64 i] w0 (Post (X := Unit) (fun _ => .int .i64 (stpI n ss xs i)) (fun _ => True) (fun _ => []) w0) := by
  refine calls Try.func65 rfl (n := 18) rfl (by simp) ?_
  refine TC.seq ?_
  refine TC.region ?_
  refine TL.box rfl rfl (by decide) (fun b0 hb0 => ?_)
  refine TL.pure (PV.assign rfl) rfl (by decide) ?_
  refine TL.nil ?_
  refine TQ.thenC ?_
  refine TC.seq ?_
  refine TC.seq ?_
  refine TC.region ?_
  refine TL.pure (PV.loadBox rfl Tb.agg_24 (by repeat (first | exact List.Mem.head _ | refine List.Mem.tail _ ?_ | refine List.mem_append_right _ ?_)) rfl) rfl (by decide) ?_
  refine TL.pure (PV.move rfl) rfl (by decide) ?_
  refine TL.call rfl Tb.gofn_75 (fun a w hs => rfilled_ok w _ _ _ _ (hr.new hs.new) hS _ _ _ (hx.new hs.new) hl) rfl (by decide) (fun _ _ => ?_)
  refine TL.pure (PV.assign rfl) rfl (by decide) ?_
  refine TL.nil ?_
  refine TQ.thenC ?_
  refine TC.seq ?_
  refine TC.region ?_
  refine TL.pure (PV.move rfl) rfl (by decide) ?_
  refine TL.pure (PV.neq rfl rfl) rfl (by decide) ?_
  refine TL.nil ?_
  refine TQ.thenC ?_
  first | refine TC.condD rfl (fun a1 => ?_) (fun a1 => ?_) | refine TC.cond rfl (fun a1 => ?_) (fun a1 => ?_)
  · skip
    refine TC.seq ?_
    refine TC.region ?_
    refine TL.pure (PV.move rfl) rfl (by decide) ?_
    refine TL.pure (PV.assign rfl) rfl (by decide) ?_
    refine TL.nil ?_
    refine TQ.thenC ?_
    refine TC.ret ?_
    refine TQ.thenR ?_
    refine TQ.retE1 rfl rfl ?_
    exact ⟨(), by unfold stpI; rw [if_pos a1], trivial, List.nil_sublist _⟩
  · skip
    refine TC.skip ?_
    refine TQ.thenC ?_
    refine TC.seq ?_
    refine TC.region ?_
    refine TL.pure (PV.loadBox rfl Tb.agg_24 (by repeat (first | exact List.Mem.head _ | refine List.Mem.tail _ ?_ | refine List.mem_append_right _ ?_)) rfl) rfl (by decide) ?_
    refine TL.pure (PV.move rfl) rfl (by decide) ?_
    refine TL.buildSlice (cs := #[.int .i64 i]) rfl Tb.sl_25 Tb.zi_3 (by decide) (fill_i _) (by decide) rfl (by decide) (fun bE hbE => ?_)
    refine TL.call rfl Tb.gofn_76 (fun a w hs => rlisted_ok w _ _ _ _ (hr.new hs.new) hS.1 _ _ [i] (IntsAt.one1 hs.new (by repeat (first | exact List.Mem.head _ | refine List.Mem.tail _ ?_ | refine List.mem_append_right _ ?_))) (by simp)) rfl (by decide) (fun _ _ => ?_)
    refine TL.pure (PV.assign rfl) rfl (by decide) ?_
    refine TL.nil ?_
    refine TQ.thenC ?_
    refine TC.ret ?_
    refine TQ.retE1 rfl rfl ?_
    exact ⟨(), by unfold stpI; rw [if_neg a1], trivial, List.nil_sublist _⟩

end Go.Proofs.Ytkkipbkkijoneaa
