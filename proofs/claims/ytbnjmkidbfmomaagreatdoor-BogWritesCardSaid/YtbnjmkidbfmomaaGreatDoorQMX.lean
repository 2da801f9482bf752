/- Texts joined. -/
import Derived.Test.YtbnjmkidbfmomaaGreatDoorQXj
import Derived.Test.YtbnjmkidbfmomaaGreatDoorQMF
import Derived.Test.YtbnjmkidbfmomaaGreatDoorQXh
import Derived.Test.YtbnjmkidbfmomaaGreatDoorQBB
import Derived.Test.YtbnjmkidbfmomaaGreatDoorQBD
import Derived.Test.YtbnjmkidbfmomaaGreatDoorQXf
import Derived.Laws.Strings3
set_option linter.unusedSimpArgs false
set_option linter.unusedVariables false
namespace Go.Proofs.YtbnjmkidbfmomaaGreatDoor.Tb
open Go.Sx
theorem gofn_35 : goFn Tryz.prog 35 = true := by kernel_rfl
theorem gofn_41 : goFn Tryz.prog 41 = true := by kernel_rfl
theorem gofn_49 : goFn Tryz.prog 49 = true := by kernel_rfl
end Go.Proofs.YtbnjmkidbfmomaaGreatDoor.Tb

namespace Go.Proofs.YtbnjmkidbfmomaaGreatDoor
open Go.Sx Go.RowKit


theorem any_take_next {α : Type} {f : α → Bool} {L : List α} {k : Nat} {d : α} (hk : k < L.length) (h : (L.take k).any f = false) (h2 : f (L.getD k d) = false) : (L.take (k + 1)).any f = false := by
  rw [List.take_succ_eq_append_getElem hk, List.any_append, h]
  have e : L[k] = L.getD k d := by simp [List.getD, hk]
  rw [e, List.any_cons, h2]; rfl
theorem any_yes {α : Type} {f : α → Bool} {L : List α} {k : Nat} {d : α} (hk : k < L.length) (h2 : f (L.getD k d) = true) : L.any f = true := by
  have e : L[k] = L.getD k d := by simp [List.getD, hk]
  rw [← e] at h2
  exact List.any_eq_true.2 ⟨_, List.getElem_mem hk, h2⟩
set_option maxRecDepth 100000 in
theorem Long_ok (w0 : World) (p : Option Addr) (c : Nat) (L : List (List UInt8)) (hL : StrsAt w0 p L) (h63 : L.length ≤ 9223372036854775807) :
    Calls Tryz.prog 35 #[.slice p L.length c] w0 (Post (X := Unit) (fun _ => .bool (longB L)) (fun _ => True) (fun _ => []) w0) := by
  refine calls Tryz.func35 rfl (n := 19) rfl (by simp) ?_
  refine TC.seq ?_
  refine TC.region ?_
  refine TL.pure (PV.assign rfl) rfl (by decide) ?_
  refine TL.nil ?_
  refine TQ.thenC ?_
  refine TC.seq ?_
  refine TC.seq ?_
  refine TC.region ?_
  refine TL.pure (PV.assign rfl) rfl (by decide) ?_
  refine TL.nil ?_
  refine TQ.thenC ?_
  refine TC.block ?_
  -- live and written in the loop, not told: [2]
  refine TC.loopK [0] (X := Nat) (fun k => k ≤ L.length ∧ (L.take k).any (fun s => decide (400 < s.length)) = false) (fun k => [(3, .int .i64 (k : Nat))]) (fun k => []) (fun k => L.length - k) 0 ⟨Nat.zero_le _, by simp⟩ (by repeat (first | exact True.intro | refine And.intro rfl ?_)) (by repeat (first | exact List.Sublist.slnil | exact List.nil_sublist _ | exact List.Sublist.refl _ | refine List.Sublist.cons_cons _ ?_ | refine List.Sublist.cons _ ?_ | refine List.Sublist.trans ?_ (List.sublist_append_right _ _))) ?_
  intro k hk
  have hk1 := hk.1
  refine TC.seq ?_
  refine TC.seq ?_
  refine TC.region ?_
  refine TL.pure (PV.move rfl) rfl (by decide) ?_
  refine TL.pure (PV.move rfl) rfl (by decide) ?_
  refine TL.pure (PV.len rfl Tb.sl_43) rfl (by decide) ?_
  refine TL.pure (PV.lss rfl rfl) rfl (by decide) ?_
  refine TL.nil ?_
  refine TQ.thenC ?_
  first | refine TC.condD rfl (fun hlt => ?_) (fun hlt => ?_) | refine TC.cond rfl (fun hlt => ?_) (fun hlt => ?_)
  · skip
    refine TC.skip ?_
    refine TQ.thenC ?_
    refine TC.seq ?_
    refine TC.block ?_
    refine TC.seq ?_
    obtain ⟨q, qp, qv⟩ := hL k (by omega)
    refine TC.region ?_
    refine TL.pure (PV.move rfl) rfl (by decide) ?_
    refine TL.pure (PV.move rfl) rfl (by decide) ?_
    refine TL.pure (PV.indexA rfl qp rfl Tb.elm_43 rfl (by omega)) rfl (by decide) ?_
    refine TL.pure (PV.loadOld rfl Tb.one_9 qv) rfl (by decide) ?_
    refine TL.pure (PV.lenS rfl Tb.str_9) rfl (by decide) ?_
    refine TL.pure (PV.gtr rfl rfl) rfl (by decide) ?_
    refine TL.nil ?_
    refine TQ.thenC ?_
    first | refine TC.condD rfl (fun hlo => ?_) (fun hlo => ?_) | refine TC.cond rfl (fun hlo => ?_) (fun hlo => ?_)
    · skip
      refine TC.seq ?_
      refine TC.region ?_
      refine TL.pure (PV.assign rfl) rfl (by decide) ?_
      refine TL.nil ?_
      refine TQ.thenC ?_
      refine TC.ret ?_
      refine TQ.blkR ?_
      refine TQ.thenR ?_
      refine TQ.thenR ?_
      refine TQ.blkR ?_
      refine TQ.thenR ?_
      refine TQ.retE1 rfl rfl ?_
      exact ⟨(), by unfold longB; rw [any_yes (k := k) (d := []) (by omega) (decide_eq_true (by omega))]; rfl, trivial, List.nil_sublist _⟩
    · skip
      refine TC.skip ?_
      refine TQ.blkN ?_
      refine TQ.thenC ?_
      refine TC.region ?_
      refine TL.pure (PV.move rfl) rfl (by decide) ?_
      refine TL.pure (PV.add rfl rfl (by omega)) rfl (by decide) ?_
      refine TL.pure (PV.assign rfl) rfl (by decide) ?_
      refine TL.nil ?_
      refine TQ.thenN ?_
      refine TQ.backK (k + 1) (by repeat (first | exact True.intro | refine And.intro rfl ?_)) (by repeat (first | exact True.intro | refine And.intro rfl ?_)) (by repeat (first | exact List.Sublist.slnil | exact List.nil_sublist _ | exact List.Sublist.refl _ | refine List.Sublist.cons_cons _ ?_ | refine List.Sublist.cons _ ?_ | refine List.Sublist.trans ?_ (List.sublist_append_right _ _))) ⟨by omega, any_take_next (d := []) (by omega) hk.2 (decide_eq_false (by omega))⟩ (by omega)
  · skip
    refine TC.exit ?_
    refine TQ.thenE ?_
    refine TQ.thenE ?_
    refine TQ.blkS ?_
    refine TQ.thenC ?_
    refine TC.seq ?_
    refine TC.region ?_
    refine TL.pure (PV.move rfl) rfl (by decide) ?_
    refine TL.pure (PV.len rfl Tb.sl_43) rfl (by decide) ?_
    refine TL.pure (PV.gtr rfl rfl) rfl (by decide) ?_
    refine TL.pure (PV.assign rfl) rfl (by decide) ?_
    refine TL.nil ?_
    refine TQ.thenC ?_
    refine TC.ret ?_
    refine TQ.retE1 rfl rfl ?_
    have hke : k = L.length := by omega
    have h9 := hk.2
    rw [hke, List.take_length] at h9
    exact ⟨(), by unfold longB; rw [h9, Bool.false_or]; congr 1; exact decide_eq_decide.2 (by omega), trivial, List.nil_sublist _⟩

end Go.Proofs.YtbnjmkidbfmomaaGreatDoor

namespace Go.Proofs.YtbnjmkidbfmomaaGreatDoor
open Go.Sx Go.RowKit Go.Bt Go.Lib

theorem rd_book : ∀ (L : List (List UInt8)) (n : Nat) (sum : Int), L.length ≤ n → L.all rightS = true → rdN n sum (bkN sum L) = (L, [])
  | [], 0, sum, _, _ => rfl
  | [], n + 1, sum, _, _ => by
    unfold rdN
    have : pgF sum (bkN sum []) = none := rfl
    rw [this]; rfl
  | s :: L, 0, sum, h, _ => by simp at h
  | s :: L, n + 1, sum, h, ha => by
    simp only [List.all_cons, Bool.and_eq_true] at ha
    have hp : pgF sum (bkN sum (s :: L)) = some (s, bkN (smV sum s) L) := pg_of ⟨ha.1, rfl⟩
    have ih := rd_book L n (smV sum s) (by simpa using h) ha.2
    conv => lhs; unfold rdN; rw [hp]
    simp only [ih]
theorem bk_fold {L : List (List UInt8)} : ∀ (sum : Int) (b : List UInt8), (L.foldl (bookF dI) (sum, b)).2 = b ++ bkN sum L := by
  induction L with
  | nil => intro sum b; simp [bkN]
  | cons s L ih =>
    intro sum b
    rw [List.foldl_cons]
    show (L.foldl (bookF dI) (smV sum s, b ++ pageL dI (smV sum s) s)).2 = _
    rw [ih, bkN, List.append_assoc]
theorem book_bk (L : List (List UInt8)) : (bookL dI L).2 = bkN 0 L := by
  unfold bookL; rw [bk_fold]; rfl
theorem rd_short {n : Nat} {sum : Int} {t : List UInt8} (h : (10 : UInt8) ∉ t) : rdN n sum t = ([], t) := by
  cases n with
  | zero => rfl
  | succ n =>
    unfold rdN
    have : pgF sum t = none := by unfold pgF; rw [brk_miss h]
    rw [this]
/-- A beginning of a book is read as a beginning of its orders. -/
theorem rd_take : ∀ (L : List (List UInt8)) (n k : Nat) (sum : Int), L.length ≤ n → L.all rightS = true → ∃ j, j ≤ L.length ∧ (rdN n sum ((bkN sum L).take k)).1 = L.take j ∧ ((rdN n sum ((bkN sum L).take k)).2 = [] ∨ j < L.length)
  | [], n, k, sum, _, _ => ⟨0, Nat.le_refl _, by
      have e : (bkN sum []).take k = [] := by simp [bkN]
      rw [e, rd_short (by simp)]; exact ⟨rfl, .inl rfl⟩⟩
  | s :: L, n, k, sum, hn, ha => by
    simp only [List.all_cons, Bool.and_eq_true] at ha
    obtain ⟨m, rfl⟩ : ∃ m, n = m + 1 := ⟨n - 1, by simp at hn; omega⟩
    have hpl : pageL dI (smV sum s) s = (itoa (smV sum s) ++ 32 :: s) ++ [10] := by unfold pageL; simp
    by_cases hk : (pageL dI (smV sum s) s).length ≤ k
    · obtain ⟨k', rfl⟩ : ∃ k', k = (pageL dI (smV sum s) s).length + k' := ⟨k - (pageL dI (smV sum s) s).length, by omega⟩
      have e : (bkN sum (s :: L)).take ((pageL dI (smV sum s) s).length + k') = pageL dI (smV sum s) s ++ (bkN (smV sum s) L).take k' := by
        simp only [bkN]
        rw [List.take_append, List.take_of_length_le (by omega)]
        congr 2; omega
      obtain ⟨j, h1, h2, h3⟩ := rd_take L m k' (smV sum s) (by simpa using hn) ha.2
      have hp : pgF sum (pageL dI (smV sum s) s ++ (bkN (smV sum s) L).take k') = some (s, (bkN (smV sum s) L).take k') := pg_of ⟨ha.1, rfl⟩
      refine ⟨j + 1, by simp; omega, ?_, ?_⟩
      · rw [e]; conv => lhs; unfold rdN; rw [hp]
        simp only [h2, List.take_succ_cons]
      · rw [e]
        rcases h3 with h3 | h3
        · left; conv => lhs; unfold rdN; rw [hp]
          exact h3
        · right; simp; omega
    · refine ⟨0, Nat.zero_le _, ?_⟩
      have e : (bkN sum (s :: L)).take k = (itoa (smV sum s) ++ 32 :: s).take k := by
        simp only [bkN]
        rw [List.take_append_of_le_length (by omega), hpl, List.take_append_of_le_length (by rw [hpl] at hk; simp at hk ⊢; omega)]
      have hno : (10 : UInt8) ∉ (itoa (smV sum s) ++ 32 :: s).take k := fun h => line_no ha.1 (List.mem_of_mem_take h)
      rw [e, rd_short hno]
      exact ⟨rfl, .inr (by simp)⟩
end Go.Proofs.YtbnjmkidbfmomaaGreatDoor

namespace Go.Proofs.YtbnjmkidbfmomaaGreatDoor
open Go.Sx Go.RowKit Go.Bt Go.Lib Go.Sand


theorem wr_1 {L : List (List UInt8)} {k : Nat} (h : ¬ 100 < L.length) (hk : k < L.length) (h2 : rightS (L.getD k []) = false) : wrI L = 1 := by
  unfold wrI
  rw [if_neg h, if_neg]
  intro h3
  have e : L[k] = L.getD k [] := by simp [List.getD, hk]
  have := List.all_eq_true.1 h3 L[k] (List.getElem_mem hk)
  rw [e, h2] at this; cases this
theorem wr_0 {L : List (List UInt8)} (h : ¬ 100 < L.length) (h2 : ∀ j, j < L.length → rightS (L.getD j []) = true) : wrI L = 0 := by
  unfold wrI
  rw [if_neg h, if_pos]
  refine List.all_eq_true.2 fun x hx => ?_
  obtain ⟨j, hj, e⟩ := List.getElem_of_mem hx
  have := h2 j hj
  rw [← e]; simpa [List.getD, hj] using this
set_option maxRecDepth 100000 in
theorem Text_ok (w0 : World) (hW : WAt w0) (p : Option Addr) (c : Nat) (L : List (List UInt8)) (hL : StrsAt w0 p L) (h300 : L.length ≤ 300) (hs9 : ∀ j, (L.getD j []).length ≤ 400) :
    Calls Tryz.prog 41 #[.slice p L.length c] w0 (Post (X := Unit) (fun _ => str (bookL dI L).2) (fun _ => True) (fun _ => []) w0) := by
  refine calls Tryz.func41 rfl (n := 30) rfl (by simp) ?_
  refine TC.seq ?_
  refine TC.region ?_
  refine TL.pure (PV.assign rfl) rfl (by decide) ?_
  refine TL.nil ?_
  refine TQ.thenC ?_
  refine TC.seq ?_
  refine TC.region ?_
  refine TL.pure (PV.assign rfl) rfl (by decide) ?_
  refine TL.nil ?_
  refine TQ.thenC ?_
  refine TC.seq ?_
  refine TC.region ?_
  refine TL.pure (PV.assign rfl) rfl (by decide) ?_
  refine TL.nil ?_
  refine TQ.thenC ?_
  refine TC.seq ?_
  refine TC.seq ?_
  refine TC.region ?_
  refine TL.pure (PV.assign rfl) rfl (by decide) ?_
  refine TL.nil ?_
  refine TQ.thenC ?_
  refine TC.block ?_
  refine TC.loopK [0, 2] (X := Nat) (fun k => k ≤ L.length ∧ (bookL dI (L.take k)).2.length ≤ 500 * k) (fun k => [(5, .int .i64 (k : Nat)), (4, .int .i64 (bookL dI (L.take k)).1), (3, str (bookL dI (L.take k)).2)]) (fun k => []) (fun k => L.length - k) 0 ⟨Nat.zero_le _, Nat.zero_le _⟩ (by exact ⟨rfl, rfl, rfl, trivial⟩) (by repeat (first | exact List.Sublist.slnil | exact List.nil_sublist _ | exact List.Sublist.refl _ | refine List.Sublist.cons_cons _ ?_ | refine List.Sublist.cons _ ?_ | refine List.Sublist.trans ?_ (List.sublist_append_right _ _))) ?_
  intro k hk
  have hk1 := hk.1
  refine TC.seq ?_
  refine TC.seq ?_
  refine TC.region ?_
  refine TL.pure (PV.move rfl) rfl (by decide) ?_
  refine TL.pure (PV.move rfl) rfl (by decide) ?_
  refine TL.pure (PV.len rfl Tb.sl_43) rfl (by decide) ?_
  refine TL.pure (PV.lss rfl rfl) rfl (by decide) ?_
  refine TL.nil ?_
  refine TQ.thenC ?_
  first | refine TC.condD rfl (fun hlt => ?_) (fun hlt => ?_) | refine TC.cond rfl (fun hlt => ?_) (fun hlt => ?_)
  · skip
    refine TC.skip ?_
    refine TQ.thenC ?_
    refine TC.seq ?_
    refine TC.block ?_
    refine TC.seq ?_
    obtain ⟨q, qp, qv⟩ := hL k (by omega)
    have h3 := hs9 k
    have h2 := dI_len (smV_bd (bookL dI (L.take k)).1 (L.getD k [])).1 (smV_bd _ _).2
    have h1 := hk.2
    refine TC.region ?_
    refine TL.pure (PV.move rfl) rfl (by decide) ?_
    refine TL.pure (PV.move rfl) rfl (by decide) ?_
    refine TL.pure (PV.move rfl) rfl (by decide) ?_
    refine TL.pure (PV.indexA rfl qp rfl Tb.elm_43 rfl (by omega)) rfl (by decide) ?_
    refine TL.pure (PV.loadOld rfl Tb.one_9 qv) rfl (by decide) ?_
    refine TL.call rfl Tb.gofn_47 (fun a w hs => rSum_ok w (bookL dI (L.take k)).1 (by have := bookL_bd (dg := dI) (L.take k); omega) (L.getD k []) (by omega)) rfl (by decide) (fun _ _ => ?_)
    refine TL.pure (PV.assign rfl) rfl (by decide) ?_
    refine TL.nil ?_
    refine TQ.thenC ?_
    refine TC.mixV [false, true, false, true, true, true, true, true, true, true, true, false] _ 12 Tb.mixed rfl (by kernel_rfl) (by kernel_rfl) (by kernel_rfl) (by kernel_rfl) (List.Sublist.refl _) ?_
    refine TV.virt 1 rfl rfl (by decide) rfl (by kernel_rfl) (SOK.pure (PV.move rfl) rfl) ?_
    refine TV.virt 4 rfl rfl (by decide) rfl (by kernel_rfl) (SOK.pure (PV.move rfl) rfl) ?_
    refine TV.virt 5 rfl rfl (by decide) rfl (by kernel_rfl) (SOK.pure (PV.move rfl) rfl) ?_
    refine TV.virt 6 rfl rfl (by decide) rfl (by kernel_rfl) (SOK.pure (PV.indexA rfl qp rfl Tb.elm_43 rfl (by omega)) rfl) ?_
    refine TV.virt 7 rfl rfl (by decide) rfl (by kernel_rfl) (SOK.pure (PV.loadOld rfl Tb.one_9 qv) rfl) ?_
    refine TV.step [0, 2] (by kernel_rfl) (by decide) rfl ⟨⟨_, rfl, ?_⟩, ⟨_, rfl, ?_⟩, trivial⟩
    · skip
      refine TL.pure (PV.move rfl) rfl (by decide) ?_
      refine TL.nil ?_
      refine TV.next (.inl (by repeat (first | exact List.Sublist.slnil | exact List.nil_sublist _ | exact List.Sublist.refl _ | refine List.Sublist.cons_cons _ ?_ | refine List.Sublist.cons _ ?_ | refine List.Sublist.trans ?_ (List.sublist_append_right _ _)))) ?_
      refine TV.step [2] (by kernel_rfl) (by decide) rfl ⟨⟨_, rfl, ?_⟩, trivial⟩
      refine TL.call rfl Tb.gofn_78 (fun a w hs => itoa_ok w (hW.new hs.new) _ (by have := (smV_bd (bookL dI (L.take k)).1 (L.getD k [])).1; omega) (by have := (smV_bd (bookL dI (L.take k)).1 (L.getD k [])).2; omega)) rfl (by decide) (fun _ _ => ?_)
      refine TL.nil ?_
      refine TV.next (.inl (by repeat (first | exact List.Sublist.slnil | exact List.nil_sublist _ | exact List.Sublist.refl _ | refine List.Sublist.cons_cons _ ?_ | refine List.Sublist.cons _ ?_ | refine List.Sublist.trans ?_ (List.sublist_append_right _ _)))) ?_
      refine TV.virt 3 rfl rfl (by decide) rfl (by kernel_rfl) (SOK.pure (PV.addS (M := [32]) rfl rfl (by simp only [List.length_append, List.length_cons, List.length_nil]; omega)) rfl) ?_
      refine TV.virt 8 rfl rfl (by decide) rfl (by kernel_rfl) (SOK.pure (PV.addS rfl rfl (by simp only [List.length_append, List.length_cons, List.length_nil]; omega)) rfl) ?_
      refine TV.virt 9 rfl rfl (by decide) rfl (by kernel_rfl) (SOK.pure (PV.addS (M := [10]) rfl rfl (by simp only [List.length_append, List.length_cons, List.length_nil]; omega)) rfl) ?_
      refine TV.virt 10 rfl rfl (by decide) rfl (by kernel_rfl) (SOK.pure (PV.addS rfl rfl (by simp only [List.length_append, List.length_cons, List.length_nil]; omega)) rfl) ?_
      refine TV.step [11] (by kernel_rfl) (by decide) rfl ⟨⟨_, rfl, ?_⟩, trivial⟩
      refine TL.pure (PV.assign rfl) rfl (by decide) ?_
      refine TL.nil ?_
      refine TV.next (.inr (by kernel_rfl)) ?_
      refine TV.done (by kernel_rfl) ?_
      refine TQ.blkN ?_
      refine TQ.thenC ?_
      have hnx := bookL_next (dg := dI) (show k < L.length by omega)
      refine TC.region ?_
      refine TL.pure (PV.move rfl) rfl (by decide) ?_
      refine TL.pure (PV.add rfl rfl (by omega)) rfl (by decide) ?_
      refine TL.pure (PV.assign rfl) rfl (by decide) ?_
      refine TL.nil ?_
      refine TQ.thenN ?_
      refine TQ.backK (k + 1) (by rw [hnx]; exact ⟨rfl, rfl, rfl, trivial⟩) (by repeat (first | exact True.intro | refine And.intro rfl ?_)) (by repeat (first | exact List.Sublist.slnil | exact List.nil_sublist _ | exact List.Sublist.refl _ | refine List.Sublist.cons_cons _ ?_ | refine List.Sublist.cons _ ?_ | refine List.Sublist.trans ?_ (List.sublist_append_right _ _))) ⟨by omega, by rw [hnx]; unfold bookF pageL; simp only [List.length_append, List.length_cons, List.length_nil]; omega⟩ (by omega)
    · skip
      refine TL.call rfl Tb.gofn_78 (fun a w hs => itoa_ok w (hW.new hs.new) _ (by have := (smV_bd (bookL dI (L.take k)).1 (L.getD k [])).1; omega) (by have := (smV_bd (bookL dI (L.take k)).1 (L.getD k [])).2; omega)) rfl (by decide) (fun _ _ => ?_)
      refine TL.nil ?_
      refine TV.next (.inl (by repeat (first | exact List.Sublist.slnil | exact List.nil_sublist _ | exact List.Sublist.refl _ | refine List.Sublist.cons_cons _ ?_ | refine List.Sublist.cons _ ?_ | refine List.Sublist.trans ?_ (List.sublist_append_right _ _)))) ?_
      refine TV.virt 3 rfl rfl (by decide) rfl (by kernel_rfl) (SOK.pure (PV.addS (M := [32]) rfl rfl (by simp only [List.length_append, List.length_cons, List.length_nil]; omega)) rfl) ?_
      refine TV.virt 8 rfl rfl (by decide) rfl (by kernel_rfl) (SOK.pure (PV.addS rfl rfl (by simp only [List.length_append, List.length_cons, List.length_nil]; omega)) rfl) ?_
      refine TV.virt 9 rfl rfl (by decide) rfl (by kernel_rfl) (SOK.pure (PV.addS (M := [10]) rfl rfl (by simp only [List.length_append, List.length_cons, List.length_nil]; omega)) rfl) ?_
      refine TV.step [0] (by kernel_rfl) (by decide) rfl ⟨⟨_, rfl, ?_⟩, trivial⟩
      refine TL.pure (PV.move rfl) rfl (by decide) ?_
      refine TL.nil ?_
      refine TV.next (.inl (by repeat (first | exact List.Sublist.slnil | exact List.nil_sublist _ | exact List.Sublist.refl _ | refine List.Sublist.cons_cons _ ?_ | refine List.Sublist.cons _ ?_ | refine List.Sublist.trans ?_ (List.sublist_append_right _ _)))) ?_
      refine TV.virt 10 rfl rfl (by decide) rfl (by kernel_rfl) (SOK.pure (PV.addS rfl rfl (by simp only [List.length_append, List.length_cons, List.length_nil]; omega)) rfl) ?_
      refine TV.step [11] (by kernel_rfl) (by decide) rfl ⟨⟨_, rfl, ?_⟩, trivial⟩
      refine TL.pure (PV.assign rfl) rfl (by decide) ?_
      refine TL.nil ?_
      refine TV.next (.inr (by kernel_rfl)) ?_
      refine TV.done (by kernel_rfl) ?_
      refine TQ.blkN ?_
      refine TQ.thenC ?_
      have hnx := bookL_next (dg := dI) (show k < L.length by omega)
      refine TC.region ?_
      refine TL.pure (PV.move rfl) rfl (by decide) ?_
      refine TL.pure (PV.add rfl rfl (by omega)) rfl (by decide) ?_
      refine TL.pure (PV.assign rfl) rfl (by decide) ?_
      refine TL.nil ?_
      refine TQ.thenN ?_
      refine TQ.backK (k + 1) (by rw [hnx]; exact ⟨rfl, rfl, rfl, trivial⟩) (by repeat (first | exact True.intro | refine And.intro rfl ?_)) (by repeat (first | exact List.Sublist.slnil | exact List.nil_sublist _ | exact List.Sublist.refl _ | refine List.Sublist.cons_cons _ ?_ | refine List.Sublist.cons _ ?_ | refine List.Sublist.trans ?_ (List.sublist_append_right _ _))) ⟨by omega, by rw [hnx]; unfold bookF pageL; simp only [List.length_append, List.length_cons, List.length_nil]; omega⟩ (by omega)
  · skip
    refine TC.exit ?_
    refine TQ.thenE ?_
    refine TQ.thenE ?_
    refine TQ.blkS ?_
    refine TQ.thenC ?_
    refine TC.seq ?_
    have hke : k = L.length := by omega
    refine TC.region ?_
    refine TL.pure (PV.move rfl) rfl (by decide) ?_
    refine TL.pure (PV.assign rfl) rfl (by decide) ?_
    refine TL.nil ?_
    refine TQ.thenC ?_
    refine TC.ret ?_
    refine TQ.retE1 rfl rfl ?_
    exact ⟨(), by rw [hke, List.take_length], trivial, List.nil_sublist _⟩

set_option maxRecDepth 100000 in
theorem rWrite_ok (w0 : World) (hW : WAt w0) (p : Option Addr) (c : Nat) (L : List (List UInt8)) (hL : StrsAt w0 p L) (h300 : L.length ≤ 300) (hs9 : ∀ j, (L.getD j []).length ≤ 400) :
    Calls Tryz.prog 49 #[.slice p L.length c] w0 (Post (X := Unit) (fun _ => .tuple #[str (wrL dI L), .int .i64 (wrI L)]) (fun _ => True) (fun _ => []) w0) := by
  refine calls Tryz.func49 rfl (n := 22) rfl (by simp) ?_
  refine TC.seq ?_
  refine TC.region ?_
  refine TL.pure (PV.assign rfl) rfl (by decide) ?_
  refine TL.pure (PV.assign rfl) rfl (by decide) ?_
  refine TL.nil ?_
  refine TQ.thenC ?_
  refine TC.seq ?_
  refine TC.seq ?_
  refine TC.region ?_
  refine TL.pure (PV.move rfl) rfl (by decide) ?_
  refine TL.pure (PV.len rfl Tb.sl_43) rfl (by decide) ?_
  refine TL.pure (PV.gtr rfl rfl) rfl (by decide) ?_
  refine TL.nil ?_
  refine TQ.thenC ?_
  first | refine TC.condD rfl (fun h100 => ?_) (fun h100 => ?_) | refine TC.cond rfl (fun h100 => ?_) (fun h100 => ?_)
  · skip
    refine TC.seq ?_
    refine TC.region ?_
    refine TL.pure (PV.assign rfl) rfl (by decide) ?_
    refine TL.pure (PV.assign rfl) rfl (by decide) ?_
    refine TL.nil ?_
    refine TQ.thenC ?_
    refine TC.ret ?_
    refine TQ.thenR ?_
    refine TQ.retE2 rfl rfl rfl ?_
    exact ⟨(), by unfold wrL; rw [wr_100 (L := L) (by omega), if_neg (by decide)]; rfl, trivial, List.nil_sublist _⟩
  · skip
    refine TC.skip ?_
    refine TQ.thenC ?_
    refine TC.seq ?_
    refine TC.seq ?_
    refine TC.region ?_
    refine TL.pure (PV.assign rfl) rfl (by decide) ?_
    refine TL.nil ?_
    refine TQ.thenC ?_
    refine TC.block ?_
    -- live and written in the loop, not told: [2, 3]
    refine TC.loopK [0] (X := Nat) (fun k => k ≤ L.length ∧ ∀ j, j < k → rightS (L.getD j []) = true) (fun k => [(4, .int .i64 (k : Nat))]) (fun k => []) (fun k => L.length - k) 0 ⟨Nat.zero_le _, fun j hj => absurd hj (Nat.not_lt_zero _)⟩ (by repeat (first | exact True.intro | refine And.intro rfl ?_)) (by repeat (first | exact List.Sublist.slnil | exact List.nil_sublist _ | exact List.Sublist.refl _ | refine List.Sublist.cons_cons _ ?_ | refine List.Sublist.cons _ ?_ | refine List.Sublist.trans ?_ (List.sublist_append_right _ _))) ?_
    intro k hk
    have hk1 := hk.1
    refine TC.seq ?_
    refine TC.seq ?_
    refine TC.region ?_
    refine TL.pure (PV.move rfl) rfl (by decide) ?_
    refine TL.pure (PV.move rfl) rfl (by decide) ?_
    refine TL.pure (PV.len rfl Tb.sl_43) rfl (by decide) ?_
    refine TL.pure (PV.lss rfl rfl) rfl (by decide) ?_
    refine TL.nil ?_
    refine TQ.thenC ?_
    first | refine TC.condD rfl (fun hlt => ?_) (fun hlt => ?_) | refine TC.cond rfl (fun hlt => ?_) (fun hlt => ?_)
    · skip
      refine TC.skip ?_
      refine TQ.thenC ?_
      refine TC.seq ?_
      refine TC.block ?_
      refine TC.seq ?_
      obtain ⟨q, qp, qv⟩ := hL k (by omega)
      refine TC.region ?_
      refine TL.pure (PV.move rfl) rfl (by decide) ?_
      refine TL.pure (PV.move rfl) rfl (by decide) ?_
      refine TL.pure (PV.indexA rfl qp rfl Tb.elm_43 rfl (by omega)) rfl (by decide) ?_
      refine TL.pure (PV.loadOld rfl Tb.one_9 qv) rfl (by decide) ?_
      refine TL.call rfl Tb.gofn_83 (fun a w hs => Right_ok w (L.getD k []) (by have := hs9 k; omega)) rfl (by decide) (fun _ _ => ?_)
      refine TL.pure ((by first | exact PV.notD rfl | exact PV.not rfl)) rfl (by decide) ?_
      refine TL.nil ?_
      refine TQ.thenC ?_
      first | refine TC.condD rfl (fun hnr => ?_) (fun hnr => ?_) | refine TC.cond rfl (fun hnr => ?_) (fun hnr => ?_)
      · skip
        have hr9 : rightS (L.getD k []) = false := decide_eq_false hnr
        refine TC.seq ?_
        refine TC.region ?_
        refine TL.pure (PV.assign rfl) rfl (by decide) ?_
        refine TL.pure (PV.assign rfl) rfl (by decide) ?_
        refine TL.nil ?_
        refine TQ.thenC ?_
        refine TC.ret ?_
        refine TQ.blkR ?_
        refine TQ.thenR ?_
        refine TQ.thenR ?_
        refine TQ.blkR ?_
        refine TQ.thenR ?_
        refine TQ.retE2 rfl rfl rfl ?_
        have hw1 := wr_1 (L := L) (k := k) (by omega) (by omega) hr9
        exact ⟨(), by unfold wrL; rw [hw1, if_neg (by decide)]; rfl, trivial, List.nil_sublist _⟩
      · skip
        have hr9 : rightS (L.getD k []) = true := decide_eq_true (Decidable.not_not.1 hnr)
        refine TC.skip ?_
        refine TQ.blkN ?_
        refine TQ.thenC ?_
        refine TC.region ?_
        refine TL.pure (PV.move rfl) rfl (by decide) ?_
        refine TL.pure (PV.add rfl rfl (by omega)) rfl (by decide) ?_
        refine TL.pure (PV.assign rfl) rfl (by decide) ?_
        refine TL.nil ?_
        refine TQ.thenN ?_
        refine TQ.backK (k + 1) (by repeat (first | exact True.intro | refine And.intro rfl ?_)) (by repeat (first | exact True.intro | refine And.intro rfl ?_)) (by repeat (first | exact List.Sublist.slnil | exact List.nil_sublist _ | exact List.Sublist.refl _ | refine List.Sublist.cons_cons _ ?_ | refine List.Sublist.cons _ ?_ | refine List.Sublist.trans ?_ (List.sublist_append_right _ _))) ⟨by omega, fun j hj => if e : j < k then hk.2 j e else (show k = j by omega) ▸ hr9⟩ (by omega)
    · skip
      refine TC.exit ?_
      refine TQ.thenE ?_
      refine TQ.thenE ?_
      refine TQ.blkS ?_
      refine TQ.thenC ?_
      refine TC.seq ?_
      have hke : k = L.length := by omega
      have hw0 := wr_0 (L := L) (by omega) (fun j hj => hk.2 j (by omega))
      refine TC.region ?_
      refine TL.pure (PV.move rfl) rfl (by decide) ?_
      refine TL.call rfl Tb.gofn_41 (fun a w hs => Text_ok w (hW.new hs.new) p c L (hL.new hs.new) h300 hs9) rfl (by decide) (fun _ _ => ?_)
      refine TL.pure (PV.assign rfl) rfl (by decide) ?_
      refine TL.pure (PV.assign rfl) rfl (by decide) ?_
      refine TL.nil ?_
      refine TQ.thenC ?_
      refine TC.ret ?_
      refine TQ.retE2 rfl rfl rfl ?_
      exact ⟨(), by unfold wrL; rw [hw0, if_pos rfl], trivial, List.nil_sublist _⟩

end Go.Proofs.YtbnjmkidbfmomaaGreatDoor

/- Writing a book: contracts. -/
namespace Go.Proofs.YtbnjmkidbfmomaaGreatDoor
open Go.Sx Go.RowKit Go.Bt Go.Lib Go.Sand

/-- The first text that a test takes. -/
def FstS (φ : List UInt8 → Bool) (L : List (List UInt8)) (i : Int) : Prop := (i = -1 ∧ ∀ j, j < L.length → φ (L.getD j []) = false) ∨ ∃ k : Nat, i = k ∧ k < L.length ∧ φ (L.getD k []) = true
theorem fstS_any {φ : List UInt8 → Bool} {L : List (List UInt8)} {i : Int} (h : FstS φ L i) : L.any φ = decide (0 ≤ i) := by
  rcases h with ⟨rfl, h⟩ | ⟨k, rfl, hk, h⟩
  · rw [decide_eq_false (by decide), List.any_eq_false]
    intro x hx
    obtain ⟨j, hj, rfl⟩ := List.getElem_of_mem hx
    have := h j hj
    simpa [List.getD, hj] using this
  · rw [decide_eq_true (by omega), List.any_eq_true]
    exact ⟨L.getD k [], by simp [List.getD, hk], h⟩
theorem any_not (L : List (List UInt8)) : (L.any fun s => !rightS s) = !L.all rightS := by
  induction L with
  | nil => rfl
  | cons x L ih => rw [List.any_cons, List.all_cons, ih, Bool.not_and]
theorem wr_any {L : List (List UInt8)} (h : ¬ 100 < L.length) : wrI L = if (L.any fun s => !rightS s) = true then 1 else 0 := by
  unfold wrI
  rw [if_neg h, any_not]
  cases L.all rightS <;> rfl

set_option maxRecDepth 100000 in
theorem indexFS_ok (w0 : World) (p : Option Addr) (c : Nat) (L : List (List UInt8)) (hL : StrsAt w0 p L) (h300 : L.length ≤ 1000000) (hs9 : ∀ j, (L.getD j []).length ≤ 1000000) (f : FuncId) (caps : List Value) (φ : List UInt8 → Bool) (hfn : goFn Tryz.prog f = true) (hcb : ∀ w G, New w0 w G → ∀ x : List UInt8, x.length ≤ 1000000 → Calls Tryz.prog f (str x :: caps).toArray w (Post (X := Unit) (fun _ => .bool (φ x)) (fun _ => True) (fun _ => []) w)) :
    Calls Tryz.prog 126 #[.slice p L.length c, .func (.func f) #[] caps.toArray] w0 (Post (X := Int) (fun i => .int .i64 i) (fun i => FstS φ L i) (fun _ => []) w0) := by
  refine calls Tryz.func126 rfl (n := 19) rfl (by simp) ?_
  refine TC.seq ?_
  refine TC.region ?_
  refine TL.pure (PV.assign rfl) rfl (by decide) ?_
  refine TL.nil ?_
  refine TQ.thenC ?_
  refine TC.seq ?_
  refine TC.seq ?_
  refine TC.region ?_
  refine TL.pure (PV.move rfl) rfl (by decide) ?_
  refine TL.pure (PV.len rfl Tb.sl_43) rfl (by decide) ?_
  refine TL.pure (PV.move rfl) rfl (by decide) ?_
  refine TL.nil ?_
  refine TQ.thenC ?_
  refine TC.block ?_
  -- live and written in the loop, not told: [4]
  refine TC.loopK [0, 1, 7] (X := Nat) (fun k => k ≤ L.length ∧ ∀ j, j < k → φ (L.getD j []) = false) (fun k => [(8, .int .i64 (k : Nat))]) (fun k => []) (fun k => L.length - k) 0 ⟨Nat.zero_le _, fun j hj => absurd hj (Nat.not_lt_zero _)⟩ (by repeat (first | exact True.intro | refine And.intro rfl ?_)) (by repeat (first | exact .slnil | exact List.nil_sublist _ | exact .refl _ | refine .cons_cons _ ?_ | refine .cons _ ?_ | refine .trans ?_ (List.sublist_append_right _ _))) ?_
  intro k hk
  have hk1 := hk.1
  refine TC.seq ?_
  refine TC.region ?_
  refine TL.pure (PV.lss rfl rfl) rfl (by decide) ?_
  refine TL.nil ?_
  refine TQ.thenC ?_
  refine TC.seq ?_
  first | refine TC.condD rfl (fun hlt => ?_) (fun hlt => ?_) | refine TC.cond rfl (fun hlt => ?_) (fun hlt => ?_)
  · refine TC.skip ?_
    refine TQ.thenC ?_
    refine TC.seq ?_
    refine TC.block ?_
    refine TC.seq ?_
    refine TC.region ?_
    refine TL.pure (PV.move rfl) rfl (by decide) ?_
    refine TL.pure (PV.assign rfl) rfl (by decide) ?_
    refine TL.nil ?_
    refine TQ.thenC ?_
    refine TC.seq ?_
    obtain ⟨q2, q2p, q2v⟩ := hL k (by omega)
    refine TC.region ?_
    refine TL.pure (PV.move rfl) rfl (by decide) ?_
    refine TL.pure (PV.move rfl) rfl (by decide) ?_
    refine TL.pure (PV.move rfl) rfl (by decide) ?_
    refine TL.pure (PV.indexA rfl q2p rfl Tb.elm_43 rfl (by omega)) rfl (by decide) ?_
    refine TL.pure (PV.loadOld rfl Tb.one_9 q2v) rfl (by decide) ?_
    refine TL.callF (f := f) (caps := caps) (X := Unit) (fun _ => .bool (φ (L.getD k []))) (fun _ => True) (fun _ => []) rfl rfl hfn (fun a w hs => (hcb w _ hs.new (L.getD k []) (hs9 k)).mono fun e w' ⟨x9, h1, h2, h3⟩ => ⟨x9, h1, h2, hs.new.trans h3⟩) rfl (by decide) (fun _ _ => ?_)
    refine TL.nil ?_
    refine TQ.thenC ?_
    first | refine TC.condD rfl (fun hno => ?_) (fun hno => ?_) | refine TC.cond rfl (fun hno => ?_) (fun hno => ?_)
    · refine TC.seq ?_
      refine TC.region ?_
      refine TL.pure (PV.move rfl) rfl (by decide) ?_
      refine TL.pure (PV.assign rfl) rfl (by decide) ?_
      refine TL.nil ?_
      refine TQ.thenC ?_
      refine TC.ret ?_
      refine TQ.blkR ?_
      refine TQ.thenR ?_
      refine TQ.thenR ?_
      refine TQ.blkR ?_
      refine TQ.thenR ?_
      refine TQ.retE1 rfl rfl ?_
      exact ⟨k, rfl, .inr ⟨k, rfl, by omega, by simpa using hno⟩, List.nil_sublist _⟩
    · refine TC.skip ?_
      refine TQ.blkN ?_
      refine TQ.thenC ?_
      refine TC.region ?_
      refine TL.pure (PV.add rfl rfl (by omega)) rfl (by decide) ?_
      refine TL.pure (PV.move rfl) rfl (by decide) ?_
      refine TL.nil ?_
      refine TQ.thenN ?_
      refine TQ.backK (k + 1) (by repeat (first | exact True.intro | refine And.intro rfl ?_)) (by repeat (first | exact True.intro | refine And.intro rfl ?_)) (by repeat (first | exact .slnil | exact List.nil_sublist _ | exact .refl _ | refine .cons_cons _ ?_ | refine .cons _ ?_ | refine .trans ?_ (List.sublist_append_right _ _))) ⟨by omega, fun j hj => if e : j < k then hk.2 j e else (show k = j by omega) ▸ (by simpa using hno)⟩ (by omega)
  · refine TC.exit ?_
    refine TQ.thenE ?_
    refine TQ.thenE ?_
    refine TQ.blkS ?_
    refine TQ.thenC ?_
    refine TC.seq ?_
    refine TC.region ?_
    refine TL.pure (PV.assign rfl) rfl (by decide) ?_
    refine TL.nil ?_
    refine TQ.thenC ?_
    refine TC.ret ?_
    refine TQ.retE1 rfl rfl ?_
    exact ⟨-1, rfl, .inl ⟨rfl, fun j hj => hk.2 j (by omega)⟩, List.nil_sublist _⟩

set_option maxRecDepth 100000 in
theorem containsFS_ok (w0 : World) (p : Option Addr) (c : Nat) (L : List (List UInt8)) (hL : StrsAt w0 p L) (h300 : L.length ≤ 1000000) (hs9 : ∀ j, (L.getD j []).length ≤ 1000000) (f : FuncId) (caps : List Value) (φ : List UInt8 → Bool) (hfn : goFn Tryz.prog f = true) (hcb : ∀ w G, New w0 w G → ∀ x : List UInt8, x.length ≤ 1000000 → Calls Tryz.prog f (str x :: caps).toArray w (Post (X := Unit) (fun _ => .bool (φ x)) (fun _ => True) (fun _ => []) w)) :
    Calls Tryz.prog 84 #[.slice p L.length c, .func (.func f) #[] caps.toArray] w0 (Post (X := Unit) (fun _ => .bool (L.any φ)) (fun _ => True) (fun _ => []) w0) := by
  refine calls Tryz.func84 rfl (n := 9) rfl (by simp) ?_
  refine TC.seq ?_
  refine TC.region ?_
  refine TL.pure (PV.assign rfl) rfl (by decide) ?_
  refine TL.nil ?_
  refine TQ.thenC ?_
  refine TC.seq ?_
  refine TC.region ?_
  refine TL.pure (PV.move rfl) rfl (by decide) ?_
  refine TL.pure (PV.move rfl) rfl (by decide) ?_
  refine TL.call rfl Tb.gofn_126 (fun a w hs => indexFS_ok w p c L (hL.new hs.new) h300 hs9 f caps φ hfn (fun w2 G2 hn2 x hx => hcb w2 _ (hs.new.trans hn2) x hx)) rfl (by decide) (fun i9 hi9 => ?_)
  refine TL.pure (PV.geq rfl rfl) rfl (by decide) ?_
  refine TL.pure (PV.assign rfl) rfl (by decide) ?_
  refine TL.nil ?_
  refine TQ.thenC ?_
  refine TC.ret ?_
  refine TQ.retE1 rfl rfl ?_
  exact ⟨(), by rw [fstS_any hi9], trivial, List.nil_sublist _⟩

set_option maxRecDepth 100000 in
theorem writeF_ok (w0 : World) (L : List UInt8) (hl : L.length ≤ 1000000) :
    Calls Tryz.prog 85 #[str L] w0 (Post (X := Unit) (fun _ => .bool (!rightS L)) (fun _ => True) (fun _ => []) w0) := by
  refine calls Tryz.func85 rfl (n := 6) rfl (by simp) ?_
  refine TC.seq ?_
  refine TC.region ?_
  refine TL.pure (PV.assign rfl) rfl (by decide) ?_
  refine TL.nil ?_
  refine TQ.thenC ?_
  refine TC.seq ?_
  refine TC.region ?_
  refine TL.pure (PV.move rfl) rfl (by decide) ?_
  refine TL.call rfl Tb.gofn_80 (fun a w hs => isLine_ok w L hl) rfl (by decide) (fun _ _ => ?_)
  refine TL.pure ((by first | exact PV.notD rfl | exact PV.not rfl)) rfl (by decide) ?_
  refine TL.pure (PV.assign rfl) rfl (by decide) ?_
  refine TL.nil ?_
  refine TQ.thenC ?_
  refine TC.ret ?_
  refine TQ.retE1 rfl rfl ?_
  exact ⟨(), congrArg Value.bool (by show decide (¬ _) = !decide _; rw [decide_not]), trivial, List.nil_sublist _⟩

set_option maxRecDepth 100000 in
theorem Write_ok (w0 : World) (hW : WAt w0) (p : Option Addr) (c : Nat) (L : List (List UInt8)) (hL : StrsAt w0 p L) (h300 : L.length ≤ 300) (hs9 : ∀ j, (L.getD j []).length ≤ 400) :
    Calls Tryz.prog 48 #[.slice p L.length c] w0 (Post (X := Unit) (fun _ => .tuple #[str (wrL dI L), .int .i64 (wrI L)]) (fun _ => True) (fun _ => []) w0) := by
  refine calls Tryz.func48 rfl (n := 11) rfl (by simp) ?_
  refine TC.seq ?_
  refine TC.region ?_
  refine TL.pure (PV.assign rfl) rfl (by decide) ?_
  refine TL.pure (PV.assign rfl) rfl (by decide) ?_
  refine TL.nil ?_
  refine TQ.thenC ?_
  refine TC.seq ?_
  refine TC.seq ?_
  refine TC.region ?_
  refine TL.pure (PV.move rfl) rfl (by decide) ?_
  refine TL.pure (PV.len rfl Tb.sl_43) rfl (by decide) ?_
  refine TL.pure (PV.gtr rfl rfl) rfl (by decide) ?_
  refine TL.nil ?_
  refine TQ.thenC ?_
  first | refine TC.condD rfl (fun h100 => ?_) (fun h100 => ?_) | refine TC.cond rfl (fun h100 => ?_) (fun h100 => ?_)
  · refine TC.seq ?_
    refine TC.region ?_
    refine TL.pure (PV.assign rfl) rfl (by decide) ?_
    refine TL.pure (PV.assign rfl) rfl (by decide) ?_
    refine TL.nil ?_
    refine TQ.thenC ?_
    refine TC.ret ?_
    refine TQ.thenR ?_
    refine TQ.retE2 rfl rfl rfl ?_
    exact ⟨(), by unfold wrL; rw [wr_100 (L := L) (by omega), if_neg (by decide)]; rfl, trivial, List.nil_sublist _⟩
  · refine TC.skip ?_
    refine TQ.thenC ?_
    refine TC.seq ?_
    refine TC.seq ?_
    refine TC.region ?_
    refine TL.pure (PV.move rfl) rfl (by decide) ?_
    refine TL.call rfl Tb.gofn_84 (fun a w hs => containsFS_ok w p c L (hL.new hs.new) (by omega) (fun j => by have := hs9 j; omega) 85 [] (fun s => !rightS s) Tb.gofn_85 (fun w2 G2 hn2 x hx => writeF_ok w2 x hx)) rfl (by decide) (fun _ _ => ?_)
    refine TL.nil ?_
    refine TQ.thenC ?_
    first | refine TC.condD rfl (fun hb => ?_) (fun hb => ?_) | refine TC.cond rfl (fun hb => ?_) (fun hb => ?_)
    · refine TC.seq ?_
      refine TC.region ?_
      refine TL.pure (PV.assign rfl) rfl (by decide) ?_
      refine TL.pure (PV.assign rfl) rfl (by decide) ?_
      refine TL.nil ?_
      refine TQ.thenC ?_
      refine TC.ret ?_
      refine TQ.thenR ?_
      refine TQ.retE2 rfl rfl rfl ?_
      have hw1 := wr_any (L := L) (by omega)
      rw [if_pos hb] at hw1
      exact ⟨(), by unfold wrL; rw [hw1, if_neg (by decide)]; rfl, trivial, List.nil_sublist _⟩
    · refine TC.skip ?_
      refine TQ.thenC ?_
      refine TC.seq ?_
      refine TC.region ?_
      refine TL.pure (PV.move rfl) rfl (by decide) ?_
      refine TL.call rfl Tb.gofn_68 (fun a w hs => bookOf_ok w (hW.new hs.new) p c L (hL.new hs.new) h300 hs9) rfl (by decide) (fun _ _ => ?_)
      refine TL.pure (PV.assign rfl) rfl (by decide) ?_
      refine TL.pure (PV.assign rfl) rfl (by decide) ?_
      refine TL.nil ?_
      refine TQ.thenC ?_
      refine TC.ret ?_
      refine TQ.retE2 rfl rfl rfl ?_
      have hw1 := wr_any (L := L) (by omega)
      rw [if_neg (by rw [hb]; decide)] at hw1
      exact ⟨(), by unfold wrL; rw [hw1, if_pos rfl], trivial, List.nil_sublist _⟩

end Go.Proofs.YtbnjmkidbfmomaaGreatDoor

/- Reading a book: contract. -/
namespace Go.Proofs.YtbnjmkidbfmomaaGreatDoor
open Go.Sx Go.RowKit Go.Bt Go.Lib Go.Sand

theorem brk_len (c : UInt8) (l : List UInt8) : (brk c l).1.length ≤ l.length ∧ ((brk c l).2.getD []).length ≤ l.length := by
  cases h : (brk c l).2 with
  | none =>
    have := congrArg List.length (brk_none h)
    exact ⟨by omega, Nat.zero_le _⟩
  | some r =>
    have := brk_le h
    exact ⟨by omega, by show r.length ≤ _; omega⟩
theorem lnO_len (r : List UInt8) : (lnO r).length ≤ r.length := by
  have h1 := (brk_len 10 r).1
  have h2 := (brk_len 32 (brk 10 r).1).2
  unfold lnO
  omega
set_option maxRecDepth 100000 in
set_option maxHeartbeats 1000000 in
theorem Read_ok (w0 : World) (hW : WAt w0) (t : List UInt8) (ht : t.length ≤ 1000000) :
    Calls Tryz.prog 43 #[str t] w0 (Post (X := HD) (fun h => .tuple #[.slice (gp h) (readL t).1.length (gc h), str (readL t).2]) (fun h => goR stR h (readL t).1) (fun h => gbR stR 9 h (readL t).1) w0) := by
  refine calls Tryz.func43 rfl (n := 54) rfl (by simp) ?_
  refine TC.seq ?_
  refine TC.region ?_
  refine TL.pure (PV.assign rfl) rfl (by decide) ?_
  refine TL.pure (PV.assign rfl) rfl (by decide) ?_
  refine TL.nil ?_
  refine TQ.thenC ?_
  refine TC.seq ?_
  refine TC.region ?_
  refine TL.pure (PV.assign rfl) rfl (by decide) ?_
  refine TL.nil ?_
  refine TQ.thenC ?_
  refine TC.seq ?_
  refine TC.region ?_
  refine TL.pure (PV.move rfl) rfl (by decide) ?_
  refine TL.pure (PV.assign rfl) rfl (by decide) ?_
  refine TL.pure (PV.assign rfl) rfl (by decide) ?_
  refine TL.nil ?_
  refine TQ.thenC ?_
  refine TC.seq ?_
  refine TC.block ?_
  refine TC.loopK [2, 3] (X := HD × List (List UInt8) × Int × List UInt8) (fun x => goR stR x.1 x.2.1 ∧ RdS t x.2.1 x.2.2.1 x.2.2.2) (fun x => [(4, gval x.1 x.2.1.length), (6, str x.2.2.2), (5, .int .i64 x.2.2.1)]) (fun x => gbR stR 9 x.1 x.2.1 ++ []) (fun x => 100 - x.2.1.length) (none, [], 0, t) ⟨⟨rfl, rfl⟩, RdS.zero t⟩ (by repeat (first | exact True.intro | refine And.intro rfl ?_)) (List.Sublist.refl _) ?_
  intro x hx
  refine TC.seq ?_
  refine TC.seq ?_
  have hle := hx.2.len
  have hln := lnO_len x.2.2.2
  have hbl := brk_len 10 x.2.2.2
  have hsm := hx.2.sm
  refine TC.region ?_
  refine TL.pure (PV.move rfl) rfl (by decide) ?_
  refine TL.pure (PV.lenO rfl hx.1) rfl (by decide) ?_
  refine TL.pure (PV.lss rfl rfl) rfl (by decide) ?_
  refine TL.nil ?_
  refine TQ.thenC ?_
  first | refine TC.condD rfl (fun hlt => ?_) (fun hlt => ?_) | refine TC.cond rfl (fun hlt => ?_) (fun hlt => ?_)
  · refine TC.skip ?_
    refine TQ.thenC ?_
    refine TC.block ?_
    refine TC.seq ?_
    refine TC.region ?_
    refine TL.pure (PV.move rfl) rfl (by decide) ?_
    refine TL.call rfl Tb.gofn_79 (fun a w hs => scut_ok w (hW.new hs.new) 10 x.2.2.2 (by omega)) rfl (by decide) (fun _ _ => ?_)
    refine TL.pure (PV.move rfl) rfl (by decide) ?_
    refine TL.pure (PV.extract rfl rfl) rfl (by decide) ?_
    refine TL.pure (PV.extract rfl rfl) rfl (by decide) ?_
    refine TL.pure (PV.extract rfl rfl) rfl (by decide) ?_
    refine TL.pure (PV.assign rfl) rfl (by decide) ?_
    refine TL.pure (PV.assign rfl) rfl (by decide) ?_
    refine TL.pure (PV.assign rfl) rfl (by decide) ?_
    refine TL.nil ?_
    refine TQ.thenC ?_
    refine TC.seq ?_
    refine TC.region ?_
    refine TL.pure (PV.move rfl) rfl (by decide) ?_
    refine TL.call rfl Tb.gofn_79 (fun a w hs => scut_ok w (hW.new hs.new) 32 (brk 10 x.2.2.2).1 (by omega)) rfl (by decide) (fun _ _ => ?_)
    refine TL.pure (PV.move rfl) rfl (by decide) ?_
    refine TL.pure (PV.extract rfl rfl) rfl (by decide) ?_
    refine TL.pure (PV.extract rfl rfl) rfl (by decide) ?_
    refine TL.pure (PV.extract rfl rfl) rfl (by decide) ?_
    refine TL.pure (PV.assign rfl) rfl (by decide) ?_
    refine TL.pure (PV.assign rfl) rfl (by decide) ?_
    refine TL.pure (PV.assign rfl) rfl (by decide) ?_
    refine TL.nil ?_
    refine TQ.thenC ?_
    refine TC.seq ?_
    refine TC.seq ?_
    refine TC.region ?_
    refine TL.pure (PV.move rfl) rfl (by decide) ?_
    refine TL.call rfl Tb.gofn_80 (fun a w hs => isLine_ok w (lnO x.2.2.2) (by omega)) rfl (by decide) (fun _ _ => ?_)
    refine TL.pure ((by first | exact PV.notD rfl | exact PV.not rfl)) rfl (by decide) ?_
    refine TL.nil ?_
    refine TQ.thenC ?_
    first | refine TC.condD rfl (fun hnl => ?_) (fun hnl => ?_) | refine TC.cond rfl (fun hnl => ?_) (fun hnl => ?_)
    · have hr0 : rightS (lnO x.2.2.2) = false := decide_eq_false hnl
      refine TC.exit ?_
      refine TQ.thenE ?_
      refine TQ.blkE (by decide) ?_
      refine TQ.thenE ?_
      refine TQ.blkS ?_
      refine TQ.thenC ?_
      refine TC.seq ?_
      refine TC.region ?_
      refine TL.pure (PV.move rfl) rfl (by decide) ?_
      refine TL.pure (PV.move rfl) rfl (by decide) ?_
      refine TL.pure (PV.assign rfl) rfl (by decide) ?_
      refine TL.pure (PV.assign rfl) rfl (by decide) ?_
      refine TL.nil ?_
      refine TQ.thenC ?_
      refine TC.ret ?_
      refine TQ.retE2 rfl rfl rfl ?_
      have e := hx.2.stop (pg_line hr0)
      exact ⟨x.1, by rw [e]; exact congrArg (fun v => Value.tuple #[v, str x.2.2.2]) (ords_len hx.1), by rw [e]; exact hx.1, by rw [e]; exact List.sublist_append_left _ _⟩
    · have hr1 : rightS (lnO x.2.2.2) = true := decide_eq_true (by simpa using hnl)
      refine TC.skip ?_
      refine TQ.thenC ?_
      refine TC.seq ?_
      refine TC.region ?_
      refine TL.pure (PV.move rfl) rfl (by decide) ?_
      refine TL.pure (PV.move rfl) rfl (by decide) ?_
      refine TL.call rfl Tb.gofn_46 (fun a w hs => Sum_ok w x.2.2.1 (by omega) (lnO x.2.2.2) (by omega)) rfl (by decide) (fun _ _ => ?_)
      refine TL.pure (PV.assign rfl) rfl (by decide) ?_
      refine TL.nil ?_
      refine TQ.thenC ?_
      refine TC.seq ?_
      refine TC.region ?_
      refine TL.pure (PV.move rfl) rfl (by decide) ?_
      refine TL.pure (PV.move rfl) rfl (by decide) ?_
      refine TL.pure (PV.move rfl) rfl (by decide) ?_
      refine TL.call rfl Tb.gofn_82 (fun a w hs => page_ok w (hW.new hs.new) _ (smV_bd _ _) (lnO x.2.2.2) (by omega)) rfl (by decide) (fun _ _ => ?_)
      refine TL.call rfl Tb.gofn_81 (fun a w hs => cutP_ok w x.2.2.2 _) rfl (by decide) (fun _ _ => ?_)
      refine TL.pure (PV.move rfl) rfl (by decide) ?_
      refine TL.pure (PV.extract rfl rfl) rfl (by decide) ?_
      refine TL.pure (PV.extract rfl rfl) rfl (by decide) ?_
      refine TL.pure (PV.assign rfl) rfl (by decide) ?_
      refine TL.pure (PV.assign rfl) rfl (by decide) ?_
      refine TL.nil ?_
      refine TQ.thenC ?_
      refine TC.seq ?_
      refine TC.seq ?_
      refine TC.region ?_
      refine TL.pure (PV.move rfl) rfl (by decide) ?_
      refine TL.pure ((by first | exact PV.notD rfl | exact PV.not rfl)) rfl (by decide) ?_
      refine TL.nil ?_
      refine TQ.thenC ?_
      first | refine TC.condD rfl (fun hnp => ?_) (fun hnp => ?_) | refine TC.cond rfl (fun hnp => ?_) (fun hnp => ?_)
      · have hp0 : ¬ (pageL dI (smV x.2.2.1 (lnO x.2.2.2)) (lnO x.2.2.2)).isPrefixOf x.2.2.2 = true := by first | exact hnp | (rw [Bool.not_eq_true]; simpa using hnp)
        refine TC.exit ?_
        refine TQ.thenE ?_
        refine TQ.blkE (by decide) ?_
        refine TQ.thenE ?_
        refine TQ.blkS ?_
        refine TQ.thenC ?_
        refine TC.seq ?_
        refine TC.region ?_
        refine TL.pure (PV.move rfl) rfl (by decide) ?_
        refine TL.pure (PV.move rfl) rfl (by decide) ?_
        refine TL.pure (PV.assign rfl) rfl (by decide) ?_
        refine TL.pure (PV.assign rfl) rfl (by decide) ?_
        refine TL.nil ?_
        refine TQ.thenC ?_
        refine TC.ret ?_
        refine TQ.retE2 rfl rfl rfl ?_
        have e := hx.2.stop (pg_pre hp0)
        exact ⟨x.1, by rw [e]; exact congrArg (fun v => Value.tuple #[v, str x.2.2.2]) (ords_len hx.1), by rw [e]; exact hx.1, by rw [e]; exact List.sublist_append_left _ _⟩
      · have hp1 : (pageL dI (smV x.2.2.1 (lnO x.2.2.2)) (lnO x.2.2.2)).isPrefixOf x.2.2.2 = true := by first | exact hnp | simpa using hnp
        rw [if_pos hp1]
        refine TC.skip ?_
        refine TQ.thenC ?_
        refine TC.region ?_
        refine TL.pure (PV.move rfl) rfl (by decide) ?_
        refine TL.pure (PV.move rfl) rfl (by decide) ?_
        refine TL.buildSlice (cs := #[str (lnO x.2.2.2)]) rfl Tb.sl_43 Tb.zi_9 (by decide) (fill_s (lnO x.2.2.2)) (by decide) rfl (by decide) (fun bI hbI => ?_)
        refine TL.appendRec (R := stR) (h0 := x.1) (ys := x.2.1) (r := lnO x.2.2.2) Tb.sl_43 Tb.zi_9 rfl rfl rfl (by repeat (first | exact List.Mem.head _ | refine List.Mem.tail _ ?_ | refine List.mem_append_right _ ?_)) hx.1 (by repeat (first | exact TakeH.here _ _ _ _ | apply TakeH.tail | apply TakeH.app)) (by omega) (by omega) rfl (by decide) (fun h9 ho9 => ?_)
        refine TL.pure (PV.move rfl) rfl (by decide) ?_
        refine TL.pure (PV.assign rfl) rfl (by decide) ?_
        refine TL.pure (PV.assign rfl) rfl (by decide) ?_
        refine TL.nil ?_
        refine TQ.blkN ?_
        refine TQ.thenN ?_
        refine TQ.backK (h9, x.2.1 ++ [lnO x.2.2.2], smV x.2.2.1 (lnO x.2.2.2), x.2.2.2.drop (pageL dI (smV x.2.2.1 (lnO x.2.2.2)) (lnO x.2.2.2)).length) (by repeat (first | exact True.intro | refine And.intro rfl ?_)) (by repeat (first | exact True.intro | refine And.intro rfl ?_)) (List.Sublist.append (List.Sublist.refl _) (List.nil_sublist _)) ⟨ho9, hx.2.next (by omega) (pg_yes hr1 hp1)⟩ (by simp only [List.length_append, List.length_cons, List.length_nil]; omega)
  · refine TC.exit ?_
    refine TQ.thenE ?_
    refine TQ.thenE ?_
    refine TQ.blkS ?_
    refine TQ.thenC ?_
    refine TC.seq ?_
    refine TC.region ?_
    refine TL.pure (PV.move rfl) rfl (by decide) ?_
    refine TL.pure (PV.move rfl) rfl (by decide) ?_
    refine TL.pure (PV.assign rfl) rfl (by decide) ?_
    refine TL.pure (PV.assign rfl) rfl (by decide) ?_
    refine TL.nil ?_
    refine TQ.thenC ?_
    refine TC.ret ?_
    refine TQ.retE2 rfl rfl rfl ?_
    have e := hx.2.full (by omega)
    exact ⟨x.1, by rw [e]; exact congrArg (fun v => Value.tuple #[v, str x.2.2.2]) (ords_len hx.1), by rw [e]; exact hx.1, by rw [e]; exact List.sublist_append_left _ _⟩

end Go.Proofs.YtbnjmkidbfmomaaGreatDoor

/- Reading a book: the document's contract. -/
namespace Go.Proofs.YtbnjmkidbfmomaaGreatDoor
open Go.Sx Go.RowKit Go.Bt Go.Lib Go.Sand

section
variable {P : Program} {n : Nat} {w0 : World} {E : Env} {G : Heap} {d : Option Nat} {ty : TypeId} {pos : String} {aft : Array Edge} {g : Option (Nat × Bool)}
theorem str_size (L : List UInt8) : (⟨L.toArray⟩ : ByteArray).size = L.length := by simp [ByteArray.size]
theorem PV.slSf {x y : Operand} {L : List UInt8} {t : TypeId} {i : Int} {l : Nat} (hx : evo E x = some (str L)) (hy : evo E y = some (.int .i64 i)) (ht : P.underlying t = some .string) (hi : i = (l : Int)) (hh : l ≤ L.length) :
    PV P n w0 E G ⟨d, .slice t x (some y) none none, ty, pos, aft, g⟩ (str (L.drop l)) := fun a w hs => by
  subst hi
  simp only [execOp, hs.ev hx, Option.map_some, Option.map_none, hs.ev hy]
  have h2 := run_slice_string_from_if (P := P) w t ⟨L.toArray⟩ .i64 l ht
  rw [if_pos ⟨by omega, by rw [str_size]; omega⟩, Int.toNat_natCast, str_size, ByteArray.extract_mk, show (L.drop l).take (L.length - l) = L.drop l from List.take_of_length_le (by simp)] at h2
  simp [str, run_sliceAt_string _ _ _ _ _ _ ht, h2]
theorem PV.slSt {x z : Operand} {L : List UInt8} {t : TypeId} {j : Int} {h : Nat} (hx : evo E x = some (str L)) (hz : evo E z = some (.int .i64 j)) (ht : P.underlying t = some .string) (hj : j = (h : Int)) (hh : h ≤ L.length) :
    PV P n w0 E G ⟨d, .slice t x none (some z) none, ty, pos, aft, g⟩ (str (L.take h)) := fun a w hs => by
  subst hj
  simp only [execOp, hs.ev hx, Option.map_some, Option.map_none, hs.ev hz]
  have h2 := run_slice_string_to_if (P := P) w t ⟨L.toArray⟩ .i64 h ht
  rw [if_pos ⟨by omega, by rw [str_size]; omega⟩, Int.toNat_natCast, ByteArray.extract_mk, List.drop_zero, Nat.sub_zero] at h2
  simp [str, run_sliceAt_string _ _ _ _ _ _ ht, h2]
end
/-- Where a byte is first, if it is. -/
structure Stp (c : UInt8) (l : List UInt8) (m k : Nat) : Prop where
  le : k ≤ m
  no : ∀ j, j < k → l.getD j 0 ≠ c
  at_ : k < m → l.getD k 0 = c
section
variable {r : List UInt8} {k i : Nat} {sum : Int}
end

end Go.Proofs.YtbnjmkidbfmomaaGreatDoor

/- Merging books: contracts. -/
namespace Go.Proofs.YtbnjmkidbfmomaaGreatDoor
open Go.Sx Go.RowKit Go.Bt Go.Lib Go.Sand

section
variable {P : Program} {n : Nat} {w0 : World} {E : Env} {G : Heap} {d : Option Nat} {ty : TypeId} {pos : String} {aft : Array Edge} {g : Option (Nat × Bool)}
end
/-- What the merging of two books is. -/
def MrP (A B : List (List UInt8) × List UInt8) (t u : List UInt8) (y : List UInt8 × Int × Int) : Prop :=
  ((A.2 ≠ [] ∨ B.2 ≠ []) ∧ y = ([], 0, 12)) ∨ (¬ (A.2 ≠ [] ∨ B.2 ≠ []) ∧ ((∃ k : Nat, k < min A.1.length B.1.length ∧ (∀ j, j < k → A.1.getD j [] = B.1.getD j []) ∧ A.1.getD k [] ≠ B.1.getD k [] ∧ y = ([], (k : Int), 7)) ∨
    ((∀ j, j < min A.1.length B.1.length → A.1.getD j [] = B.1.getD j []) ∧ y = if A.1.length < B.1.length then (u, (B.1.length : Int), 0) else (t, (A.1.length : Int), 0))))
theorem MrP.unique {A B : List (List UInt8) × List UInt8} {t u : List UInt8} {y z : List UInt8 × Int × Int} (h : MrP A B t u y) (h' : MrP A B t u z) : y = z := by
  rcases h with ⟨a, e⟩ | ⟨a, h⟩
  · rcases h' with ⟨b, e'⟩ | ⟨b, h'⟩
    · rw [e, e']
    · exact absurd a b
  rcases h' with ⟨b, e'⟩ | ⟨b, h'⟩
  · exact absurd b a
  rcases h with ⟨k, h1, h2, h3, e⟩ | ⟨h1, e⟩
  · rcases h' with ⟨k', h1', h2', h3', e'⟩ | ⟨h1', e'⟩
    · have : k = k' := by
        rcases Nat.lt_trichotomy k k' with hlt | rfl | hlt
        · exact absurd (h2' k hlt) h3
        · rfl
        · exact absurd (h2 k' hlt) h3'
      rw [e, e', this]
    · exact absurd (h1' k h1) h3
  · rcases h' with ⟨k', h1', h2', h3', e'⟩ | ⟨h1', e'⟩
    · exact absurd (h1 k' h1') h3'
    · rw [e, e']
section
variable {A B : List (List UInt8) × List UInt8} {t u : List UInt8}
end

end Go.Proofs.YtbnjmkidbfmomaaGreatDoor

/- A company of two columns: what its orders come to. Mathematics. -/
namespace Go.Proofs.YtbnjmkidbfmomaaGreatDoor
open Go.Sx Go.RowKit Go.Bt Go.Lib Go.Sand

def saS : St := ⟨[[1, 2], [3, 4]], [[0, 1], [1, 0]], [1, 1], 2⟩
theorem sa_new : newI [[1, 2], [3, 4]] [[0, 1], [1, 0]] [1, 1] 2 = 0 := by
  have h1 : C.validI [[1, 2], [3, 4]] = 0 := by decide
  have hs : H.Shp [[0, 1], [1, 0]] [1, 1] := by
    refine ⟨by decide, rfl, ?_, by decide, ?_⟩
    · intro k hk
      have : k = 0 ∨ k = 1 := by simp at hk; omega
      rcases this with rfl | rfl <;> decide
    · intro i j hi hj
      have a : i = 0 ∨ i = 1 := by simp at hi; omega
      have b : j = 0 ∨ j = 1 := by simp at hj; omega
      rcases a with rfl | rfl <;> rcases b with rfl | rfl <;> decide
  have hj : H.JoiP [[0, 1], [1, 0]] [1, 1] := by
    intro i hi
    refine .gr i hi ?_
    have a : i = 0 ∨ i = 1 := by simp at hi; omega
    rcases a with rfl | rfl <;> decide
  have h2 : H.validI [[0, 1], [1, 0]] [1, 1] = 0 := H.valid_0 hs hj
  rw [new_4 (by rw [h1]; decide) (by rw [h2]; decide) (by decide)]
  exact M.vI_yes (by unfold M.vB; decide)
theorem sa_sv : SV saS := sv_of sa_new
def tW : List UInt8 := [119, 101, 116, 32, 48, 32, 48]
def tC0 : List UInt8 := [99, 117, 116, 32, 48]
def tC1 : List UInt8 := [99, 117, 116, 32, 49]
theorem nf_0 : numF [48] = some 0 := by
  have e : decDigits 0 = [48] := by unfold decDigits; rfl
  rw [← e]; exact numF_dec (by decide)
theorem nf_1 : numF [49] = some 1 := by
  have e : decDigits 1 = [49] := by unfold decDigits; rfl
  rw [← e]; exact numF_dec (by decide)
theorem spl_W : spl 32 tW = [[119, 101, 116], [48], [48]] := by decide
theorem spl_0 : spl 32 tC0 = [[99, 117, 116], [48]] := by decide
theorem spl_1 : spl 32 tC1 = [[99, 117, 116], [49]] := by decide
theorem prs_W : prsO tW = some ⟨3, [0, 0]⟩ := by
  unfold prsO
  rw [spl_W]
  show (match kdF [119, 101, 116] with | none => none | some (k, c) => if _ then some _ else none) = _
  rw [show kdF [119, 101, 116] = some (3, 2) by decide]
  simp [isNum, nv, nf_0]
theorem prs_0 : prsO tC0 = some ⟨1, [0]⟩ := by
  unfold prsO
  rw [spl_0]
  show (match kdF [99, 117, 116] with | none => none | some (k, c) => if _ then some _ else none) = _
  rw [show kdF [99, 117, 116] = some (1, 1) by decide]
  simp [isNum, nv, nf_0]
theorem prs_1 : prsO tC1 = some ⟨1, [1]⟩ := by
  unfold prsO
  rw [spl_1]
  show (match kdF [99, 117, 116] with | none => none | some (k, c) => if _ then some _ else none) = _
  rw [show kdF [99, 117, 116] = some (1, 1) by decide]
  simp [isNum, nv, nf_1]
/-- What is known of a company: all but where its turves lie. -/
structure Kn (c : Co) (m k : Int) (hol : List Int) (n : Nat) : Prop where
  mn : c.money = m
  ct : c.cut = k
  ho : c.hol = hol
  sh : c.shut = false
  we : c.wet = 0
  ol : c.ords.length = n
theorem kn_0 : Kn (co0 saS) 0 0 [0, 0] 0 := ⟨rfl, rfl, rfl, rfl, rfl, rfl⟩
theorem do_cut {c : Co} {m k a : Int} {hol : List Int} {n : Nat} {t : List UInt8} (h : Kn c m k hol n) (hn : n < 100) (hp : prsO t = some ⟨1, [a]⟩) (ha : ¬ (saS.W.length : Int) ≤ a) (ho : C.opB saS.W (C.pad6 hol) a.toNat = true) :
    doI saS c t = 0 ∧ Kn (doC saS c t) (m + (saS.W.getD a.toNat []).getD (hol.getD a.toNat 0).toNat 0) (k + 1) (hol.set a.toNat (hol.getD a.toNat 0 + 1)) (n + 1) := by
  have hl := h.ol
  have h0 : actI saS c ⟨1, [a]⟩ = 0 := by
    rw [cut_e, if_neg ha, if_neg (by rw [h.sh]; decide), h.ho, ho, h.we, if_neg]
    rintro (h9 | ⟨_, h9⟩)
    · cases h9
    · simp at h9
  have e1 : doI saS c t = 0 := by rw [do_some hp (by omega)]; exact h0
  refine ⟨e1, ?_⟩
  have e2 : doC saS c t = { actC saS c ⟨1, [a]⟩ with ords := c.ords ++ [t] } := by
    unfold doC
    rw [hp]
    simp only
    rw [if_neg (by omega), if_pos h0]
  rw [e2, cut_c]
  exact ⟨by simp only [h.mn, h.ho], by simp only [h.ct], by simp only [h.ho], h.sh, h.we, by simp only [List.length_append, List.length_cons, List.length_nil, hl]⟩
theorem sa_1 : doI saS (co0 saS) tW = 8 := by
  rw [do_some prs_W (by decide), wet_e]
  decide
theorem sa_1c : doC saS (co0 saS) tW = co0 saS := doC_no (by rw [sa_1]; decide)
noncomputable abbrev sa1 : Co := doC saS (co0 saS) tW
noncomputable abbrev sa2 : Co := doC saS sa1 tC0
noncomputable abbrev sa3 : Co := doC saS sa2 tC0
noncomputable abbrev sa4 : Co := doC saS sa3 tC1
noncomputable abbrev sa5 : Co := doC saS sa4 tC0
theorem kn_1 : Kn sa1 0 0 [0, 0] 0 := by
  show Kn (doC saS (co0 saS) tW) 0 0 [0, 0] 0
  rw [sa_1c]; exact kn_0
theorem kn_2 : doI saS sa1 tC0 = 0 ∧ Kn sa2 1 1 [1, 0] 1 := do_cut kn_1 (by decide) prs_0 (by decide) (by decide)
theorem sa_3 : doI saS sa2 tC0 = 6 := by
  have h := kn_2.2
  rw [do_some prs_0 (by rw [h.ol]; decide), cut_e, if_neg (by decide), if_neg (by rw [h.sh]; decide), h.ho, if_pos (.inl (by decide))]
theorem kn_3 : Kn sa3 1 1 [1, 0] 1 := by
  have : sa3 = sa2 := doC_no (by rw [sa_3]; decide)
  rw [this]; exact kn_2.2
theorem kn_4 : doI saS sa3 tC1 = 0 ∧ Kn sa4 4 2 [1, 1] 2 := do_cut kn_3 (by decide) prs_1 (by decide) (by decide)
theorem kn_5 : doI saS sa4 tC0 = 0 ∧ Kn sa5 6 3 [2, 1] 3 := do_cut kn_4.2 (by decide) prs_0 (by decide) (by decide)
theorem in_1 : Inv saS sa1 := (Inv.zero sa_sv).any _ sa_sv
theorem in_2 : Inv saS sa2 := in_1.any _ sa_sv
theorem in_3 : Inv saS sa3 := in_2.any _ sa_sv
theorem in_4 : Inv saS sa4 := in_3.any _ sa_sv
theorem it_day : dI 696239 = [54, 57, 54, 50, 51, 57] := by
  show itoa ((696239 : Nat) : Int) = _
  rw [itoa_nat]
  repeat (unfold decDigits; simp)
theorem wr_day : wrI [[100, 97, 121]] = 0 ∧ wrL dI [[100, 97, 121]] = [54, 57, 54, 50, 51, 57, 32, 100, 97, 121, 10] := by
  have h0 : wrI [[100, 97, 121]] = 0 := by decide
  refine ⟨h0, ?_⟩
  unfold wrL
  rw [h0, if_pos rfl]
  show (bookF dI (0, []) [100, 97, 121]).2 = _
  unfold bookF pageL
  simp only
  rw [show smV 0 [100, 97, 121] = 696239 by decide, it_day]; rfl

end Go.Proofs.YtbnjmkidbfmomaaGreatDoor

/- The laws' own company: contracts. -/
namespace Go.Proofs.YtbnjmkidbfmomaaGreatDoor
open Go.Sx Go.RowKit Go.Bt Go.Lib Go.Sand

theorem fill_i2 (a b : Int) : Instr.fill (fun i => some (i * 1, 1)) ((Array.range (2 * 1)).map ((Value.int .i64 0).cells[· % (Value.int .i64 0).cells.size]!)) [(0, .int .i64 a), (1, .int .i64 b)] = some #[.int .i64 a, .int .i64 b] := by kernel_rfl
theorem fill_s2 (p q : Option Addr) (k l m n : Nat) : Instr.fill (fun i => some (i * 1, 1)) ((Array.range (2 * 1)).map ((Value.slice none 0 0).cells[· % (Value.slice none 0 0).cells.size]!)) [(0, .slice p k l), (1, .slice q m n)] = some #[.slice p k l, .slice q m n] := by kernel_rfl
theorem fill_29 (a b c : Value) : Instr.fill ([(0, 1), (1, 2), (3, 1)][·]?) #[.slice none 0 0, .slice none 0 0, .slice none 0 0, .int .i64 0] [(0, .agg #[a]), (1, .agg #[b, c]), (2, .int .i64 2)] = some #[a, b, c, .int .i64 2] := by kernel_rfl
/-- Where the lists of the laws' company lie before it is made. -/
structure TwB where
  w1 : Nat
  w2 : Nat
  w : Nat
  k1 : Nat
  k2 : Nat
  k : Nat
  g : Nat
abbrev sl2 (b : Nat) : Value := .slice (some ⟨b, 0, none⟩) 2 2
def twD (y : TwB) : Heap := [(y.g, .cells #[.int .i64 1, .int .i64 1] 3 (0, 0)), (y.k, .cells #[sl2 y.k1, sl2 y.k2] 25 (0, 0)), (y.k2, .cells #[.int .i64 1, .int .i64 0] 3 (0, 0)), (y.k1, .cells #[.int .i64 0, .int .i64 1] 3 (0, 0)), (y.w, .cells #[sl2 y.w1, sl2 y.w2] 25 (0, 0)), (y.w2, .cells #[.int .i64 3, .int .i64 4] 3 (0, 0)), (y.w1, .cells #[.int .i64 1, .int .i64 2] 3 (0, 0))]
theorem tw_w {w0 w : World} {G : Heap} {y : TwB} (hn : New w0 w G) (hm : ∀ x ∈ twD y, x ∈ G) : LsAt w (some ⟨y.w, 0, none⟩) [[1, 2], [3, 4]] :=
  H.LsAt.two (xs := [1, 2]) (ys := [3, 4]) hn (hm _ (.tail _ (.tail _ (.tail _ (.tail _ (.head _)))))) (IntsAt.arr hn (hm _ (.tail _ (.tail _ (.tail _ (.tail _ (.tail _ (.tail _ (.head _))))))))) (IntsAt.arr hn (hm _ (.tail _ (.tail _ (.tail _ (.tail _ (.tail _ (.head _))))))))
theorem tw_k {w0 w : World} {G : Heap} {y : TwB} (hn : New w0 w G) (hm : ∀ x ∈ twD y, x ∈ G) : LsAt w (some ⟨y.k, 0, none⟩) [[0, 1], [1, 0]] :=
  H.LsAt.two (xs := [0, 1]) (ys := [1, 0]) hn (hm _ (.tail _ (.head _))) (IntsAt.arr hn (hm _ (.tail _ (.tail _ (.tail _ (.head _)))))) (IntsAt.arr hn (hm _ (.tail _ (.tail _ (.head _)))))
theorem tw_g {w0 w : World} {G : Heap} {y : TwB} (hn : New w0 w G) (hm : ∀ x ∈ twD y, x ∈ G) : IntsAt w (some ⟨y.g, 0, none⟩) [1, 1] :=
  IntsAt.arr hn (hm _ (.head _))
theorem sa_kl (k : Nat) : (([[0, 1], [1, 0]] : List (List Int)).getD k []).length ≤ 1000000 := by
  rcases k with _ | _ | k <;> simp [List.getD]
/-- The laws' company before and after an order. -/
theorem Do_is (w0 w : World) (hW : WAt w0) (s : St) (hv : SV s) (u : SU) (c : Co) (v : TV) (hi : Inv s c) (b : Nat) (ho : HD) (hgo : goR stR ho c.ords) (Z : Heap) (hN : New w0 w (coB b s u 0 c v ho :: (gbR stR 9 ho c.ords ++ Z))) (Zf : Heap) (hZf : List.Sublist Zf Z) (hS : ∀ w9, New w0 w9 Zf → SiteAt w9 s u) (hT : ∀ w9, New w0 w9 Zf → TurAt w9 c v) (t : List UInt8) (ht : t.length ≤ 1000000) (e : Int) (he : doI s c t = e) :
    Calls Tryz.prog 18 #[.pointer (some ⟨b, 0, none⟩), str t] w (Post (X := TV × HD × Heap) (fun _ => .int .i64 e) (fun y => goR stR y.2.1 (doC s c t).ords ∧ ∀ w9, New w0 w9 (y.2.2 ++ Zf) → TurAt w9 (doC s c t) y.1) (fun y => coB b s u 0 (doC s c t) y.1 y.2.1 :: (gbR stR 9 y.2.1 (doC s c t).ords ++ (y.2.2 ++ Z))) w0) := by
  subst he
  exact Do_ok w0 w hW s hv u c v hi b ho hgo Z hN Zf hZf hS hT t ht
theorem strs_one {w0 w : World} {G : Heap} {b : Nat} {t : List UInt8} (hn : New w0 w G) (hm : (b, Obj.cells #[str t] 9 (0, 0)) ∈ G) : StrsAt w (some ⟨b, 0, none⟩) [t] := fun j hj => by
  have : j = 0 := by simp at hj; omega
  subst this
  exact ⟨_, rfl, hn.cell hm rfl⟩
theorem Write_day (w0 : World) (hW : WAt w0) (p : Option Addr) (c : Nat) (hL : StrsAt w0 p [[100, 97, 121]]) :
    Calls Tryz.prog 48 #[.slice p 1 c] w0 (Post (X := Unit) (fun _ => .tuple #[str [54, 57, 54, 50, 51, 57, 32, 100, 97, 121, 10], .int .i64 0]) (fun _ => True) (fun _ => []) w0) := by
  have h := Write_ok w0 hW p c [[100, 97, 121]] hL (by decide) (fun j => by rcases j with _ | j <;> simp [List.getD])
  rw [wr_day.1, wr_day.2] at h
  exact h

set_option maxRecDepth 100000 in
theorem two_ok (w0 : World) :
    Calls Tryz.prog 71 #[] w0 (Post (X := TwB) (fun y => .agg #[sl2 y.w, sl2 y.k, sl2 y.g, .int .i64 2]) (fun _ => True) (twD) w0) := by
  refine calls Tryz.func71 rfl (n := 11) rfl (by simp) ?_
  refine TC.seq ?_
  refine TC.region ?_
  refine TL.alloc Tb.zero_29 rfl (by decide) (fun b0 hb0 => ?_)
  refine TL.nil ?_
  refine TQ.thenC ?_
  refine TC.seq ?_
  refine TC.region ?_
  refine TL.buildSlice rfl Tb.sl_25 Tb.zi_3 (by decide) (fill_i2 _ _) (by decide) rfl (by decide) (fun bw1 hbw1 => ?_)
  refine TL.buildSlice rfl Tb.sl_25 Tb.zi_3 (by decide) (fill_i2 _ _) (by decide) rfl (by decide) (fun bw2 hbw2 => ?_)
  refine TL.buildSlice rfl Tb.sl_22 Tb.zi_25 (by decide) (fill_s2 _ _ _ _ _ _) (by decide) rfl (by decide) (fun bw hbw => ?_)
  refine TL.pure (PV.build rfl Tb.zero_24 Tb.pl_24 (fill_241 _ _ _)) rfl (by decide) ?_
  refine TL.buildSlice rfl Tb.sl_25 Tb.zi_3 (by decide) (fill_i2 _ _) (by decide) rfl (by decide) (fun bk1 hbk1 => ?_)
  refine TL.buildSlice rfl Tb.sl_25 Tb.zi_3 (by decide) (fill_i2 _ _) (by decide) rfl (by decide) (fun bk2 hbk2 => ?_)
  refine TL.buildSlice rfl Tb.sl_22 Tb.zi_25 (by decide) (fill_s2 _ _ _ _ _ _) (by decide) rfl (by decide) (fun bk hbk => ?_)
  refine TL.buildSlice rfl Tb.sl_25 Tb.zi_3 (by decide) (fill_i2 _ _) (by decide) rfl (by decide) (fun bg hbg => ?_)
  refine TL.pure (PV.build rfl Tb.zero_27 Tb.pl_27 (fill_27 _ _ _ _ _ _)) rfl (by decide) ?_
  refine TL.pure (PV.build rfl Tb.zero_29 Tb.pl_29 (fill_29 _ _ _)) rfl (by decide) ?_
  refine TL.storeAgg (vs := [sl2 bw, sl2 bk, sl2 bg, .int .i64 2]) rfl rfl Tb.cells_29 (by repeat (first | exact Upd.head _ | apply Upd.tail | apply Upd.appR)) rfl rfl rfl rfl rfl ?_
  refine TL.nil ?_
  refine TQ.thenC ?_
  refine TC.ret ?_
  refine TQ.retR rfl (Res.agg rfl Tb.agg_29 (by repeat (first | exact List.Mem.head _ | refine List.Mem.tail _ ?_ | refine List.mem_append_right _ ?_)) rfl Res.nil) ?_
  simp only [tup]
  exact ⟨⟨bw1, bw2, bw, bk1, bk2, bk, bg⟩, rfl, trivial, by unfold twD; repeat (first | exact List.Sublist.slnil | exact List.nil_sublist _ | exact List.Sublist.refl _ | refine List.Sublist.cons_cons _ ?_ | refine List.Sublist.cons _ ?_ | refine List.Sublist.trans ?_ (List.sublist_append_right _ _))⟩

set_option maxRecDepth 100000 in
set_option maxHeartbeats 4000000 in
theorem sane_ok (w0 : World) (hW : WAt w0) :
    Calls Tryz.prog 31 #[] w0 (Post (X := Unit) (fun _ => .bool true) (fun _ => True) (fun _ => []) w0) := by
  refine calls Tryz.func31 rfl (n := 67) rfl (by simp) ?_
  refine TC.seq ?_
  refine TC.region ?_
  refine TL.pure (PV.assign rfl) rfl (by decide) ?_
  refine TL.nil ?_
  refine TQ.thenC ?_
  refine TC.seq ?_
  refine TC.region ?_
  refine TL.call rfl Tb.gofn_71 (fun a w hs => two_ok w) rfl (by decide) (fun y _ => ?_)
  refine TL.alloc Tb.zero_29 rfl (by decide) (fun b0 hb0 => ?_)
  refine TL.storeAgg (vs := [sl2 y.w, sl2 y.k, sl2 y.g, .int .i64 2]) rfl rfl Tb.cells_29 (by repeat (first | exact Upd.head _ | apply Upd.tail | apply Upd.appR)) rfl rfl rfl rfl rfl ?_
  refine TL.nil ?_
  refine TQ.thenC ?_
  refine TC.seq ?_
  refine TC.region ?_
  refine TL.pure (PV.fieldAddr rfl Tb.fo_29_0) rfl (by decide) ?_
  refine TL.pure (PV.loadMid (cs := [sl2 y.w, sl2 y.k, sl2 y.g, .int .i64 2]) (off := 0) (k := 1) (vs := [sl2 y.w]) rfl Tb.agg_24 (by repeat (first | exact List.Mem.head _ | refine List.Mem.tail _ ?_ | refine List.mem_append_right _ ?_)) rfl rfl) rfl (by decide) ?_
  refine TL.pure (PV.fieldAddr rfl Tb.fo_29_1) rfl (by decide) ?_
  refine TL.pure (PV.loadMid (cs := [sl2 y.w, sl2 y.k, sl2 y.g, .int .i64 2]) (off := 1) (k := 2) (vs := [sl2 y.k, sl2 y.g]) rfl Tb.agg_27 (by repeat (first | exact List.Mem.head _ | refine List.Mem.tail _ ?_ | refine List.mem_append_right _ ?_)) rfl rfl) rfl (by decide) ?_
  refine TL.pure (PV.fieldAddr rfl Tb.fo_29_2) rfl (by decide) ?_
  refine TL.pure (PV.load (v := .int .i64 2) rfl Tb.one_3 (by repeat (first | exact List.Mem.head _ | refine List.Mem.tail _ ?_ | refine List.mem_append_right _ ?_)) rfl) rfl (by decide) ?_
  refine TL.call rfl Tb.gofn_59 (fun a w hs => New_y w (some ⟨y.w, 0, none⟩) 2 [[1, 2], [3, 4]] (tw_w hs.new (fun x hx => by first | exact List.mem_append_left _ hx | exact .tail _ (List.mem_append_left _ hx) | exact .tail _ (.tail _ (List.mem_append_left _ hx)) | exact .tail _ hx | exact hx)) (some ⟨y.k, 0, none⟩) 2 [[0, 1], [1, 0]] (tw_k hs.new (fun x hx => by first | exact List.mem_append_left _ hx | exact .tail _ (List.mem_append_left _ hx) | exact .tail _ (.tail _ (List.mem_append_left _ hx)) | exact .tail _ hx | exact hx)) sa_kl (some ⟨y.g, 0, none⟩) 2 [1, 1] (tw_g hs.new (fun x hx => by first | exact List.mem_append_left _ hx | exact .tail _ (List.mem_append_left _ hx) | exact .tail _ (.tail _ (List.mem_append_left _ hx)) | exact .tail _ hx | exact hx)) (by decide) 2 sa_new) rfl (by decide) (fun yn hyn => ?_)
  refine TL.pure (PV.move rfl) rfl (by decide) ?_
  refine TL.pure (PV.extract rfl rfl) rfl (by decide) ?_
  refine TL.pure (PV.extract rfl rfl) rfl (by decide) ?_
  refine TL.pure (PV.assign rfl) rfl (by decide) ?_
  refine TL.pure (PV.assign rfl) rfl (by decide) ?_
  refine TL.nil ?_
  refine TQ.thenC ?_
  refine TC.seq ?_
  refine TC.seq ?_
  refine TC.region ?_
  refine TL.pure (PV.move rfl) rfl (by decide) ?_
  refine TL.pure (PV.neq rfl rfl) rfl (by decide) ?_
  refine TL.pure (PV.move rfl) rfl (by decide) ?_
  refine TL.pure (PV.move rfl) rfl (by decide) ?_
  refine TL.pure (PV.eqPtr rfl) rfl (by decide) ?_
  refine TL.pure (PV.pickF rfl rfl) rfl (by decide) ?_
  refine TL.nil ?_
  refine TQ.thenC ?_
  refine TC.condF rfl ?_
  refine TC.skip ?_
  refine TQ.thenC ?_
  refine TC.seq ?_
  refine TC.seq ?_
  refine TC.region ?_
  refine TL.pure (PV.move rfl) rfl (by decide) ?_
  refine TL.callW (X := TV × HD × Heap) (fun _ => .int .i64 8) (fun y9 => goR stR y9.2.1 (doC saS (co0 saS) tW).ords ∧ ∀ w9, New w0 w9 (y9.2.2 ++ yn.2.2.2) → TurAt w9 (doC saS (co0 saS) tW) y9.1) (fun y9 => coB yn.1 saS yn.2.1 0 (doC saS (co0 saS) tW) y9.1 y9.2.1 :: (gbR stR 9 y9.2.1 (doC saS (co0 saS) tW).ords ++ (y9.2.2 ++ (yn.2.2.2 ++ ((b0, Obj.cells #[sl2 y.w, sl2 y.k, sl2 y.g, .int .i64 2] 29 (0, 0)) :: (twD y ++ [])))))) rfl Tb.gofn_18 (fun a w hs => Do_is w0 w (hW) saS sa_sv yn.2.1 (co0 saS) yn.2.2.1 (Inv.zero sa_sv) yn.1 none ⟨rfl, rfl⟩ (yn.2.2.2 ++ ((b0, Obj.cells #[sl2 y.w, sl2 y.k, sl2 y.g, .int .i64 2] 29 (0, 0)) :: (twD y ++ []))) hs.new yn.2.2.2 (List.sublist_append_left _ _) (fun w9 h9 => (hyn w0 w9 h9).1) (fun w9 h9 => (hyn w0 w9 h9).2) tW (by decide) 8 sa_1) rfl (by decide) (fun d1 hd1 => ?_)
  have hZ1 : List.Sublist yn.2.2.2 (yn.2.2.2 ++ ((b0, Obj.cells #[sl2 y.w, sl2 y.k, sl2 y.g, .int .i64 2] 29 (0, 0)) :: (twD y ++ []))) := List.sublist_append_left _ _
  have hY1 : List.Sublist yn.2.2.2 (d1.2.2 ++ yn.2.2.2) := List.sublist_append_right _ _
  refine TL.pure (PV.neq rfl rfl) rfl (by decide) ?_
  refine TL.pure (PV.move rfl) rfl (by decide) ?_
  refine TL.pure (PV.move rfl) rfl (by decide) ?_
  refine TL.callW (X := TV × HD × Heap) (fun _ => .int .i64 0) (fun y9 => goR stR y9.2.1 (doC saS sa1 tC0).ords ∧ ∀ w9, New w0 w9 (y9.2.2 ++ (d1.2.2 ++ yn.2.2.2)) → TurAt w9 (doC saS sa1 tC0) y9.1) (fun y9 => coB yn.1 saS yn.2.1 0 (doC saS sa1 tC0) y9.1 y9.2.1 :: (gbR stR 9 y9.2.1 (doC saS sa1 tC0).ords ++ (y9.2.2 ++ (d1.2.2 ++ (yn.2.2.2 ++ ((b0, Obj.cells #[sl2 y.w, sl2 y.k, sl2 y.g, .int .i64 2] 29 (0, 0)) :: (twD y ++ []))))))) rfl Tb.gofn_18 (fun a w hs => Do_is w0 w (hW) saS sa_sv yn.2.1 sa1 d1.1 in_1 yn.1 d1.2.1 hd1.1 (d1.2.2 ++ (yn.2.2.2 ++ ((b0, Obj.cells #[sl2 y.w, sl2 y.k, sl2 y.g, .int .i64 2] 29 (0, 0)) :: (twD y ++ [])))) hs.new (d1.2.2 ++ yn.2.2.2) (List.Sublist.append_left (hZ1) _) (fun w9 h9 => (hyn w0 w9 (h9.sub (hY1))).1) hd1.2 tC0 (by decide) 0 kn_2.1) rfl (by decide) (fun d2 hd2 => ?_)
  have hZ2 : List.Sublist (d1.2.2 ++ yn.2.2.2) (d1.2.2 ++ (yn.2.2.2 ++ ((b0, Obj.cells #[sl2 y.w, sl2 y.k, sl2 y.g, .int .i64 2] 29 (0, 0)) :: (twD y ++ [])))) := List.Sublist.append_left hZ1 _
  have hY2 : List.Sublist yn.2.2.2 (d2.2.2 ++ (d1.2.2 ++ yn.2.2.2)) := hY1.trans (List.sublist_append_right _ _)
  refine TL.pure (PV.neq rfl rfl) rfl (by decide) ?_
  refine TL.pure (PV.pickF rfl rfl) rfl (by decide) ?_
  refine TL.pure (PV.move rfl) rfl (by decide) ?_
  refine TL.pure (PV.move rfl) rfl (by decide) ?_
  refine TL.callW (X := TV × HD × Heap) (fun _ => .int .i64 6) (fun y9 => goR stR y9.2.1 (doC saS sa2 tC0).ords ∧ ∀ w9, New w0 w9 (y9.2.2 ++ (d2.2.2 ++ (d1.2.2 ++ yn.2.2.2))) → TurAt w9 (doC saS sa2 tC0) y9.1) (fun y9 => coB yn.1 saS yn.2.1 0 (doC saS sa2 tC0) y9.1 y9.2.1 :: (gbR stR 9 y9.2.1 (doC saS sa2 tC0).ords ++ (y9.2.2 ++ (d2.2.2 ++ (d1.2.2 ++ (yn.2.2.2 ++ ((b0, Obj.cells #[sl2 y.w, sl2 y.k, sl2 y.g, .int .i64 2] 29 (0, 0)) :: (twD y ++ [])))))))) rfl Tb.gofn_18 (fun a w hs => Do_is w0 w (hW) saS sa_sv yn.2.1 sa2 d2.1 in_2 yn.1 d2.2.1 hd2.1 (d2.2.2 ++ (d1.2.2 ++ (yn.2.2.2 ++ ((b0, Obj.cells #[sl2 y.w, sl2 y.k, sl2 y.g, .int .i64 2] 29 (0, 0)) :: (twD y ++ []))))) hs.new (d2.2.2 ++ (d1.2.2 ++ yn.2.2.2)) (List.Sublist.append_left (hZ2) _) (fun w9 h9 => (hyn w0 w9 (h9.sub (hY2))).1) hd2.2 tC0 (by decide) 6 sa_3) rfl (by decide) (fun d3 hd3 => ?_)
  have hZ3 : List.Sublist (d2.2.2 ++ (d1.2.2 ++ yn.2.2.2)) (d2.2.2 ++ (d1.2.2 ++ (yn.2.2.2 ++ ((b0, Obj.cells #[sl2 y.w, sl2 y.k, sl2 y.g, .int .i64 2] 29 (0, 0)) :: (twD y ++ []))))) := List.Sublist.append_left hZ2 _
  have hY3 : List.Sublist yn.2.2.2 (d3.2.2 ++ (d2.2.2 ++ (d1.2.2 ++ yn.2.2.2))) := hY2.trans (List.sublist_append_right _ _)
  refine TL.pure (PV.neq rfl rfl) rfl (by decide) ?_
  refine TL.pure (PV.pickF rfl rfl) rfl (by decide) ?_
  refine TL.pure (PV.move rfl) rfl (by decide) ?_
  refine TL.pure (PV.move rfl) rfl (by decide) ?_
  refine TL.callW (X := TV × HD × Heap) (fun _ => .int .i64 0) (fun y9 => goR stR y9.2.1 (doC saS sa3 tC1).ords ∧ ∀ w9, New w0 w9 (y9.2.2 ++ (d3.2.2 ++ (d2.2.2 ++ (d1.2.2 ++ yn.2.2.2)))) → TurAt w9 (doC saS sa3 tC1) y9.1) (fun y9 => coB yn.1 saS yn.2.1 0 (doC saS sa3 tC1) y9.1 y9.2.1 :: (gbR stR 9 y9.2.1 (doC saS sa3 tC1).ords ++ (y9.2.2 ++ (d3.2.2 ++ (d2.2.2 ++ (d1.2.2 ++ (yn.2.2.2 ++ ((b0, Obj.cells #[sl2 y.w, sl2 y.k, sl2 y.g, .int .i64 2] 29 (0, 0)) :: (twD y ++ []))))))))) rfl Tb.gofn_18 (fun a w hs => Do_is w0 w (hW) saS sa_sv yn.2.1 sa3 d3.1 in_3 yn.1 d3.2.1 hd3.1 (d3.2.2 ++ (d2.2.2 ++ (d1.2.2 ++ (yn.2.2.2 ++ ((b0, Obj.cells #[sl2 y.w, sl2 y.k, sl2 y.g, .int .i64 2] 29 (0, 0)) :: (twD y ++ [])))))) hs.new (d3.2.2 ++ (d2.2.2 ++ (d1.2.2 ++ yn.2.2.2))) (List.Sublist.append_left (hZ3) _) (fun w9 h9 => (hyn w0 w9 (h9.sub (hY3))).1) hd3.2 tC1 (by decide) 0 kn_4.1) rfl (by decide) (fun d4 hd4 => ?_)
  have hZ4 : List.Sublist (d3.2.2 ++ (d2.2.2 ++ (d1.2.2 ++ yn.2.2.2))) (d3.2.2 ++ (d2.2.2 ++ (d1.2.2 ++ (yn.2.2.2 ++ ((b0, Obj.cells #[sl2 y.w, sl2 y.k, sl2 y.g, .int .i64 2] 29 (0, 0)) :: (twD y ++ [])))))) := List.Sublist.append_left hZ3 _
  have hY4 : List.Sublist yn.2.2.2 (d4.2.2 ++ (d3.2.2 ++ (d2.2.2 ++ (d1.2.2 ++ yn.2.2.2)))) := hY3.trans (List.sublist_append_right _ _)
  refine TL.pure (PV.neq rfl rfl) rfl (by decide) ?_
  refine TL.pure (PV.pickF rfl rfl) rfl (by decide) ?_
  refine TL.pure (PV.move rfl) rfl (by decide) ?_
  refine TL.pure (PV.move rfl) rfl (by decide) ?_
  refine TL.callW (X := TV × HD × Heap) (fun _ => .int .i64 0) (fun y9 => goR stR y9.2.1 (doC saS sa4 tC0).ords ∧ ∀ w9, New w0 w9 (y9.2.2 ++ (d4.2.2 ++ (d3.2.2 ++ (d2.2.2 ++ (d1.2.2 ++ yn.2.2.2))))) → TurAt w9 (doC saS sa4 tC0) y9.1) (fun y9 => coB yn.1 saS yn.2.1 0 (doC saS sa4 tC0) y9.1 y9.2.1 :: (gbR stR 9 y9.2.1 (doC saS sa4 tC0).ords ++ (y9.2.2 ++ (d4.2.2 ++ (d3.2.2 ++ (d2.2.2 ++ (d1.2.2 ++ (yn.2.2.2 ++ ((b0, Obj.cells #[sl2 y.w, sl2 y.k, sl2 y.g, .int .i64 2] 29 (0, 0)) :: (twD y ++ [])))))))))) rfl Tb.gofn_18 (fun a w hs => Do_is w0 w (hW) saS sa_sv yn.2.1 sa4 d4.1 in_4 yn.1 d4.2.1 hd4.1 (d4.2.2 ++ (d3.2.2 ++ (d2.2.2 ++ (d1.2.2 ++ (yn.2.2.2 ++ ((b0, Obj.cells #[sl2 y.w, sl2 y.k, sl2 y.g, .int .i64 2] 29 (0, 0)) :: (twD y ++ []))))))) hs.new (d4.2.2 ++ (d3.2.2 ++ (d2.2.2 ++ (d1.2.2 ++ yn.2.2.2)))) (List.Sublist.append_left (hZ4) _) (fun w9 h9 => (hyn w0 w9 (h9.sub (hY4))).1) hd4.2 tC0 (by decide) 0 kn_5.1) rfl (by decide) (fun d5 hd5 => ?_)
  have hZ5 : List.Sublist (d4.2.2 ++ (d3.2.2 ++ (d2.2.2 ++ (d1.2.2 ++ yn.2.2.2)))) (d4.2.2 ++ (d3.2.2 ++ (d2.2.2 ++ (d1.2.2 ++ (yn.2.2.2 ++ ((b0, Obj.cells #[sl2 y.w, sl2 y.k, sl2 y.g, .int .i64 2] 29 (0, 0)) :: (twD y ++ []))))))) := List.Sublist.append_left hZ4 _
  have hY5 : List.Sublist yn.2.2.2 (d5.2.2 ++ (d4.2.2 ++ (d3.2.2 ++ (d2.2.2 ++ (d1.2.2 ++ yn.2.2.2))))) := hY4.trans (List.sublist_append_right _ _)
  refine TL.pure (PV.neq rfl rfl) rfl (by decide) ?_
  refine TL.pure (PV.pickF rfl rfl) rfl (by decide) ?_
  refine TL.nil ?_
  refine TQ.thenC ?_
  refine TC.condF rfl ?_
  refine TC.skip ?_
  refine TQ.thenC ?_
  refine TC.seq ?_
  refine TC.region ?_
  refine TL.buildSlice (cs := #[str [100, 97, 121]]) rfl Tb.sl_43 Tb.zi_9 (by decide) (fill_s [100, 97, 121]) (by decide) rfl (by decide) (fun bI hbI => ?_)
  refine TL.call rfl Tb.gofn_48 (fun a w hs => Write_day w (hW.new hs.new) (some ⟨bI, 0, none⟩) 1 (strs_one hs.new (by repeat (first | exact List.Mem.head _ | refine List.Mem.tail _ ?_ | refine List.mem_append_right _ ?_)))) rfl (by decide) (fun _ _ => ?_)
  refine TL.pure (PV.move rfl) rfl (by decide) ?_
  refine TL.pure (PV.extract rfl rfl) rfl (by decide) ?_
  refine TL.pure (PV.extract rfl rfl) rfl (by decide) ?_
  refine TL.pure (PV.assign rfl) rfl (by decide) ?_
  refine TL.pure (PV.assign rfl) rfl (by decide) ?_
  refine TL.nil ?_
  refine TQ.thenC ?_
  refine TC.seq ?_
  refine TC.sub (G' := coB yn.1 saS yn.2.1 0 sa5 d5.1 d5.2.1 :: (gbR stR 9 d5.2.1 sa5.ords ++ (d5.2.2 ++ (d4.2.2 ++ (d3.2.2 ++ (d2.2.2 ++ (d1.2.2 ++ (yn.2.2.2 ++ ((b0, Obj.cells #[sl2 y.w, sl2 y.k, sl2 y.g, .int .i64 2] 29 (0, 0)) :: (twD y ++ [])))))))))) (List.Sublist.cons _ (List.Sublist.refl _)) ?_
  refine TC.region ?_
  refine TL.pure (PV.move rfl) rfl (by decide) ?_
  refine TL.callW (X := Unit) (fun _ => .int .i64 6) (fun _ => True) (fun _ => coB yn.1 saS yn.2.1 0 sa5 d5.1 d5.2.1 :: (gbR stR 9 d5.2.1 sa5.ords ++ (d5.2.2 ++ (d4.2.2 ++ (d3.2.2 ++ (d2.2.2 ++ (d1.2.2 ++ (yn.2.2.2 ++ ((b0, Obj.cells #[sl2 y.w, sl2 y.k, sl2 y.g, .int .i64 2] 29 (0, 0)) :: (twD y ++ [])))))))))) rfl Tb.gofn_21 (fun a w hs => (Money_ok w0 w saS sa_sv yn.2.1 sa5 d5.1 yn.1 d5.2.1 (gbR stR 9 d5.2.1 sa5.ords ++ (d5.2.2 ++ (d4.2.2 ++ (d3.2.2 ++ (d2.2.2 ++ (d1.2.2 ++ (yn.2.2.2 ++ ((b0, Obj.cells #[sl2 y.w, sl2 y.k, sl2 y.g, .int .i64 2] 29 (0, 0)) :: (twD y ++ []))))))))) hs.new).mono fun _ _ ⟨y9, e1, e2, e3⟩ => ⟨y9, by rw [e1]; exact congrArg (fun m => Ending.returned (Value.int .i64 m)) kn_5.2.mn, e2, e3⟩) rfl (by decide) (fun _ _ => ?_)
  refine TL.pure (PV.eql rfl rfl) rfl (by decide) ?_
  refine TL.pure (PV.move rfl) rfl (by decide) ?_
  refine TL.pure (PV.move rfl) rfl (by decide) ?_
  refine TL.callW (X := Unit) (fun _ => .int .i64 3) (fun _ => True) (fun _ => coB yn.1 saS yn.2.1 0 sa5 d5.1 d5.2.1 :: (gbR stR 9 d5.2.1 sa5.ords ++ (d5.2.2 ++ (d4.2.2 ++ (d3.2.2 ++ (d2.2.2 ++ (d1.2.2 ++ (yn.2.2.2 ++ ((b0, Obj.cells #[sl2 y.w, sl2 y.k, sl2 y.g, .int .i64 2] 29 (0, 0)) :: (twD y ++ [])))))))))) rfl Tb.gofn_22 (fun a w hs => (Cut_ok w0 w saS sa_sv yn.2.1 sa5 d5.1 yn.1 d5.2.1 (gbR stR 9 d5.2.1 sa5.ords ++ (d5.2.2 ++ (d4.2.2 ++ (d3.2.2 ++ (d2.2.2 ++ (d1.2.2 ++ (yn.2.2.2 ++ ((b0, Obj.cells #[sl2 y.w, sl2 y.k, sl2 y.g, .int .i64 2] 29 (0, 0)) :: (twD y ++ []))))))))) hs.new).mono fun _ _ ⟨y9, e1, e2, e3⟩ => ⟨y9, by rw [e1]; exact congrArg (fun m => Ending.returned (Value.int .i64 m)) kn_5.2.ct, e2, e3⟩) rfl (by decide) (fun _ _ => ?_)
  refine TL.pure (PV.eql rfl rfl) rfl (by decide) ?_
  refine TL.pure (PV.pickT rfl rfl) rfl (by decide) ?_
  refine TL.pure (PV.move rfl) rfl (by decide) ?_
  refine TL.pure (PV.move rfl) rfl (by decide) ?_
  refine TL.pure (PV.eql rfl rfl) rfl (by decide) ?_
  refine TL.pure (PV.pickT rfl rfl) rfl (by decide) ?_
  refine TL.pure (PV.move rfl) rfl (by decide) ?_
  refine TL.pure (PV.move rfl) rfl (by decide) ?_
  refine TL.pure (PV.eqS rfl rfl) rfl (by decide) ?_
  refine TL.pure (PV.pickT rfl rfl) rfl (by decide) ?_
  refine TL.pure (PV.assign rfl) rfl (by decide) ?_
  refine TL.nil ?_
  refine TQ.thenC ?_
  refine TC.ret ?_
  refine TQ.retE1 rfl rfl ?_
  exact ⟨(), rfl, trivial, List.nil_sublist _⟩

end Go.Proofs.YtbnjmkidbfmomaaGreatDoor

/- The laws of reading, writing and merging: contracts. -/
namespace Go.Proofs.YtbnjmkidbfmomaaGreatDoor
open Go.Sx Go.RowKit Go.Bt Go.Lib Go.Sand

section
variable {P : Program} {n : Nat} {w0 : World} {E : Env} {G : Heap} {d : Option Nat} {ty : TypeId} {pos : String} {aft : Array Edge} {g : Option (Nat × Bool)} {o : Oper}
theorem PV.to {v v' : Value} (h : PV P n w0 E G o v) (e : v = v') : PV P n w0 E G o v' := e ▸ h
theorem PV.yes {p : Prop} [Decidable p] (h : PV P n w0 E G o (.bool (decide p))) (e : p) : PV P n w0 E G o (.bool true) := PV.to h (congrArg Value.bool (decide_eq_true e))
theorem PV.no {p : Prop} [Decidable p] (h : PV P n w0 E G o (.bool (decide p))) (e : ¬ p) : PV P n w0 E G o (.bool false) := PV.to h (congrArg Value.bool (decide_eq_false e))
theorem PV.remU {x y : Operand} {i j : Int} {t t' : TypeId} (hx : evo E x = some (.int .u64 i)) (hy : evo E y = some (.int .u64 j)) (hj : j ≠ 0) (h : 0 ≤ i.tmod j ∧ i.tmod j < 18446744073709551616) : PV P n w0 E G ⟨d, .binOp .rem t x y t', ty, pos, aft, g⟩ (.int .u64 (i.tmod j)) :=
  fun a w hs => by
    have hw : IntKind.u64.wrap (i.tmod j) = i.tmod j := by rw [IntKind.wrap_u64]; omega
    simp only [execOp, hs.ev hx, hs.ev hy]; simp [go_sem, Op.intDiv, hw, hj]
theorem sl_id (a : Option Addr) (h : Nat) : sliced a 0 h h 1 = .slice a h h := by
  unfold sliced
  cases a with
  | none => simp
  | some a => cases a; simp [Addr.add]
theorem run_sl43 (a : Option Addr) (len cap h : Nat) (hc : h ≤ cap) (w : World) : (Instr.sliceAt 43 (.slice a len cap) none (some (.int .i64 (h : Int))) (some (.int .i64 (h : Int)))).run Tryz.prog w = .ok (.slice a h h) w := by
  have ht : Tryz.prog.underlying 43 = some (.slice (Tryz.prog.elem 43)) := by kernel_rfl
  have hs : ∀ w, ((sizeOf (Tryz.prog.elem 43)).run Tryz.prog w) = .ok 1 w := fun w => by kernel_rfl
  rw [run_sliceAt_slice (h := ht), run_slice_hm w 43 a len cap ht .i64 .i64 h h (by omega) (by omega) (by omega), hs]
  simp only [Result.andThen, Int.toNat_natCast]
  rw [sl_id]
theorem PV.slice43 {x y z : Operand} {a : Option Addr} {len cap h : Nat} {i j : Int} (hx : evo E x = some (.slice a len cap)) (hy : evo E y = some (.int .i64 i)) (hz : evo E z = some (.int .i64 j)) (hi : i = (h : Int)) (hj : j = (h : Int)) (hc : h ≤ cap) :
    PV Tryz.prog n w0 E G ⟨d, .slice 43 x none (some y) (some z), ty, pos, aft, g⟩ (.slice a h h) := fun A w hs => by
  subst hi; subst hj
  simp only [execOp, hs.ev hx, Option.map_some, Option.map_none, hs.ev hy, hs.ev hz]
  simp [run_sl43 a len cap h hc]
end
theorem sameT_is (w0 : World) (p1 : Option Addr) (c1 : Nat) (xs : List (List UInt8)) (hx : StrsAt w0 p1 xs) (p2 : Option Addr) (c2 : Nat) (ys : List (List UInt8)) (hy : StrsAt w0 p2 ys) (hl : xs.length ≤ 1000000) (e : xs = ys) :
    Calls Tryz.prog 45 #[.slice p1 xs.length c1, .slice p2 ys.length c2] w0 (Post (X := Unit) (fun _ => .bool true) (fun _ => True) (fun _ => []) w0) := by
  have h := sameT_ok w0 p1 c1 xs hx p2 c2 ys hy hl (by rw [← e]; exact hl)
  rw [decide_eq_true e] at h
  exact h
theorem sameT_is2 (w0 : World) (p1 : Option Addr) (c1 : Nat) (xs : List (List UInt8)) (hx : StrsAt w0 p1 xs) (p2 : Option Addr) (c2 : Nat) (hy : StrsAt w0 p2 xs) (j : Nat) (hj : xs.length = j) (hl : j ≤ 1000000) :
    Calls Tryz.prog 45 #[.slice p1 j c1, .slice p2 j c2] w0 (Post (X := Unit) (fun _ => .bool true) (fun _ => True) (fun _ => []) w0) := by
  subst hj
  exact sameT_is w0 p1 c1 xs hx p2 c2 xs hy hl rfl
theorem bk_len : ∀ (L : List (List UInt8)) (sum : Int), L.all rightS = true → (bkN sum L).length ≤ 50 * L.length
  | [], _, _ => Nat.zero_le _
  | s :: L, sum, h => by
    rw [List.all_cons, Bool.and_eq_true] at h
    have ih := bk_len L (smV sum s) h.2
    have h1 := right_of h.1
    have h2 := dI_len (smV_bd sum s).1 (smV_bd sum s).2
    show (pageL dI (smV sum s) s ++ bkN (smV sum s) L).length ≤ _
    unfold pageL
    simp only [List.length_append, List.length_cons, List.length_nil]
    omega
theorem wr_yes {L : List (List UInt8)} (h : wrI L = 0) : L.length ≤ 100 ∧ L.all rightS = true ∧ wrL dI L = bkN 0 L := by
  have h1 : ¬ 100 < L.length := fun h9 => by rw [wr_100 h9] at h; cases h
  have h2 : L.all rightS = true := by
    unfold wrI at h
    rw [if_neg h1] at h
    by_cases h9 : L.all rightS = true
    · exact h9
    · rw [if_neg h9] at h; cases h
  refine ⟨by omega, h2, ?_⟩
  unfold wrL
  rw [if_pos h, book_bk]
theorem wr_read {L : List (List UInt8)} (h : wrI L = 0) : readL (wrL dI L) = (L, []) := by
  obtain ⟨h1, h2, h3⟩ := wr_yes h
  rw [h3]; exact rd_book L 100 0 h1 h2
theorem wr_len {L : List (List UInt8)} (h : wrI L = 0) : (wrL dI L).length ≤ 5000 := by
  obtain ⟨h1, h2, h3⟩ := wr_yes h
  have := bk_len L 0 h2
  rw [h3]; omega
theorem wr_part {L : List (List UInt8)} (h : wrI L = 0) (k : Nat) : ∃ j, j ≤ L.length ∧ (readL ((wrL dI L).take k)).1 = L.take j ∧ ((readL ((wrL dI L).take k)).2 = [] ∨ j < L.length) := by
  obtain ⟨h1, h2, h3⟩ := wr_yes h
  rw [h3]; exact rd_take L 100 k 0 h1 h2
theorem long_no {L : List (List UInt8)} (h : ¬ longB L = true) : L.length ≤ 300 ∧ ∀ j, (L.getD j []).length ≤ 400 := by
  unfold longB at h
  rw [Bool.not_eq_true, Bool.or_eq_false_iff] at h
  have h2 := of_decide_eq_false h.2
  refine ⟨by omega, fun j => ?_⟩
  by_cases hj : j < L.length
  · have h3 := List.any_eq_false.1 h.1 L[j] (List.getElem_mem hj)
    have e : L.getD j [] = L[j] := by simp [List.getD, hj]
    rw [e]; simpa using h3
  · have e : L.getD j [] = [] := by rw [List.getD_eq_getElem?_getD, List.getElem?_eq_none (by omega)]; rfl
    rw [e]; exact Nat.zero_le _
theorem StrsAt.take {w : World} {p : Option Addr} {L : List (List UInt8)} (h : StrsAt w p L) (j : Nat) : StrsAt w p (L.take j) := fun k hk => by
  rw [List.length_take] at hk
  obtain ⟨q, h1, h2⟩ := h k (by omega)
  refine ⟨q, h1, ?_⟩
  rw [show (L.take j).getD k [] = L.getD k [] by simp [List.getD, List.getElem?_take, show k < j by omega]]
  exact h2
theorem read_book (w0 : World) (hW : WAt w0) (L : List (List UInt8)) (h : wrI L = 0) :
    Calls Tryz.prog 43 #[str (wrL dI L)] w0 (Post (X := HD) (fun h => .tuple #[.slice (gp h) L.length (gc h), str []]) (fun h => goR stR h L) (fun h => gbR stR 9 h L) w0) := by
  have h9 := Read_ok w0 hW (wrL dI L) (by have := wr_len h; omega)
  rw [wr_read h] at h9
  exact h9
theorem read_part (w0 : World) (hW : WAt w0) (L : List (List UInt8)) (h : wrI L = 0) (k j : Nat) (hj : j ≤ L.length) (e : (readL ((wrL dI L).take k)).1 = L.take j) :
    Calls Tryz.prog 43 #[str ((wrL dI L).take k)] w0 (Post (X := HD) (fun h => .tuple #[.slice (gp h) j (gc h), str (readL ((wrL dI L).take k)).2]) (fun h => goR stR h (L.take j)) (fun h => gbR stR 9 h (L.take j)) w0) := by
  have h9 := Read_ok w0 hW ((wrL dI L).take k) (by have := wr_len h; rw [List.length_take]; omega)
  rw [e, show (L.take j).length = j by rw [List.length_take]; omega] at h9
  exact h9
theorem pick_k (n : Int) (m : Nat) : ∃ k : Nat, k ≤ m ∧ (IntKind.u64.wrap n).tmod ((m : Int) + 1) = (k : Int) := by
  have h0 : 0 ≤ IntKind.u64.wrap n := by rw [IntKind.wrap_u64]; omega
  have h1 := Int.emod_nonneg (IntKind.u64.wrap n) (show ((m : Int) + 1) ≠ 0 by omega)
  have h2 := Int.emod_lt_of_pos (IntKind.u64.wrap n) (show 0 < ((m : Int) + 1) by omega)
  refine ⟨((IntKind.u64.wrap n) % ((m : Int) + 1)).toNat, by omega, ?_⟩
  rw [Int.tmod_eq_emod_of_nonneg h0]
  omega

set_option maxRecDepth 100000 in
set_option maxHeartbeats 1000000 in
theorem BogWrites_ok (w0 : World) (hW : WAt w0) (p : Option Addr) (c : Nat) (L : List (List UInt8)) (hL : StrsAt w0 p L) (h63 : L.length ≤ 9223372036854775807) (hc : L.length ≤ c) (n : Int) (hn : -9223372036854775808 ≤ n ∧ n ≤ 9223372036854775807) :
    Calls Tryz.prog 9 #[.slice p L.length c, .int .i64 n] w0 (Post (X := Unit) (fun _ => .bool true) (fun _ => True) (fun _ => []) w0) := by
  refine calls Tryz.func9 rfl (n := 94) rfl (by simp) ?_
  refine TC.seq ?_
  refine TC.region ?_
  refine TL.pure (PV.assign rfl) rfl (by decide) ?_
  refine TL.nil ?_
  refine TQ.thenC ?_
  refine TC.seq ?_
  refine TC.seq ?_
  refine TC.region ?_
  refine TL.pure (PV.move rfl) rfl (by decide) ?_
  refine TL.call rfl Tb.gofn_35 (fun a w hs => Long_ok w p c L (hL.new hs.new) h63) rfl (by decide) (fun _ _ => ?_)
  refine TL.nil ?_
  refine TQ.thenC ?_
  first | refine TC.condD rfl (fun hlo => ?_) (fun hlo => ?_) | refine TC.cond rfl (fun hlo => ?_) (fun hlo => ?_)
  · refine TC.seq ?_
    refine TC.region ?_
    refine TL.call rfl Tb.gofn_31 (fun a w hs => sane_ok w (hW.new hs.new)) rfl (by decide) (fun _ _ => ?_)
    refine TL.pure (PV.assign rfl) rfl (by decide) ?_
    refine TL.nil ?_
    refine TQ.thenC ?_
    refine TC.ret ?_
    refine TQ.thenR ?_
    refine TQ.retE1 rfl rfl ?_
    exact ⟨(), rfl, trivial, List.nil_sublist _⟩
  · have h3 := (long_no (by first | exact hlo | (rw [Bool.not_eq_true]; exact hlo))).1
    have h4 := (long_no (by first | exact hlo | (rw [Bool.not_eq_true]; exact hlo))).2
    refine TC.skip ?_
    refine TQ.thenC ?_
    refine TC.seq ?_
    refine TC.region ?_
    refine TL.pure (PV.move rfl) rfl (by decide) ?_
    refine TL.call rfl Tb.gofn_48 (fun a w hs => Write_ok w (hW.new hs.new) p c L (hL.new hs.new) h3 h4) rfl (by decide) (fun _ _ => ?_)
    refine TL.pure (PV.move rfl) rfl (by decide) ?_
    refine TL.pure (PV.extract rfl rfl) rfl (by decide) ?_
    refine TL.pure (PV.extract rfl rfl) rfl (by decide) ?_
    refine TL.pure (PV.assign rfl) rfl (by decide) ?_
    refine TL.pure (PV.assign rfl) rfl (by decide) ?_
    refine TL.nil ?_
    refine TQ.thenC ?_
    refine TC.seq ?_
    refine TC.region ?_
    refine TL.pure (PV.move rfl) rfl (by decide) ?_
    refine TL.call rfl Tb.gofn_49 (fun a w hs => rWrite_ok w (hW.new hs.new) p c L (hL.new hs.new) h3 h4) rfl (by decide) (fun _ _ => ?_)
    refine TL.pure (PV.move rfl) rfl (by decide) ?_
    refine TL.pure (PV.extract rfl rfl) rfl (by decide) ?_
    refine TL.pure (PV.extract rfl rfl) rfl (by decide) ?_
    refine TL.pure (PV.assign rfl) rfl (by decide) ?_
    refine TL.pure (PV.assign rfl) rfl (by decide) ?_
    refine TL.nil ?_
    refine TQ.thenC ?_
    refine TC.seq ?_
    refine TC.seq ?_
    refine TC.region ?_
    refine TL.pure (PV.move rfl) rfl (by decide) ?_
    refine TL.pure (PV.move rfl) rfl (by decide) ?_
    refine TL.pure (PV.no (PV.neqS rfl rfl) (fun h9 => h9 rfl)) rfl (by decide) ?_
    refine TL.pure (PV.move rfl) rfl (by decide) ?_
    refine TL.pure (PV.move rfl) rfl (by decide) ?_
    refine TL.pure (PV.move rfl) rfl (by decide) ?_
    refine TL.pure (PV.no (PV.neq rfl rfl) (fun h9 => h9 rfl)) rfl (by decide) ?_
    refine TL.pure (PV.pickF rfl rfl) rfl (by decide) ?_
    refine TL.nil ?_
    refine TQ.thenC ?_
    refine TC.condF rfl ?_
    refine TC.skip ?_
    refine TQ.thenC ?_
    refine TC.seq ?_
    refine TC.seq ?_
    refine TC.region ?_
    refine TL.pure (PV.move rfl) rfl (by decide) ?_
    refine TL.pure (PV.neq rfl rfl) rfl (by decide) ?_
    refine TL.nil ?_
    refine TQ.thenC ?_
    first | refine TC.condD rfl (fun hne => ?_) (fun hne => ?_) | refine TC.cond rfl (fun hne => ?_) (fun hne => ?_)
    · refine TC.seq ?_
      refine TC.region ?_
      refine TL.call rfl Tb.gofn_31 (fun a w hs => sane_ok w (hW.new hs.new)) rfl (by decide) (fun _ _ => ?_)
      refine TL.pure (PV.assign rfl) rfl (by decide) ?_
      refine TL.nil ?_
      refine TQ.thenC ?_
      refine TC.ret ?_
      refine TQ.thenR ?_
      refine TQ.retE1 rfl rfl ?_
      exact ⟨(), rfl, trivial, List.nil_sublist _⟩
    · have hw0 : wrI L = 0 := Decidable.not_not.1 hne
      have hwl := wr_len hw0
      refine TC.skip ?_
      refine TQ.thenC ?_
      refine TC.seq ?_
      refine TC.region ?_
      refine TL.pure (PV.move rfl) rfl (by decide) ?_
      refine TL.call rfl Tb.gofn_43 (fun a w hs => read_book w (hW.new hs.new) L hw0) rfl (by decide) (fun h1 hh1 => ?_)
      refine TL.pure (PV.move rfl) rfl (by decide) ?_
      refine TL.pure (PV.extract rfl rfl) rfl (by decide) ?_
      refine TL.pure (PV.extract rfl rfl) rfl (by decide) ?_
      refine TL.pure (PV.assign rfl) rfl (by decide) ?_
      refine TL.pure (PV.assign rfl) rfl (by decide) ?_
      refine TL.nil ?_
      refine TQ.thenC ?_
      refine TC.seq ?_
      refine TC.seq ?_
      refine TC.region ?_
      refine TL.pure (PV.move rfl) rfl (by decide) ?_
      refine TL.pure (PV.no (PV.neqS (M := []) rfl rfl) (fun h9 => h9 rfl)) rfl (by decide) ?_
      refine TL.pure (PV.move rfl) rfl (by decide) ?_
      refine TL.pure (PV.move rfl) rfl (by decide) ?_
      refine TL.pure (PV.move rfl) rfl (by decide) ?_
      refine TL.call rfl Tb.gofn_45 (fun a w hs => sameT_is w _ _ L (ords_at hs.new (by intro y9 hy9; repeat (first | exact hy9 | exact List.mem_append_left _ hy9 | refine List.mem_append_right _ ?_ | refine List.Mem.tail _ ?_)) hh1) p c L (hL.new hs.new) (by omega) rfl) rfl (by decide) (fun _ _ => ?_)
      refine TL.pure (PV.not rfl) rfl (by decide) ?_
      refine TL.pure (PV.pickF rfl rfl) rfl (by decide) ?_
      refine TL.nil ?_
      refine TQ.thenC ?_
      refine TC.condF rfl ?_
      refine TC.skip ?_
      refine TQ.thenC ?_
      refine TC.seq ?_
      obtain ⟨k, hk, hke⟩ := pick_k n (wrL dI L).length
      refine TC.region ?_
      refine TL.pure (PV.move rfl) rfl (by decide) ?_
      refine TL.pure (PV.conv Tb.int_3 Tb.int_55 rfl rfl) rfl (by decide) ?_
      refine TL.pure (PV.move rfl) rfl (by decide) ?_
      refine TL.pure (PV.lenS rfl Tb.str_9) rfl (by decide) ?_
      refine TL.pure (PV.add rfl rfl (by omega)) rfl (by decide) ?_
      refine TL.pure (PV.conv (v := ((wrL dI L).length : Int) + 1) Tb.int_3 Tb.int_55 rfl (by rw [IntKind.wrap_u64]; omega)) rfl (by decide) ?_
      refine TL.pure (PV.to (PV.remU rfl rfl (by omega) (by rw [hke]; omega)) (by rw [hke])) rfl (by decide) ?_
      refine TL.pure (PV.conv (v := (k : Int)) Tb.int_55 Tb.int_3 rfl (by rw [IntKind.wrap_i64]; omega)) rfl (by decide) ?_
      refine TL.pure (PV.assign rfl) rfl (by decide) ?_
      refine TL.nil ?_
      refine TQ.thenC ?_
      refine TC.seq ?_
      obtain ⟨j, hj, hj1, hj2⟩ := wr_part hw0 k
      refine TC.region ?_
      refine TL.pure (PV.move rfl) rfl (by decide) ?_
      refine TL.pure (PV.move rfl) rfl (by decide) ?_
      refine TL.pure (PV.slSt (h := k) rfl rfl Tb.str_9 rfl hk) rfl (by decide) ?_
      refine TL.call rfl Tb.gofn_43 (fun a w hs => read_part w (hW.new hs.new) L hw0 k j hj hj1) rfl (by decide) (fun h2 hh2 => ?_)
      refine TL.pure (PV.move rfl) rfl (by decide) ?_
      refine TL.pure (PV.extract rfl rfl) rfl (by decide) ?_
      refine TL.pure (PV.extract rfl rfl) rfl (by decide) ?_
      refine TL.pure (PV.assign rfl) rfl (by decide) ?_
      refine TL.pure (PV.assign rfl) rfl (by decide) ?_
      refine TL.nil ?_
      refine TQ.thenC ?_
      refine TC.seq ?_
      refine TC.region ?_
      refine TL.pure (PV.move rfl) rfl (by decide) ?_
      refine TL.pure (PV.len rfl Tb.sl_43) rfl (by decide) ?_
      refine TL.pure (PV.move rfl) rfl (by decide) ?_
      refine TL.pure (PV.len rfl Tb.sl_43) rfl (by decide) ?_
      refine TL.pure (PV.yes (PV.leq rfl rfl) (by omega)) rfl (by decide) ?_
      refine TL.pure (PV.move rfl) rfl (by decide) ?_
      refine TL.pure (PV.move rfl) rfl (by decide) ?_
      refine TL.pure (PV.move rfl) rfl (by decide) ?_
      refine TL.pure (PV.move rfl) rfl (by decide) ?_
      refine TL.pure (PV.len rfl Tb.sl_43) rfl (by decide) ?_
      refine TL.pure (PV.move rfl) rfl (by decide) ?_
      refine TL.pure (PV.len rfl Tb.sl_43) rfl (by decide) ?_
      refine TL.pure (PV.slice43 (h := j) rfl rfl rfl rfl rfl (by omega)) rfl (by decide) ?_
      refine TL.call rfl Tb.gofn_45 (fun a w hs => sameT_is2 w _ _ (L.take j) (ords_at hs.new (by intro y9 hy9; repeat (first | exact hy9 | exact List.mem_append_left _ hy9 | refine List.mem_append_right _ ?_ | refine List.Mem.tail _ ?_)) hh2) p j ((hL.new hs.new).take j) j (by rw [List.length_take]; omega) (by omega)) rfl (by decide) (fun _ _ => ?_)
      refine TL.pure (PV.pickT rfl rfl) rfl (by decide) ?_
      refine TL.pure (PV.move rfl) rfl (by decide) ?_
      refine TL.pure (PV.move rfl) rfl (by decide) ?_
      refine TL.pure (PV.eqS (M := []) rfl rfl) rfl (by decide) ?_
      refine TL.pure (PV.move rfl) rfl (by decide) ?_
      first | refine TL.splitD 83 rfl (fun hz => ?_) (fun hz => ?_) | refine TL.split 83 rfl (fun hz => ?_) (fun hz => ?_)
      · refine TL.skip rfl (fun k hk => by cases hk; decide) ?_
        refine TL.skip rfl (fun k hk => by cases hk; decide) ?_
        refine TL.skip rfl (fun k hk => by cases hk; decide) ?_
        refine TL.skip rfl (fun k hk => by cases hk; decide) ?_
        refine TL.skip rfl (fun k hk => by cases hk; decide) ?_
        refine TL.pure (PV.pickT rfl rfl) rfl (by decide) ?_
        refine TL.pure (PV.pickT rfl rfl) rfl (by decide) ?_
        refine TL.pure (PV.move rfl) rfl (by decide) ?_
        refine TL.call rfl Tb.gofn_31 (fun a w hs => sane_ok w (hW.new hs.new)) rfl (by decide) (fun _ _ => ?_)
        refine TL.pure (PV.pickT rfl rfl) rfl (by decide) ?_
        refine TL.pure (PV.assign rfl) rfl (by decide) ?_
        refine TL.nil ?_
        refine TQ.thenC ?_
        refine TC.ret ?_
        refine TQ.retE1 rfl rfl ?_
        exact ⟨(), rfl, trivial, List.nil_sublist _⟩
      · refine TL.pure (PV.move rfl) rfl (by decide) ?_
        refine TL.pure (PV.len rfl Tb.sl_43) rfl (by decide) ?_
        refine TL.pure (PV.move rfl) rfl (by decide) ?_
        refine TL.pure (PV.len rfl Tb.sl_43) rfl (by decide) ?_
        refine TL.pure (PV.yes (PV.lss rfl rfl) (by have := hj2.resolve_left hz; omega)) rfl (by decide) ?_
        refine TL.pure (PV.pickF rfl rfl) rfl (by decide) ?_
        refine TL.pure (PV.pickT rfl rfl) rfl (by decide) ?_
        refine TL.pure (PV.move rfl) rfl (by decide) ?_
        refine TL.call rfl Tb.gofn_31 (fun a w hs => sane_ok w (hW.new hs.new)) rfl (by decide) (fun _ _ => ?_)
        refine TL.pure (PV.pickT rfl rfl) rfl (by decide) ?_
        refine TL.pure (PV.assign rfl) rfl (by decide) ?_
        refine TL.nil ?_
        refine TQ.thenC ?_
        refine TC.ret ?_
        refine TQ.retE1 rfl rfl ?_
        exact ⟨(), rfl, trivial, List.nil_sublist _⟩

end Go.Proofs.YtbnjmkidbfmomaaGreatDoor

