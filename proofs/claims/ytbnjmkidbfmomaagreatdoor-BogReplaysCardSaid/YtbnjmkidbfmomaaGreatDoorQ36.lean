/- Yk Dg Ym Yn -/
import Derived.Test.YtbnjmkidbfmomaaGreatDoorQ05
import Derived.Test.YtbnjmkidbfmomaaGreatDoorQ06
import Derived.Test.YtbnjmkidbfmomaaGreatDoorQ21
import Derived.Test.YtbnjmkidbfmomaaGreatDoorQ35
import Derived.Laws.StructEq
set_option linter.unusedVariables false
set_option linter.unusedSimpArgs false
set_option maxRecDepth 100000
namespace Go.Proofs.YtbnjmkidbfmomaaGreatDoor
open Go.Sx Go.RowKit Go.Bt Go.Lib Go.Sand
section
variable {w0 w : World} {R : Heap} {s : St} {f : FV} {t : List UInt8} {os : List (List UInt8)}
theorem rp_l (he : s.newI = 0) (hr : readL t = (os, [])) (ha : ∀ j, j < os.length → doI s (stC s os j) (os.getD j []) = 0) : rpE s t = 0 := by
  refine (rp_4 (s := s) (t := t) (fun h => h he) (by rw [hr]; exact fun h => h rfl) ?_).2
  rw [hr]; exact ha
theorem Replay_l (hN : New w0 w R) (hW : WAt w0) (hf : ∀ w9, New w0 w9 R → FmAt w9 s f) (hlg : s.large = false) (ht : t.length ≤ 1000000) (he : s.newI = 0) (hr : readL t = (os, [])) (ha : ∀ j, j < os.length → doI s (stC s os j) (os.getD j []) = 0) {k : Nat} (hk : os.length = k) {c : Co} (hc : stC s os k = c) :
    Calls Tryz.prog 40 (fmA s f ++ [str t]).toArray w (Post (X := Nat × CP) (fun y => .tuple #[pt y.1, .int .i64 (k : Nat), .int .i64 0]) (fun y => CPk w0 s c y.2) (fun y => hp0 s c y.1 y.2 ++ R) w0) := by
  have h := Replay_some hN hW hf hlg ht (rp_l he hr ha)
  rw [hr] at h
  simp only at h
  rw [hk, hc] at h
  exact h
theorem rReplay_l (hN : New w0 w R) (hW : WAt w0) (hf : FmAt w0 s f) (hlg : s.large = false) (ht : t.length ≤ 1000000) (he : s.newI = 0) (hr : readL t = (os, [])) (ha : ∀ j, j < os.length → doI s (stC s os j) (os.getD j []) = 0) {k : Nat} (hk : os.length = k) {c : Co} (hc : stC s os k = c) :
    Calls Tryz.prog 42 (fmA s f ++ [str t]).toArray w (Post (X := Nat × RQ) (fun y => .tuple #[pt y.1, .int .i64 (k : Nat), .int .i64 0]) (fun y => RQk w0 s c y.2) (fun y => hq0 s c y.1 y.2 ++ R) w0) := by
  have h := rReplay_some hN hW hf hlg ht (rp_l he hr ha)
  rw [hr] at h
  simp only at h
  rw [hk, hc] at h
  exact h
theorem goR_cap {h : HD} {l : List (List UInt8)} (hg : goR stR h l) : l.length ≤ gc h := by
  obtain _ | ⟨b, cap, sp⟩ := h
  · have h0 : l.length = 0 := hg.2
    omega
  · exact hg.2.2
theorem Text_j (w : World) (hW : WAt w) (p : Option Addr) (c : Nat) (L : List (List UInt8)) (hL : StrsAt w p L) (h300 : L.length ≤ 300) (hs9 : ∀ j, (L.getD j []).length ≤ 400) {k : Nat} (hk : L.length = k) :
    Calls Tryz.prog 41 #[.slice p k c] w (Post (X := Unit) (fun _ => str (bookL dI L).2) (fun _ => True) (fun _ => []) w) := by
  subst hk; exact Text_ok w hW p c L hL h300 hs9
theorem bl_take {s : St} {c : Co} (hi : Inv s c) (j : Nat) : (bookL dI (c.ords.take j)).2.length ≤ 1000000 := by
  have h1 : (⟨0, 0, 0, 0, 0, 0, false, [], [], c.ords.take j⟩ : Co).ords = c.ords.take j := rfl
  have h2 : ∀ (L : List (List UInt8)) (sum : Int), L.all rightS = true → (bkN sum L).length ≤ 50 * L.length := bk_len
  have := h2 (c.ords.take j) 0 (all_take hi.rt j)
  have := hi.ol
  have h3 : (c.ords.take j).length ≤ c.ords.length := by rw [List.length_take]; omega
  rw [book_bk]; omega
theorem ords_j {s : St} {c : Co} (hi : Inv s c) (j : Nat) (k : Nat) : ((c.ords.take j).getD k []).length ≤ 400 := by
  by_cases h : k < j
  · rw [getD_take h]; have := ords_40 hi k; omega
  · have e : (c.ords.take j).getD k [] = [] := by rw [List.getD_eq_getElem?_getD, List.getElem?_eq_none (by rw [List.length_take]; omega)]; rfl
    rw [e]; exact Nat.zero_le _
end
end Go.Proofs.YtbnjmkidbfmomaaGreatDoor
namespace Go.Sx
open Go.RowKit
section
variable {P : Program} {n : Nat} {w0 : World} {E E0 : Env} {G GJ : Heap} {a : Act} {w : World} {Q : Exit → Act → World → Prop} {l : List Oper} {st : List Bool}
end
section
variable {P : Program} {ds : List Deferred} {n : Nat} {w0 : World} {E : Env} {G : Heap} {ops : Array Oper} {Q : Exit → Act → World → Prop} {c : Code} {K : Act → World → Prop}
variable {ty : TypeId} {pos : String} {aft : Array Edge} {g : Option (Nat × Bool)}
end
end Go.Sx
namespace Go.Proofs.YtbnjmkidbfmomaaGreatDoor
open Go.Sx Go.RowKit Go.Bt Go.Lib Go.Sand
end Go.Proofs.YtbnjmkidbfmomaaGreatDoor
namespace Go.Proofs.YtbnjmkidbfmomaaGreatDoor
open Go.Sx Go.RowKit Go.Bt Go.Lib Go.Sand
end Go.Proofs.YtbnjmkidbfmomaaGreatDoor
