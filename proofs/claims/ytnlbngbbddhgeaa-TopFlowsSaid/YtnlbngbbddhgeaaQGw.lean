/- Laws of flows and cuts: contracts. -/
import Derived.Test.YtnlbngbbddhgeaaQFv
set_option linter.unusedVariables false
set_option linter.unusedSimpArgs false
namespace Go.Proofs.Ytnlbngbbddhgeaa
open Go.Sx Go.RowKit


section
variable {P : Program} {n : Nat} {w0 : World} {E : Env} {G : Heap} {d : Option Nat} {ty : TypeId} {pos : String} {aft : Array Edge} {g : Option (Nat × Bool)} {x y : Operand} {i j : Int} {t t' : TypeId}
theorem PV.gtrF (hx : evo E x = some (.int .i64 i)) (hy : evo E y = some (.int .i64 j)) (h : i ≤ j) : PV P n w0 E G ⟨d, .binOp .gtr t x y t', ty, pos, aft, g⟩ (.bool false) := by
  have := PV.gtr (P := P) (n := n) (w0 := w0) (G := G) (d := d) (t := t) (t' := t') (ty := ty) (pos := pos) (aft := aft) (g := g) hx hy
  rwa [decide_eq_false (by omega)] at this
end
theorem sameI {w : World} {va vb : Value} {xs : List Int} (h1 : IsI w va xs) (h2 : IsI w vb xs) (hl : xs.length ≤ 1000000) : Calls Try.prog 31 #[va, vb] w (Post (X := Unit) (fun _ => .bool true) (fun _ => True) (fun _ => []) w) := by
  have h := sameInts_ok w va xs h1 vb xs h2 hl hl
  rw [decide_eq_true rfl] at h
  exact h
theorem CheckMost_I {w : World} {n s t : Nat} {p : Option Addr} {cap : Nat} {rs : List Bd} (hr : BdsAt w p rs) (hv : Vd n s t rs) {vf vx : Value} {fs xs : List Int} (hf : IsI w vf fs) (hx : IsI w vx xs) (hl9 : fs.length ≤ 1000000) (hl : xs.length ≤ 1000000) :
    Calls Try.prog 32 #[dnV n s t p rs.length cap, vf, vx] w (Post (X := Unit) (fun _ => .int .i64 (cmI n s t rs fs xs)) (fun _ => True) (fun _ => []) w) := by
  obtain ⟨p1, c1, rfl, h1⟩ := hf
  obtain ⟨p2, c2, rfl, h2⟩ := hx
  exact CheckMost_v w n s t p cap rs hr hv hv.dI p1 c1 fs h1 hl9 p2 c2 xs h2 hl
theorem lst_pw (f : Nat → Bool) (k : Nat) : (lst f k).Pairwise (· < ·) := by
  unfold lst
  rw [List.pairwise_map]
  exact ((List.pairwise_lt_range (n := k)).filter f).imp fun h => by omega
theorem cutB_lst {n s t : Nat} {f : Nat → Bool} (hs : s < n) (ht : t < n) (h1 : f s = true) (h2 : f t = false) : cutB n s t (lst f n) = true := by
  unfold cutB
  rw [Bool.and_eq_true, Bool.and_eq_true]
  refine ⟨List.all_eq_true.2 fun i hi => decide_eq_true ?_, decide_eq_true (mem_lst.2 ⟨by omega, by omega, by simpa using h1⟩), ?_⟩
  · have hi1 := List.mem_range.1 hi
    have hm : (lst f n).getD i 0 ∈ lst f n := by simp [List.getD, hi1]
    refine ⟨by have := mem_lst.1 hm; omega, ?_⟩
    by_cases e : i = 0
    · exact .inl e
    · right
      have := List.pairwise_iff_getElem.1 (lst_pw f n) (i - 1) i (by omega) hi1 (by omega)
      simpa [List.getD, hi1, show i - 1 < (lst f n).length by omega] using this
  · rw [Bool.not_eq_true', decide_eq_false_iff_not, mem_lst]
    rintro ⟨_, _, h⟩
    rw [Int.toNat_natCast, h2] at h; cases h
theorem inS_lst {n : Nat} {f : Nat → Bool} {v : Nat} (hv : v < n) : inS (lst f n) v = f v := by
  unfold inS
  rw [Bool.eq_iff_iff, decide_eq_true_iff, mem_lst, Int.toNat_natCast]
  exact ⟨fun h => h.2.2, fun h => ⟨by omega, by omega, h⟩⟩
/-- The flow and a narrowest cut prove each other. -/
theorem cm_min {n s t : Nat} {rs : List Bd} (hv : Vd n s t rs) {fs : List Int} (hf : cfV n s t rs fs = (Fl.mw s t (dr0 rs), 0)) {S : Nat → Bool} (hS : Fl.MinC s t (dr0 rs) S) : cmI n s t rs fs (lst S n) = 0 := by
  have hw := hv.w1
  unfold cmI
  rw [hf, if_neg (by simp), if_pos (cutB_lst hw.sn hw.tn hS.1 hS.2.1), Fl.cutW_nodes hw.nodes (fun v hv => inS_lst hv), if_pos hS.eq.symm]
theorem cm_call {w : World} {n s t : Nat} {p : Option Addr} {cap : Nat} {rs : List Bd} (hr : BdsAt w p rs) (hv : Vd n s t rs) {vf vx : Value} {fs : List Int} {S : Nat → Bool} (hf : IsI w vf fs) (hx : IsI w vx (lst S n)) (hl9 : fs.length = rs.length) (hcf : cfV n s t rs fs = (Fl.mw s t (dr0 rs), 0)) (hS : Fl.MinC s t (dr0 rs) S) :
    Calls Try.prog 32 #[dnV n s t p rs.length cap, vf, vx] w (Post (X := Unit) (fun _ => .int .i64 0) (fun _ => True) (fun _ => []) w) := by
  have h := CheckMost_I hr hv hf hx (by have := hv.len; omega) (by have := lst_len S n; have := hv.w1.n8; omega) (cap := cap)
  rw [cm_min hv hcf hS] at h
  exact h
theorem take_mem {xs : List Int} {k : Nat} {v : Int} (hk : k < xs.length) : v ∈ xs.take (k + 1) ↔ v ∈ xs.take k ∨ xs.getD k 0 = v := by
  rw [List.take_succ_eq_append_getElem hk, List.mem_append, List.mem_singleton]
  simp only [List.getD, List.getElem?_eq_getElem hk, Option.getD_some]
  exact ⟨fun h => h.imp id fun e => e.symm, fun h => h.imp id fun e => e.symm⟩


end Go.Proofs.Ytnlbngbbddhgeaa
