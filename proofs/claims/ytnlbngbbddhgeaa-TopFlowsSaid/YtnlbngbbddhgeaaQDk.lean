/- An append that lets the list stand as it is for whoever still has it: in place behind its end, or in a new block. -/
import Derived.Test.YtnlbngbbddhgeaaQRe
import Derived.Laws.IdiomCopy
import Derived.Deep.AppendSrc
set_option linter.unusedVariables false
set_option linter.unusedSimpArgs false
namespace Go.Sx
open Go.RowKit

section
variable {P : Program} {n : Nat} {w0 : World} {E : Env} {G : Heap} {ops : Array Oper} {Q : Exit → Act → World → Prop} {l : List Oper}
variable {ty : TypeId} {pos : String} {aft : Array Edge} {g : Option (Nat × Bool)}

theorem TL.appendK {d : Nat} {s x : Operand} {t tx e e2 e3 b2 c2 by_ : Nat} {fr2 : Nat × Nat} {h0 : Option (Nat × Nat × List Value)} {ys : List Value} {v z : Value} {len : Nat} {R : Heap} (hsv : evo E s = some (gval h0 len)) (hx : evo E x = some (.slice (some ⟨b2, 0, none⟩) 1 c2))
    (ht : P.underlying t = some (.slice e)) (htx : P.underlying tx = some (.slice e3)) (hz : zeroI P e = some (z, 1, by_)) (hzc : z.cells.size = 1) (hok : gok h0 len 1 ys) (hT : TakeH h0 e ys G R)
    (hm : (b2, Obj.cells #[v] e2 fr2) ∈ G) (hv : v.oneCell' = true) (hL : len + 1 ≤ 1000000) (hby : by_ ≤ 1000)
    (hg : wants ops E g = some true) (hd : d < n)
    (hA : ∀ b cap s0 sp, h0 = some (b, cap, s0 :: sp) → TL P n w0 ops Q l ((d, .slice (some ⟨b, 0, none⟩) (len + 1) cap) :: E) ((b, .cells (ys ++ v :: sp).toArray e (0, 0)) :: R))
    (hB : ∀ b cap sp, gok (some (b, cap, sp)) (len + 1) 1 (ys ++ [v]) → TL P n w0 ops Q l ((d, .slice (some ⟨b, 0, none⟩) (len + 1) cap) :: E) ((b, .cells (ys ++ [v] ++ sp).toArray e (0, 0)) :: G)) :
    TL P n w0 ops Q (⟨some d, .call { callee := .builtin .append, args := #[s, x], argTypes := #[t, tx] }, ty, pos, aft, g⟩ :: l) E G :=
  TL.step hg fun a w hS => by
    unfold zeroI at hz
    cases hinf : P.info? e with
    | none => simp [hinf] at hz
    | some inf =>
      simp [hinf] at hz
      obtain ⟨z', hz1, rfl, hz2, hz3⟩ := hz
      have hsrc : ∀ w', New w0 w' G → Src P 1 tx (.slice (some ⟨b2, 0, none⟩) 1 c2) 1 [v] w' := fun w' hN => by
        refine Src.ofSlice (size := 1) _ htx ⟨b2, 0, none⟩ 1 c2 [v] rfl (fun j u hj => ?_) (fun u hu => by simp at hu; subst hu; exact hv)
        cases j with
        | zero =>
          rw [add_off]
          refine hN.cell hm ?_
          simpa using hj
        | succ j => simp at hj
      have hexec : (execOp a.eval ⟨some d, .call { callee := .builtin .append, args := #[s, x], argTypes := #[t, tx] }, ty, pos, aft, g⟩).run P w =
          ((Builtin.append_ #[t, tx] ty #[gval h0 len, .slice (some ⟨b2, 0, none⟩) 1 c2]).run P w).andThen fun v w' => .ok (.value v) w' := by
        simp only [execOp, resolve, List.map_toArray, List.map_cons, List.map_nil, hS.ev hsv, hS.ev hx]
        simp [invoke, builtin]
      unfold Oper.wp
      rw [hexec]
      have hyl : ys.length = len := by have := hok.1; omega
      have hN := hS.new.perm hT.perm
      have grow : ∀ (cap : Nat) (base : Option Addr), gval h0 len = .slice base len cap → cap < len + 1 →
          (Builtin.firstCells inf.size len (.slice base len cap)).run P w.drew = .ok ys.toArray w.drew →
          Oper.upon P ⟨some d, .call { callee := .builtin .append, args := #[s, x], argTypes := #[t, tx] }, ty, pos, aft, g⟩ a (wpList P ops Q l) Q
            (((Builtin.append_ #[t, tx] ty #[gval h0 len, .slice (some ⟨b2, 0, none⟩) 1 c2]).run P w).andThen fun v w' => .ok (.value v) w') := by
        intro cap base hbv hlt hold
        have hb1 : (len + 1) * inf.bytes ≤ 140737488355328 := by
          calc (len + 1) * inf.bytes ≤ 1000000 * 1000 := Nat.mul_le_mul hL (by omega)
            _ ≤ 140737488355328 := by decide
        have hr := run_append_grow_src (P := P) (ty := ty) w t tx e inf z' ht hinf hz1 base len cap ys hold (.slice (some ⟨b2, 0, none⟩) 1 c2) 1 [v] (by rw [hz2]; exact hsrc w hS.new) hlt (by omega)
          (growslice_fits hlt hb1)
        rw [hbv, hr]
        have hcap := grownCap_ge w (len + 1) cap e
        have hzs : (Builtin.zeroCells z'.cells (grownCap w (len + 1) cap e - (len + 1))).size = grownCap w (len + 1) cap e - (len + 1) := by rw [zeroCells_size, hzc, Nat.mul_one]
        refine hB w.heap.size (grownCap w (len + 1) cap e) (Builtin.zeroCells z'.cells (grownCap w (len + 1) cap e - (len + 1))).toList ⟨by rw [List.length_append, hyl]; simp, by simp only [List.length_append, hyl, List.length_singleton, Array.length_toList, hzs]; omega, hcap⟩ _ _ ((hS.world ?_).put hd _)
        have hD : New w0 w.drew G := hS.new.drew
        have := hD.alloc (.cells ((ys ++ [v]).toArray ++ Builtin.zeroCells z'.cells (grownCap w (len + 1) cap e - (len + 1))) e)
        have he : (ys ++ [v] ++ (Builtin.zeroCells z'.cells (grownCap w (len + 1) cap e - (len + 1))).toList).toArray = (ys ++ [v]).toArray ++ Builtin.zeroCells z'.cells (grownCap w (len + 1) cap e - (len + 1)) := by
          apply Array.ext'; simp
        rw [he]
        exact this
      cases h0 with
      | none =>
        have hl0 : len = 0 := hok.2
        subst hl0
        have hy0 : ys = [] := List.length_eq_zero_iff.1 hyl
        subst hy0
        refine grow 0 none rfl (by omega) ?_
        exact run_firstCells_none (P := P) w.drew inf.size 0 0 0
      | some hh =>
        obtain ⟨b, cap, sp⟩ := hh
        obtain ⟨_, hc1, hc2⟩ := hok
        rw [Nat.mul_one] at hc1
        have hblk : w.heap[b]? = some (.cells (ys ++ sp).toArray e (0, 0)) := hN.here (b, .cells (ys ++ sp).toArray e (0, 0)) (by simp [gblk])
        by_cases hroom : len + 1 ≤ cap
        · cases sp with
          | nil => simp at hc1; omega
          | cons s0 sp =>
            have hc0 : (w.cell? ⟨b, len, none⟩).isSome = true := by
              simp [World.cell?, hblk]; omega
            have hf0 : w.frozen? ⟨b, len, none⟩ = false := by simp [World.frozen?, hblk]
            have hr := run_append_room_src (P := P) (w := w) t tx ty e inf ht hinf b 0 len cap (.slice (some ⟨b2, 0, none⟩) 1 c2) 1 [v] (by rw [hz2]; exact hsrc w hS.new) hroom
              (fun j hj => by have : j = 0 := by simpa using hj
                              subst this; simpa [hz2] using hc0) (fun j hj => by have : j = 0 := by simpa using hj
                                                                                 subst this; simpa [hz2] using hf0)
            simp only [gval]
            rw [hr]
            have hw : w.setCells b (0 + len * inf.size) [v] = w.setRow b ((ys ++ s0 :: sp).toArray.setIfInBounds len v) := by
              rw [hz2, Nat.mul_one, Nat.zero_add]
              show w.setCell ⟨b, len, none⟩ _ = _
              exact setCell_eq_setRow w b len _ e (0, 0) _ hblk
            have hrow : (ys ++ s0 :: sp).toArray.setIfInBounds len v = (ys ++ v :: sp).toArray := by
              subst hyl
              simp [List.set_append]
            rw [hw, hrow]
            refine hA b cap s0 sp rfl _ _ ((hS.world ?_).put hd _)
            simp only [gblk, List.singleton_append] at hN
            refine hN.turn (Upd.head _) ?_ ?_ rfl rfl rfl ?_ rfl
            · simp only [World.setRow, Array.getElem?_modify, if_true, hblk, Option.map_some]
            · intro k hk
              simp only [World.setRow, Array.getElem?_modify]
              rw [if_neg (by omega)]
            · simp [World.setRow]
        · refine grow cap (some ⟨b, 0, none⟩) rfl (by omega) ?_
          refine run_firstCells_some (P := P) w.drew inf.size len ⟨b, 0, none⟩ len cap ys (by rw [hz2, hyl, Nat.mul_one]) (fun j u hu => ?_)
          rw [add_off, Nat.zero_add]
          have hjl : j < ys.length := (List.getElem?_eq_some_iff.1 hu).1
          have : w.cell? ⟨b, j, none⟩ = some u := by
            simp only [World.cell?, hblk, Option.isSome_none, Bool.false_eq_true, if_false, List.getElem?_toArray]
            rw [List.getElem?_append_left hjl, hu]
          exact this
end
end Go.Sx
