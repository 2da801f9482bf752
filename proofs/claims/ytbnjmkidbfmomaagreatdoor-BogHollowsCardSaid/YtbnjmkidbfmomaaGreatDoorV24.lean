/- Xm Xn Xo -/
import Derived.Test.YtbnjmkidbfmomaaGreatDoorV06
import Derived.Test.YtbnjmkidbfmomaaGreatDoorV23
import Derived.Laws.Strings3
set_option linter.unusedVariables false
set_option linter.unusedSimpArgs false
set_option maxRecDepth 100000
namespace Go.Proofs.YtbnjmkidbfmomaaGreatDoor
open Go.Sx Go.RowKit Go.Bt Go.Lib Go.Sand
theorem brk_len (c : UInt8) (l : List UInt8) : (brk c l).1.length ≤ l.length ∧ ((brk c l).2.getD []).length ≤ l.length := by
  cases h : (brk c l).2 with
  | none =>
    have := congrArg List.length (brk_none h)
    exact ⟨by omega, Nat.zero_le _⟩
  | some r =>
    have := brk_le h
    exact ⟨by omega, by show r.length ≤ _; omega⟩
theorem lnO_len (r : List UInt8) : (lnO r).length ≤ r.length := by
  have h1 := (brk_len 10 r).1
  have h2 := (brk_len 32 (brk 10 r).1).2
  unfold lnO
  omega
set_option maxHeartbeats 1000000 in
theorem Read_ok (w0 : World) (hW : WAt w0) (t : List UInt8) (ht : t.length ≤ 1000000) :
    Calls Tryz.prog 43 #[str t] w0 (Post (X := HD) (fun h => .tuple #[.slice (gp h) (readL t).1.length (gc h), str (readL t).2]) (fun h => goR stR h (readL t).1) (fun h => gbR stR 9 h (readL t).1) w0) := by
  refine calls Tryz.func43 rfl (n := 54) rfl (by simp) ?_
  refine zr (za rfl (za rfl (zk (za rfl (zk (zm rfl (za rfl (za rfl (zn (TC.seq (TC.block (TC.loopK [2, 3] (X := HD × List (List UInt8) × Int × List UInt8) (fun x => goR stR x.1 x.2.1 ∧ RdS t x.2.1 x.2.2.1 x.2.2.2) (fun x => [(4, gval x.1 x.2.1.length), (6, str x.2.2.2), (5, .int .i64 x.2.2.1)]) (fun x => gbR stR 9 x.1 x.2.1 ++ []) (fun x => 100 - x.2.1.length) (none, [], 0, t) ⟨⟨rfl, rfl⟩, RdS.zero t⟩ l9z (List.Sublist.refl _) ?_))))))))))))
  intro x hx
  refine TC.seq (TC.seq ?_)
  have hle := hx.2.len
  have hln := lnO_len x.2.2.2
  have hbl := brk_len 10 x.2.2.2
  have hsm := hx.2.sm
  refine TC.region (zm rfl (zq (PV.lenO rfl hx.1) rfl (zq (PV.lss rfl rfl) rfl (zn (TC.cd rfl (fun hlt => ?_) (fun hlt => ?_))))))
  refine TC.skip (TQ.thenC (TC.block (zr (zm rfl (TL.call rfl Tb.gofn_79 (fun a w hs => scut_ok w (hW.new hs.new) 10 x.2.2.2 om) rfl dc (fun _ _ => ?_))))))
  refine zm rfl (zq (PV.extract rfl rfl) rfl (zq (PV.extract rfl rfl) rfl (zq (PV.extract rfl rfl) rfl (za rfl (za rfl (za rfl (zk (zm rfl (TL.call rfl Tb.gofn_79 (fun a w hs => scut_ok w (hW.new hs.new) 32 (brk 10 x.2.2.2).1 om) rfl dc (fun _ _ => ?_))))))))))
  refine zm rfl (zq (PV.extract rfl rfl) rfl (zq (PV.extract rfl rfl) rfl (zq (PV.extract rfl rfl) rfl (za rfl (za rfl (za rfl (zn (TC.seq (zr (zm rfl (TL.call rfl Tb.gofn_80 (fun a w hs => isLine_ok w (lnO x.2.2.2) om) rfl dc (fun _ _ => ?_))))))))))))
  refine zq ((by first | exact PV.notD rfl | exact PV.not rfl)) rfl ?_
  refine zn (TC.cd rfl (fun hnl => ?_) (fun hnl => ?_))
  have hr0 : rightS (lnO x.2.2.2) = false := decide_eq_false hnl
  refine TC.exit (TQ.thenE (TQ.blkE dc (TQ.thenE (TQ.blkS (TQ.thenC (zr (zm rfl (zm rfl (za rfl (za rfl (zt (TQ.retE2 rfl rfl rfl ?_))))))))))))
  have e := hx.2.stop (pg_line hr0)
  exact ⟨x.1, by rw [e]; exact congrArg (fun v => Value.tuple #[v, str x.2.2.2]) (ords_len hx.1), by rw [e]; exact hx.1, by rw [e]; exact List.sublist_append_left _ _⟩
  have hr1 : rightS (lnO x.2.2.2) = true := decide_eq_true (by simpa using hnl)
  refine TC.skip (TQ.thenC (zr (zm rfl (zm rfl (TL.call rfl Tb.gofn_46 (fun a w hs => Sum_ok w x.2.2.1 om (lnO x.2.2.2) om) rfl dc (fun _ _ => ?_))))))
  refine za rfl (zk (zm rfl (zm rfl (zm rfl (TL.call rfl Tb.gofn_82 (fun a w hs => page_ok w (hW.new hs.new) _ (smV_bd _ _) (lnO x.2.2.2) om) rfl dc (fun _ _ => ?_))))))
  refine TL.call rfl Tb.gofn_81 (fun a w hs => cutP_ok w x.2.2.2 _) rfl dc (fun _ _ => ?_)
  refine zm rfl (zq (PV.extract rfl rfl) rfl (zq (PV.extract rfl rfl) rfl (za rfl (za rfl (zn (TC.seq (zr (zm rfl (zq ((by first | exact PV.notD rfl | exact PV.not rfl)) rfl ?_)))))))))
  refine zn (TC.cd rfl (fun hnp => ?_) (fun hnp => ?_))
  have hp0 : ¬ (pageL dI (smV x.2.2.1 (lnO x.2.2.2)) (lnO x.2.2.2)).isPrefixOf x.2.2.2 = true := by first | exact hnp | (rw [Bool.not_eq_true]; simpa using hnp)
  refine TC.exit (TQ.thenE (TQ.blkE dc (TQ.thenE (TQ.blkS (TQ.thenC (zr (zm rfl (zm rfl (za rfl (za rfl (zt (TQ.retE2 rfl rfl rfl ?_))))))))))))
  have e := hx.2.stop (pg_pre hp0)
  exact ⟨x.1, by rw [e]; exact congrArg (fun v => Value.tuple #[v, str x.2.2.2]) (ords_len hx.1), by rw [e]; exact hx.1, by rw [e]; exact List.sublist_append_left _ _⟩
  have hp1 : (pageL dI (smV x.2.2.1 (lnO x.2.2.2)) (lnO x.2.2.2)).isPrefixOf x.2.2.2 = true := by first | exact hnp | simpa using hnp
  rw [if_pos hp1]
  refine TC.skip (TQ.thenC (TC.region (zm rfl (zm rfl (TL.buildSlice (cs := #[str (lnO x.2.2.2)]) rfl Tb.sl_43 Tb.zi_9 dc (fill_s (lnO x.2.2.2)) dc rfl dc (fun bI hbI => ?_))))))
  refine TL.appendRec (R := stR) (h0 := x.1) (ys := x.2.1) (r := lnO x.2.2.2) Tb.sl_43 Tb.zi_9 rfl rfl rfl m9z hx.1 h9z om om rfl dc (fun h9 ho9 => ?_)
  refine zm rfl (za rfl (za rfl (TL.nil (TQ.blkN (TQ.thenN (TQ.backK (h9, x.2.1 ++ [lnO x.2.2.2], smV x.2.2.1 (lnO x.2.2.2), x.2.2.2.drop (pageL dI (smV x.2.2.1 (lnO x.2.2.2)) (lnO x.2.2.2)).length) l9z l9z (List.Sublist.append (List.Sublist.refl _) (List.nil_sublist _)) ⟨ho9, hx.2.next om (pg_yes hr1 hp1)⟩ (by simp only [List.length_append, List.length_cons, List.length_nil]; omega)))))))
  refine TC.exit (TQ.thenE (TQ.thenE (TQ.blkS (TQ.thenC (zr (zm rfl (zm rfl (za rfl (za rfl (zt (TQ.retE2 rfl rfl rfl ?_)))))))))))
  have e := hx.2.full (by omega)
  exact ⟨x.1, by rw [e]; exact congrArg (fun v => Value.tuple #[v, str x.2.2.2]) (ords_len hx.1), by rw [e]; exact hx.1, by rw [e]; exact List.sublist_append_left _ _⟩
end Go.Proofs.YtbnjmkidbfmomaaGreatDoor
namespace Go.Proofs.YtbnjmkidbfmomaaGreatDoor
open Go.Sx Go.RowKit Go.Bt Go.Lib Go.Sand
section
variable {P : Program} {n : Nat} {w0 : World} {E : Env} {G : Heap} {d : Option Nat} {ty : TypeId} {pos : String} {aft : Array Edge} {g : Option (Nat × Bool)}
theorem str_size (L : List UInt8) : (⟨L.toArray⟩ : ByteArray).size = L.length := by simp [ByteArray.size]
theorem PV.slS {x y z : Operand} {L : List UInt8} {t : TypeId} {i j : Int} {l h : Nat} (hx : evo E x = some (str L)) (hy : evo E y = some (.int .i64 i)) (hz : evo E z = some (.int .i64 j)) (ht : P.underlying t = some .string) (hi : i = (l : Int)) (hj : j = (h : Int)) (hlh : l ≤ h) (hh : h ≤ L.length) :
    PV P n w0 E G ⟨d, .slice t x (some y) (some z) none, ty, pos, aft, g⟩ (str ((L.drop l).take (h - l))) := fun a w hs => by
  subst hi; subst hj
  simp only [execOp, hs.ev hx, Option.map_some, Option.map_none, hs.ev hy, hs.ev hz]
  have h2 := run_slice_string (P := P) w t ⟨L.toArray⟩ .i64 .i64 l h ht (by omega) (by omega) (by rw [str_size]; omega)
  rw [Int.toNat_natCast, Int.toNat_natCast, ByteArray.extract_mk] at h2
  simp [str, run_sliceAt_string _ _ _ _ _ _ ht, h2]
end
structure Stp (c : UInt8) (l : List UInt8) (m k : Nat) : Prop where
  le : k ≤ m
  no : ∀ j, j < k → l.getD j 0 ≠ c
  at_ : k < m → l.getD k 0 = c
theorem Stp.notin {c : UInt8} {l : List UInt8} {m k : Nat} (h : Stp c l m k) (hm : m ≤ l.length) : c ∉ l.take k := fun hc => by
  obtain ⟨j, hj, e⟩ := List.getElem_of_mem hc
  rw [List.length_take] at hj
  refine h.no j (by omega) ?_
  rw [List.getElem_take] at e
  rw [List.getD_eq_getElem?_getD, List.getElem?_eq_getElem (by omega)]; exact e
theorem Stp.miss {c : UInt8} {l : List UInt8} {m k : Nat} (h : Stp c l m k) (hm : m ≤ l.length) (hk : k = m) : brk c (l.take m) = (l.take m, none) := by
  subst hk; exact brk_miss (h.notin hm)
theorem Stp.hit {c : UInt8} {l : List UInt8} {m k : Nat} (h : Stp c l m k) (hm : m ≤ l.length) (hk : k < m) : brk c (l.take m) = (l.take k, some ((l.drop (k + 1)).take (m - (k + 1)))) := by
  have e : l.take m = l.take k ++ c :: (l.drop (k + 1)).take (m - (k + 1)) := by
    have h1 : l.take m = (l.take m).take k ++ (l.take m).drop k := (List.take_append_drop k _).symm
    have h2 : (l.take m).take k = l.take k := by rw [List.take_take, Nat.min_eq_left (by omega)]
    have h3 : (l.take m).drop k = c :: (l.drop (k + 1)).take (m - (k + 1)) := by
      rw [List.drop_eq_getElem_cons (by rw [List.length_take]; omega), List.drop_take, List.getElem_take]
      have := h.at_ hk
      rw [List.getD_eq_getElem?_getD, List.getElem?_eq_getElem (by omega)] at this
      exact congrArg (· :: _) this
    rw [h1, h2, h3]
  rw [e]; exact brk_hit (h.notin hm)
section
variable {r : List UInt8} {k i : Nat} {sum : Int}
end
end Go.Proofs.YtbnjmkidbfmomaaGreatDoor
namespace Go.Proofs.YtbnjmkidbfmomaaGreatDoor
open Go.Sx Go.RowKit Go.Bt Go.Lib Go.Sand
theorem ords_now {h : HD} {L : List (List UInt8)} (ho : goR stR h L) {k : Nat} (hk : k < L.length) : ∃ q, gp h = some q ∧ ∀ (w0 w : World) (Z : Heap), (∀ y ∈ gbR stR 9 h L, y ∈ Z) → New w0 w Z → w.cell? (q.add (k * 1)) = some (str (L.getD k [])) := by
  obtain _ | ⟨b, cap, sp⟩ := h
  · have h0 : L.length = 0 := ho.2
    omega
  · refine ⟨⟨b, 0, none⟩, rfl, fun w0 w Z hm hn => ?_⟩
    obtain ⟨q, h1, h2⟩ := ords_at hn hm ho k hk
    injection h1 with h1
    subst h1
    exact h2
section
variable {P : Program} {n : Nat} {w0 : World} {E : Env} {G : Heap} {d : Option Nat} {ty : TypeId} {pos : String} {aft : Array Edge} {g : Option (Nat × Bool)}
theorem PV.loadO {x : Operand} {q : Addr} {t : Nat} {h : HD} {L : List (List UInt8)} {k : Nat} (hx : evo E x = some (.pointer (some (q.add (k * 1))))) (ht : oneB P t = true) (hm : ∀ y ∈ gbR stR 9 h L, y ∈ G)
    (qv : ∀ (w0 w : World) (Z : Heap), (∀ y ∈ gbR stR 9 h L, y ∈ Z) → New w0 w Z → w.cell? (q.add (k * 1)) = some (str (L.getD k []))) : PV P n w0 E G ⟨d, .load t x, ty, pos, aft, g⟩ (str (L.getD k [])) :=
  PV.loadN hx ht (List.Sublist.refl _) fun w hn => qv _ _ _ hm hn
end
def MrP (A B : List (List UInt8) × List UInt8) (t u : List UInt8) (y : List UInt8 × Int × Int) : Prop :=
  ((A.2 ≠ [] ∨ B.2 ≠ []) ∧ y = ([], 0, 12)) ∨ (¬ (A.2 ≠ [] ∨ B.2 ≠ []) ∧ ((∃ k : Nat, k < min A.1.length B.1.length ∧ (∀ j, j < k → A.1.getD j [] = B.1.getD j []) ∧ A.1.getD k [] ≠ B.1.getD k [] ∧ y = ([], (k : Int), 7)) ∨
    ((∀ j, j < min A.1.length B.1.length → A.1.getD j [] = B.1.getD j []) ∧ y = if A.1.length < B.1.length then (u, (B.1.length : Int), 0) else (t, (A.1.length : Int), 0))))
section
variable {A B : List (List UInt8) × List UInt8} {t u : List UInt8}
end
end Go.Proofs.YtbnjmkidbfmomaaGreatDoor
