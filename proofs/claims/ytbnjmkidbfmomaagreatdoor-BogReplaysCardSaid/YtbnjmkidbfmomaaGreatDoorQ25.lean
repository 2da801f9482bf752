/- Xm Xn Xo -/
import Derived.Test.YtbnjmkidbfmomaaGreatDoorQ06
import Derived.Test.YtbnjmkidbfmomaaGreatDoorQ24
import Derived.Laws.Strings3
set_option linter.unusedVariables false
set_option linter.unusedSimpArgs false
set_option maxRecDepth 100000
namespace Go.Proofs.YtbnjmkidbfmomaaGreatDoor
open Go.Sx Go.RowKit Go.Bt Go.Lib Go.Sand
theorem brk_len (c : UInt8) (l : List UInt8) : (brk c l).1.length ≤ l.length ∧ ((brk c l).2.getD []).length ≤ l.length := by
  cases h : (brk c l).2 with
  | none =>
    have := congrArg List.length (brk_none h)
    exact ⟨by omega, Nat.zero_le _⟩
  | some r =>
    have := brk_le h
    exact ⟨by omega, by show r.length ≤ _; omega⟩
theorem lnO_len (r : List UInt8) : (lnO r).length ≤ r.length := by
  have h1 := (brk_len 10 r).1
  have h2 := (brk_len 32 (brk 10 r).1).2
  unfold lnO
  omega
set_option maxHeartbeats 1000000 in
theorem Read_ok (w0 : World) (hW : WAt w0) (t : List UInt8) (ht : t.length ≤ 1000000) :
    Calls Tryz.prog 43 #[str t] w0 (Post (X := HD) (fun h => .tuple #[.slice (gp h) (readL t).1.length (gc h), str (readL t).2]) (fun h => goR stR h (readL t).1) (fun h => gbR stR 9 h (readL t).1) w0) := by
  refine calls Tryz.func43 rfl (n := 54) rfl (by simp) ?_
  refine zr (za rfl (za rfl (zk (za rfl (zk (zm rfl (za rfl (za rfl (zn (TC.seq (TC.block (TC.loopK [2, 3] (X := HD × List (List UInt8) × Int × List UInt8) (fun x => goR stR x.1 x.2.1 ∧ RdS t x.2.1 x.2.2.1 x.2.2.2) (fun x => [(4, gval x.1 x.2.1.length), (6, str x.2.2.2), (5, .int .i64 x.2.2.1)]) (fun x => gbR stR 9 x.1 x.2.1 ++ []) (fun x => 100 - x.2.1.length) (none, [], 0, t) ⟨⟨rfl, rfl⟩, RdS.zero t⟩ l9z (List.Sublist.refl _) ?_))))))))))))
  intro x hx
  refine TC.seq (TC.seq ?_)
  have hle := hx.2.len
  have hln := lnO_len x.2.2.2
  have hbl := brk_len 10 x.2.2.2
  have hsm := hx.2.sm
  refine TC.region (zm rfl (zq (PV.lenO rfl hx.1) rfl (zq (PV.lss rfl rfl) rfl (zn (TC.cd rfl (fun hlt => ?_) (fun hlt => ?_))))))
  refine TC.skip (TQ.thenC (TC.block (zr (zm rfl (TL.call rfl Tb.gofn_79 (fun a w hs => scut_ok w (hW.new hs.new) 10 x.2.2.2 om) rfl dc (fun _ _ => ?_))))))
  refine zm rfl (zq (PV.extract rfl rfl) rfl (zq (PV.extract rfl rfl) rfl (zq (PV.extract rfl rfl) rfl (za rfl (za rfl (za rfl (zk (zm rfl (TL.call rfl Tb.gofn_79 (fun a w hs => scut_ok w (hW.new hs.new) 32 (brk 10 x.2.2.2).1 om) rfl dc (fun _ _ => ?_))))))))))
  refine zm rfl (zq (PV.extract rfl rfl) rfl (zq (PV.extract rfl rfl) rfl (zq (PV.extract rfl rfl) rfl (za rfl (za rfl (za rfl (zn (TC.seq (zr (zm rfl (TL.call rfl Tb.gofn_80 (fun a w hs => isLine_ok w (lnO x.2.2.2) om) rfl dc (fun _ _ => ?_))))))))))))
  refine zq ((by first | exact PV.notD rfl | exact PV.not rfl)) rfl ?_
  refine zn (TC.cd rfl (fun hnl => ?_) (fun hnl => ?_))
  have hr0 : rightS (lnO x.2.2.2) = false := decide_eq_false hnl
  refine TC.exit (TQ.thenE (TQ.blkE dc (TQ.thenE (TQ.blkS (TQ.thenC (zr (zm rfl (zm rfl (za rfl (za rfl (zt (TQ.retE2 rfl rfl rfl ?_))))))))))))
  have e := hx.2.stop (pg_line hr0)
  exact ⟨x.1, by rw [e]; exact congrArg (fun v => Value.tuple #[v, str x.2.2.2]) (ords_len hx.1), by rw [e]; exact hx.1, by rw [e]; exact List.sublist_append_left _ _⟩
  have hr1 : rightS (lnO x.2.2.2) = true := decide_eq_true (by simpa using hnl)
  refine TC.skip (TQ.thenC (zr (zm rfl (zm rfl (TL.call rfl Tb.gofn_46 (fun a w hs => Sum_ok w x.2.2.1 om (lnO x.2.2.2) om) rfl dc (fun _ _ => ?_))))))
  refine za rfl (zk (zm rfl (zm rfl (zm rfl (TL.call rfl Tb.gofn_82 (fun a w hs => page_ok w (hW.new hs.new) _ (smV_bd _ _) (lnO x.2.2.2) om) rfl dc (fun _ _ => ?_))))))
  refine TL.call rfl Tb.gofn_81 (fun a w hs => cutP_ok w x.2.2.2 _) rfl dc (fun _ _ => ?_)
  refine zm rfl (zq (PV.extract rfl rfl) rfl (zq (PV.extract rfl rfl) rfl (za rfl (za rfl (zn (TC.seq (zr (zm rfl (zq ((by first | exact PV.notD rfl | exact PV.not rfl)) rfl ?_)))))))))
  refine zn (TC.cd rfl (fun hnp => ?_) (fun hnp => ?_))
  have hp0 : ¬ (pageL dI (smV x.2.2.1 (lnO x.2.2.2)) (lnO x.2.2.2)).isPrefixOf x.2.2.2 = true := by first | exact hnp | (rw [Bool.not_eq_true]; simpa using hnp)
  refine TC.exit (TQ.thenE (TQ.blkE dc (TQ.thenE (TQ.blkS (TQ.thenC (zr (zm rfl (zm rfl (za rfl (za rfl (zt (TQ.retE2 rfl rfl rfl ?_))))))))))))
  have e := hx.2.stop (pg_pre hp0)
  exact ⟨x.1, by rw [e]; exact congrArg (fun v => Value.tuple #[v, str x.2.2.2]) (ords_len hx.1), by rw [e]; exact hx.1, by rw [e]; exact List.sublist_append_left _ _⟩
  have hp1 : (pageL dI (smV x.2.2.1 (lnO x.2.2.2)) (lnO x.2.2.2)).isPrefixOf x.2.2.2 = true := by first | exact hnp | simpa using hnp
  rw [if_pos hp1]
  refine TC.skip (TQ.thenC (TC.region (zm rfl (zm rfl (TL.buildSlice (cs := #[str (lnO x.2.2.2)]) rfl Tb.sl_43 Tb.zi_9 dc (fill_s (lnO x.2.2.2)) dc rfl dc (fun bI hbI => ?_))))))
  refine TL.appendRec (R := stR) (h0 := x.1) (ys := x.2.1) (r := lnO x.2.2.2) Tb.sl_43 Tb.zi_9 rfl rfl rfl m9z hx.1 h9z om om rfl dc (fun h9 ho9 => ?_)
  refine zm rfl (za rfl (za rfl (TL.nil (TQ.blkN (TQ.thenN (TQ.backK (h9, x.2.1 ++ [lnO x.2.2.2], smV x.2.2.1 (lnO x.2.2.2), x.2.2.2.drop (pageL dI (smV x.2.2.1 (lnO x.2.2.2)) (lnO x.2.2.2)).length) l9z l9z (List.Sublist.append (List.Sublist.refl _) (List.nil_sublist _)) ⟨ho9, hx.2.next om (pg_yes hr1 hp1)⟩ (by simp only [List.length_append, List.length_cons, List.length_nil]; omega)))))))
  refine TC.exit (TQ.thenE (TQ.thenE (TQ.blkS (TQ.thenC (zr (zm rfl (zm rfl (za rfl (za rfl (zt (TQ.retE2 rfl rfl rfl ?_)))))))))))
  have e := hx.2.full (by omega)
  exact ⟨x.1, by rw [e]; exact congrArg (fun v => Value.tuple #[v, str x.2.2.2]) (ords_len hx.1), by rw [e]; exact hx.1, by rw [e]; exact List.sublist_append_left _ _⟩
end Go.Proofs.YtbnjmkidbfmomaaGreatDoor
namespace Go.Proofs.YtbnjmkidbfmomaaGreatDoor
open Go.Sx Go.RowKit Go.Bt Go.Lib Go.Sand
section
variable {P : Program} {n : Nat} {w0 : World} {E : Env} {G : Heap} {d : Option Nat} {ty : TypeId} {pos : String} {aft : Array Edge} {g : Option (Nat × Bool)}
theorem PV.neqU8 {x : Operand} {c c0 : UInt8} {t t' : TypeId} {z : Value} (hx : evo E x = some (.int .u8 (c.toNat : Int))) (hz : z = .int .u8 (c0.toNat : Int)) : PV P n w0 E G ⟨d, .binOp .neq t x (.const z) t', ty, pos, aft, g⟩ (.bool (decide (c ≠ c0))) := by
  subst hz
  have h : PV P n w0 E G ⟨d, .binOp .neq t x (.const (.int .u8 (c0.toNat : Int))) t', ty, pos, aft, g⟩ (.bool (decide ((c.toNat : Int) ≠ c0.toNat))) := fun a w hs => by
    simp only [execOp, hs.ev hx]
    simp [go_sem]
    rw [Bool.eq_iff_iff]; simp
  have e : decide ((c.toNat : Int) ≠ c0.toNat) = decide (c ≠ c0) := decide_eq_decide.2 (not_congr ⟨fun h => UInt8.toNat_inj.1 (by omega), fun h => by subst h; rfl⟩)
  rwa [e] at h
theorem str_size (L : List UInt8) : (⟨L.toArray⟩ : ByteArray).size = L.length := by simp [ByteArray.size]
theorem PV.slS {x y z : Operand} {L : List UInt8} {t : TypeId} {i j : Int} {l h : Nat} (hx : evo E x = some (str L)) (hy : evo E y = some (.int .i64 i)) (hz : evo E z = some (.int .i64 j)) (ht : P.underlying t = some .string) (hi : i = (l : Int)) (hj : j = (h : Int)) (hlh : l ≤ h) (hh : h ≤ L.length) :
    PV P n w0 E G ⟨d, .slice t x (some y) (some z) none, ty, pos, aft, g⟩ (str ((L.drop l).take (h - l))) := fun a w hs => by
  subst hi; subst hj
  simp only [execOp, hs.ev hx, Option.map_some, Option.map_none, hs.ev hy, hs.ev hz]
  have h2 := run_slice_string (P := P) w t ⟨L.toArray⟩ .i64 .i64 l h ht (by omega) (by omega) (by rw [str_size]; omega)
  rw [Int.toNat_natCast, Int.toNat_natCast, ByteArray.extract_mk] at h2
  simp [str, run_sliceAt_string _ _ _ _ _ _ ht, h2]
theorem PV.slSf {x y : Operand} {L : List UInt8} {t : TypeId} {i : Int} {l : Nat} (hx : evo E x = some (str L)) (hy : evo E y = some (.int .i64 i)) (ht : P.underlying t = some .string) (hi : i = (l : Int)) (hh : l ≤ L.length) :
    PV P n w0 E G ⟨d, .slice t x (some y) none none, ty, pos, aft, g⟩ (str (L.drop l)) := fun a w hs => by
  subst hi
  simp only [execOp, hs.ev hx, Option.map_some, Option.map_none, hs.ev hy]
  have h2 := run_slice_string_from_if (P := P) w t ⟨L.toArray⟩ .i64 l ht
  rw [if_pos ⟨by omega, by rw [str_size]; omega⟩, Int.toNat_natCast, str_size, ByteArray.extract_mk, show (L.drop l).take (L.length - l) = L.drop l from List.take_of_length_le (by simp)] at h2
  simp [str, run_sliceAt_string _ _ _ _ _ _ ht, h2]
theorem PV.slSt {x z : Operand} {L : List UInt8} {t : TypeId} {j : Int} {h : Nat} (hx : evo E x = some (str L)) (hz : evo E z = some (.int .i64 j)) (ht : P.underlying t = some .string) (hj : j = (h : Int)) (hh : h ≤ L.length) :
    PV P n w0 E G ⟨d, .slice t x none (some z) none, ty, pos, aft, g⟩ (str (L.take h)) := fun a w hs => by
  subst hj
  simp only [execOp, hs.ev hx, Option.map_some, Option.map_none, hs.ev hz]
  have h2 := run_slice_string_to_if (P := P) w t ⟨L.toArray⟩ .i64 h ht
  rw [if_pos ⟨by omega, by rw [str_size]; omega⟩, Int.toNat_natCast, ByteArray.extract_mk, List.drop_zero, Nat.sub_zero] at h2
  simp [str, run_sliceAt_string _ _ _ _ _ _ ht, h2]
end
structure Stp (c : UInt8) (l : List UInt8) (m k : Nat) : Prop where
  le : k ≤ m
  no : ∀ j, j < k → l.getD j 0 ≠ c
  at_ : k < m → l.getD k 0 = c
theorem Stp.notin {c : UInt8} {l : List UInt8} {m k : Nat} (h : Stp c l m k) (hm : m ≤ l.length) : c ∉ l.take k := fun hc => by
  obtain ⟨j, hj, e⟩ := List.getElem_of_mem hc
  rw [List.length_take] at hj
  refine h.no j (by omega) ?_
  rw [List.getElem_take] at e
  rw [List.getD_eq_getElem?_getD, List.getElem?_eq_getElem (by omega)]; exact e
theorem Stp.miss {c : UInt8} {l : List UInt8} {m k : Nat} (h : Stp c l m k) (hm : m ≤ l.length) (hk : k = m) : brk c (l.take m) = (l.take m, none) := by
  subst hk; exact brk_miss (h.notin hm)
theorem Stp.hit {c : UInt8} {l : List UInt8} {m k : Nat} (h : Stp c l m k) (hm : m ≤ l.length) (hk : k < m) : brk c (l.take m) = (l.take k, some ((l.drop (k + 1)).take (m - (k + 1)))) := by
  have e : l.take m = l.take k ++ c :: (l.drop (k + 1)).take (m - (k + 1)) := by
    have h1 : l.take m = (l.take m).take k ++ (l.take m).drop k := (List.take_append_drop k _).symm
    have h2 : (l.take m).take k = l.take k := by rw [List.take_take, Nat.min_eq_left (by omega)]
    have h3 : (l.take m).drop k = c :: (l.drop (k + 1)).take (m - (k + 1)) := by
      rw [List.drop_eq_getElem_cons (by rw [List.length_take]; omega), List.drop_take, List.getElem_take]
      have := h.at_ hk
      rw [List.getD_eq_getElem?_getD, List.getElem?_eq_getElem (by omega)] at this
      exact congrArg (· :: _) this
    rw [h1, h2, h3]
  rw [e]; exact brk_hit (h.notin hm)
section
variable {r : List UInt8} {k i : Nat} {sum : Int}
theorem pg_n1 (h : Stp 10 r r.length k) (hk : k = r.length) : pgF sum r = none := by
  have := h.miss (Nat.le_refl _) hk
  rw [List.take_length] at this
  unfold pgF; rw [this]
theorem st_line (h : Stp 10 r r.length k) (hk : k < r.length) : brk 10 r = (r.take k, some (r.drop (k + 1))) := by
  have := h.hit (Nat.le_refl _) hk
  rw [List.take_length, List.take_of_length_le (l := r.drop (k + 1)) (by rw [List.length_drop]; omega)] at this
  exact this
theorem pg_n2 (h : Stp 10 r r.length k) (hk : k < r.length) (h2 : Stp 32 r k i) (hi : i = k) : pgF sum r = none := by
  unfold pgF; rw [st_line h hk]; simp only; rw [h2.miss (by omega) hi]
theorem pg_n3 (h : Stp 10 r r.length k) (hk : k < r.length) (h2 : Stp 32 r k i) (hi : i < k) (h3 : rightS ((r.drop (i + 1)).take (k - (i + 1))) = false) : pgF sum r = none := by
  unfold pgF; rw [st_line h hk]; simp only; rw [h2.hit (by omega) hi]; simp only; rw [h3]; simp
theorem pg_n4 (h : Stp 10 r r.length k) (hk : k < r.length) (h2 : Stp 32 r k i) (hi : i < k) (h4 : itoa (smV sum ((r.drop (i + 1)).take (k - (i + 1)))) ≠ r.take i) : pgF sum r = none := by
  unfold pgF; rw [st_line h hk]; simp only; rw [h2.hit (by omega) hi]; simp only; rw [if_neg (fun h => h4 h.2)]
theorem pg_n5 (h : Stp 10 r r.length k) (hk : k < r.length) (h2 : Stp 32 r k i) (hi : i < k) (h3 : rightS ((r.drop (i + 1)).take (k - (i + 1))) = true) (h4 : itoa (smV sum ((r.drop (i + 1)).take (k - (i + 1)))) = r.take i) : PgR sum r ((r.drop (i + 1)).take (k - (i + 1))) (r.drop (k + 1)) := by
  refine pg_to ?_
  unfold pgF; rw [st_line h hk]; simp only; rw [h2.hit (by omega) hi]; simp only; rw [if_pos ⟨h3, h4⟩]
end
set_option maxHeartbeats 2000000 in
theorem rRead_ok (w0 : World) (hW : WAt w0) (t : List UInt8) (ht : t.length ≤ 1000000) :
    Calls Tryz.prog 44 #[str t] w0 (Post (X := HD) (fun h => .tuple #[.slice (gp h) (readL t).1.length (gc h), str (readL t).2]) (fun h => goR stR h (readL t).1) (fun h => gbR stR 9 h (readL t).1) w0) := by
  refine calls Tryz.func44 rfl (n := 79) rfl (by simp) ?_
  refine zr (za rfl (za rfl (zk (za rfl (zk (za rfl (zn (TC.seq (TC.block (TC.loopK [2, 3] (X := HD × List (List UInt8) × Int × List UInt8) (fun x => goR stR x.1 x.2.1 ∧ RdS t x.2.1 x.2.2.1 x.2.2.2) (fun x => [(4, gval x.1 x.2.1.length), (5, .int .i64 x.2.2.1), (0, str x.2.2.2)]) (fun x => gbR stR 9 x.1 x.2.1 ++ []) (fun x => 100 - x.2.1.length) (none, [], 0, t) ⟨⟨rfl, rfl⟩, RdS.zero t⟩ l9z (List.Sublist.refl _) ?_))))))))))
  intro x hx
  refine TC.seq (zr (zm rfl (zq (PV.lenO rfl hx.1) rfl (zq (PV.lss rfl rfl) rfl (zn (TC.cd rfl (fun hlt => ?_) (fun hlt => ?_)))))))
  refine TC.skip (TQ.thenC (TC.block (TC.seq ?_)))
  have hle := hx.2.len
  have hsm := hx.2.sm
  refine TC.region (za rfl (za rfl (zn (TC.seqK [0, 2, 3, 4, 5, 6] (X := Nat) (fun k => Stp 10 x.2.2.2 x.2.2.2.length k) (fun k => [(7, .int .i64 (k : Nat))]) (fun k => gbR stR 9 x.1 x.2.1 ++ []) ?_ ?_))))
  refine TC.block (TC.loopK [0, 2, 3, 4, 5, 6] (X := Nat) (fun k => k ≤ x.2.2.2.length ∧ ∀ j, j < k → x.2.2.2.getD j 0 ≠ 10) (fun k => [(7, .int .i64 (k : Nat))]) (fun k => gbR stR 9 x.1 x.2.1 ++ []) (fun k => x.2.2.2.length - k) 0 ⟨Nat.zero_le _, fun j hj => absurd hj (Nat.not_lt_zero _)⟩ l9z (List.Sublist.refl _) ?_)
  intro k hk
  have hk1 := hk.1
  refine TC.seq (zr (zm rfl (zm rfl (zq (PV.lenS rfl Tb.str_9) rfl (zq (PV.lss rfl rfl) rfl (zm rfl (TL.sp 16 rfl (fun ha => ?_) (fun ha => ?_))))))))
  refine zm rfl (zm rfl (zq (PV.indexS (j := k) rfl rfl Tb.str_9 rfl om) rfl (zq (PV.neqU8 (c0 := 10) rfl rfl) rfl (zq (PV.pickT rfl rfl) rfl (zn (TC.cd rfl (fun ha2 => ?_) (fun ha2 => ?_)))))))
  refine TC.skip (TQ.thenC (TC.block (TC.region (zm rfl (zq (PV.add rfl rfl om) rfl (za rfl (TL.nil (TQ.blkN (TQ.thenN (TQ.backK (k + 1) l9z l9z (List.Sublist.refl _) ⟨by omega, fun j hj => if e : j < k then hk.2 j e else (show k = j by omega) ▸ ha2⟩ om))))))))))
  refine TC.exit (TQ.thenE (TQ.thenE (TQ.blkS (TQ.thenN (TQ.midK k l9z l9z (List.Sublist.refl _) (by first | exact ⟨hk.1, hk.2, fun h9 => absurd h9 (by omega)⟩ | exact ⟨hk.1, hk.2, fun _ => Decidable.not_not.1 ha2⟩))))))
  refine zx rfl (zx rfl (zx rfl (zx rfl (zq (PV.pickF rfl rfl) rfl (zn (TC.condF rfl (TC.exit (TQ.thenE (TQ.thenE (TQ.blkS (TQ.thenN (TQ.midK k l9z l9z (List.Sublist.refl _) (by first | exact ⟨hk.1, hk.2, fun h9 => absurd h9 (by omega)⟩ | exact ⟨hk.1, hk.2, fun _ => Decidable.not_not.1 ha2⟩)))))))))))))
  intro k hA
  have hkl0 := hA.le
  refine TC.seqK [0, 2, 3, 4, 5, 7] (X := Nat) (fun i => Stp 32 x.2.2.2 k i) (fun i => [(6, .int .i64 (i : Nat))]) (fun i => gbR stR 9 x.1 x.2.1 ++ []) ?_ ?_
  refine TC.block (TC.loopK [0, 2, 3, 4, 5, 7] (X := Nat) (fun i => i ≤ k ∧ ∀ j, j < i → x.2.2.2.getD j 0 ≠ 32) (fun i => [(6, .int .i64 (i : Nat))]) (fun i => gbR stR 9 x.1 x.2.1 ++ []) (fun i => k - i) 0 ⟨Nat.zero_le _, fun j hj => absurd hj (Nat.not_lt_zero _)⟩ l9z (List.Sublist.refl _) ?_)
  intro i hi
  have hi1 := hi.1
  refine TC.seq (zr (zm rfl (zm rfl (zq (PV.lss rfl rfl) rfl (zm rfl (TL.sp 27 rfl (fun hb => ?_) (fun hb => ?_)))))))
  refine zm rfl (zm rfl (zq (PV.indexS (j := i) rfl rfl Tb.str_9 rfl om) rfl (zq (PV.neqU8 (c0 := 32) rfl rfl) rfl (zq (PV.pickT rfl rfl) rfl (zn (TC.cd rfl (fun hb2 => ?_) (fun hb2 => ?_)))))))
  refine TC.skip (TQ.thenC (TC.block (TC.region (zm rfl (zq (PV.add rfl rfl om) rfl (za rfl (TL.nil (TQ.blkN (TQ.thenN (TQ.backK (i + 1) l9z l9z (List.Sublist.refl _) ⟨by omega, fun j hj => if e : j < i then hi.2 j e else (show i = j by omega) ▸ hb2⟩ om))))))))))
  refine TC.exit (TQ.thenE (TQ.thenE (TQ.blkS (TQ.thenN (TQ.midK i l9z l9z (List.Sublist.refl _) (by first | exact ⟨hi.1, hi.2, fun h9 => absurd h9 (by omega)⟩ | exact ⟨hi.1, hi.2, fun _ => Decidable.not_not.1 hb2⟩))))))
  refine zx rfl (zx rfl (zx rfl (zx rfl (zq (PV.pickF rfl rfl) rfl (zn (TC.condF rfl (TC.exit (TQ.thenE (TQ.thenE (TQ.blkS (TQ.thenN (TQ.midK i l9z l9z (List.Sublist.refl _) (by first | exact ⟨hi.1, hi.2, fun h9 => absurd h9 (by omega)⟩ | exact ⟨hi.1, hi.2, fun _ => Decidable.not_not.1 hb2⟩)))))))))))))
  intro i hB
  refine TC.seq (TC.seq ?_)
  have hkl := hA.le
  have hil := hB.le
  refine TC.region (zm rfl (zm rfl (zq (PV.lenS rfl Tb.str_9) rfl (zq (PV.eql rfl rfl) rfl (zm rfl (TL.sp 39 rfl (fun hc1 => ?_) (fun hc1 => ?_)))))))
  refine zx rfl (zx rfl (zx rfl (zq (PV.pickT rfl rfl) rfl (zm rfl (zx rfl (zx rfl (zx rfl (zx rfl (zx rfl (zx rfl (zx rfl (zq (PV.pickT rfl rfl) rfl (zn (TC.condT rfl (TC.exit (TQ.thenE (TQ.blkE dc (TQ.thenE (TQ.blkS (TQ.thenC (zr (zm rfl (zm rfl (za rfl (za rfl (zt (TQ.retE2 rfl rfl rfl ?_)))))))))))))))))))))))))))
  have e := hx.2.stop (pg_n1 hA (by omega))
  exact ⟨x.1, by rw [e]; exact congrArg (fun v => Value.tuple #[v, str x.2.2.2]) (ords_len hx.1), by rw [e]; exact hx.1, by rw [e]; exact List.sublist_append_left _ _⟩
  refine zm rfl (zm rfl (zq (PV.eql rfl rfl) rfl (zq (PV.pickF rfl rfl) rfl (zm rfl (TL.sp 44 rfl (fun hc2 => ?_) (fun hc2 => ?_))))))
  refine zx rfl (zx rfl (zx rfl (zx rfl (zx rfl (zx rfl (zx rfl (zq (PV.pickT rfl rfl) rfl (zn (TC.condT rfl (TC.exit (TQ.thenE (TQ.blkE dc (TQ.thenE (TQ.blkS (TQ.thenC (zr (zm rfl (zm rfl (za rfl (za rfl (zt (TQ.retE2 rfl rfl rfl ?_))))))))))))))))))))))
  have e := hx.2.stop (pg_n2 hA (by omega) hB (by omega))
  exact ⟨x.1, by rw [e]; exact congrArg (fun v => Value.tuple #[v, str x.2.2.2]) (ords_len hx.1), by rw [e]; exact hx.1, by rw [e]; exact List.sublist_append_left _ _⟩
  refine zm rfl (zm rfl (zq (PV.add rfl rfl om) rfl (zm rfl (zq (PV.slS (l := i + 1) (h := k) rfl rfl rfl Tb.str_9 rfl rfl om om) rfl (TL.call rfl Tb.gofn_83 (fun a w hs => Right_ok w ((x.2.2.2.drop (i + 1)).take (k - (i + 1))) (by rw [List.length_take, List.length_drop]; omega)) rfl dc (fun _ _ => ?_))))))
  refine zq ((by first | exact PV.notD rfl | exact PV.not rfl)) rfl ?_
  refine zq (PV.pickF rfl rfl) rfl (zn (TC.cd rfl (fun hc3 => ?_) (fun hc3 => ?_)))
  have hr0 : rightS ((x.2.2.2.drop (i + 1)).take (k - (i + 1))) = false := decide_eq_false hc3
  refine TC.exit (TQ.thenE (TQ.blkE dc (TQ.thenE (TQ.blkS (TQ.thenC (zr (zm rfl (zm rfl (za rfl (za rfl (zt (TQ.retE2 rfl rfl rfl ?_))))))))))))
  have e := hx.2.stop (pg_n3 hA (by omega) hB (by omega) hr0)
  exact ⟨x.1, by rw [e]; exact congrArg (fun v => Value.tuple #[v, str x.2.2.2]) (ords_len hx.1), by rw [e]; exact hx.1, by rw [e]; exact List.sublist_append_left _ _⟩
  have hr1 : rightS ((x.2.2.2.drop (i + 1)).take (k - (i + 1))) = true := decide_eq_true (by simpa using hc3)
  refine TC.skip (TQ.thenC (TC.seq ?_))
  have hsl : ((x.2.2.2.drop (i + 1)).take (k - (i + 1))).length ≤ 1000000 := by rw [List.length_take, List.length_drop]; omega
  refine TC.region (zm rfl (zm rfl (zq (PV.add rfl rfl om) rfl (zm rfl (zq (PV.slS (l := i + 1) (h := k) rfl rfl rfl Tb.str_9 rfl rfl om om) rfl (za rfl (zn (TC.seq (TC.seq (TC.mixV [true, true, false, false, true, true, true, true] [] 8 Tb.mixed rfl kr kr kr kr s9z ?_))))))))))
  refine zv 0 rfl kr (PV.move rfl) rfl (zv 1 rfl kr (PV.move rfl) rfl (zv 4 rfl kr (PV.move rfl) rfl (zv 5 rfl kr (PV.move rfl) rfl (zv 6 rfl kr (PV.slSt (h := i) rfl rfl Tb.str_9 rfl om) rfl (TV.step [2] kr dc rfl ⟨⟨_, rfl, ?_⟩, trivial⟩)))))
  refine TL.call rfl Tb.gofn_47 (fun a w hs => rSum_ok w x.2.2.1 om ((x.2.2.2.drop (i + 1)).take (k - (i + 1))) hsl) rfl dc (fun _ _ => ?_)
  refine TL.nil (TV.next (.inl s9z) ?_)
  refine TV.step [3] kr dc rfl ⟨⟨_, rfl, ?_⟩, trivial⟩
  refine TL.call rfl Tb.gofn_78 (fun a w hs => itoa_ok w (hW.new hs.new) _ (by have := (smV_bd x.2.2.1 ((x.2.2.2.drop (i + 1)).take (k - (i + 1)))).1; omega) (by have := (smV_bd x.2.2.1 ((x.2.2.2.drop (i + 1)).take (k - (i + 1)))).2; omega)) rfl dc (fun _ _ => ?_)
  refine TL.nil (TV.next (.inl s9z) ?_)
  refine zv 7 rfl kr (PV.neqS rfl rfl) rfl (TV.done kr ?_)
  refine TQ.thenC (TC.cd rfl (fun hc4 => ?_) (fun hc4 => ?_))
  have hd0 : itoa (smV x.2.2.1 ((x.2.2.2.drop (i + 1)).take (k - (i + 1)))) ≠ x.2.2.2.take i := hc4
  refine TC.exit (TQ.thenE (TQ.blkE dc (TQ.thenE (TQ.blkS (TQ.thenC (zr (zm rfl (zm rfl (za rfl (za rfl (zt (TQ.retE2 rfl rfl rfl ?_))))))))))))
  have e := hx.2.stop (pg_n4 hA (by omega) hB (by omega) hd0)
  exact ⟨x.1, by rw [e]; exact congrArg (fun v => Value.tuple #[v, str x.2.2.2]) (ords_len hx.1), by rw [e]; exact hx.1, by rw [e]; exact List.sublist_append_left _ _⟩
  have hd1 : itoa (smV x.2.2.1 ((x.2.2.2.drop (i + 1)).take (k - (i + 1)))) = x.2.2.2.take i := Decidable.not_not.1 hc4
  refine TC.skip (TQ.thenC (zr (zm rfl (zm rfl (TL.call rfl Tb.gofn_47 (fun a w hs => rSum_ok w x.2.2.1 om ((x.2.2.2.drop (i + 1)).take (k - (i + 1))) hsl) rfl dc (fun _ _ => ?_))))))
  refine za rfl (zk (zm rfl (zm rfl (TL.buildSlice (cs := #[str ((x.2.2.2.drop (i + 1)).take (k - (i + 1)))]) rfl Tb.sl_43 Tb.zi_9 dc (fill_s ((x.2.2.2.drop (i + 1)).take (k - (i + 1)))) dc rfl dc (fun bI hbI => ?_)))))
  refine TL.appendRec (R := stR) (h0 := x.1) (ys := x.2.1) (r := ((x.2.2.2.drop (i + 1)).take (k - (i + 1)))) Tb.sl_43 Tb.zi_9 rfl rfl rfl m9z hx.1 h9z om om rfl dc (fun h9 ho9 => ?_)
  refine za rfl (zn (TC.region (zm rfl (zm rfl (zq (PV.add rfl rfl om) rfl (zq (PV.slSf (l := k + 1) rfl rfl Tb.str_9 rfl om) rfl (za rfl (TL.nil (TQ.blkN (TQ.thenN (TQ.backK (h9, x.2.1 ++ [((x.2.2.2.drop (i + 1)).take (k - (i + 1)))], smV x.2.2.1 ((x.2.2.2.drop (i + 1)).take (k - (i + 1))), x.2.2.2.drop (k + 1)) l9z l9z (List.Sublist.append (List.Sublist.refl _) (List.nil_sublist _)) ⟨ho9, hx.2.next om (pg_n5 hA om hB om hr1 hd1)⟩ (by simp only [List.length_append, List.length_cons, List.length_nil]; omega))))))))))))
  refine TC.exit (TQ.thenE (TQ.thenE (TQ.blkS (TQ.thenC (zr (zm rfl (zm rfl (za rfl (za rfl (zt (TQ.retE2 rfl rfl rfl ?_)))))))))))
  have e := hx.2.full (by omega)
  exact ⟨x.1, by rw [e]; exact congrArg (fun v => Value.tuple #[v, str x.2.2.2]) (ords_len hx.1), by rw [e]; exact hx.1, by rw [e]; exact List.sublist_append_left _ _⟩
end Go.Proofs.YtbnjmkidbfmomaaGreatDoor
namespace Go.Proofs.YtbnjmkidbfmomaaGreatDoor
open Go.Sx Go.RowKit Go.Bt Go.Lib Go.Sand
theorem ords_now {h : HD} {L : List (List UInt8)} (ho : goR stR h L) {k : Nat} (hk : k < L.length) : ∃ q, gp h = some q ∧ ∀ (w0 w : World) (Z : Heap), (∀ y ∈ gbR stR 9 h L, y ∈ Z) → New w0 w Z → w.cell? (q.add (k * 1)) = some (str (L.getD k [])) := by
  obtain _ | ⟨b, cap, sp⟩ := h
  · have h0 : L.length = 0 := ho.2
    omega
  · refine ⟨⟨b, 0, none⟩, rfl, fun w0 w Z hm hn => ?_⟩
    obtain ⟨q, h1, h2⟩ := ords_at hn hm ho k hk
    injection h1 with h1
    subst h1
    exact h2
section
variable {P : Program} {n : Nat} {w0 : World} {E : Env} {G : Heap} {d : Option Nat} {ty : TypeId} {pos : String} {aft : Array Edge} {g : Option (Nat × Bool)}
theorem PV.loadO {x : Operand} {q : Addr} {t : Nat} {h : HD} {L : List (List UInt8)} {k : Nat} (hx : evo E x = some (.pointer (some (q.add (k * 1))))) (ht : oneB P t = true) (hm : ∀ y ∈ gbR stR 9 h L, y ∈ G)
    (qv : ∀ (w0 w : World) (Z : Heap), (∀ y ∈ gbR stR 9 h L, y ∈ Z) → New w0 w Z → w.cell? (q.add (k * 1)) = some (str (L.getD k []))) : PV P n w0 E G ⟨d, .load t x, ty, pos, aft, g⟩ (str (L.getD k [])) :=
  PV.loadN hx ht (List.Sublist.refl _) fun w hn => qv _ _ _ hm hn
end
def MrP (A B : List (List UInt8) × List UInt8) (t u : List UInt8) (y : List UInt8 × Int × Int) : Prop :=
  ((A.2 ≠ [] ∨ B.2 ≠ []) ∧ y = ([], 0, 12)) ∨ (¬ (A.2 ≠ [] ∨ B.2 ≠ []) ∧ ((∃ k : Nat, k < min A.1.length B.1.length ∧ (∀ j, j < k → A.1.getD j [] = B.1.getD j []) ∧ A.1.getD k [] ≠ B.1.getD k [] ∧ y = ([], (k : Int), 7)) ∨
    ((∀ j, j < min A.1.length B.1.length → A.1.getD j [] = B.1.getD j []) ∧ y = if A.1.length < B.1.length then (u, (B.1.length : Int), 0) else (t, (A.1.length : Int), 0))))
section
variable {A B : List (List UInt8) × List UInt8} {t u : List UInt8}
end
end Go.Proofs.YtbnjmkidbfmomaaGreatDoor
