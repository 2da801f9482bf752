/- Xr Xs Xt Xu Xv Xw Xy Yc Ya Yb Yd Ye Yf Yo -/
import Derived.Test.YtbnjmkidbfmomaaGreatDoorW06
import Derived.Test.YtbnjmkidbfmomaaGreatDoorW16
import Derived.Test.YtbnjmkidbfmomaaGreatDoorW20
import Derived.Test.YtbnjmkidbfmomaaGreatDoorW21
set_option linter.unusedVariables false
set_option linter.unusedSimpArgs false
set_option maxRecDepth 100000
namespace Go.Proofs.YtbnjmkidbfmomaaGreatDoor
open Go.Sx Go.RowKit Go.Bt Go.Lib Go.Sand
section
variable {P : Program} {n : Nat} {w0 : World} {E : Env} {G : Heap} {d : Option Nat} {ty : TypeId} {pos : String} {aft : Array Edge} {g : Option (Nat × Bool)} {o : Oper}
theorem PV.to {v v' : Value} (h : PV P n w0 E G o v) (e : v = v') : PV P n w0 E G o v' := e ▸ h
theorem PV.yes {p : Prop} [Decidable p] (h : PV P n w0 E G o (.bool (decide p))) (e : p) : PV P n w0 E G o (.bool true) := PV.to h (congrArg Value.bool (decide_eq_true e))
theorem PV.no {p : Prop} [Decidable p] (h : PV P n w0 E G o (.bool (decide p))) (e : ¬ p) : PV P n w0 E G o (.bool false) := PV.to h (congrArg Value.bool (decide_eq_false e))
theorem PV.remU {x y : Operand} {i j : Int} {t t' : TypeId} (hx : evo E x = some (.int .u64 i)) (hy : evo E y = some (.int .u64 j)) (hj : j ≠ 0) (h : 0 ≤ i.tmod j ∧ i.tmod j < 18446744073709551616) : PV P n w0 E G ⟨d, .binOp .rem t x y t', ty, pos, aft, g⟩ (.int .u64 (i.tmod j)) :=
  fun a w hs => by
    have hw : IntKind.u64.wrap (i.tmod j) = i.tmod j := by rw [IntKind.wrap_u64]; omega
    simp only [execOp, hs.ev hx, hs.ev hy]; simp [go_sem, Op.intDiv, hw, hj]
theorem sl_id (a : Option Addr) (h : Nat) : sliced a 0 h h 1 = .slice a h h := by
  unfold sliced
  cases a with
  | none => simp
  | some a => cases a; simp [Addr.add]
theorem run_sl43 (a : Option Addr) (len cap h : Nat) (hc : h ≤ cap) (w : World) : (Instr.sliceAt 43 (.slice a len cap) none (some (.int .i64 (h : Int))) (some (.int .i64 (h : Int)))).run Tryz.prog w = .ok (.slice a h h) w := by
  have ht : Tryz.prog.underlying 43 = some (.slice (Tryz.prog.elem 43)) := by kernel_rfl
  have hs : ∀ w, ((sizeOf (Tryz.prog.elem 43)).run Tryz.prog w) = .ok 1 w := fun w => by kernel_rfl
  rw [run_sliceAt_slice (h := ht), run_slice_hm w 43 a len cap ht .i64 .i64 h h (by omega) (by omega) (by omega), hs]
  simp only [Result.andThen, Int.toNat_natCast]
  rw [sl_id]
theorem PV.slice43 {x y z : Operand} {a : Option Addr} {len cap h : Nat} {i j : Int} (hx : evo E x = some (.slice a len cap)) (hy : evo E y = some (.int .i64 i)) (hz : evo E z = some (.int .i64 j)) (hi : i = (h : Int)) (hj : j = (h : Int)) (hc : h ≤ cap) :
    PV Tryz.prog n w0 E G ⟨d, .slice 43 x none (some y) (some z), ty, pos, aft, g⟩ (.slice a h h) := fun A w hs => by
  subst hi; subst hj
  simp only [execOp, hs.ev hx, Option.map_some, Option.map_none, hs.ev hy, hs.ev hz]
  simp [run_sl43 a len cap h hc]
end
theorem sameT_is (w0 : World) (p1 : Option Addr) (c1 : Nat) (xs : List (List UInt8)) (hx : StrsAt w0 p1 xs) (p2 : Option Addr) (c2 : Nat) (ys : List (List UInt8)) (hy : StrsAt w0 p2 ys) (hl : xs.length ≤ 1000000) (e : xs = ys) :
    Calls Tryz.prog 45 #[.slice p1 xs.length c1, .slice p2 ys.length c2] w0 (Post (X := Unit) (fun _ => .bool true) (fun _ => True) (fun _ => []) w0) := by
  have h := sameT_ok w0 p1 c1 xs hx p2 c2 ys hy hl (by rw [← e]; exact hl)
  rw [decide_eq_true e] at h
  exact h
theorem sameT_is2 (w0 : World) (p1 : Option Addr) (c1 : Nat) (xs : List (List UInt8)) (hx : StrsAt w0 p1 xs) (p2 : Option Addr) (c2 : Nat) (hy : StrsAt w0 p2 xs) (j : Nat) (hj : xs.length = j) (hl : j ≤ 1000000) :
    Calls Tryz.prog 45 #[.slice p1 j c1, .slice p2 j c2] w0 (Post (X := Unit) (fun _ => .bool true) (fun _ => True) (fun _ => []) w0) := by
  subst hj
  exact sameT_is w0 p1 c1 xs hx p2 c2 xs hy hl rfl
theorem rd_100 (t : List UInt8) : (readL t).1.length ≤ 100 := (rd_sound 100 0 t).2.1
theorem bk_len : ∀ (L : List (List UInt8)) (sum : Int), L.all rightS = true → (bkN sum L).length ≤ 50 * L.length
  | [], _, _ => Nat.zero_le _
  | s :: L, sum, h => by
    rw [List.all_cons, Bool.and_eq_true] at h
    have ih := bk_len L (smV sum s) h.2
    have h1 := right_of h.1
    have h2 := dI_len (smV_bd sum s).1 (smV_bd sum s).2
    show (pageL dI (smV sum s) s ++ bkN (smV sum s) L).length ≤ _
    unfold pageL
    simp only [List.length_append, List.length_cons, List.length_nil]
    omega
theorem long_no {L : List (List UInt8)} (h : ¬ longB L = true) : L.length ≤ 300 ∧ ∀ j, (L.getD j []).length ≤ 400 := by
  unfold longB at h
  rw [Bool.not_eq_true, Bool.or_eq_false_iff] at h
  have h2 := of_decide_eq_false h.2
  refine ⟨by omega, fun j => ?_⟩
  by_cases hj : j < L.length
  · have h3 := List.any_eq_false.1 h.1 L[j] (List.getElem_mem hj)
    have e : L.getD j [] = L[j] := by simp [List.getD, hj]
    rw [e]; simpa using h3
  · have e : L.getD j [] = [] := by rw [List.getD_eq_getElem?_getD, List.getElem?_eq_none (by omega)]; rfl
    rw [e]; exact Nat.zero_le _
theorem StrsAt.take {w : World} {p : Option Addr} {L : List (List UInt8)} (h : StrsAt w p L) (j : Nat) : StrsAt w p (L.take j) := fun k hk => by
  rw [List.length_take] at hk
  obtain ⟨q, h1, h2⟩ := h k (by omega)
  refine ⟨q, h1, ?_⟩
  rw [show (L.take j).getD k [] = L.getD k [] by simp [List.getD, List.getElem?_take, show k < j by omega]]
  exact h2
theorem pick_k (n : Int) (m : Nat) : ∃ k : Nat, k ≤ m ∧ (IntKind.u64.wrap n).tmod ((m : Int) + 1) = (k : Int) := by
  have h0 : 0 ≤ IntKind.u64.wrap n := by rw [IntKind.wrap_u64]; omega
  have h1 := Int.emod_nonneg (IntKind.u64.wrap n) (show ((m : Int) + 1) ≠ 0 by omega)
  have h2 := Int.emod_lt_of_pos (IntKind.u64.wrap n) (show 0 < ((m : Int) + 1) by omega)
  refine ⟨((IntKind.u64.wrap n) % ((m : Int) + 1)).toNat, by omega, ?_⟩
  rw [Int.tmod_eq_emod_of_nonneg h0]
  omega
end Go.Proofs.YtbnjmkidbfmomaaGreatDoor
namespace Go.Proofs.YtbnjmkidbfmomaaGreatDoor
open Go.Sx Go.RowKit Go.Bt Go.Lib Go.Sand
def largeB (W K : List (List Int)) (g : List Int) : Bool := W.any (fun l => decide (50 < l.length)) || K.any (fun l => decide (50 < l.length)) || decide (50 < W.length) || decide (50 < K.length) || decide (50 < g.length)
theorem large_no {W K : List (List Int)} {g : List Int} (h : largeB W K g = false) : W.length ≤ 50 ∧ K.length ≤ 50 ∧ g.length ≤ 50 ∧ (∀ k, (W.getD k []).length ≤ 50) ∧ ∀ k, (K.getD k []).length ≤ 50 := by
  unfold largeB at h
  simp only [Bool.or_eq_false_iff, decide_eq_false_iff_not] at h
  obtain ⟨⟨⟨⟨h1, h2⟩, h3⟩, h4⟩, h5⟩ := h
  have row : ∀ (M : List (List Int)), M.any (fun l => decide (50 < l.length)) = false → ∀ k, (M.getD k []).length ≤ 50 := fun M hM k => by
    by_cases hk : k < M.length
    · have h9 := List.any_eq_false.1 hM M[k] (List.getElem_mem hk)
      have e : M.getD k [] = M[k] := by simp [List.getD, hk]
      rw [e]; simpa using h9
    · have e : M.getD k [] = [] := by rw [List.getD_eq_getElem?_getD, List.getElem?_eq_none (by omega)]; rfl
      rw [e]; exact Nat.zero_le _
  exact ⟨by omega, by omega, by omega, row W h1, row K h2⟩
theorem lg_1 {W K : List (List Int)} {g : List Int} {k : Nat} (hk : k < W.length) (h : 50 < (W.getD k []).length) : largeB W K g = true := by
  unfold largeB
  rw [any_yes (d := []) hk (decide_eq_true h)]; rfl
theorem lg_2 {W K : List (List Int)} {g : List Int} {k : Nat} (hk : k < K.length) (h : 50 < (K.getD k []).length) : largeB W K g = true := by
  unfold largeB
  rw [any_yes (L := K) (d := []) hk (decide_eq_true h), Bool.or_true]; rfl
theorem lg_3 {W K : List (List Int)} {g : List Int} (h1 : (W.take W.length).any (fun l => decide (50 < l.length)) = false) (h2 : (K.take K.length).any (fun l => decide (50 < l.length)) = false) : largeB W K g = (decide (50 < W.length) || decide (50 < K.length) || decide (50 < g.length)) := by
  rw [List.take_length] at h1 h2
  unfold largeB
  rw [h1, h2]; rfl
def cntI (h : List UInt8) : Int := match kdF h with | none => -1 | some (_, c) => (c : Int)
set_option maxHeartbeats 1000000 in
theorem Large_ok (w0 : World) (p : Option Addr) (cp : Nat) (W : List (List Int)) (hr : LsAt w0 p W) (q : Option Addr) (cq : Nat) (K : List (List Int)) (hk : LsAt w0 q K) (r : Option Addr) (cr : Nat) (g : List Int) (need : Int) (hW : W.length ≤ 9223372036854775807) (hK : K.length ≤ 9223372036854775807) :
    Calls Tryz.prog 30 #[.agg #[.slice p W.length cp, .slice q K.length cq, .slice r g.length cr, .int .i64 need]] w0 (Post (X := Unit) (fun _ => .bool (largeB W K g)) (fun _ => True) (fun _ => []) w0) := by
  refine calls Tryz.func30 rfl (n := 56) rfl (by simp) ?_
  refine zr (TL.box rfl rfl dc (fun b0 hb0 => ?_))
  refine za rfl (zn (TC.seq (zr (za rfl (zn (TC.block (TC.loopK [1] (X := Nat) (fun k => k ≤ W.length ∧ (W.take k).any (fun l => decide (50 < l.length)) = false) (fun k => [(3, .int .i64 (k : Nat))]) (fun k => [(b0, Obj.cells #[.slice p W.length cp, .slice q K.length cq, .slice r g.length cr, .int .i64 need] 29 (0, 0))]) (fun k => W.length - k) 0 ⟨Nat.zero_le _, rfl⟩ l9z (List.Sublist.refl _) ?_)))))))
  intro k hk9
  have hk1 := hk9.1
  refine TC.seq (zr (zm rfl (zq (PV.fieldAddr rfl Tb.fo_29_0) rfl (zq (PV.fieldAddr rfl Tb.fo_24_0) rfl (zq (PV.load rfl Tb.one_22 m9z rfl) rfl ?_)))))
  refine zq (PV.len rfl Tb.sl_22) rfl (zq (PV.lss rfl rfl) rfl (zn (TC.cd rfl (fun hlt => ?_) (fun hlt => ?_))))
  refine TC.skip (TQ.thenC (TC.seq (TC.block (TC.seq ?_))))
  obtain ⟨q1, q1p, pj, cj, q1c, q1i⟩ := hr k (by omega)
  refine TC.region (zq (PV.fieldAddr rfl Tb.fo_29_0) rfl (zq (PV.fieldAddr rfl Tb.fo_24_0) rfl (zq (PV.load rfl Tb.one_22 m9z rfl) rfl ?_)))
  refine zm rfl (zq (PV.indexA rfl q1p rfl Tb.elm_22 rfl om) rfl (zq (PV.loadOld rfl Tb.one_25 q1c) rfl (zq (PV.len rfl Tb.sl_25) rfl (zq (PV.gtr rfl rfl) rfl (zn (TC.cd rfl (fun hb => ?_) (fun hb => ?_)))))))
  refine zr (za rfl (zt (TQ.blkR (TQ.thenR (TQ.thenR (TQ.blkR (TQ.thenR (TQ.retE1 rfl rfl ?_))))))))
  exact ⟨(), by rw [lg_1 (k := k) (by omega) (by omega)], trivial, nils⟩
  refine TC.skip (TQ.blkN (TQ.thenC (TC.region (zm rfl (zq (PV.add rfl rfl om) rfl (za rfl (TL.nil (TQ.thenN (TQ.backK (k + 1) l9z l9z (List.Sublist.refl _) ⟨by omega, any_take_next (d := []) om hk9.2 (decide_eq_false om)⟩ om)))))))))
  refine TC.exit (TQ.thenE (TQ.thenE (TQ.blkS (TQ.thenC (TC.seq (TC.seq ?_))))))
  have hA := hk9.2
  have hAe : k = W.length := by omega
  rw [hAe] at hA
  clear hAe
  refine TC.region (za rfl (zn (TC.block (TC.loopK [1] (X := Nat) (fun k => k ≤ K.length ∧ (K.take k).any (fun l => decide (50 < l.length)) = false) (fun k => [(4, .int .i64 (k : Nat))]) (fun k => [(b0, Obj.cells #[.slice p W.length cp, .slice q K.length cq, .slice r g.length cr, .int .i64 need] 29 (0, 0))]) (fun k => K.length - k) 0 ⟨Nat.zero_le _, rfl⟩ l9z (List.Sublist.refl _) ?_))))
  intro k hk9
  have hk1 := hk9.1
  refine TC.seq (zr (zm rfl (zq (PV.fieldAddr rfl Tb.fo_29_1) rfl (zq (PV.fieldAddr rfl Tb.fo_27_0) rfl (zq (PV.load rfl Tb.one_22 m9z rfl) rfl ?_)))))
  refine zq (PV.len rfl Tb.sl_22) rfl (zq (PV.lss rfl rfl) rfl (zn (TC.cd rfl (fun hlt2 => ?_) (fun hlt2 => ?_))))
  refine TC.skip (TQ.thenC (TC.seq (TC.block (TC.seq ?_))))
  obtain ⟨q2, q2p, pj, cj, q2c, q2i⟩ := hk k (by omega)
  refine TC.region (zq (PV.fieldAddr rfl Tb.fo_29_1) rfl (zq (PV.fieldAddr rfl Tb.fo_27_0) rfl (zq (PV.load rfl Tb.one_22 m9z rfl) rfl ?_)))
  refine zm rfl (zq (PV.indexA rfl q2p rfl Tb.elm_22 rfl om) rfl (zq (PV.loadOld rfl Tb.one_25 q2c) rfl (zq (PV.len rfl Tb.sl_25) rfl (zq (PV.gtr rfl rfl) rfl (zn (TC.cd rfl (fun hb2 => ?_) (fun hb2 => ?_)))))))
  refine zr (za rfl (zt (TQ.blkR (TQ.thenR (TQ.thenR (TQ.blkR (TQ.thenR (TQ.retE1 rfl rfl ?_))))))))
  exact ⟨(), by rw [lg_2 (k := k) (by omega) (by omega)], trivial, nils⟩
  refine TC.skip (TQ.blkN (TQ.thenC (TC.region (zm rfl (zq (PV.add rfl rfl om) rfl (za rfl (TL.nil (TQ.thenN (TQ.backK (k + 1) l9z l9z (List.Sublist.refl _) ⟨by omega, any_take_next (d := []) om hk9.2 (decide_eq_false om)⟩ om)))))))))
  refine TC.exit (TQ.thenE (TQ.thenE (TQ.blkS (TQ.thenC (TC.seq ?_)))))
  have hB := hk9.2
  have hBe : k = K.length := by omega
  rw [hBe] at hB
  refine TC.region (zq (PV.fieldAddr rfl Tb.fo_29_0) rfl (zq (PV.fieldAddr rfl Tb.fo_24_0) rfl (zq (PV.load rfl Tb.one_22 m9z rfl) rfl ?_)))
  refine zq (PV.len rfl Tb.sl_22) rfl (zq (PV.gtr rfl rfl) rfl (zm rfl (TL.sp 42 rfl (fun g1 => ?_) (fun g1 => ?_))))
  refine zx rfl (zx rfl (zx rfl (zx rfl (zx rfl (zq (PV.pickT rfl rfl) rfl (zm rfl (zx rfl (zx rfl (zx rfl (zx rfl (zx rfl (zq (PV.pickT rfl rfl) rfl (za rfl (zt (TQ.retE1 rfl rfl ?_)))))))))))))))
  exact ⟨(), congrArg Value.bool (by rw [lg_3 hA hB, decide_eq_true (show 50 < W.length by omega)]; rfl), trivial, nils⟩
  refine zq (PV.fieldAddr rfl Tb.fo_29_1) rfl (zq (PV.fieldAddr rfl Tb.fo_27_0) rfl (zq (PV.load rfl Tb.one_22 m9z rfl) rfl ?_))
  refine zq (PV.len rfl Tb.sl_22) rfl (zq (PV.gtr rfl rfl) rfl (zq (PV.pickF rfl rfl) rfl (zm rfl (TL.sp 49 rfl (fun g2 => ?_) (fun g2 => ?_)))))
  refine zx rfl (zx rfl (zx rfl (zx rfl (zx rfl (zq (PV.pickT rfl rfl) rfl (za rfl (zt (TQ.retE1 rfl rfl ?_))))))))
  exact ⟨(), congrArg Value.bool (by rw [lg_3 hA hB, decide_eq_true (show 50 < K.length by omega), Bool.or_true]; rfl), trivial, nils⟩
  refine zq (PV.fieldAddr rfl Tb.fo_29_1) rfl (zq (PV.fieldAddr rfl Tb.fo_27_1) rfl (zq (PV.load rfl Tb.one_25 m9z rfl) rfl ?_))
  refine zq (PV.len rfl Tb.sl_25) rfl (zq (PV.gtr rfl rfl) rfl (zq (PV.pickF rfl rfl) rfl (za rfl (zt (TQ.retE1 rfl rfl ?_)))))
  exact ⟨(), congrArg Value.bool (by rw [lg_3 hA hB, decide_eq_false (show ¬ 50 < W.length by omega), decide_eq_false (show ¬ 50 < K.length by omega)]; show _ = (false || decide (50 < g.length)); rw [Bool.false_or]; exact decide_eq_decide.2 (by omega)), trivial, nils⟩
end Go.Proofs.YtbnjmkidbfmomaaGreatDoor
namespace Go.Proofs.YtbnjmkidbfmomaaGreatDoor
open Go.Sx Go.RowKit Go.Bt Go.Lib Go.Sand
end Go.Proofs.YtbnjmkidbfmomaaGreatDoor
namespace Go.Proofs.YtbnjmkidbfmomaaGreatDoor
open Go.Sx Go.RowKit Go.Bt Go.Lib Go.Sand
structure RV where
  bh : Nat
  ht : HD
abbrev rcL (s : St) (u : SU) (c : Co) (v : RV) (o : Value) : List Value := [.slice u.pw s.W.length u.cw, .slice u.pk s.K.length u.ck, .slice u.pg s.g.length u.cg, .int .i64 (C.dep s.W : Nat), .int .i64 (s.W.length : Nat), .int .i64 s.need,
  .int .i64 c.day, .int .i64 (c.wet : Nat), .int .i64 c.money, .int .i64 c.cut, .int .i64 c.load, .int .i64 c.grd, .slice (some ⟨v.bh, 0, none⟩) c.hol.length c.hol.length, .slice (gp v.ht) c.tur.length (gc v.ht), .bool c.shut, o]
abbrev rcB (b : Nat) (s : St) (u : SU) (c : Co) (v : RV) (ho : HD) : Nat × Obj := (b, .cells (rcL s u c v (gval ho c.ords.length)).toArray 54 (0, 0))
abbrev rcH (c : Co) (v : RV) : Nat × Obj := (v.bh, .cells (intsA c.hol) 3 (0, 0))
abbrev suR (yw : HD × List RW) (q : Option Addr) (cq : Nat) (r : Option Addr) (cr : Nat) : SU := ⟨gp yw.1, gc yw.1, yw.2.map fun r => (gp r.h, gc r.h), q, cq, r, cr⟩
end Go.Proofs.YtbnjmkidbfmomaaGreatDoor
namespace Go.Proofs.YtbnjmkidbfmomaaGreatDoor
open Go.Sx Go.RowKit Go.Bt Go.Lib Go.Sand
structure WdS (L : List UInt8) (i : Nat) (ws : List (List UInt8)) (st : Nat) : Prop where
  le : i ≤ L.length + 1
  len : ws.length ≤ i
  a : i ≤ L.length → st ≤ i ∧ spl 32 L = ws ++ spl 32 (L.drop st) ∧ ∀ j, st ≤ j → j < i → L.getD j 0 ≠ 32
  z : i = L.length + 1 → ws = spl 32 L
end Go.Proofs.YtbnjmkidbfmomaaGreatDoor
namespace Go.Proofs.YtbnjmkidbfmomaaGreatDoor
open Go.Sx Go.RowKit Go.Bt Go.Lib Go.Sand
section
variable {P : Program} {n : Nat} {w0 : World} {E : Env} {G : Heap} {d : Option Nat} {ty : TypeId} {pos : String} {aft : Array Edge} {g : Option (Nat × Bool)}
end
abbrev wds (L : List UInt8) : List (List UInt8) := spl 32 L
abbrev nmS (L : List UInt8) (k : Nat) : List Int := (((wds L).take k).drop 1).map nv
def paV (L : List UInt8) (h : HD) : Option Od → Value
  | none => .tuple #[.agg #[str [], .slice none 0 0], .bool false]
  | some o => .tuple #[.agg #[str ((wds L).getD 0 []), gval h o.ns.length], .bool true]
def paF (h : HD) : Option Od → Prop
  | none => True
  | some o => goI (h, o.ns)
def paD (h : HD) : Option Od → Heap
  | none => []
  | some o => gbI (h, o.ns)
end Go.Proofs.YtbnjmkidbfmomaaGreatDoor
namespace Go.Proofs.YtbnjmkidbfmomaaGreatDoor
open Go.Sx Go.RowKit Go.Bt Go.Lib Go.Sand
end Go.Proofs.YtbnjmkidbfmomaaGreatDoor
namespace Go.Proofs.YtbnjmkidbfmomaaGreatDoor
open Go.Sx Go.RowKit Go.Bt Go.Lib Go.Sand
def undoneB (ops : Array Oper) (E : Env) : Option (Nat × Bool) → Bool
  | none => false
  | some (j, _) => match (ops[j]?).bind (·.dst) with
    | none => false
    | some s => match Sx.look s E with
      | some (.tuple _) => true
      | _ => false
section
variable {P : Program} {n : Nat} {w0 : World} {E : Env} {G : Heap} {a : Act} {w : World} {ops : Array Oper} {Q : Exit → Act → World → Prop} {l : List Oper}
end
abbrev wxN (s : St) (c : Co) (k j : Nat) : Nat := c.wet ||| (Mo.stp s.md c.wet &&& bareK s c.hol k j)
end Go.Proofs.YtbnjmkidbfmomaaGreatDoor
namespace Go.Proofs.YtbnjmkidbfmomaaGreatDoor
open Go.Sx Go.RowKit Go.Bt Go.Lib Go.Sand
noncomputable def stC (s : St) (os : List (List UInt8)) (k : Nat) : Co := (os.take k).foldl (doC s) (co0 s)
theorem stC_zero (s : St) (os : List (List UInt8)) : stC s os 0 = co0 s := rfl
theorem stC_succ {s : St} {os : List (List UInt8)} {k : Nat} (hk : k < os.length) : stC s os (k + 1) = doC s (stC s os k) (os.getD k []) := by
  unfold stC
  rw [List.take_succ_eq_append_getElem hk, List.foldl_append]
  simp [List.getD, hk]
theorem fold_inv {s : St} (hv : SV s) : ∀ (l : List (List UInt8)) (c : Co), Inv s c → Inv s (l.foldl (doC s) c)
  | [], _, h => h
  | t :: l, c, h => fold_inv hv l _ (h.any t hv)
theorem stC_inv {s : St} (hv : SV s) (os : List (List UInt8)) (k : Nat) : Inv s (stC s os k) := fold_inv hv _ _ (Inv.zero hv)
theorem stC_app {s : St} {os : List (List UInt8)} {r : List (List UInt8)} {k : Nat} (hk : k ≤ os.length) : stC s (os ++ r) k = stC s os k := by
  unfold stC
  rw [List.take_append_of_le_length hk]
theorem stC_take {s : St} {os : List (List UInt8)} {j k : Nat} (hk : k ≤ j) : stC s (os.take j) k = stC s os k := by
  unfold stC
  rw [List.take_take, Nat.min_eq_left hk]
theorem getD_app {os r : List (List UInt8)} {k : Nat} (hk : k < os.length) : (os ++ r).getD k [] = os.getD k [] := by
  simp [List.getD, List.getElem?_append_left hk]
theorem getD_last {os : List (List UInt8)} {t : List UInt8} : (os ++ [t]).getD os.length [] = t := by
  simp [List.getD]
theorem getD_take {os : List (List UInt8)} {j k : Nat} (hk : k < j) : (os.take j).getD k [] = os.getD k [] := by
  simp [List.getD, List.getElem?_take, hk]
theorem doC_ords {s : St} {c : Co} {t : List UInt8} (h : doI s c t = 0) : (doC s c t).ords = c.ords ++ [t] := by
  obtain ⟨o, hp, hl, ha, e⟩ := doC_yes h
  rw [e]
structure Rc (s : St) (c : Co) : Prop where
  ok : ∀ k, k < c.ords.length → doI s (stC s c.ords k) (c.ords.getD k []) = 0
  fin : stC s c.ords c.ords.length = c
theorem Rc.zero (s : St) : Rc s (co0 s) := ⟨fun k hk => absurd hk (Nat.not_lt_zero _), rfl⟩
theorem Rc.any {s : St} {c : Co} (t : List UInt8) (h : Rc s c) : Rc s (doC s c t) := by
  by_cases he : doI s c t = 0
  · have e := doC_ords he
    have h1 : stC s (c.ords ++ [t]) c.ords.length = c := by rw [stC_app (Nat.le_refl _), h.fin]
    refine ⟨fun k hk => ?_, ?_⟩
    · rw [e] at hk ⊢
      rw [List.length_append] at hk
      by_cases hk2 : k < c.ords.length
      · rw [stC_app (by omega), getD_app hk2]; exact h.ok k hk2
      · have : k = c.ords.length := by simp at hk; omega
        subst this
        rw [h1, getD_last]; exact he
    · rw [e]
      have h2 : (c.ords ++ [t]).length = c.ords.length + 1 := by simp
      rw [h2, stC_succ (by omega), h1, getD_last]
  · rw [doC_no he]; exact h
theorem fold_rc {s : St} : ∀ (l : List (List UInt8)) (c : Co), Rc s c → Rc s (l.foldl (doC s) c)
  | [], _, h => h
  | t :: l, c, h => fold_rc l _ (h.any t)
theorem stC_rc (s : St) (os : List (List UInt8)) (k : Nat) : Rc s (stC s os k) := fold_rc _ _ (Rc.zero s)
noncomputable def rpK (s : St) : Co → List (List UInt8) → Nat
  | _, [] => 0
  | c, t :: os => if doI s c t = 0 then rpK s (doC s c t) os + 1 else 0
theorem rpK_step {s : St} {os : List (List UInt8)} : ∀ {k : Nat}, k ≤ os.length → (∀ j, j < k → doI s (stC s os j) (os.getD j []) = 0) → rpK s (co0 s) os = k + rpK s (stC s os k) (os.drop k)
  | 0, _, _ => by rw [stC_zero, List.drop_zero, Nat.zero_add]
  | k + 1, hk, h => by
    rw [rpK_step (k := k) (by omega) (fun j hj => h j (by omega)), stC_succ (by omega)]
    have e : os.drop k = os.getD k [] :: os.drop (k + 1) := by
      rw [List.drop_eq_getElem_cons (by omega)]
      simp [List.getD, show k < os.length by omega]
    rw [e]
    conv => lhs; unfold rpK
    rw [if_pos (h k (by omega))]
    omega
theorem rpK_stop {s : St} {os : List (List UInt8)} {k : Nat} (hk : k < os.length) (h : ∀ j, j < k → doI s (stC s os j) (os.getD j []) = 0) (he : doI s (stC s os k) (os.getD k []) ≠ 0) : rpK s (co0 s) os = k := by
  rw [rpK_step (by omega) h]
  have e : os.drop k = os.getD k [] :: os.drop (k + 1) := by
    rw [List.drop_eq_getElem_cons hk]
    simp [List.getD, hk]
  rw [e]
  unfold rpK
  rw [if_neg he]; rfl
theorem rpK_end {s : St} {os : List (List UInt8)} (h : ∀ j, j < os.length → doI s (stC s os j) (os.getD j []) = 0) : rpK s (co0 s) os = os.length := by
  rw [rpK_step (Nat.le_refl _) h, List.drop_length]; rfl
noncomputable def rpO (t : List UInt8) (s : St) : Nat := rpK s (co0 s) (readL t).1
noncomputable def rpN (s : St) (t : List UInt8) : Nat := if newI s.W s.K s.g s.need ≠ 0 then 0 else if (readL t).2 ≠ [] then 0 else rpO t s
noncomputable def rpE (s : St) (t : List UInt8) : Int := if newI s.W s.K s.g s.need ≠ 0 then newI s.W s.K s.g s.need else if (readL t).2 ≠ [] then 12 else
  if rpO t s < (readL t).1.length then doI s (stC s (readL t).1 (rpO t s)) ((readL t).1.getD (rpO t s) []) else 0
theorem rp_1 {s : St} {t : List UInt8} (h : newI s.W s.K s.g s.need ≠ 0) : rpN s t = 0 ∧ rpE s t = newI s.W s.K s.g s.need := ⟨by unfold rpN; rw [if_pos h], by unfold rpE; rw [if_pos h]⟩
theorem rp_2 {s : St} {t : List UInt8} (h : ¬ newI s.W s.K s.g s.need ≠ 0) (h2 : (readL t).2 ≠ []) : rpN s t = 0 ∧ rpE s t = 12 := ⟨by unfold rpN; rw [if_neg h, if_pos h2], by unfold rpE; rw [if_neg h, if_pos h2]⟩
theorem rp_3 {s : St} {t : List UInt8} {k : Nat} (h : ¬ newI s.W s.K s.g s.need ≠ 0) (h2 : ¬ (readL t).2 ≠ []) (hk : k < (readL t).1.length) (ha : ∀ j, j < k → doI s (stC s (readL t).1 j) ((readL t).1.getD j []) = 0) (he : doI s (stC s (readL t).1 k) ((readL t).1.getD k []) ≠ 0) : rpN s t = k ∧ rpE s t = doI s (stC s (readL t).1 k) ((readL t).1.getD k []) := by
  have e : rpO t s = k := rpK_stop hk ha he
  refine ⟨by unfold rpN; rw [if_neg h, if_neg h2, e], by unfold rpE; rw [if_neg h, if_neg h2, e, if_pos hk]⟩
theorem rp_4 {s : St} {t : List UInt8} (h : ¬ newI s.W s.K s.g s.need ≠ 0) (h2 : ¬ (readL t).2 ≠ []) (ha : ∀ j, j < (readL t).1.length → doI s (stC s (readL t).1 j) ((readL t).1.getD j []) = 0) : rpN s t = (readL t).1.length ∧ rpE s t = 0 := by
  have e : rpO t s = (readL t).1.length := rpK_end ha
  refine ⟨by unfold rpN; rw [if_neg h, if_neg h2, e], by unfold rpE; rw [if_neg h, if_neg h2, e, if_neg (Nat.lt_irrefl _)]⟩
theorem Inv.read {s : St} {c : Co} (h : Inv s c) : readL (bookL dI c.ords).2 = (c.ords, []) := by rw [book_bk]; exact rd_book c.ords 100 0 h.ol h.rt
theorem Inv.part {s : St} {c : Co} (h : Inv s c) (k : Nat) : ∃ j, j ≤ c.ords.length ∧ (readL ((bookL dI c.ords).2.take k)).1 = c.ords.take j ∧ ((readL ((bookL dI c.ords).2.take k)).2 = [] ∨ j < c.ords.length) := by rw [book_bk]; exact rd_take c.ords 100 k 0 h.ol h.rt
theorem all_take {os : List (List UInt8)} (h : os.all rightS = true) (j : Nat) : (os.take j).all rightS = true := List.all_eq_true.2 fun x hx => List.all_eq_true.1 h x (List.mem_of_mem_take hx)
theorem Inv.readT {s : St} {c : Co} (h : Inv s c) (j : Nat) : readL (bookL dI (c.ords.take j)).2 = (c.ords.take j, []) := by
  rw [book_bk]; exact rd_book _ 100 0 (by rw [List.length_take]; have := h.ol; omega) (all_take h.rt j)
end Go.Proofs.YtbnjmkidbfmomaaGreatDoor
namespace Go.Proofs.YtbnjmkidbfmomaaGreatDoor
open Go.Sx Go.RowKit Go.Bt Go.Lib Go.Sand
theorem calls_swap {f : FuncId} {args : Array Value} {w0 w : World} {X : Type} {V : X → Value} {F : X → Prop} {A R : Heap} {B : X → Heap} (h : Calls Tryz.prog f args w (Post V F (fun x => B x ++ (A ++ R)) w0)) : Calls Tryz.prog f args w (Post V F (fun x => A ++ (B x ++ R)) w0) :=
  h.mono fun _ _ ⟨x, e1, e2, e3⟩ => ⟨x, e1, e2, e3.perm (List.perm_append_comm_assoc _ _ _)⟩
theorem New.swap {w0 w : World} {A B R : Heap} (h : New w0 w (A ++ (B ++ R))) : New w0 w (B ++ (A ++ R)) := h.perm (List.perm_append_comm_assoc _ _ _)
structure CP where
  u : SU
  v : TV
  ho : HD
  Z : Heap
def hp0 (s : St) (c : Co) (b : Nat) (p : CP) : Heap := coB b s p.u 0 c p.v p.ho :: (gbR stR 9 p.ho c.ords ++ p.Z)
structure CPk (w0 : World) (s : St) (c : Co) (p : CP) : Prop where
  go : goR stR p.ho c.ords
  site : ∀ w9, New w0 w9 p.Z → SiteAt w9 s p.u
  tur : ∀ w9, New w0 w9 p.Z → TurAt w9 c p.v
abbrev pt (b : Nat) : Value := .pointer (some ⟨b, 0, none⟩)
theorem hp0_r (s : St) (c : Co) (b : Nat) (p : CP) (R : Heap) : hp0 s c b p ++ R = coB b s p.u 0 c p.v p.ho :: (gbR stR 9 p.ho c.ords ++ (p.Z ++ R)) := by
  simp only [hp0, List.cons_append, List.append_assoc]
theorem Z_sub {p : CP} {l R : Heap} : List.Sublist p.Z (l ++ (p.Z ++ R)) := (List.sublist_append_left _ _).trans (List.sublist_append_right _ _)
theorem New_p (w0 w : World) (G : Heap) (hN : New w0 w G) (p : Option Addr) (cp : Nat) (W : List (List Int)) (hr : LsAt w p W) (q : Option Addr) (cq : Nat) (K : List (List Int)) (hk : LsAt w q K) (hkl : ∀ k, (K.getD k []).length ≤ 1000000) (r : Option Addr) (cr : Nat) (g : List Int) (hg : IntsAt w r g) (hgl : g.length ≤ 1000000) (need : Int) (he : newI W K g need = 0) :
    Calls Tryz.prog 59 #[.agg #[.slice p W.length cp], .agg #[.slice q K.length cq, .slice r g.length cr], .int .i64 need] w (Post (X := Nat × CP) (fun y => .tuple #[pt y.1, .int .i64 0]) (fun y => CPk w0 ⟨W, K, g, need⟩ (co0 ⟨W, K, g, need⟩) y.2) (fun y => hp0 ⟨W, K, g, need⟩ (co0 ⟨W, K, g, need⟩) y.1 y.2 ++ G) w0) :=
  (New_y w p cp W hr q cq K hk hkl r cr g hg hgl need he).mono fun _ _ ⟨y, e1, e2, e3⟩ => ⟨(y.1, ⟨y.2.1, y.2.2.1, none, y.2.2.2⟩), e1, ⟨⟨rfl, rfl⟩, fun w9 hn => (e2 w0 w9 hn).1, fun w9 hn => (e2 w0 w9 hn).2⟩, hN.trans e3⟩
variable {w0 w : World} {s : St} {c : Co} {b : Nat} {p : CP} {R : Heap}
theorem Do_p (hW : WAt w0) (hv : SV s) (hi : Inv s c) (hk : CPk w0 s c p) (hN : New w0 w (hp0 s c b p ++ R)) (t : List UInt8) (ht : t.length ≤ 1000000) :
    Calls Tryz.prog 18 #[pt b, str t] w (Post (X := CP) (fun _ => .int .i64 (doI s c t)) (fun p' => CPk w0 s (doC s c t) p') (fun p' => hp0 s (doC s c t) b p' ++ R) w0) :=
  (Do_ok w0 w hW s hv p.u c p.v hi b p.ho hk.go (p.Z ++ R) (by rw [hp0_r] at hN; exact hN) p.Z (List.sublist_append_left _ _) hk.site hk.tur t ht).mono fun _ _ ⟨y, e1, e2, e3⟩ =>
    ⟨⟨p.u, y.1, y.2.1, y.2.2 ++ p.Z⟩, e1, ⟨e2.1, fun w9 hn => hk.site w9 (hn.sub (List.sublist_append_right _ _)), e2.2⟩, by show New w0 _ (hp0 s (doC s c t) b ⟨p.u, y.1, y.2.1, y.2.2 ++ p.Z⟩ ++ R); rw [hp0_r, List.append_assoc]; exact e3⟩
theorem Day_p (hv : SV s) (hN : New w0 w (hp0 s c b p ++ R)) : Calls Tryz.prog 19 #[pt b] w (Post (X := Unit) (fun _ => .int .i64 c.day) (fun _ => True) (fun _ => hp0 s c b p ++ R) w0) := by
  rw [hp0_r] at hN ⊢; exact Day_ok w0 w s hv p.u c p.v b p.ho _ hN
theorem Wet_p (hv : SV s) (hN : New w0 w (hp0 s c b p ++ R)) : Calls Tryz.prog 20 #[pt b] w (Post (X := Unit) (fun _ => .int .i64 (c.wet : Nat)) (fun _ => True) (fun _ => hp0 s c b p ++ R) w0) := by
  rw [hp0_r] at hN ⊢; exact Wet_ok w0 w s hv p.u c p.v b p.ho _ hN
theorem Money_p (hv : SV s) (hN : New w0 w (hp0 s c b p ++ R)) : Calls Tryz.prog 21 #[pt b] w (Post (X := Unit) (fun _ => .int .i64 c.money) (fun _ => True) (fun _ => hp0 s c b p ++ R) w0) := by
  rw [hp0_r] at hN ⊢; exact Money_ok w0 w s hv p.u c p.v b p.ho _ hN
theorem Cut_p (hv : SV s) (hN : New w0 w (hp0 s c b p ++ R)) : Calls Tryz.prog 22 #[pt b] w (Post (X := Unit) (fun _ => .int .i64 c.cut) (fun _ => True) (fun _ => hp0 s c b p ++ R) w0) := by
  rw [hp0_r] at hN ⊢; exact Cut_ok w0 w s hv p.u c p.v b p.ho _ hN
theorem Loaded_p (hv : SV s) (hN : New w0 w (hp0 s c b p ++ R)) : Calls Tryz.prog 23 #[pt b] w (Post (X := Unit) (fun _ => .int .i64 c.load) (fun _ => True) (fun _ => hp0 s c b p ++ R) w0) := by
  rw [hp0_r] at hN ⊢; exact Loaded_ok w0 w s hv p.u c p.v b p.ho _ hN
theorem Ground_p (hv : SV s) (hN : New w0 w (hp0 s c b p ++ R)) : Calls Tryz.prog 24 #[pt b] w (Post (X := Unit) (fun _ => .int .i64 c.grd) (fun _ => True) (fun _ => hp0 s c b p ++ R) w0) := by
  rw [hp0_r] at hN ⊢; exact Ground_ok w0 w s hv p.u c p.v b p.ho _ hN
theorem Shut_p (hv : SV s) (hN : New w0 w (hp0 s c b p ++ R)) : Calls Tryz.prog 27 #[pt b] w (Post (X := Unit) (fun _ => .bool c.shut) (fun _ => True) (fun _ => hp0 s c b p ++ R) w0) := by
  rw [hp0_r] at hN ⊢; exact Shut_ok w0 w s hv p.u c p.v b p.ho _ hN
theorem Hollow_p (hv : SV s) (hi : Inv s c) (hk : CPk w0 s c p) (hN : New w0 w (hp0 s c b p ++ R)) : Calls Tryz.prog 25 #[pt b] w (Post (X := HD) (fun h => .slice (gp h) c.hol.length (gc h)) (fun h => goI (h, c.hol)) (fun h => gbI (h, c.hol) ++ (hp0 s c b p ++ R)) w0) := by
  rw [hp0_r] at hN ⊢; exact Hollow_ok w0 w s hv p.u c p.v b p.ho _ p.Z Z_sub hk.tur (by have := hi.hl; have := hv.n5; omega) hN
theorem Turves_p (hv : SV s) (hi : Inv s c) (hk : CPk w0 s c p) (hN : New w0 w (hp0 s c b p ++ R)) : Calls Tryz.prog 26 #[pt b] w (Post (X := HD) (fun h => .slice (gp h) c.tur.length (gc h)) (fun h => goI (h, c.tur)) (fun h => gbI (h, c.tur) ++ (hp0 s c b p ++ R)) w0) := by
  rw [hp0_r] at hN ⊢; exact Turves_ok w0 w s hv p.u c p.v b p.ho _ p.Z Z_sub hk.tur (by have := hi.tl' hv; have := hv.n5; omega) hN
theorem Book_p (hW : WAt w0) (hv : SV s) (hi : Inv s c) (hk : CPk w0 s c p) (hN : New w0 w (hp0 s c b p ++ R)) : Calls Tryz.prog 28 #[pt b] w (Post (X := Unit) (fun _ => str (bookL dI c.ords).2) (fun _ => True) (fun _ => hp0 s c b p ++ R) w0) := by
  rw [hp0_r] at hN ⊢; exact Book_ok w0 w hW s hv p.u c hi p.v b p.ho hk.go _ hN
theorem Inv.bl {s : St} {c : Co} (h : Inv s c) : (bookL dI c.ords).2.length ≤ 1000000 := by
  have h2 : ∀ (L : List (List UInt8)) (sum : Int), L.all rightS = true → (bkN sum L).length ≤ 50 * L.length := fun L => by
    induction L with
    | nil => exact fun _ _ => Nat.zero_le _
    | cons a L ih =>
      intro sum h
      rw [List.all_cons, Bool.and_eq_true] at h
      have ih := ih (smV sum a) h.2
      have h1 := right_of h.1
      have h2 := dI_len (smV_bd sum a).1 (smV_bd sum a).2
      show (pageL dI (smV sum a) a ++ bkN (smV sum a) L).length ≤ _
      unfold pageL
      simp only [List.length_append, List.length_cons, List.length_nil]
      omega
  have := h2 c.ords 0 h.rt
  have := h.ol
  rw [book_bk]; omega
end Go.Proofs.YtbnjmkidbfmomaaGreatDoor
namespace Go.Proofs.YtbnjmkidbfmomaaGreatDoor
open Go.Sx Go.RowKit Go.Bt Go.Lib Go.Sand
end Go.Proofs.YtbnjmkidbfmomaaGreatDoor
namespace Go.Proofs.YtbnjmkidbfmomaaGreatDoor
open Go.Sx Go.RowKit Go.Bt Go.Lib Go.Sand
structure FV where
  p : Option Addr
  cp : Nat
  q : Option Addr
  cq : Nat
  r : Option Addr
  cr : Nat
abbrev fmL (s : St) (f : FV) : List Value := [.slice f.p s.W.length f.cp, .slice f.q s.K.length f.cq, .slice f.r s.g.length f.cr, .int .i64 s.need]
structure FmAt (w : World) (s : St) (f : FV) : Prop where
  lw : LsAt w f.p s.W
  lk : LsAt w f.q s.K
  lg : IntsAt w f.r s.g
  lc : C.CapsAt w f.p s.W
theorem caps_new {w0 w : World} {G : Heap} {p : Option Addr} {W : List (List Int)} (h : LsAt w0 p W) (hc : C.CapsAt w0 p W) (hn : New w0 w G) : C.CapsAt w p W := fun j hj q pj cj l hp hq => by
  obtain ⟨q', hq', pj', cj', h1, _⟩ := h j hj
  rw [hq'] at hp
  obtain rfl := Option.some.inj hp
  have h2 := hn.old h1
  rw [h2] at hq
  simp only [Option.some.injEq, Value.slice.injEq] at hq
  obtain ⟨rfl, rfl, rfl⟩ := hq
  exact hc j hj q' pj' cj' _ hq' h1
theorem FmAt.new {w0 w : World} {G : Heap} {s : St} {f : FV} (h : FmAt w0 s f) (hn : New w0 w G) : FmAt w s f := ⟨h.lw.new hn, h.lk.new hn, h.lg.new hn, caps_new h.lw h.lc hn⟩
noncomputable abbrev St.newI (s : St) : Int := Proofs.YtbnjmkidbfmomaaGreatDoor.newI s.W s.K s.g s.need
abbrev St.large (s : St) : Bool := largeB s.W s.K s.g
section
variable {w0 w : World} {s : St} {c : Co} {b b' : Nat} {p : CP} {R : Heap} {f : FV}
theorem lg_k (hl : s.large = false) (k : Nat) : (s.K.getD k []).length ≤ 1000000 := by have := (large_no hl).2.2.2.2 k; omega
theorem lg_g (hl : s.large = false) : s.g.length ≤ 1000000 := by have := (large_no hl).2.2.1; omega
theorem New_se (hf : FmAt w s f) (hl : s.large = false) (he : s.newI ≠ 0) :
    Calls Tryz.prog 59 #[.agg #[.slice f.p s.W.length f.cp], .agg #[.slice f.q s.K.length f.cq, .slice f.r s.g.length f.cr], .int .i64 s.need] w (Post (X := Unit) (fun _ => .tuple #[.pointer none, .int .i64 s.newI]) (fun _ => True) (fun _ => []) w) :=
  New_e w f.p f.cp s.W hf.lw f.q f.cq s.K hf.lk (lg_k hl) f.r f.cr s.g hf.lg (lg_g hl) s.need he
theorem New_s (hN : New w0 w R) (hf : FmAt w s f) (hl : s.large = false) (he : s.newI = 0) :
    Calls Tryz.prog 59 #[.agg #[.slice f.p s.W.length f.cp], .agg #[.slice f.q s.K.length f.cq, .slice f.r s.g.length f.cr], .int .i64 s.need] w (Post (X := Nat × CP) (fun y => .tuple #[pt y.1, .int .i64 0]) (fun y => CPk w0 s (co0 s) y.2) (fun y => hp0 s (co0 s) y.1 y.2 ++ R) w0) :=
  New_p w0 w R hN f.p f.cp s.W hf.lw f.q f.cq s.K hf.lk (lg_k hl) f.r f.cr s.g hf.lg (lg_g hl) s.need he
structure RQ where
  u : SU
  v : RV
  ho : HD
  Z : Heap
def hq0 (s : St) (c : Co) (b : Nat) (q : RQ) : Heap := rcB b s q.u c q.v q.ho :: rcH c q.v :: (gbI (q.v.ht, c.tur) ++ (gbR stR 9 q.ho c.ords ++ q.Z))
structure RQk (w0 : World) (s : St) (c : Co) (q : RQ) : Prop where
  gt : goI (q.v.ht, c.tur)
  go : goR stR q.ho c.ords
  site : ∀ w9, New w0 w9 q.Z → SiteAt w9 s q.u
variable {q : RQ}
theorem same5_is (w : World) (p1 : Option Addr) (c1 : Nat) (xs : List Int) (hx : IntsAt w p1 xs) (p2 : Option Addr) (c2 : Nat) (hy : IntsAt w p2 xs) (hl : xs.length ≤ 1000000) :
    Calls Tryz.prog 60 #[.slice p1 xs.length c1, .slice p2 xs.length c2] w (Post (X := Unit) (fun _ => .bool true) (fun _ => True) (fun _ => []) w) := by
  have h := same5_ok w p1 c1 xs hx p2 c2 xs hy hl hl
  rw [decide_eq_true rfl] at h
  exact h
end
section
variable {n : Nat} {w0 : World} {E : Env} {G : Heap} {d : Option Nat} {ty : TypeId} {pos : String} {aft : Array Edge} {g : Option (Nat × Bool)}
end
end Go.Proofs.YtbnjmkidbfmomaaGreatDoor
namespace Go.Proofs.YtbnjmkidbfmomaaGreatDoor
open Go.Sx Go.RowKit Go.Bt Go.Lib Go.Sand
theorem cutA_0 (p : Option Addr) (cap : Nat) : cutA p cap 0 1 = p := by
  unfold cutA
  split
  · rfl
  · cases p with
    | none => rfl
    | some a => cases a; simp [Addr.add]
end Go.Proofs.YtbnjmkidbfmomaaGreatDoor
namespace Go.Proofs.YtbnjmkidbfmomaaGreatDoor
open Go.Sx Go.RowKit Go.Bt Go.Lib Go.Sand
theorem Large_s {w : World} {s : St} {f : FV} (hf : FmAt w s f) (hw63 : s.W.length ≤ 9223372036854775807) (hk63 : s.K.length ≤ 9223372036854775807) :
    Calls Tryz.prog 30 #[.agg (fmL s f).toArray] w (Post (X := Unit) (fun _ => .bool s.large) (fun _ => True) (fun _ => []) w) :=
  Large_ok w f.p f.cp s.W hf.lw f.q f.cq s.K hf.lk f.r f.cr s.g s.need hw63 hk63
theorem few_400 {L : List (List UInt8)} (h : longB L = false) : (∀ j, ((L.take 30).getD j []).length ≤ 400) ∧ (L.take 30).length ≤ 30 ∧ L.length ≤ 300 ∧ ∀ j, (L.getD j []).length ≤ 400 := by
  obtain ⟨h1, h2⟩ := long_no (by rw [h]; decide)
  refine ⟨fun j => ?_, by rw [List.length_take]; omega, h1, h2⟩
  by_cases hj : j < 30
  · rw [getD_take hj]; exact h2 j
  · have e : (L.take 30).getD j [] = [] := by rw [List.getD_eq_getElem?_getD, List.getElem?_eq_none (by rw [List.length_take]; omega)]; rfl
    rw [e]; exact Nat.zero_le _
end Go.Proofs.YtbnjmkidbfmomaaGreatDoor
