/- Xe BD Xf Er -/
import Derived.Test.YtbnjmkidbfmomaaGreatDoorW06
import Derived.Test.YtbnjmkidbfmomaaGreatDoorW08
import Derived.Test.YtbnjmkidbfmomaaGreatDoorW09
import Derived.Test.YtbnjmkidbfmomaaGreatDoorW16
import Derived.Test.YtbnjmkidbfmomaaGreatDoorW17
import Derived.WalkKit
import Derived.LaidEql
import Derived.Stop.Asserts
import Derived.RowKitTokens
set_option linter.unusedVariables false
set_option linter.unusedSimpArgs false
set_option maxRecDepth 100000
namespace Go.Proofs.YtbnjmkidbfmomaaGreatDoor
open Go.Sx Go.RowKit Go.Bt Go.Lib Go.Sand
def OdOk (o : Od) : Prop := (o.k = 0 ∧ o.ns.length = 0 ∨ o.k = 1 ∧ o.ns.length = 1 ∨ o.k = 2 ∧ o.ns.length = 2 ∨ o.k = 3 ∧ o.ns.length = 2 ∨ o.k = 4 ∧ o.ns.length = 0) ∧ ∀ j, 0 ≤ o.ns.getD j 0 ∧ o.ns.getD j 0 ≤ 999
theorem od_0 {o : Od} {k : Nat} (h : o.k = k) (h2 : o.ns.length = 0) : o = ⟨k, []⟩ := by
  obtain ⟨a, b⟩ := o
  simp only at h h2
  rw [h, List.length_eq_zero_iff.1 h2]
theorem od_1 {o : Od} {k : Nat} (h : o.k = k) (h2 : o.ns.length = 1) : o = ⟨k, [o.ns.getD 0 0]⟩ := by
  obtain ⟨a, b⟩ := o
  simp only at h h2
  obtain ⟨x, rfl⟩ := List.length_eq_one_iff.1 h2
  rw [h]; rfl
theorem od_2 {o : Od} {k : Nat} (h : o.k = k) (h2 : o.ns.length = 2) : o = ⟨k, [o.ns.getD 0 0, o.ns.getD 1 0]⟩ := by
  obtain ⟨a, b⟩ := o
  simp only at h h2
  match b, h2 with
  | [x, y], _ => rw [h]; rfl
set_option maxHeartbeats 1000000 in
theorem change_ok (w0 w : World) (s : St) (hv : SV s) (u : SU) (c : Co) (v : TV) (hi : Inv s c) (b : Nat) (Z : Heap) (hN : New w0 w ((b, .cells (tyL c v).toArray 101 (0, 0)) :: Z)) (Zf : Heap) (hZf : List.Sublist Zf Z) (hS : ∀ w9, New w0 w9 Zf → SiteAt w9 s u) (hT : ∀ w9, New w0 w9 Zf → TurAt w9 c v) (htz : M.TzAt w0) (o : Od) (ho : OdOk o) (pn : Option Addr) (cn : Nat) (hon : ∀ w9, New w0 w9 Zf → IntsAt w9 pn o.ns) :
    Calls Tryz.prog 103 #[.agg (siL s u).toArray, .pointer (some ⟨b, 0, none⟩), .agg #[.int .i64 (o.k : Nat), .slice pn o.ns.length cn]] w (Post (X := TV × Heap) (fun _ => .int .i64 (actI s c o)) (fun y => ∀ w9, New w0 w9 (y.2 ++ Zf) → TurAt w9 (chgC s c o) y.1) (fun y => (b, Obj.cells (tyL (chgC s c o) y.1).toArray 101 (0, 0)) :: (y.2 ++ Z)) w0) := by
  have hNZ := hN.sub (hZf.trans (List.sublist_cons_self _ _))
  have hob := ho.2
  have hok := ho.1
  refine callsM hN Tryz.func103 rfl (n := 52) rfl (by simp) ?_
  refine zr (TL.box rfl rfl dc (fun b0 hb0 => ?_))
  refine TL.box rfl rfl dc (fun b1 hb1 => ?_)
  refine za rfl (zn (TC.seq (zr (zq (PV.fieldAddr rfl Tb.fo_144_0) rfl (zq (PV.load rfl Tb.one_142 m9z rfl) rfl ?_)))))
  refine zn (TC.block (zr (zq (PV.eql rfl rfl) rfl (za rfl (zn (TC.cd rfl (fun k0 => ?_) (fun k0 => ?_)))))))
  refine TC.seq ?_
  have hoE := od_0 (o := o) (k := 0) (by omega) (by omega)
  refine TC.region (zq (PV.loadBox (cs := siL s u) rfl Tb.agg_90 m9z rfl) rfl ?_)
  refine zm rfl (TL.callW (X := TV × Heap) (fun _ => .int .i64 (actI s c o)) (fun y => ∀ w9, New w0 w9 (y.2 ++ Zf) → TurAt w9 (chgC s c o) y.1) (fun y => (b, Obj.cells (tyL (chgC s c o) y.1).toArray 101 (0, 0)) :: (y.2 ++ Z)) rfl Tb.gofn_150 (fun a w hs => (by have h9 := day_ok w0 w s hv u c v hi b Z (hs.new.sub (List.sublist_append_right [_, _] _)) Zf hZf hS hT htz; rw [← hoE] at h9; exact h9)) rfl dc (fun y hy => ?_))
  refine za rfl (zt (TQ.blkR (TQ.thenR (TQ.retE1 rfl rfl ?_))))
  exact ⟨y, rfl, hy, List.Sublist.refl _⟩
  refine zr (zq (PV.eql rfl rfl) rfl (za rfl (zn (TC.cd rfl (fun k1 => ?_) (fun k1 => ?_)))))
  refine TC.seq ?_
  have hoE := od_1 (o := o) (k := 1) (by omega) (by omega)
  obtain ⟨q0, q0p, q0v⟩ := ints_now hon hNZ (k := 0) (by omega)
  refine TC.draw 6 Tb.mixed kr ?_
  simp only [List.take_succ_cons, List.take_zero, List.drop_succ_cons, List.drop_zero]
  refine TS.pure (PV.loadBox (cs := siL s u) rfl Tb.agg_90 m9z rfl) rfl dc ?_
  refine TS.pure (PV.move rfl) rfl dc ?_
  refine TS.pure (PV.fieldAddr rfl Tb.fo_144_1) rfl dc ?_
  refine TS.pure (PV.load rfl Tb.one_25 m9z rfl) rfl dc ?_
  refine TS.pure (PV.indexA (j := 0) rfl q0p rfl Tb.elm_25 rfl om) rfl dc ?_
  refine TS.pure (PV.loadN rfl Tb.one_3 (hZf.trans s9z) q0v) rfl dc ?_
  refine TS.nil ?_
  refine TL.callW (X := TV × Heap) (fun _ => .int .i64 (actI s c o)) (fun y => ∀ w9, New w0 w9 (y.2 ++ Zf) → TurAt w9 (chgC s c o) y.1) (fun y => (b, Obj.cells (tyL (chgC s c o) y.1).toArray 101 (0, 0)) :: (y.2 ++ Z)) rfl Tb.gofn_151 (fun a w hs => (by have h9 := cut_ok w0 w s hv u c v hi b Z (hs.new.sub (List.sublist_append_right [_, _] _)) Zf hZf hS hT (o.ns.getD 0 0) (hob 0); rw [← hoE] at h9; exact h9)) rfl dc (fun y hy => ?_)
  refine za rfl (zt (TQ.blkR (TQ.thenR (TQ.retE1 rfl rfl ?_))))
  exact ⟨y, rfl, hy, List.Sublist.refl _⟩
  refine zr (zq (PV.eql rfl rfl) rfl (za rfl (zn (TC.cd rfl (fun k2 => ?_) (fun k2 => ?_)))))
  refine TC.seq ?_
  have hoE := od_2 (o := o) (k := 2) (by omega) (by omega)
  obtain ⟨q0, q0p, q0v⟩ := ints_now hon hNZ (k := 0) (by omega)
  obtain ⟨q1, q1p, q1v⟩ := ints_now hon hNZ (k := 1) (by omega)
  refine TC.draw 10 Tb.mixed kr ?_
  simp only [List.take_succ_cons, List.take_zero, List.drop_succ_cons, List.drop_zero]
  refine TS.pure (PV.loadBox (cs := siL s u) rfl Tb.agg_90 m9z rfl) rfl dc ?_
  refine TS.pure (PV.move rfl) rfl dc ?_
  refine TS.pure (PV.fieldAddr rfl Tb.fo_144_1) rfl dc ?_
  refine TS.pure (PV.load rfl Tb.one_25 m9z rfl) rfl dc ?_
  refine TS.pure (PV.indexA (j := 0) rfl q0p rfl Tb.elm_25 rfl om) rfl dc ?_
  refine TS.pure (PV.loadN rfl Tb.one_3 (hZf.trans s9z) q0v) rfl dc ?_
  refine TS.pure (PV.fieldAddr rfl Tb.fo_144_1) rfl dc ?_
  refine TS.pure (PV.load rfl Tb.one_25 m9z rfl) rfl dc ?_
  refine TS.pure (PV.indexA (j := 1) rfl q1p rfl Tb.elm_25 rfl om) rfl dc ?_
  refine TS.pure (PV.loadN rfl Tb.one_3 (hZf.trans s9z) q1v) rfl dc ?_
  refine TS.nil ?_
  refine TL.callW (X := TV × Heap) (fun _ => .int .i64 (actI s c o)) (fun y => ∀ w9, New w0 w9 (y.2 ++ Zf) → TurAt w9 (chgC s c o) y.1) (fun y => (b, Obj.cells (tyL (chgC s c o) y.1).toArray 101 (0, 0)) :: (y.2 ++ Z)) rfl Tb.gofn_152 (fun a w hs => (by have h9 := load_ok w0 w s hv u c v hi b Z (hs.new.sub (List.sublist_append_right [_, _] _)) Zf hZf hS hT (o.ns.getD 0 0) (o.ns.getD 1 0) (hob 0) (hob 1); rw [← hoE] at h9; exact h9)) rfl dc (fun y hy => ?_)
  refine za rfl (zt (TQ.blkR (TQ.thenR (TQ.retE1 rfl rfl ?_))))
  exact ⟨y, rfl, hy, List.Sublist.refl _⟩
  refine zr (zq (PV.eql rfl rfl) rfl (za rfl (zn (TC.cd rfl (fun k3 => ?_) (fun k3 => ?_)))))
  refine TC.seq ?_
  have hoE := od_2 (o := o) (k := 3) (by omega) (by omega)
  obtain ⟨q0, q0p, q0v⟩ := ints_now hon hNZ (k := 0) (by omega)
  obtain ⟨q1, q1p, q1v⟩ := ints_now hon hNZ (k := 1) (by omega)
  refine TC.draw 10 Tb.mixed kr ?_
  simp only [List.take_succ_cons, List.take_zero, List.drop_succ_cons, List.drop_zero]
  refine TS.pure (PV.loadBox (cs := siL s u) rfl Tb.agg_90 m9z rfl) rfl dc ?_
  refine TS.pure (PV.move rfl) rfl dc ?_
  refine TS.pure (PV.fieldAddr rfl Tb.fo_144_1) rfl dc ?_
  refine TS.pure (PV.load rfl Tb.one_25 m9z rfl) rfl dc ?_
  refine TS.pure (PV.indexA (j := 0) rfl q0p rfl Tb.elm_25 rfl om) rfl dc ?_
  refine TS.pure (PV.loadN rfl Tb.one_3 (hZf.trans s9z) q0v) rfl dc ?_
  refine TS.pure (PV.fieldAddr rfl Tb.fo_144_1) rfl dc ?_
  refine TS.pure (PV.load rfl Tb.one_25 m9z rfl) rfl dc ?_
  refine TS.pure (PV.indexA (j := 1) rfl q1p rfl Tb.elm_25 rfl om) rfl dc ?_
  refine TS.pure (PV.loadN rfl Tb.one_3 (hZf.trans s9z) q1v) rfl dc ?_
  refine TS.nil ?_
  refine TL.callW (X := TV × Heap) (fun _ => .int .i64 (actI s c o)) (fun y => ∀ w9, New w0 w9 (y.2 ++ Zf) → TurAt w9 (chgC s c o) y.1) (fun y => (b, Obj.cells (tyL (chgC s c o) y.1).toArray 101 (0, 0)) :: (y.2 ++ Z)) rfl Tb.gofn_153 (fun a w hs => (by have h9 := wet_ok w0 w s hv u c v hi b Z (hs.new.sub (List.sublist_append_right [_, _] _)) Zf hZf hS hT (o.ns.getD 0 0) (o.ns.getD 1 0) (hob 0) (hob 1); rw [← hoE] at h9; exact h9)) rfl dc (fun y hy => ?_)
  refine za rfl (zt (TQ.blkR (TQ.thenR (TQ.retE1 rfl rfl ?_))))
  exact ⟨y, rfl, hy, List.Sublist.refl _⟩
  refine TC.skip (TQ.blkN (TQ.thenC (TC.seq ?_)))
  have hoE := od_0 (o := o) (k := 4) (by omega) (by omega)
  refine TC.region (zq (PV.loadBox (cs := siL s u) rfl Tb.agg_90 m9z rfl) rfl ?_)
  refine zm rfl (TL.callW (X := TV × Heap) (fun _ => .int .i64 (actI s c o)) (fun y => ∀ w9, New w0 w9 (y.2 ++ Zf) → TurAt w9 (chgC s c o) y.1) (fun y => (b, Obj.cells (tyL (chgC s c o) y.1).toArray 101 (0, 0)) :: (y.2 ++ Z)) rfl Tb.gofn_154 (fun a w hs => (by have h9 := shut_ok w0 w s hv u c v hi b Z (hs.new.sub (List.sublist_append_right [_, _] _)) Zf hZf hS hT ; rw [← hoE] at h9; exact h9)) rfl dc (fun y hy => ?_))
  refine za rfl (zt (TQ.retE1 rfl rfl ?_))
  exact ⟨y, rfl, hy, List.Sublist.refl _⟩
theorem kindOf_ok (w0 : World) (L : List UInt8) :
    Calls Tryz.prog 148 #[str L] w0 (Post (X := Unit) (fun _ => .tuple #[.int .i64 (((kdF L).getD (0, 0)).1 : Nat), .int .i64 (((kdF L).getD (0, 0)).2 : Nat), .bool (kdF L).isSome]) (fun _ => True) (fun _ => []) w0) := by
  refine calls Tryz.func148 rfl (n := 16) rfl (by simp) ?_
  refine zr (za rfl (za rfl (za rfl (zn (TC.seq (zr (zm rfl (zn (TC.block (zr (zq (PV.eqS (M := dayB) rfl rfl) rfl (za rfl (zn (TC.cd rfl (fun e0 => ?_) (fun e0 => ?_)))))))))))))))
  refine zr (za rfl (za rfl (za rfl (zt (TQ.blkR (TQ.thenR (TQ.retE3 rfl rfl rfl rfl ?_)))))))
  have hk : kdF L = some (0, 0) := by unfold kdF; rw [if_pos e0]
  exact ⟨(), by rw [hk]; rfl, trivial, nils⟩
  refine zr (zq (PV.eqS (M := cutB) rfl rfl) rfl (za rfl (zn (TC.cd rfl (fun e1 => ?_) (fun e1 => ?_)))))
  refine zr (za rfl (za rfl (za rfl (zt (TQ.blkR (TQ.thenR (TQ.retE3 rfl rfl rfl rfl ?_)))))))
  have hk : kdF L = some (1, 1) := by unfold kdF; rw [if_neg e0, if_pos e1]
  exact ⟨(), by rw [hk]; rfl, trivial, nils⟩
  refine zr (zq (PV.eqS (M := loadB) rfl rfl) rfl (za rfl (zn (TC.cd rfl (fun e2 => ?_) (fun e2 => ?_)))))
  refine zr (za rfl (za rfl (za rfl (zt (TQ.blkR (TQ.thenR (TQ.retE3 rfl rfl rfl rfl ?_)))))))
  have hk : kdF L = some (2, 2) := by unfold kdF; rw [if_neg e0, if_neg e1, if_pos e2]
  exact ⟨(), by rw [hk]; rfl, trivial, nils⟩
  refine zr (zq (PV.eqS (M := wetB) rfl rfl) rfl (za rfl (zn (TC.cd rfl (fun e3 => ?_) (fun e3 => ?_)))))
  refine zr (za rfl (za rfl (za rfl (zt (TQ.blkR (TQ.thenR (TQ.retE3 rfl rfl rfl rfl ?_)))))))
  have hk : kdF L = some (3, 2) := by unfold kdF; rw [if_neg e0, if_neg e1, if_neg e2, if_pos e3]
  exact ⟨(), by rw [hk]; rfl, trivial, nils⟩
  refine zr (zq (PV.eqS (M := shutB) rfl rfl) rfl (za rfl (zn (TC.cd rfl (fun e4 => ?_) (fun e4 => ?_)))))
  refine zr (za rfl (za rfl (za rfl (zt (TQ.blkR (TQ.thenR (TQ.retE3 rfl rfl rfl rfl ?_)))))))
  have hk : kdF L = some (4, 0) := by unfold kdF; rw [if_neg e0, if_neg e1, if_neg e2, if_neg e3, if_pos e4]
  exact ⟨(), by rw [hk]; rfl, trivial, nils⟩
  refine TC.skip (TQ.blkN (TQ.thenC (zr (za rfl (za rfl (za rfl (zt (TQ.retE3 rfl rfl rfl rfl ?_))))))))
  have hk : kdF L = none := by unfold kdF; rw [if_neg e0, if_neg e1, if_neg e2, if_neg e3, if_neg e4]
  exact ⟨(), by rw [hk]; rfl, trivial, nils⟩
end Go.Proofs.YtbnjmkidbfmomaaGreatDoor
namespace Go.Proofs.YtbnjmkidbfmomaaGreatDoor
open Go.Sx Go.RowKit Go.Bt Go.Lib Go.Sand
def wrI (L : List (List UInt8)) : Int := if 100 < L.length then 3 else if L.all rightS = true then 0 else 1
theorem wr_100 {L : List (List UInt8)} (h : 100 < L.length) : wrI L = 3 := if_pos h
def wrL (dg : Int → List UInt8) (L : List (List UInt8)) : List UInt8 := if wrI L = 0 then (bookL dg L).2 else []
end Go.Proofs.YtbnjmkidbfmomaaGreatDoor
namespace Go.Proofs.YtbnjmkidbfmomaaGreatDoor
open Go.Sx Go.RowKit Go.Bt Go.Lib Go.Sand
theorem strs_at {ws : List (List UInt8)} {j : Nat} (h : j < ws.length) : ((ws.map str).toArray)[0 + j * 1]? = some (str (ws.getD j [])) := by
  rw [Nat.zero_add, Nat.mul_one]
  simp [List.getD, h]
theorem strs_at1 {ws : List (List UInt8)} {j : Nat} (h : j + 1 < ws.length) : ((ws.map str).toArray)[1 + j * 1]? = some (str (ws.getD (j + 1) [])) := by
  rw [Nat.mul_one, Nat.add_comm]
  simp [List.getD, h]
theorem isNum_yes {w : List UInt8} {v : Int} (h0 : 0 ≤ v) (h1 : v ≤ 999) (h : dI v = w) : isNum w = true ∧ nv w = v := by
  obtain ⟨u, rfl⟩ := Int.eq_ofNat_of_zero_le h0
  have e : w = decDigits u := by rw [← h]; exact itoa_nat u
  subst e
  unfold isNum nv
  rw [numF_dec (by omega)]
  exact ⟨rfl, rfl⟩
theorem isNum_no {w : List UInt8} {v : Int} {b : Bool} (hx : ∀ u, u < 1000 → w = decDigits u → b = true ∧ v = (u : Int)) (h : ¬ (b = true ∧ 0 ≤ v ∧ v ≤ 999 ∧ dI v = w)) : isNum w = false := by
  cases h9 : isNum w with
  | false => rfl
  | true =>
    exfalso
    unfold isNum at h9
    cases h8 : numF w with
    | none => rw [h8] at h9; cases h9
    | some u =>
      obtain ⟨h1, h2⟩ := numF_some h8
      obtain ⟨h3, h4⟩ := hx u h1 h2
      exact h ⟨h3, by omega, by omega, by rw [h4, h2]; exact itoa_nat u⟩
theorem spl_mem (c : UInt8) : ∀ (L : List UInt8), ∀ w ∈ spl c L, w.length ≤ L.length
  | [], w, h => by simp [spl] at h; subst h; exact Nat.le_refl _
  | b :: l, w, h => by
    have ih := spl_mem c l
    unfold spl at h
    split at h
    · rcases List.mem_cons.1 h with h | h
      · subst h; exact Nat.zero_le _
      · have := ih w h; simp; omega
    · split at h
      · simp at h; subst h; simp
      · rename_i h1 t1 e1
        rcases List.mem_cons.1 h with h | h
        · subst h
          have := ih h1 (by rw [e1]; simp)
          simp; omega
        · have := ih w (by rw [e1]; simp [h])
          simp; omega
theorem spl_len (c : UInt8) (L : List UInt8) (j : Nat) : ((spl c L).getD j []).length ≤ L.length := by
  by_cases h : j < (spl c L).length
  · rw [List.getD_eq_getElem?_getD, List.getElem?_eq_getElem h]
    exact spl_mem c L _ (List.getElem_mem h)
  · rw [List.getD_eq_getElem?_getD, List.getElem?_eq_none (by omega)]; exact Nat.zero_le _
abbrev nmF (ws : List (List UInt8)) (j : Nat) : Int := nv (ws.getD (j + 1) [])
def prV (o : Option Od) (b : Nat) : Value := match o with
  | none => .tuple #[.agg #[.int .i64 0, .slice none 0 0], .bool false]
  | some o => .tuple #[.agg #[.int .i64 (o.k : Nat), .slice (some ⟨b, 0, none⟩) o.ns.length o.ns.length], .bool true]
def prD (o : Option Od) (b : Nat) : Heap := match o with
  | none => []
  | some o => [(b, .cells (intsA o.ns) 3 (0, 0))]
theorem prs_no1 {L : List UInt8} (h : rightS L = false) : prsO L = none := by
  cases h2 : prsO L with
  | none => rfl
  | some o => rw [prs_right h2] at h; cases h
theorem prs_no2 {L : List UInt8} (h : (kdF ((spl 32 L).getD 0 [])).isSome = false) : prsO L = none := by
  unfold prsO
  cases h2 : kdF ((spl 32 L).getD 0 []) with
  | none => rfl
  | some o => rw [h2] at h; cases h
theorem prs_no3 {L : List UInt8} (h : ¬ (spl 32 L).length = 1 + ((kdF ((spl 32 L).getD 0 [])).getD (0, 0)).2) : prsO L = none := by
  unfold prsO
  cases h2 : kdF ((spl 32 L).getD 0 []) with
  | none => rfl
  | some o => rw [h2] at h; simp only at h ⊢; rw [if_neg fun h9 => h h9.1]
theorem drop1 {ws : List (List UInt8)} {k : Nat} (h : k + 1 < ws.length) : (ws.drop 1)[k]? = some (ws.getD (k + 1) []) := by
  rw [List.getElem?_drop]; simp [List.getD, h, Nat.add_comm 1 k]
theorem prs_no4 {L : List UInt8} {k : Nat} (hk : k + 1 < (spl 32 L).length) (h : isNum ((spl 32 L).getD (k + 1) []) = false) : prsO L = none := by
  unfold prsO
  cases h2 : kdF ((spl 32 L).getD 0 []) with
  | none => rfl
  | some o =>
    simp only
    rw [if_neg]
    rintro ⟨_, h9⟩
    have := List.all_eq_true.1 h9 _ (List.mem_of_getElem? (drop1 hk))
    rw [h] at this; cases this
theorem prs_yes {L : List UInt8} {k c : Nat} (h : kdF ((spl 32 L).getD 0 []) = some (k, c)) (hl : (spl 32 L).length = 1 + c) (ha : ∀ j, j < c → isNum ((spl 32 L).getD (j + 1) []) = true) : prsO L = some ⟨k, (List.range c).map (nmF (spl 32 L))⟩ := by
  unfold prsO
  rw [h]
  simp only
  have e : ((spl 32 L).drop 1).map nv = (List.range c).map (nmF (spl 32 L)) := by
    apply List.ext_getElem
    · simp; omega
    · intro i h1 h2
      have hi : i < c := by simpa using h2
      have := drop1 (ws := spl 32 L) (k := i) (by omega)
      rw [List.getElem_map, List.getElem_map, List.getElem_range]
      rw [List.getElem?_eq_getElem (by simp; omega)] at this
      rw [Option.some.inj this]
  rw [if_pos, e]
  refine ⟨hl, List.all_eq_true.2 fun x hx => ?_⟩
  obtain ⟨j, hj, rfl⟩ := List.getElem_of_mem hx
  have hj' : j < c := by simp at hj; omega
  have := drop1 (ws := spl 32 L) (k := j) (by omega)
  rw [List.getElem?_eq_getElem hj] at this
  rw [Option.some.inj this]
  exact ha j hj'
theorem prV_mk {L : List UInt8} {k c b : Nat} {f : Nat → Int} (hp : prsO L = some ⟨k, (List.range c).map f⟩) : Value.tuple #[.agg #[.int .i64 (k : Nat), .slice (some ⟨b, 0, none⟩) c c], .bool true] = prV (prsO L) b := by
  rw [hp]
  unfold prV
  simp only [List.length_map, List.length_range]
theorem kd_c2 {h : List UInt8} : ((kdF h).getD (0, 0)).2 ≤ 2 := by
  cases h2 : kdF h with
  | none => exact Nat.zero_le _
  | some kc => obtain ⟨k, c⟩ := kc; exact (kd_word h2).2.2.2.1
theorem cutA_1 {b n : Nat} (h : ¬ n = 1) : cutA (some ⟨b, 0, none⟩) n 1 1 = some ⟨b, 1, none⟩ := by
  unfold cutA; rw [if_neg h]; rfl
theorem isLine_ok (w0 : World) (L : List UInt8) (hl : L.length ≤ 1000000) :
    Calls Tryz.prog 80 #[str L] w0 (Post (X := Unit) (fun _ => .bool (rightS L)) (fun _ => True) (fun _ => []) w0) := by
  refine calls Tryz.func80 rfl (n := 16) rfl (by simp) ?_
  refine zr (za rfl (zk (zm rfl (zq (PV.lenS rfl Tb.str_9) rfl (zq (PV.geq rfl rfl) rfl (zm rfl (TL.sp 6 rfl (fun g1 => ?_) (fun g1 => ?_))))))))
  refine zm rfl (zq (PV.lenS rfl Tb.str_9) rfl (zq (PV.leq rfl rfl) rfl (zq (PV.pickT rfl rfl) rfl (zm rfl (TL.sp 11 rfl (fun g2 => ?_) (fun g2 => ?_))))))
  refine zm rfl (TL.call rfl Tb.gofn_124 (fun a w hs => cont_ok w L 10) rfl dc (fun _ _ => ?_))
  refine zq ((by first | exact PV.notD rfl | exact PV.not rfl)) rfl ?_
  refine zq (PV.pickT rfl rfl) rfl (za rfl (zt (TQ.retE1 rfl rfl ?_)))
  exact ⟨(), congrArg Value.bool (by unfold rightS; first | exact (decide_eq_false (fun h9 => by omega)).symm | exact (decide_eq_false (fun h9 => by simp only [Bool.false_eq_true, Bool.true_eq_false, decide_eq_true_eq, decide_eq_false_iff_not] at *; omega)).symm | exact decide_eq_decide.2 ⟨fun h9 => ⟨by omega, by omega, h9⟩, fun h9 => h9.2.2⟩), trivial, nils⟩
  refine zx rfl (zx rfl (zx rfl (zq (PV.pickF rfl rfl) rfl (za rfl (zt (TQ.retE1 rfl rfl ?_))))))
  exact ⟨(), congrArg Value.bool (by unfold rightS; first | exact (decide_eq_false (fun h9 => by omega)).symm | exact (decide_eq_false (fun h9 => by simp only [Bool.false_eq_true, Bool.true_eq_false, decide_eq_true_eq, decide_eq_false_iff_not] at *; omega)).symm | exact decide_eq_decide.2 ⟨fun h9 => ⟨by omega, by omega, h9⟩, fun h9 => h9.2.2⟩), trivial, nils⟩
  refine zx rfl (zx rfl (zx rfl (zq (PV.pickF rfl rfl) rfl (zm rfl (zx rfl (zx rfl (zx rfl (zq (PV.pickF rfl rfl) rfl (za rfl (zt (TQ.retE1 rfl rfl ?_)))))))))))
  exact ⟨(), congrArg Value.bool (by unfold rightS; first | exact (decide_eq_false (fun h9 => by omega)).symm | exact (decide_eq_false (fun h9 => by simp only [Bool.false_eq_true, Bool.true_eq_false, decide_eq_true_eq, decide_eq_false_iff_not] at *; omega)).symm | exact decide_eq_decide.2 ⟨fun h9 => ⟨by omega, by omega, h9⟩, fun h9 => h9.2.2⟩), trivial, nils⟩
set_option maxHeartbeats 1000000 in
theorem orderIn_ok (w0 : World) (hW : WAt w0) (L : List UInt8) (hl : L.length ≤ 1000000) :
    Calls Tryz.prog 102 #[str L] w0 (Post (X := Nat) (fun b => prV (prsO L) b) (fun _ => True) (fun b => prD (prsO L) b) w0) := by
  refine calls Tryz.func102 rfl (n := 77) rfl (by simp) ?_
  refine zr (TL.alloc Tb.zero_144 rfl dc (fun b0 hb0 => ?_))
  refine za rfl (zn (TC.seq (zr (zm rfl (TL.call rfl Tb.gofn_80 (fun a w hs => isLine_ok w L hl) rfl dc (fun _ _ => ?_))))))
  refine zq ((by first | exact PV.notD rfl | exact PV.not rfl)) rfl ?_
  refine zn (TC.cd rfl (fun hr => ?_) (fun hr => ?_))
  refine zr (zq (PV.build rfl Tb.zero_144 Tb.pl_144 rfl) rfl (TL.storeAgg rfl rfl Tb.cells_144 u9z rfl rfl rfl rfl rfl ?_))
  refine za rfl (zt (TQ.thenR (TQ.retR rfl (Res.agg rfl Tb.agg_144 m9z rfl (Res.tmp rfl Res.nil)) ?_)))
  simp only [tup]
  have hp : prsO L = none := prs_no1 (decide_eq_false hr)
  exact ⟨0, by rw [hp]; rfl, trivial, by rw [hp]; exact nils⟩
  refine TC.skip (TQ.thenC (zr (zm rfl (TL.call rfl Tb.gofn_147 (fun a w hs => split_ok w (hW.new hs.new) L hl) rfl dc (fun bw hbw => ?_)))))
  refine za rfl (zn (TC.seq ?_))
  have hp1 := spl_pos 32 L
  have hwl := spl_len 32 L
  refine TC.region (zm rfl (zq (PV.index (j := 0) rfl rfl Tb.elm_43 rfl hp1) rfl (zq (PV.loadG' rfl Tb.one_9 m9z (strs_at (j := 0) hp1)) rfl ?_)))
  refine TL.call rfl Tb.gofn_148 (fun a w hs => kindOf_ok w _) rfl dc (fun _ _ => ?_)
  refine zm rfl (zq (PV.extract rfl rfl) rfl (zq (PV.extract rfl rfl) rfl (zq (PV.extract rfl rfl) rfl (za rfl (za rfl (za rfl (zn (TC.seq (TC.seq ?_)))))))))
  have hc2 := kd_c2 (h := (spl 32 L).getD 0 [])
  refine TC.region (zm rfl (zq ((by first | exact PV.notD rfl | exact PV.not rfl)) rfl ?_))
  refine zm rfl (TL.sp 29 rfl (fun g5 => ?_) (fun g5 => ?_))
  refine zx rfl (zx rfl (zx rfl (zx rfl (zx rfl (zq (PV.pickT rfl rfl) rfl (zn (TC.condT rfl (zr (zq (PV.build rfl Tb.zero_144 Tb.pl_144 rfl) rfl (TL.storeAgg rfl rfl Tb.cells_144 u9z rfl rfl rfl rfl rfl ?_))))))))))
  refine za rfl (zt (TQ.thenR (TQ.retR rfl (Res.agg rfl Tb.agg_144 m9z rfl (Res.tmp rfl Res.nil)) ?_)))
  simp only [tup]
  have hp : prsO L = none := prs_no2 (by simpa using g5)
  exact ⟨0, by rw [hp]; rfl, trivial, by rw [hp]; exact nils⟩
  refine zm rfl (zq (PV.len rfl Tb.sl_43) rfl (zm rfl (zq (PV.add rfl rfl om) rfl (zq (PV.neq rfl rfl) rfl (zq (PV.pickF rfl rfl) rfl (zn (TC.cd rfl (fun h35 => ?_) (fun h35 => ?_))))))))
  refine zr (zq (PV.build rfl Tb.zero_144 Tb.pl_144 rfl) rfl (TL.storeAgg rfl rfl Tb.cells_144 u9z rfl rfl rfl rfl rfl ?_))
  refine za rfl (zt (TQ.thenR (TQ.retR rfl (Res.agg rfl Tb.agg_144 m9z rfl (Res.tmp rfl Res.nil)) ?_)))
  simp only [tup]
  have hp : prsO L = none := prs_no3 (by omega)
  exact ⟨0, by rw [hp]; rfl, trivial, by rw [hp]; exact nils⟩
  refine TC.skip (TQ.thenC (zr (zm rfl (TL.makeI rfl rfl Tb.sl_25 Tb.zi_3 rfl om om rfl dc (fun b1 hb1 => ?_)))))
  refine za rfl (zn (TC.seq (TC.seq (TC.sub (G' := [(b1, Obj.cells (intsA (fillZ (nmF (spl 32 L)) ((kdF ((spl 32 L).getD 0 [])).getD (0, 0)).2 0)) 3 (0, 0)), (bw, Obj.cells ((spl 32 L).map str).toArray 9 (0, 0)), (b0, Obj.cells #[.int .i64 0, .slice none 0 0] 144 (0, 0))]) (by rw [fillZ_zero]; exact List.Sublist.refl _) ?_))))
  refine TC.region (zm rfl (zq (PV.sliceL (l := 1) rfl rfl Tb.elm_43 rfl hp1) rfl (zq (PV.len rfl Tb.sl_43) rfl (zm rfl (zn (TC.block (TC.lit [(2, _), (5, _), (8, _), (40, _), (41, _), (42, _)] l9z ?_)))))))
  refine TC.loopK [2, 5, 8, 40, 41] (X := Nat) (fun k => k ≤ (spl 32 L).length - 1 ∧ ∀ j, j < k → isNum ((spl 32 L).getD (j + 1) []) = true) (fun k => [(42, .int .i64 (k : Nat))]) (fun k => [(b1, Obj.cells (intsA (fillZ (nmF (spl 32 L)) ((kdF ((spl 32 L).getD 0 [])).getD (0, 0)).2 k)) 3 (0, 0)), (bw, Obj.cells ((spl 32 L).map str).toArray 9 (0, 0)), (b0, Obj.cells #[.int .i64 0, .slice none 0 0] 144 (0, 0))]) (fun k => (spl 32 L).length - 1 - k) 0 ⟨Nat.zero_le _, fun j hj => absurd hj (Nat.not_lt_zero _)⟩ l9z s9z ?_
  intro k hk
  have hk1 := hk.1
  refine TC.lit [(2, _), (5, _), (8, _), (40, _), (41, _), (42, _)] l9z ?_
  refine zr (zq (PV.lss rfl rfl) rfl (zn (TC.seq (TC.cd rfl (fun hlt => ?_) (fun hlt => ?_)))))
  refine TC.skip (TQ.thenC (TC.seq (TC.block (TC.seq ?_))))
  have hcut := cutA_1 (b := bw) (n := (spl 32 L).length) (by omega)
  refine TC.region (zm rfl (zq (PV.indexA (j := k) rfl hcut rfl Tb.elm_43 rfl om) rfl (zq (M.PV.loadW rfl Tb.one_9 (fun w hn => by rw [add_off]; exact hn.cell m9z (strs_at1 (j := k) om))) rfl ?_)))
  refine za rfl (za rfl (zk (zm rfl (TL.call rfl Tb.gofn_149 (fun a w hs => atoi_ok w (hW.new hs.new) _ (by have := hwl (k + 1); omega)) rfl dc (fun x hx9 => ?_)))))
  refine zm rfl (zq (PV.extract rfl rfl) rfl (zq (PV.extract rfl rfl) rfl (za rfl (za rfl (zn (TC.seq (TC.seq ?_)))))))
  have hxb := hx9.1
  refine TC.region (zm rfl (zq (PV.neqErr rfl) rfl (zm rfl (TL.sp 54 rfl (fun g1 => ?_) (fun g1 => ?_)))))
  refine zx rfl (zx rfl (zq (PV.pickT rfl rfl) rfl (zm rfl (zx rfl (zx rfl (zq (PV.pickT rfl rfl) rfl (zm rfl (zx rfl (zx rfl (zx rfl (zx rfl (zq (PV.pickT rfl rfl) rfl (zn (TC.condT rfl (zr (zq (PV.build rfl Tb.zero_144 Tb.pl_144 rfl) rfl (TL.storeAgg rfl rfl Tb.cells_144 u9z rfl rfl rfl rfl rfl ?_)))))))))))))))))
  refine za rfl (zt (TQ.thenR (TQ.blkR (TQ.thenR (TQ.thenR (TQ.blkR (TQ.thenR (TQ.retR rfl (Res.agg rfl Tb.agg_144 m9z rfl (Res.tmp rfl Res.nil)) ?_))))))))
  simp only [tup]
  have hp : prsO L = none := prs_no4 (k := k) (by omega) (isNum_no hx9.2 (fun h9 => by rw [h9.1] at g1; cases g1))
  exact ⟨0, by rw [hp]; rfl, trivial, by rw [hp]; exact nils⟩
  refine zm rfl (zq (PV.lss rfl rfl) rfl (zq (PV.pickF rfl rfl) rfl (zm rfl (TL.sp 58 rfl (fun g2 => ?_) (fun g2 => ?_)))))
  refine zx rfl (zx rfl (zq (PV.pickT rfl rfl) rfl (zm rfl (zx rfl (zx rfl (zx rfl (zx rfl (zq (PV.pickT rfl rfl) rfl (zn (TC.condT rfl (zr (zq (PV.build rfl Tb.zero_144 Tb.pl_144 rfl) rfl (TL.storeAgg rfl rfl Tb.cells_144 u9z rfl rfl rfl rfl rfl ?_)))))))))))))
  refine za rfl (zt (TQ.thenR (TQ.blkR (TQ.thenR (TQ.thenR (TQ.blkR (TQ.thenR (TQ.retR rfl (Res.agg rfl Tb.agg_144 m9z rfl (Res.tmp rfl Res.nil)) ?_))))))))
  simp only [tup]
  have hp : prsO L = none := prs_no4 (k := k) (by omega) (isNum_no hx9.2 (fun h9 => absurd g2 (by omega)))
  exact ⟨0, by rw [hp]; rfl, trivial, by rw [hp]; exact nils⟩
  refine zm rfl (zq (PV.gtr rfl rfl) rfl (zq (PV.pickF rfl rfl) rfl (zm rfl (TL.sp 62 rfl (fun g3 => ?_) (fun g3 => ?_)))))
  refine zx rfl (zx rfl (zx rfl (zx rfl (zq (PV.pickT rfl rfl) rfl (zn (TC.condT rfl (zr (zq (PV.build rfl Tb.zero_144 Tb.pl_144 rfl) rfl (TL.storeAgg rfl rfl Tb.cells_144 u9z rfl rfl rfl rfl rfl ?_)))))))))
  refine za rfl (zt (TQ.thenR (TQ.blkR (TQ.thenR (TQ.thenR (TQ.blkR (TQ.thenR (TQ.retR rfl (Res.agg rfl Tb.agg_144 m9z rfl (Res.tmp rfl Res.nil)) ?_))))))))
  simp only [tup]
  have hp : prsO L = none := prs_no4 (k := k) (by omega) (isNum_no hx9.2 (fun h9 => absurd g3 (by omega)))
  exact ⟨0, by rw [hp]; rfl, trivial, by rw [hp]; exact nils⟩
  refine zm rfl (TL.call rfl Tb.gofn_78 (fun a w hs => itoa_ok w (hW.new hs.new) _ om om) rfl dc (fun _ _ => ?_))
  refine zm rfl (zq (PV.neqS rfl rfl) rfl (zq (PV.pickF rfl rfl) rfl (zn (TC.cd rfl (fun g4 => ?_) (fun g4 => ?_)))))
  refine zr (zq (PV.build rfl Tb.zero_144 Tb.pl_144 rfl) rfl (TL.storeAgg rfl rfl Tb.cells_144 u9z rfl rfl rfl rfl rfl ?_))
  refine za rfl (zt (TQ.thenR (TQ.blkR (TQ.thenR (TQ.thenR (TQ.blkR (TQ.thenR (TQ.retR rfl (Res.agg rfl Tb.agg_144 m9z rfl (Res.tmp rfl Res.nil)) ?_))))))))
  simp only [tup]
  have hp : prsO L = none := prs_no4 (k := k) (by omega) (isNum_no hx9.2 (fun h9 => g4 h9.2.2.2))
  exact ⟨0, by rw [hp]; rfl, trivial, by rw [hp]; exact nils⟩
  refine TC.skip (TQ.thenC ?_)
  have hyes := isNum_yes (w := (spl 32 L).getD (k + 1) []) (v := x.1) (by omega) (by omega) (Decidable.not_not.1 g4)
  refine TC.region (zm rfl (zm rfl (zm rfl (zq (PV.index1 (j := k) rfl rfl Tb.elm_25 rfl om) rfl (TL.storeI (xs := fillZ (nmF (spl 32 L)) ((kdF ((spl 32 L).getD 0 [])).getD (0, 0)).2 k) (j := k) rfl rfl Tb.cells_3 u9z (by rw [fillZ_len]; omega) rfl rfl ?_)))))
  refine TL.nil (TQ.blkN (TQ.thenC (TC.region (zq (PV.add rfl rfl om) rfl (zm rfl (TL.nil (TQ.thenN (TQ.sub (G' := [(b1, Obj.cells (intsA (fillZ (nmF (spl 32 L)) ((kdF ((spl 32 L).getD 0 [])).getD (0, 0)).2 (k + 1))) 3 (0, 0)), (bw, Obj.cells ((spl 32 L).map str).toArray 9 (0, 0)), (b0, Obj.cells #[.int .i64 0, .slice none 0 0] 144 (0, 0))]) (by rw [← fillZ_set om]; show List.Sublist _ [(b1, Obj.cells (intsA ((fillZ (nmF (spl 32 L)) ((kdF ((spl 32 L).getD 0 [])).getD (0, 0)).2 k).set k _)) 3 (0, 0)), _, _]; rw [show nmF (spl 32 L) k = x.1 from hyes.2]; exact List.Sublist.refl _) ?_))))))))
  refine TQ.backK (k + 1) l9z l9z s9z ⟨by omega, fun j hj => if e : j < k then hk.2 j e else (show k = j by omega) ▸ hyes.1⟩ om
  refine TC.exit (TQ.thenE (TQ.thenE (TQ.blkS (TQ.thenC (zr (zm rfl (zm rfl (zq (PV.build rfl Tb.zero_144 Tb.pl_144 rfl) rfl (TL.storeAgg rfl rfl Tb.cells_144 u9z rfl rfl rfl rfl rfl ?_)))))))))
  refine za rfl (zt (TQ.retR rfl (Res.agg rfl Tb.agg_144 m9z rfl (Res.tmp rfl Res.nil)) ?_))
  simp only [tup]
  have hke : k = (spl 32 L).length - 1 := by omega
  have hsm : kdF ((spl 32 L).getD 0 []) = some (((kdF ((spl 32 L).getD 0 [])).getD (0, 0)).1, ((kdF ((spl 32 L).getD 0 [])).getD (0, 0)).2) := by cases h9 : kdF ((spl 32 L).getD 0 []) with | none => rw [h9] at g5; cases g5 | some kc => rfl
  have hp := prs_yes hsm (by omega) (fun j hj => hk.2 j (by omega))
  exact ⟨b1, prV_mk hp, trivial, by rw [hp]; show List.Sublist [(b1, Obj.cells (intsA ((List.range ((kdF ((spl 32 L).getD 0 [])).getD (0, 0)).2).map (nmF (spl 32 L)))) 3 (0, 0))] _; rw [← fillZ_all, show ((kdF ((spl 32 L).getD 0 [])).getD (0, 0)).2 = k by omega]; exact s9z⟩
end Go.Proofs.YtbnjmkidbfmomaaGreatDoor
namespace Go.Proofs.YtbnjmkidbfmomaaGreatDoor
open Go.RowKit Go.Extern.Stop Go.Stop Go.Extern
theorem as_nil (t : Value) (w : World) :
    Calls Tryz.prog 65 #[.nilIface, t] w fun e w' => e = .returned (.bool false) ∧ w' = w := by
  go_enter Tryz.func65, Tryz.ntmps65
  go_wp2
  go_ret
  exact ⟨rfl, rfl⟩
theorem as_valueOf (t : Addr) (w : World) : (ReflectliteValue.unpack (.iface 111 (.pointer (some t)))).run Tryz.prog w
    = .ok (.agg #[.pointer (some ⟨9, 111, none⟩), .pointer (some ⟨w.heap.size, 0, none⟩), .int .u64 150]) (w.alloc (.cells #[.pointer (some t)] 111)) := by kernel_rfl
theorem as_type (a : Addr) (w : World) : (ReflectliteValue.methodAny (ReflectliteValue.valueError "reflectlite.Value.Type" 0) (fun t _ _ _ => ReflectliteType.toType t) #[.agg #[.pointer (some ⟨9, 111, none⟩), .pointer (some a), .int .u64 150]]).run Tryz.prog w
    = .ok (.iface 196 (.agg #[.pointer (some ⟨9, 111, none⟩)])) w := by kernel_rfl
theorem as_mKind (h : Value) (w : World) : (Go.method 418 196 (.agg #[h]) "Kind").run Tryz.prog w = .ok (270, h) w := by kernel_rfl
theorem as_kind111 (w : World) : ((ReflectliteType.abiMethod fun t => Functor.map (fun a : Nat => Value.int IntKind.u8 (a : Int)) (Rtype.kind t)) #[.pointer (some ⟨9, 111, none⟩)]).run Tryz.prog w = .ok (.int .u8 22) w := by kernel_rfl
theorem as_kind109 (w : World) : ((ReflectliteType.abiMethod fun t => Functor.map (fun a : Nat => Value.int IntKind.u8 (a : Int)) (Rtype.kind t)) #[.pointer (some ⟨9, 109, none⟩)]).run Tryz.prog w = .ok (.int .u8 25) w := by kernel_rfl
theorem rlm (z : Sem Value) (f : TypeId → Addr → Nat → Nat → Sem Value) (v : Value) :
    ReflectliteValue.method z f #[v] = (do match ← ReflectliteValue.parts v with | none => z | some (t, a, fl) => f t a fl (fl % 32)) := rfl
theorem as_parts111 (a : Addr) (w : World) : (ReflectliteValue.parts (.agg #[.pointer (some ⟨9, 111, none⟩), .pointer (some a), .int .u64 150])).run Tryz.prog w = .ok (some (111, a, 150)) w := by kernel_rfl
theorem as_isNil (a p : Addr) (W : World) (ha : W.cell? a = some (.pointer (some p))) :
    (ReflectliteValue.method (ReflectliteValue.valueError "reflectlite.Value.IsNil" 0) ReflectliteValue.isNil #[.agg #[.pointer (some ⟨9, 111, none⟩), .pointer (some a), .int .u64 150]]).run Tryz.prog W = .ok (.bool false) W := by
  rw [rlm]
  simp only [Sem.run_bind, as_parts111, Result.andThen]
  simp [ReflectliteValue.isNil, loadVar, isAgg, underlying, Tryz.underlying111, ha, Result.andThen]
theorem as_mElem (h : Value) (w : World) : (Go.method 418 196 (.agg #[h]) "Elem").run Tryz.prog w = .ok (280, .agg #[h]) w := by kernel_rfl
theorem as_mImpl (h : Value) (w : World) : (Go.method 418 196 (.agg #[h]) "Implements").run Tryz.prog w = .ok (281, .agg #[h]) w := by kernel_rfl
theorem as_mAssign (h : Value) (w : World) : (Go.method 418 196 (.agg #[h]) "AssignableTo").run Tryz.prog w = .ok (278, .agg #[h]) w := by kernel_rfl
theorem as_elem (w : World) : (ReflectliteType.method ReflectliteType.elem #[.agg #[.pointer (some ⟨9, 111, none⟩)]]).run Tryz.prog w = .ok (.iface 196 (.agg #[.pointer (some ⟨9, 109, none⟩)])) w := by kernel_rfl
theorem as_impl (w : World) : (ReflectliteType.relation "Implements" ReflectliteType.implements_ #[.agg #[.pointer (some ⟨9, 109, none⟩)], .iface 196 (.agg #[.pointer (some ⟨9, 105, none⟩)])]).run Tryz.prog w = .ok (.bool true) w := by kernel_rfl
theorem as_typeOf (v : Value) (w : World) : (ReflectliteType.typeOf #[.iface 109 v]).run Tryz.prog w = .ok (.iface 196 (.agg #[.pointer (some ⟨9, 109, none⟩)])) w := by kernel_rfl
theorem as_assign (w : World) : (ReflectliteType.relation "AssignableTo" ReflectliteType.assignableTo #[.agg #[.pointer (some ⟨9, 109, none⟩)], .iface 196 (.agg #[.pointer (some ⟨9, 109, none⟩)])]).run Tryz.prog w = .ok (.bool true) w := by kernel_rfl
theorem as_valueOfE (cs : Array Value) (w : World) : (ReflectliteValue.unpack (.iface 109 (.agg cs))).run Tryz.prog w
    = .ok (.agg #[.pointer (some ⟨9, 109, none⟩), .pointer (some ⟨w.heap.size, 0, none⟩), .int .u64 153]) (w.alloc (.cells cs 109)) := by kernel_rfl
theorem as_elemOf (w : World) : (Rtype.elem? 111).run Tryz.prog w = .ok (some 109) w := by kernel_rfl
theorem as_mk (p : Addr) (w : World) : (ReflectliteValue.mk 109 p ReflectliteValue.flagAddr).run Tryz.prog w = .ok (.agg #[.pointer (some ⟨9, 109, none⟩), .pointer (some p), .int .u64 409]) w := by kernel_rfl
theorem as_elemV (a p : Addr) (W : World) (ha : W.cell? a = some (.pointer (some p))) :
    (ReflectliteValue.method (ReflectliteValue.valueError "reflectlite.Value.Elem" 0) ReflectliteValue.elem #[.agg #[.pointer (some ⟨9, 111, none⟩), .pointer (some a), .int .u64 150]]).run Tryz.prog W
      = .ok (.agg #[.pointer (some ⟨9, 109, none⟩), .pointer (some p), .int .u64 409]) W := by
  rw [rlm]
  simp only [Sem.run_bind, as_parts111, Result.andThen]
  simp [ReflectliteValue.elem, loadVar, isAgg, underlying, Tryz.underlying111, ha, Result.andThen, as_elemOf, as_mk]
theorem rls (v x : Value) : ReflectliteValue.set #[v, x] = (do
    let (some (dst, a, fl), some (src, b, _)) := (← ReflectliteValue.parts v, ← ReflectliteValue.parts x)
      | unsupported (.noEntry "extern/(internal/reflectlite.Value).Set.zeroValue")
    if fl / ReflectliteValue.flagAddr % 2 == 0 then unsupported (.noEntry "extern/(internal/reflectlite.Value).Set.unaddressable")
    let val ← loadVar src b
    if ← Rtype.directlyAssignable dst src then storeVar dst a val
    else if ← Rtype.implements dst src then
      if (← Rtype.kind src) == 20 then
        match val with
        | .nilIface => unsupported (.noEntry "extern/reflectlite: a nil value of one interface type handed on as a value of another")
        | _ => storeVar dst a val
      else storeVar dst a (.iface src val)
    else panicString ("reflectlite.Set: value of type " ++ (← Rtype.spelt src) ++ " is not assignable to type " ++ (← Rtype.spelt dst))
    pure (.tuple #[])) := rfl
theorem as_parts109a (a : Addr) (w : World) : (ReflectliteValue.parts (.agg #[.pointer (some ⟨9, 109, none⟩), .pointer (some a), .int .u64 409])).run Tryz.prog w = .ok (some (109, a, 409)) w := by kernel_rfl
theorem as_parts109 (a : Addr) (w : World) : (ReflectliteValue.parts (.agg #[.pointer (some ⟨9, 109, none⟩), .pointer (some a), .int .u64 153])).run Tryz.prog w = .ok (some (109, a, 153)) w := by kernel_rfl
theorem as_direct (w : World) : (Rtype.directlyAssignable 109 109).run Tryz.prog w = .ok true w := by kernel_rfl
theorem as_set (t b : Nat) (x y o1 o2 : Value) (hx : x.oneCell' = true) (hy : y.oneCell' = true) (W : World) (hb : W.heap[b]? = some (.cells #[x, y] 109 (0, 0))) (ht : W.heap[t]? = some (.cells #[o1, o2] 109 (0, 0))) :
    (ReflectliteValue.set #[.agg #[.pointer (some ⟨9, 109, none⟩), .pointer (some ⟨t, 0, none⟩), .int .u64 409], .agg #[.pointer (some ⟨9, 109, none⟩), .pointer (some ⟨b, 0, none⟩), .int .u64 153]]).run Tryz.prog W
      = .ok (.tuple #[]) (W.setRow t #[x, y]) := by
  have hl := Sx.run_loadAgg (P := Tryz.prog) (w := W) (t := 109) (k := 2) (b := b) (off := 0) (vs := [x, y]) Tb.agg_109 rfl (fun j v h => by
    have hc : W.cell? ⟨b, 0 + j, none⟩ = ([x, y] : List Value)[j]? := by
      simp [World.cell?, hb]
    rw [hc]; exact h)
  have hst := run_storeCells_at (P := Tryz.prog) t 0 109 [x, y] 0 #[o1, o2] W ht (by simp) (by simp [hx, hy])
  rw [rls]
  simp only [Sem.run_bind, as_parts109a, as_parts109, Result.andThen]
  simp [ReflectliteValue.flagAddr, hl, Result.andThen, as_direct]
  have hst' : (storeCells ⟨t, 0, none⟩ [x, y]).run Tryz.prog W = .ok () (W.setRow t #[x, y]) := hst
  have hsv : (storeVar 109 ⟨t, 0, none⟩ (.agg #[x, y])).run Tryz.prog W = .ok () (W.setRow t #[x, y]) := by
    have h2 := Tb.cells_109
    unfold Sx.cellsN at h2
    cases hi : Tryz.prog.info? 109 with
    | none => simp [hi] at h2
    | some i =>
      simp [hi] at h2
      simp [storeVar, sizeOf, typeInfo, hi, h2, Value.cells, hst']
  rw [hsv]
set_option maxHeartbeats 4000000 in
theorem as_hit (t : Nat) (x y o1 o2 : Value) (hx : x.oneCell' = true) (hy : y.oneCell' = true) (w : World) (hg : w.cell? ⟨0, 0, none⟩ = some (.iface 196 (.agg #[.pointer (some ⟨9, 105, none⟩)]))) (ht : w.heap[t]? = some (.cells #[o1, o2] 109 (0, 0))) :
    Calls Tryz.prog 65 #[.iface 109 (.agg #[x, y]), .iface 111 (.pointer (some ⟨t, 0, none⟩))] w fun ev w' => ev = .returned (.bool true) ∧ w' = ((((w.alloc (.cells #[.pointer (some ⟨t, 0, none⟩)] 111)).alloc (.cells #[.pointer (some ⟨9, 111, none⟩), .pointer (some ⟨w.heap.size, 0, none⟩), .int .u64 150] 152)).alloc (.cells #[.pointer (some ⟨9, 111, none⟩), .pointer (some ⟨w.heap.size, 0, none⟩), .int .u64 150] 152)).alloc (.cells #[x, y] 109)).setRow t #[x, y] := by
  have h104 := @run_callFunc_extern Tryz.prog 104 _ (fun args => ReflectliteValue.unpack (args.getD 0 (.tuple #[]))) Tryz.func104 (by kernel_rfl) (by kernel_rfl) (by kernel_rfl) (by kernel_rfl)
  have h105 := @run_callFunc_extern Tryz.prog 105 _ (ReflectliteValue.methodAny (ReflectliteValue.valueError "reflectlite.Value.Type" 0) (fun t _ _ _ => ReflectliteType.toType t)) Tryz.func105 (by kernel_rfl) (by kernel_rfl) (by kernel_rfl) (by kernel_rfl)
  have h106 := @run_callFunc_extern Tryz.prog 106 _ (ReflectliteValue.method (ReflectliteValue.valueError "reflectlite.Value.IsNil" 0) ReflectliteValue.isNil) Tryz.func106 (by kernel_rfl) (by kernel_rfl) (by kernel_rfl) (by kernel_rfl)
  have h270 := @run_callFunc_extern Tryz.prog 270 _ (ReflectliteType.abiMethod fun t => do pure (.int .u8 (← Rtype.kind t))) Tryz.func270 (by kernel_rfl) (by kernel_rfl) (by kernel_rfl) (by kernel_rfl)
  have h280 := @run_callFunc_extern Tryz.prog 280 _ (ReflectliteType.method ReflectliteType.elem) Tryz.func280 (by kernel_rfl) (by kernel_rfl) (by kernel_rfl) (by kernel_rfl)
  have h281 := @run_callFunc_extern Tryz.prog 281 _ (ReflectliteType.relation "Implements" ReflectliteType.implements_) Tryz.func281 (by kernel_rfl) (by kernel_rfl) (by kernel_rfl) (by kernel_rfl)
  have h155 := @run_callFunc_extern Tryz.prog 155 _ ReflectliteType.typeOf Tryz.func155 (by kernel_rfl) (by kernel_rfl) (by kernel_rfl) (by kernel_rfl)
  have h278 := @run_callFunc_extern Tryz.prog 278 _ (ReflectliteType.relation "AssignableTo" ReflectliteType.assignableTo) Tryz.func278 (by kernel_rfl) (by kernel_rfl) (by kernel_rfl) (by kernel_rfl)
  have h156 := @run_callFunc_extern Tryz.prog 156 _ (ReflectliteValue.method (ReflectliteValue.valueError "reflectlite.Value.Elem" 0) ReflectliteValue.elem) Tryz.func156 (by kernel_rfl) (by kernel_rfl) (by kernel_rfl) (by kernel_rfl)
  have h157 := @run_callFunc_extern Tryz.prog 157 _ ReflectliteValue.set Tryz.func157 (by kernel_rfl) (by kernel_rfl) (by kernel_rfl) (by kernel_rfl)
  have tO := as_typeOf
  have mA := as_mAssign
  have a25 := as_assign
  have v25 := as_valueOfE
  have f6 := as_valueOf
  have f7 := as_type
  have mK := as_mKind
  have mE := as_mElem
  have mI := as_mImpl
  have k27 := as_kind111
  have k25 := as_kind109
  have e27 := as_elem
  have i25 := as_impl
  have n8 := as_isNil ⟨w.heap.size, 0, none⟩ ⟨t, 0, none⟩ ((w.alloc (.cells #[.pointer (some ⟨t, 0, none⟩)] 111)).alloc (.cells #[.pointer (some ⟨9, 111, none⟩), .pointer (some ⟨w.heap.size, 0, none⟩), .int .u64 150] 152)) (by simp)
  have htl : t < w.heap.size := (Array.getElem?_eq_some_iff.1 ht).1
  have hlt : 0 < w.heap.size := by omega
  have hg2 : ((w.alloc (.cells #[.pointer (some ⟨t, 0, none⟩)] 111)).alloc (.cells #[.pointer (some ⟨9, 111, none⟩), .pointer (some ⟨w.heap.size, 0, none⟩), .int .u64 150] 152)).cell? ⟨0, 0, none⟩ = some (.iface 196 (.agg #[.pointer (some ⟨9, 105, none⟩)])) := by
    rw [World.cell?_alloc_lt _ _ ⟨0, 0, none⟩ (by simp), World.cell?_alloc_lt _ _ ⟨0, 0, none⟩ hlt]; exact hg
  have el := as_elemV ⟨w.heap.size, 0, none⟩ ⟨t, 0, none⟩ (((w.alloc (.cells #[.pointer (some ⟨t, 0, none⟩)] 111)).alloc (.cells #[.pointer (some ⟨9, 111, none⟩), .pointer (some ⟨w.heap.size, 0, none⟩), .int .u64 150] 152)).alloc (.cells #[.pointer (some ⟨9, 111, none⟩), .pointer (some ⟨w.heap.size, 0, none⟩), .int .u64 150] 152)) (by rw [World.cell?_alloc_lt _ _ ⟨w.heap.size, 0, none⟩ (by simp; omega)]; simp)
  have ha : ∀ (W : World) (o : Obj) (k : Nat), k < W.heap.size → (W.alloc o).heap[k]? = W.heap[k]? := fun W o k hk => by
    show (W.heap.push o)[k]? = _
    rw [Array.getElem?_push]; simp [Nat.ne_of_lt hk]
  have hz : ∀ (W : World) (o : Obj), (W.alloc o).heap.size = W.heap.size + 1 := fun W o => by show (W.heap.push o).size = _; simp
  have st := as_set t (w.heap.size + 1 + 1 + 1) x y o1 o2 hx hy ((((w.alloc (.cells #[.pointer (some ⟨t, 0, none⟩)] 111)).alloc (.cells #[.pointer (some ⟨9, 111, none⟩), .pointer (some ⟨w.heap.size, 0, none⟩), .int .u64 150] 152)).alloc (.cells #[.pointer (some ⟨9, 111, none⟩), .pointer (some ⟨w.heap.size, 0, none⟩), .int .u64 150] 152)).alloc (.cells #[x, y] 109))
    (by
      show (Array.push _ _)[_]? = _
      rw [Array.getElem?_push, if_pos (by rw [hz, hz, hz])])
    (by rw [ha _ _ _ (by rw [hz, hz, hz]; omega), ha _ _ _ (by rw [hz, hz]; omega), ha _ _ _ (by rw [hz]; omega), ha _ _ _ htl]; exact ht)
  go_enter Tryz.func65, Tryz.ntmps65
  go_wp2
  refine wp_loop_rounds 1 ?_
  rw [rounds_succ]
  go_wp2
  go_ret
  exact ⟨rfl, rfl⟩
end Go.Proofs.YtbnjmkidbfmomaaGreatDoor
