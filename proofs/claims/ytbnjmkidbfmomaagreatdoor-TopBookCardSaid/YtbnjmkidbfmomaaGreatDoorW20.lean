/- Xk Xl Xm Xn Xo -/
import Derived.Test.YtbnjmkidbfmomaaGreatDoorW06
import Derived.Test.YtbnjmkidbfmomaaGreatDoorW18
import Derived.Test.YtbnjmkidbfmomaaGreatDoorW19
import Derived.Laws.Strings3
set_option linter.unusedVariables false
set_option linter.unusedSimpArgs false
set_option maxRecDepth 100000
namespace Go.Proofs.YtbnjmkidbfmomaaGreatDoor
open Go.Sx Go.RowKit Go.Bt Go.Lib Go.Sand
section
variable {P : Program} {n : Nat} {w0 : World} {E : Env} {G : Heap} {d : Option Nat} {ty : TypeId} {pos : String} {aft : Array Edge} {g : Option (Nat × Bool)}
theorem PV.field {x : Operand} {t f : Nat} {v r : Value} (hx : evo E x = some v) (h : ∀ w, (Instr.field t v f).run P w = .ok r w) : PV P n w0 E G ⟨d, .field t x f, ty, pos, aft, g⟩ r :=
  fun a w hs => by simp only [execOp, hs.ev hx]; simp [h]
end
abbrev bkL (c : Co) : List Value := [.int .i64 c.day, .int .i64 (c.wet : Nat), .int .i64 c.money, .int .i64 c.cut, .int .i64 c.load, .int .i64 c.grd, .bool c.shut]
theorem fd_0 (a b c d e f : Int) (g : Bool) (p q : Option Addr) (k l m n : Nat) (w : World) : (Instr.field 101 (.agg #[.int .i64 a, .int .i64 b, .int .i64 c, .int .i64 d, .int .i64 e, .int .i64 f, .bool g, .slice p k l, .slice q m n]) 0).run Tryz.prog w = .ok (.agg #[.int .i64 a, .int .i64 b, .int .i64 c, .int .i64 d, .int .i64 e, .int .i64 f, .bool g]) w := by kernel_rfl
theorem fd_1 (a b c d e f : Int) (g : Bool) (p q : Option Addr) (k l m n : Nat) (w : World) : (Instr.field 101 (.agg #[.int .i64 a, .int .i64 b, .int .i64 c, .int .i64 d, .int .i64 e, .int .i64 f, .bool g, .slice p k l, .slice q m n]) 1).run Tryz.prog w = .ok (.slice p k l) w := by kernel_rfl
theorem fd_2 (a b c d e f : Int) (g : Bool) (p q : Option Addr) (k l m n : Nat) (w : World) : (Instr.field 101 (.agg #[.int .i64 a, .int .i64 b, .int .i64 c, .int .i64 d, .int .i64 e, .int .i64 f, .bool g, .slice p k l, .slice q m n]) 2).run Tryz.prog w = .ok (.slice q m n) w := by kernel_rfl
theorem fe_0 (a b c d e f : Int) (g : Bool) (w : World) : (Instr.field 99 (.agg #[.int .i64 a, .int .i64 b, .int .i64 c, .int .i64 d, .int .i64 e, .int .i64 f, .bool g]) 0).run Tryz.prog w = .ok (.int .i64 a) w := by kernel_rfl
theorem fe_1 (a b c d e f : Int) (g : Bool) (w : World) : (Instr.field 99 (.agg #[.int .i64 a, .int .i64 b, .int .i64 c, .int .i64 d, .int .i64 e, .int .i64 f, .bool g]) 1).run Tryz.prog w = .ok (.int .i64 b) w := by kernel_rfl
theorem fe_2 (a b c d e f : Int) (g : Bool) (w : World) : (Instr.field 99 (.agg #[.int .i64 a, .int .i64 b, .int .i64 c, .int .i64 d, .int .i64 e, .int .i64 f, .bool g]) 2).run Tryz.prog w = .ok (.int .i64 c) w := by kernel_rfl
theorem fe_3 (a b c d e f : Int) (g : Bool) (w : World) : (Instr.field 99 (.agg #[.int .i64 a, .int .i64 b, .int .i64 c, .int .i64 d, .int .i64 e, .int .i64 f, .bool g]) 3).run Tryz.prog w = .ok (.int .i64 d) w := by kernel_rfl
theorem fe_4 (a b c d e f : Int) (g : Bool) (w : World) : (Instr.field 99 (.agg #[.int .i64 a, .int .i64 b, .int .i64 c, .int .i64 d, .int .i64 e, .int .i64 f, .bool g]) 4).run Tryz.prog w = .ok (.int .i64 e) w := by kernel_rfl
theorem fe_5 (a b c d e f : Int) (g : Bool) (w : World) : (Instr.field 99 (.agg #[.int .i64 a, .int .i64 b, .int .i64 c, .int .i64 d, .int .i64 e, .int .i64 f, .bool g]) 5).run Tryz.prog w = .ok (.int .i64 f) w := by kernel_rfl
theorem fe_6 (a b c d e f : Int) (g : Bool) (w : World) : (Instr.field 99 (.agg #[.int .i64 a, .int .i64 b, .int .i64 c, .int .i64 d, .int .i64 e, .int .i64 f, .bool g]) 6).run Tryz.prog w = .ok (.bool g) w := by kernel_rfl
theorem ords_at {w0 w : World} {G : Heap} {h : HD} {l : List (List UInt8)} (hn : New w0 w G) (hm : ∀ y ∈ gbR stR 9 h l, y ∈ G) (ho : goR stR h l) : StrsAt w (gp h) l := fun j hj => by
  obtain ⟨q, h1, h2⟩ := RecsAt.s (R := stR) hn hm ho j hj
  have := h2 0 _ rfl
  rw [addr_add_add] at this
  exact ⟨q, h1, this⟩
theorem ords_40 {s : St} {c : Co} (h : Inv s c) (j : Nat) : (c.ords.getD j []).length ≤ 40 := by
  by_cases hj : j < c.ords.length
  · have h1 := List.all_eq_true.1 h.rt c.ords[j] (List.getElem_mem hj)
    have e : c.ords.getD j [] = c.ords[j] := by simp [List.getD, hj]
    rw [e]
    exact (right_of h1).2.1
  · have e : c.ords.getD j [] = [] := by rw [List.getD_eq_getElem?_getD, List.getElem?_eq_none (by omega)]; rfl
    rw [e]; exact Nat.zero_le _
theorem look_ok (w0 w : World) (s : St) (hv : SV s) (u : SU) (c : Co) (v : TV) (b : Nat) (ho : HD) (Z : Heap) (hN : New w0 w (coB b s u 0 c v ho :: Z)) :
    Calls Tryz.prog 66 #[.pointer (some ⟨b, 0, none⟩)] w (Post (X := Unit) (fun _ => .agg (tyL c v).toArray) (fun _ => True) (fun _ => coB b s u 0 c v ho :: Z) w0) := by
  refine callsDfM hN Tryz.func66 rfl (n := 17) rfl (by simp) ?_
  refine TG.seq (TG.region o9z kr ?_)
  refine TL.alloc Tb.zero_101 rfl dc (fun b0 hb0 => ?_)
  refine TL.nil (TQ.thenG (TG.seq (TG.seq (TG.region o9z kr ?_))))
  refine zm rfl (TL.call rfl Tb.gofn_61 (fun a w hs => isNone_ok w b s.need (Inv.need hv) (hs.new.cell m9z rfl)) rfl dc (fun _ _ => ?_))
  refine TL.nil (TQ.thenG (TG.condF rfl ?_))
  refine TG.skip (TQ.thenG (TG.seq (TG.region o9z kr ?_)))
  refine zm rfl (zq (PV.nilCheck rfl) rfl (zq (PV.fieldAddr rfl Tb.fo_103_1) rfl (TL.callW (X := Unit) (fun _ => .tuple #[]) (fun _ => True) (fun _ => (b0, Obj.cells tyZ.toArray 101 (0, 0)) :: coB b s u 1 c v ho :: Z) rfl Tb.gofn_62 (fun a w hs => lock_new (cs := (coL s u 0 c v (gval ho c.ords.length)).toArray) hs.new u9z rfl) rfl dc (fun _ _ => ?_))))
  refine TL.nil (TQ.thenG (TG.seq (TG.regionL ?_)))
  refine TGL.pre 3 o9z (by kernel_rfl) ?_
  simp only [List.take_succ_cons, List.take_zero, List.drop_succ_cons, List.drop_zero]
  refine zm rfl (zq (PV.nilCheck rfl) rfl (zq (PV.fieldAddr rfl Tb.fo_103_1) rfl (TL.nil (TQ.thenL ?_))))
  refine TGL.defer (fun a w hs => resolve_fn rfl hs rfl) ?_
  refine TGL.opsAll o9z (by kernel_rfl) (TL.nil ?_)
  refine TQ.thenG (TG.seq (TG.region o9z kr ?_))
  refine zm rfl (zq (PV.nilCheck rfl) rfl (zq (PV.fieldAddr rfl Tb.fo_103_2) rfl (zq (PV.loadMid (cs := coL s u 1 c v (gval ho c.ords.length)) (off := 8) (k := 9) (vs := tyL c v) rfl Tb.agg_101 m9z rfl rfl) rfl ?_)))
  refine TL.storeAgg (vs := tyL c v) rfl rfl Tb.cells_101 u9z rfl rfl rfl rfl rfl ?_
  refine TL.nil (TQ.thenG (TG.ret (TQ.retD (caps := []) (G' := (b0, Obj.cells (tyL c v).toArray 101 (0, 0)) :: coB b s u 0 c v ho :: Z) Tb.gofn_63 (unlock_new (cs := (coL s u 1 c v (gval ho c.ords.length)).toArray) u9z rfl) ?_)))
  refine TQ.retR rfl (Res.agg rfl Tb.agg_101 m9z rfl Res.nil) ?_
  simp only [tup]
  exact ⟨(), trivial, trivial, List.Sublist.cons _ (List.Sublist.refl _)⟩
theorem Day_ok (w0 w : World) (s : St) (hv : SV s) (u : SU) (c : Co) (v : TV) (b : Nat) (ho : HD) (Z : Heap) (hN : New w0 w (coB b s u 0 c v ho :: Z)) :
    Calls Tryz.prog 19 #[.pointer (some ⟨b, 0, none⟩)] w (Post (X := Unit) (fun _ => .int .i64 c.day) (fun _ => True) (fun _ => coB b s u 0 c v ho :: Z) w0) := by
  refine callsM hN Tryz.func19 rfl (n := 7) rfl (by simp) ?_
  refine zr (za rfl (zk (zm rfl (TL.callW (X := Unit) (fun _ => .agg (tyL c v).toArray) (fun _ => True) (fun _ => coB b s u 0 c v ho :: Z) rfl Tb.gofn_66 (fun a w hs => look_ok w0 w s hv u c v b ho Z hs.new) rfl dc (fun _ _ => ?_)))))
  refine zq (PV.field rfl (fd_0 _ _ _ _ _ _ _ _ _ _ _ _ _)) rfl ?_
  refine zq (PV.field rfl (fe_0 _ _ _ _ _ _ _)) rfl ?_
  refine za rfl (zt (TQ.retE1 rfl rfl ?_))
  exact ⟨(), rfl, trivial, List.Sublist.refl _⟩
theorem Wet_ok (w0 w : World) (s : St) (hv : SV s) (u : SU) (c : Co) (v : TV) (b : Nat) (ho : HD) (Z : Heap) (hN : New w0 w (coB b s u 0 c v ho :: Z)) :
    Calls Tryz.prog 20 #[.pointer (some ⟨b, 0, none⟩)] w (Post (X := Unit) (fun _ => .int .i64 (c.wet : Nat)) (fun _ => True) (fun _ => coB b s u 0 c v ho :: Z) w0) := by
  refine callsM hN Tryz.func20 rfl (n := 7) rfl (by simp) ?_
  refine zr (za rfl (zk (zm rfl (TL.callW (X := Unit) (fun _ => .agg (tyL c v).toArray) (fun _ => True) (fun _ => coB b s u 0 c v ho :: Z) rfl Tb.gofn_66 (fun a w hs => look_ok w0 w s hv u c v b ho Z hs.new) rfl dc (fun _ _ => ?_)))))
  refine zq (PV.field rfl (fd_0 _ _ _ _ _ _ _ _ _ _ _ _ _)) rfl ?_
  refine zq (PV.field rfl (fe_1 _ _ _ _ _ _ _)) rfl ?_
  refine za rfl (zt (TQ.retE1 rfl rfl ?_))
  exact ⟨(), rfl, trivial, List.Sublist.refl _⟩
theorem Money_ok (w0 w : World) (s : St) (hv : SV s) (u : SU) (c : Co) (v : TV) (b : Nat) (ho : HD) (Z : Heap) (hN : New w0 w (coB b s u 0 c v ho :: Z)) :
    Calls Tryz.prog 21 #[.pointer (some ⟨b, 0, none⟩)] w (Post (X := Unit) (fun _ => .int .i64 c.money) (fun _ => True) (fun _ => coB b s u 0 c v ho :: Z) w0) := by
  refine callsM hN Tryz.func21 rfl (n := 7) rfl (by simp) ?_
  refine zr (za rfl (zk (zm rfl (TL.callW (X := Unit) (fun _ => .agg (tyL c v).toArray) (fun _ => True) (fun _ => coB b s u 0 c v ho :: Z) rfl Tb.gofn_66 (fun a w hs => look_ok w0 w s hv u c v b ho Z hs.new) rfl dc (fun _ _ => ?_)))))
  refine zq (PV.field rfl (fd_0 _ _ _ _ _ _ _ _ _ _ _ _ _)) rfl ?_
  refine zq (PV.field rfl (fe_2 _ _ _ _ _ _ _)) rfl ?_
  refine za rfl (zt (TQ.retE1 rfl rfl ?_))
  exact ⟨(), rfl, trivial, List.Sublist.refl _⟩
theorem Cut_ok (w0 w : World) (s : St) (hv : SV s) (u : SU) (c : Co) (v : TV) (b : Nat) (ho : HD) (Z : Heap) (hN : New w0 w (coB b s u 0 c v ho :: Z)) :
    Calls Tryz.prog 22 #[.pointer (some ⟨b, 0, none⟩)] w (Post (X := Unit) (fun _ => .int .i64 c.cut) (fun _ => True) (fun _ => coB b s u 0 c v ho :: Z) w0) := by
  refine callsM hN Tryz.func22 rfl (n := 7) rfl (by simp) ?_
  refine zr (za rfl (zk (zm rfl (TL.callW (X := Unit) (fun _ => .agg (tyL c v).toArray) (fun _ => True) (fun _ => coB b s u 0 c v ho :: Z) rfl Tb.gofn_66 (fun a w hs => look_ok w0 w s hv u c v b ho Z hs.new) rfl dc (fun _ _ => ?_)))))
  refine zq (PV.field rfl (fd_0 _ _ _ _ _ _ _ _ _ _ _ _ _)) rfl ?_
  refine zq (PV.field rfl (fe_3 _ _ _ _ _ _ _)) rfl ?_
  refine za rfl (zt (TQ.retE1 rfl rfl ?_))
  exact ⟨(), rfl, trivial, List.Sublist.refl _⟩
theorem Loaded_ok (w0 w : World) (s : St) (hv : SV s) (u : SU) (c : Co) (v : TV) (b : Nat) (ho : HD) (Z : Heap) (hN : New w0 w (coB b s u 0 c v ho :: Z)) :
    Calls Tryz.prog 23 #[.pointer (some ⟨b, 0, none⟩)] w (Post (X := Unit) (fun _ => .int .i64 c.load) (fun _ => True) (fun _ => coB b s u 0 c v ho :: Z) w0) := by
  refine callsM hN Tryz.func23 rfl (n := 7) rfl (by simp) ?_
  refine zr (za rfl (zk (zm rfl (TL.callW (X := Unit) (fun _ => .agg (tyL c v).toArray) (fun _ => True) (fun _ => coB b s u 0 c v ho :: Z) rfl Tb.gofn_66 (fun a w hs => look_ok w0 w s hv u c v b ho Z hs.new) rfl dc (fun _ _ => ?_)))))
  refine zq (PV.field rfl (fd_0 _ _ _ _ _ _ _ _ _ _ _ _ _)) rfl ?_
  refine zq (PV.field rfl (fe_4 _ _ _ _ _ _ _)) rfl ?_
  refine za rfl (zt (TQ.retE1 rfl rfl ?_))
  exact ⟨(), rfl, trivial, List.Sublist.refl _⟩
theorem Ground_ok (w0 w : World) (s : St) (hv : SV s) (u : SU) (c : Co) (v : TV) (b : Nat) (ho : HD) (Z : Heap) (hN : New w0 w (coB b s u 0 c v ho :: Z)) :
    Calls Tryz.prog 24 #[.pointer (some ⟨b, 0, none⟩)] w (Post (X := Unit) (fun _ => .int .i64 c.grd) (fun _ => True) (fun _ => coB b s u 0 c v ho :: Z) w0) := by
  refine callsM hN Tryz.func24 rfl (n := 7) rfl (by simp) ?_
  refine zr (za rfl (zk (zm rfl (TL.callW (X := Unit) (fun _ => .agg (tyL c v).toArray) (fun _ => True) (fun _ => coB b s u 0 c v ho :: Z) rfl Tb.gofn_66 (fun a w hs => look_ok w0 w s hv u c v b ho Z hs.new) rfl dc (fun _ _ => ?_)))))
  refine zq (PV.field rfl (fd_0 _ _ _ _ _ _ _ _ _ _ _ _ _)) rfl ?_
  refine zq (PV.field rfl (fe_5 _ _ _ _ _ _ _)) rfl ?_
  refine za rfl (zt (TQ.retE1 rfl rfl ?_))
  exact ⟨(), rfl, trivial, List.Sublist.refl _⟩
theorem Shut_ok (w0 w : World) (s : St) (hv : SV s) (u : SU) (c : Co) (v : TV) (b : Nat) (ho : HD) (Z : Heap) (hN : New w0 w (coB b s u 0 c v ho :: Z)) :
    Calls Tryz.prog 27 #[.pointer (some ⟨b, 0, none⟩)] w (Post (X := Unit) (fun _ => .bool c.shut) (fun _ => True) (fun _ => coB b s u 0 c v ho :: Z) w0) := by
  refine callsM hN Tryz.func27 rfl (n := 7) rfl (by simp) ?_
  refine zr (za rfl (zk (zm rfl (TL.callW (X := Unit) (fun _ => .agg (tyL c v).toArray) (fun _ => True) (fun _ => coB b s u 0 c v ho :: Z) rfl Tb.gofn_66 (fun a w hs => look_ok w0 w s hv u c v b ho Z hs.new) rfl dc (fun _ _ => ?_)))))
  refine zq (PV.field rfl (fd_0 _ _ _ _ _ _ _ _ _ _ _ _ _)) rfl ?_
  refine zq (PV.field rfl (fe_6 _ _ _ _ _ _ _)) rfl ?_
  refine za rfl (zt (TQ.retE1 rfl rfl ?_))
  exact ⟨(), rfl, trivial, List.Sublist.refl _⟩
theorem Hollow_ok (w0 w : World) (s : St) (hv : SV s) (u : SU) (c : Co) (v : TV) (b : Nat) (ho : HD) (Z : Heap) (Zf : Heap) (hZf : List.Sublist Zf Z) (hT : ∀ w9, New w0 w9 Zf → TurAt w9 c v) (hl : c.hol.length ≤ 1000000) (hN : New w0 w (coB b s u 0 c v ho :: Z)) :
    Calls Tryz.prog 25 #[.pointer (some ⟨b, 0, none⟩)] w (Post (X := HD) (fun h => .slice (gp h) c.hol.length (gc h)) (fun h => goI (h, c.hol)) (fun h => gbI (h, c.hol) ++ (coB b s u 0 c v ho :: Z)) w0) := by
  refine callsM hN Tryz.func25 rfl (n := 7) rfl (by simp) ?_
  refine zr (za rfl (zk (zm rfl (TL.callW (X := Unit) (fun _ => .agg (tyL c v).toArray) (fun _ => True) (fun _ => coB b s u 0 c v ho :: Z) rfl Tb.gofn_66 (fun a w hs => look_ok w0 w s hv u c v b ho Z hs.new) rfl dc (fun _ _ => ?_)))))
  refine zq (PV.field rfl (fd_1 _ _ _ _ _ _ _ _ _ _ _ _ _)) rfl ?_
  refine TL.call rfl Tb.gofn_67 (fun a w hs => clone_v w v.ph v.ch c.hol (hT w (hs.new.sub (List.Sublist.cons _ hZf))).ah hl) rfl dc (fun hh hhh => ?_)
  refine za rfl (zt (TQ.retE1 rfl rfl ?_))
  exact ⟨hh, rfl, hhh, List.Sublist.refl _⟩
theorem Turves_ok (w0 w : World) (s : St) (hv : SV s) (u : SU) (c : Co) (v : TV) (b : Nat) (ho : HD) (Z : Heap) (Zf : Heap) (hZf : List.Sublist Zf Z) (hT : ∀ w9, New w0 w9 Zf → TurAt w9 c v) (hl : c.tur.length ≤ 1000000) (hN : New w0 w (coB b s u 0 c v ho :: Z)) :
    Calls Tryz.prog 26 #[.pointer (some ⟨b, 0, none⟩)] w (Post (X := HD) (fun h => .slice (gp h) c.tur.length (gc h)) (fun h => goI (h, c.tur)) (fun h => gbI (h, c.tur) ++ (coB b s u 0 c v ho :: Z)) w0) := by
  refine callsM hN Tryz.func26 rfl (n := 7) rfl (by simp) ?_
  refine zr (za rfl (zk (zm rfl (TL.callW (X := Unit) (fun _ => .agg (tyL c v).toArray) (fun _ => True) (fun _ => coB b s u 0 c v ho :: Z) rfl Tb.gofn_66 (fun a w hs => look_ok w0 w s hv u c v b ho Z hs.new) rfl dc (fun _ _ => ?_)))))
  refine zq (PV.field rfl (fd_2 _ _ _ _ _ _ _ _ _ _ _ _ _)) rfl ?_
  refine TL.call rfl Tb.gofn_67 (fun a w hs => clone_v w v.pt v.ct c.tur (hT w (hs.new.sub (List.Sublist.cons _ hZf))).at_ hl) rfl dc (fun hh hhh => ?_)
  refine za rfl (zt (TQ.retE1 rfl rfl ?_))
  exact ⟨hh, rfl, hhh, List.Sublist.refl _⟩
theorem Book_ok (w0 w : World) (hW : WAt w0) (s : St) (hv : SV s) (u : SU) (c : Co) (hi : Inv s c) (v : TV) (b : Nat) (ho : HD) (hgo : goR stR ho c.ords) (Z : Heap) (hN : New w0 w (coB b s u 0 c v ho :: (gbR stR 9 ho c.ords ++ Z))) :
    Calls Tryz.prog 28 #[.pointer (some ⟨b, 0, none⟩)] w (Post (X := Unit) (fun _ => str (bookL dI c.ords).2) (fun _ => True) (fun _ => coB b s u 0 c v ho :: (gbR stR 9 ho c.ords ++ Z)) w0) := by
  refine callsDfM hN Tryz.func28 rfl (n := 17) rfl (by simp) ?_
  refine TG.seq (TG.region o9z kr ?_)
  refine za rfl (TL.nil (TQ.thenG (TG.seq (TG.seq (TG.region o9z kr ?_)))))
  refine zm rfl (TL.call rfl Tb.gofn_61 (fun a w hs => isNone_ok w b s.need (Inv.need hv) (hs.new.cell m9z rfl)) rfl dc (fun _ _ => ?_))
  refine TL.nil (TQ.thenG (TG.condF rfl ?_))
  refine TG.skip (TQ.thenG (TG.seq (TG.region o9z kr ?_)))
  refine zm rfl (zq (PV.nilCheck rfl) rfl (zq (PV.fieldAddr rfl Tb.fo_103_1) rfl (TL.callW (X := Unit) (fun _ => .tuple #[]) (fun _ => True) (fun _ => coB b s u 1 c v ho :: (gbR stR 9 ho c.ords ++ Z)) rfl Tb.gofn_62 (fun a w hs => lock_new (cs := (coL s u 0 c v (gval ho c.ords.length)).toArray) hs.new u9z rfl) rfl dc (fun _ _ => ?_))))
  refine TL.nil (TQ.thenG (TG.seq (TG.regionL ?_)))
  refine TGL.pre 3 o9z (by kernel_rfl) ?_
  simp only [List.take_succ_cons, List.take_zero, List.drop_succ_cons, List.drop_zero]
  refine zm rfl (zq (PV.nilCheck rfl) rfl (zq (PV.fieldAddr rfl Tb.fo_103_1) rfl (TL.nil (TQ.thenL ?_))))
  refine TGL.defer (fun a w hs => resolve_fn rfl hs rfl) ?_
  refine TGL.opsAll o9z (by kernel_rfl) (TL.nil ?_)
  refine TQ.thenG (TG.seq (TG.region o9z kr ?_))
  refine zm rfl (zq (PV.nilCheck rfl) rfl (zq (PV.fieldAddr rfl Tb.fo_103_3) rfl (zq (PV.load (v := .slice (gp ho) c.ords.length (gc ho)) rfl Tb.one_43 m9z (by show some (gval ho c.ords.length) = _; rw [ords_len hgo])) rfl ?_)))
  refine TL.call rfl Tb.gofn_68 (fun a w hs => bookOf_ok w (hW.new hs.new) (gp ho) (gc ho) c.ords (ords_at hs.new (fun y hy => .tail _ (List.mem_append_left _ hy)) hgo) (by have := hi.ol; omega) (fun j => by have := ords_40 hi j; omega)) rfl dc (fun _ _ => ?_)
  refine za rfl (TL.nil (TQ.thenG (TG.ret (TQ.retD (caps := []) (G' := coB b s u 0 c v ho :: (gbR stR 9 ho c.ords ++ Z)) Tb.gofn_63 (unlock_new (cs := (coL s u 1 c v (gval ho c.ords.length)).toArray) u9z rfl) ?_))))
  refine TQ.retE1 rfl rfl ?_
  exact ⟨(), rfl, trivial, List.Sublist.refl _⟩
end Go.Proofs.YtbnjmkidbfmomaaGreatDoor
namespace Go.Proofs.YtbnjmkidbfmomaaGreatDoor
open Go.Sx Go.RowKit Go.Bt Go.Lib Go.Sand
def FstS (φ : List UInt8 → Bool) (L : List (List UInt8)) (i : Int) : Prop := (i = -1 ∧ ∀ j, j < L.length → φ (L.getD j []) = false) ∨ ∃ k : Nat, i = k ∧ k < L.length ∧ φ (L.getD k []) = true
theorem fstS_any {φ : List UInt8 → Bool} {L : List (List UInt8)} {i : Int} (h : FstS φ L i) : L.any φ = decide (0 ≤ i) := by
  rcases h with ⟨rfl, h⟩ | ⟨k, rfl, hk, h⟩
  · rw [decide_eq_false (by decide), List.any_eq_false]
    intro x hx
    obtain ⟨j, hj, rfl⟩ := List.getElem_of_mem hx
    have := h j hj
    simpa [List.getD, hj] using this
  · rw [decide_eq_true (by omega), List.any_eq_true]
    exact ⟨L.getD k [], by simp [List.getD, hk], h⟩
theorem any_not (L : List (List UInt8)) : (L.any fun s => !rightS s) = !L.all rightS := by
  induction L with
  | nil => rfl
  | cons x L ih => rw [List.any_cons, List.all_cons, ih, Bool.not_and]
theorem wr_any {L : List (List UInt8)} (h : ¬ 100 < L.length) : wrI L = if (L.any fun s => !rightS s) = true then 1 else 0 := by
  unfold wrI
  rw [if_neg h, any_not]
  cases L.all rightS <;> rfl
theorem indexFS_ok (w0 : World) (p : Option Addr) (c : Nat) (L : List (List UInt8)) (hL : StrsAt w0 p L) (h300 : L.length ≤ 1000000) (hs9 : ∀ j, (L.getD j []).length ≤ 1000000) (f : FuncId) (caps : List Value) (φ : List UInt8 → Bool) (hfn : goFn Tryz.prog f = true) (hcb : ∀ w G, New w0 w G → ∀ x : List UInt8, x.length ≤ 1000000 → Calls Tryz.prog f (str x :: caps).toArray w (Post (X := Unit) (fun _ => .bool (φ x)) (fun _ => True) (fun _ => []) w)) :
    Calls Tryz.prog 126 #[.slice p L.length c, .func (.func f) #[] caps.toArray] w0 (Post (X := Int) (fun i => .int .i64 i) (fun i => FstS φ L i) (fun _ => []) w0) := by
  refine calls Tryz.func126 rfl (n := 19) rfl (by simp) ?_
  refine zr (za rfl (zn (TC.seq (zr (zm rfl (zq (PV.len rfl Tb.sl_43) rfl (zm rfl (zn (TC.block (TC.loopK [0, 1, 7] (X := Nat) (fun k => k ≤ L.length ∧ ∀ j, j < k → φ (L.getD j []) = false) (fun k => [(8, .int .i64 (k : Nat))]) (fun k => []) (fun k => L.length - k) 0 ⟨Nat.zero_le _, fun j hj => absurd hj (Nat.not_lt_zero _)⟩ l9z s9z ?_))))))))))
  intro k hk
  have hk1 := hk.1
  refine zr (zq (PV.lss rfl rfl) rfl (zn (TC.seq (TC.cd rfl (fun hlt => ?_) (fun hlt => ?_)))))
  refine TC.skip (TQ.thenC (TC.seq (TC.block (zr (zm rfl (za rfl (zn (TC.seq ?_))))))))
  obtain ⟨q2, q2p, q2v⟩ := hL k (by omega)
  refine TC.region (zm rfl (zm rfl (zm rfl (zq (PV.indexA rfl q2p rfl Tb.elm_43 rfl om) rfl (zq (PV.loadOld rfl Tb.one_9 q2v) rfl (TL.callF (f := f) (caps := caps) (X := Unit) (fun _ => .bool (φ (L.getD k []))) (fun _ => True) (fun _ => []) rfl rfl hfn (fun a w hs => (hcb w _ hs.new (L.getD k []) (hs9 k)).mono fun e w' ⟨x9, h1, h2, h3⟩ => ⟨x9, h1, h2, hs.new.trans h3⟩) rfl dc (fun _ _ => ?_)))))))
  refine zn (TC.cd rfl (fun hno => ?_) (fun hno => ?_))
  refine zr (zm rfl (za rfl (zt (TQ.blkR (TQ.thenR (TQ.thenR (TQ.blkR (TQ.thenR (TQ.retE1 rfl rfl ?_)))))))))
  exact ⟨k, rfl, .inr ⟨k, rfl, by omega, by simpa using hno⟩, nils⟩
  refine TC.skip (TQ.blkN (TQ.thenC (TC.region (zq (PV.add rfl rfl om) rfl (zm rfl (TL.nil (TQ.thenN (TQ.backK (k + 1) l9z l9z s9z ⟨by omega, fun j hj => if e : j < k then hk.2 j e else (show k = j by omega) ▸ (by simpa using hno)⟩ om))))))))
  refine TC.exit (TQ.thenE (TQ.thenE (TQ.blkS (TQ.thenC (zr (za rfl (zt (TQ.retE1 rfl rfl ?_))))))))
  exact ⟨-1, rfl, .inl ⟨rfl, fun j hj => hk.2 j (by omega)⟩, nils⟩
theorem containsFS_ok (w0 : World) (p : Option Addr) (c : Nat) (L : List (List UInt8)) (hL : StrsAt w0 p L) (h300 : L.length ≤ 1000000) (hs9 : ∀ j, (L.getD j []).length ≤ 1000000) (f : FuncId) (caps : List Value) (φ : List UInt8 → Bool) (hfn : goFn Tryz.prog f = true) (hcb : ∀ w G, New w0 w G → ∀ x : List UInt8, x.length ≤ 1000000 → Calls Tryz.prog f (str x :: caps).toArray w (Post (X := Unit) (fun _ => .bool (φ x)) (fun _ => True) (fun _ => []) w)) :
    Calls Tryz.prog 84 #[.slice p L.length c, .func (.func f) #[] caps.toArray] w0 (Post (X := Unit) (fun _ => .bool (L.any φ)) (fun _ => True) (fun _ => []) w0) := by
  refine calls Tryz.func84 rfl (n := 9) rfl (by simp) ?_
  refine zr (za rfl (zk (zm rfl (zm rfl (TL.call rfl Tb.gofn_126 (fun a w hs => indexFS_ok w p c L (hL.new hs.new) h300 hs9 f caps φ hfn (fun w2 G2 hn2 x hx => hcb w2 _ (hs.new.trans hn2) x hx)) rfl dc (fun i9 hi9 => ?_))))))
  refine zq (PV.geq rfl rfl) rfl (za rfl (zt (TQ.retE1 rfl rfl ?_)))
  exact ⟨(), by rw [fstS_any hi9], trivial, nils⟩
theorem writeF_ok (w0 : World) (L : List UInt8) (hl : L.length ≤ 1000000) :
    Calls Tryz.prog 85 #[str L] w0 (Post (X := Unit) (fun _ => .bool (!rightS L)) (fun _ => True) (fun _ => []) w0) := by
  refine calls Tryz.func85 rfl (n := 6) rfl (by simp) ?_
  refine zr (za rfl (zk (zm rfl (TL.call rfl Tb.gofn_80 (fun a w hs => isLine_ok w L hl) rfl dc (fun _ _ => ?_)))))
  refine zq ((by first | exact PV.notD rfl | exact PV.not rfl)) rfl ?_
  refine za rfl (zt (TQ.retE1 rfl rfl ?_))
  exact ⟨(), congrArg Value.bool (by show decide (¬ _) = !decide _; rw [decide_not]), trivial, nils⟩
theorem Write_ok (w0 : World) (hW : WAt w0) (p : Option Addr) (c : Nat) (L : List (List UInt8)) (hL : StrsAt w0 p L) (h300 : L.length ≤ 300) (hs9 : ∀ j, (L.getD j []).length ≤ 400) :
    Calls Tryz.prog 48 #[.slice p L.length c] w0 (Post (X := Unit) (fun _ => .tuple #[str (wrL dI L), .int .i64 (wrI L)]) (fun _ => True) (fun _ => []) w0) := by
  refine calls Tryz.func48 rfl (n := 11) rfl (by simp) ?_
  refine zr (za rfl (za rfl (zn (TC.seq (zr (zm rfl (zq (PV.len rfl Tb.sl_43) rfl (zq (PV.gtr rfl rfl) rfl (zn (TC.cd rfl (fun h100 => ?_) (fun h100 => ?_)))))))))))
  refine zr (za rfl (za rfl (zt (TQ.thenR (TQ.retE2 rfl rfl rfl ?_)))))
  exact ⟨(), by unfold wrL; rw [wr_100 (L := L) (by omega), if_neg (by decide)]; rfl, trivial, nils⟩
  refine TC.skip (TQ.thenC (TC.seq (zr (zm rfl (TL.call rfl Tb.gofn_84 (fun a w hs => containsFS_ok w p c L (hL.new hs.new) om (fun j => by have := hs9 j; omega) 85 [] (fun s => !rightS s) Tb.gofn_85 (fun w2 G2 hn2 x hx => writeF_ok w2 x hx)) rfl dc (fun _ _ => ?_))))))
  refine zn (TC.cd rfl (fun hb => ?_) (fun hb => ?_))
  refine zr (za rfl (za rfl (zt (TQ.thenR (TQ.retE2 rfl rfl rfl ?_)))))
  have hw1 := wr_any (L := L) (by omega)
  rw [if_pos hb] at hw1
  exact ⟨(), by unfold wrL; rw [hw1, if_neg (by decide)]; rfl, trivial, nils⟩
  refine TC.skip (TQ.thenC (zr (zm rfl (TL.call rfl Tb.gofn_68 (fun a w hs => bookOf_ok w (hW.new hs.new) p c L (hL.new hs.new) h300 hs9) rfl dc (fun _ _ => ?_)))))
  refine za rfl (za rfl (zt (TQ.retE2 rfl rfl rfl ?_)))
  have hw1 := wr_any (L := L) (by omega)
  rw [if_neg (by rw [hb]; decide)] at hw1
  exact ⟨(), by unfold wrL; rw [hw1, if_pos rfl], trivial, nils⟩
end Go.Proofs.YtbnjmkidbfmomaaGreatDoor
namespace Go.Proofs.YtbnjmkidbfmomaaGreatDoor
open Go.Sx Go.RowKit Go.Bt Go.Lib Go.Sand
theorem brk_len (c : UInt8) (l : List UInt8) : (brk c l).1.length ≤ l.length ∧ ((brk c l).2.getD []).length ≤ l.length := by
  cases h : (brk c l).2 with
  | none =>
    have := congrArg List.length (brk_none h)
    exact ⟨by omega, Nat.zero_le _⟩
  | some r =>
    have := brk_le h
    exact ⟨by omega, by show r.length ≤ _; omega⟩
theorem lnO_len (r : List UInt8) : (lnO r).length ≤ r.length := by
  have h1 := (brk_len 10 r).1
  have h2 := (brk_len 32 (brk 10 r).1).2
  unfold lnO
  omega
set_option maxHeartbeats 1000000 in
theorem Read_ok (w0 : World) (hW : WAt w0) (t : List UInt8) (ht : t.length ≤ 1000000) :
    Calls Tryz.prog 43 #[str t] w0 (Post (X := HD) (fun h => .tuple #[.slice (gp h) (readL t).1.length (gc h), str (readL t).2]) (fun h => goR stR h (readL t).1) (fun h => gbR stR 9 h (readL t).1) w0) := by
  refine calls Tryz.func43 rfl (n := 54) rfl (by simp) ?_
  refine zr (za rfl (za rfl (zk (za rfl (zk (zm rfl (za rfl (za rfl (zn (TC.seq (TC.block (TC.loopK [2, 3] (X := HD × List (List UInt8) × Int × List UInt8) (fun x => goR stR x.1 x.2.1 ∧ RdS t x.2.1 x.2.2.1 x.2.2.2) (fun x => [(4, gval x.1 x.2.1.length), (6, str x.2.2.2), (5, .int .i64 x.2.2.1)]) (fun x => gbR stR 9 x.1 x.2.1 ++ []) (fun x => 100 - x.2.1.length) (none, [], 0, t) ⟨⟨rfl, rfl⟩, RdS.zero t⟩ l9z (List.Sublist.refl _) ?_))))))))))))
  intro x hx
  refine TC.seq (TC.seq ?_)
  have hle := hx.2.len
  have hln := lnO_len x.2.2.2
  have hbl := brk_len 10 x.2.2.2
  have hsm := hx.2.sm
  refine TC.region (zm rfl (zq (PV.lenO rfl hx.1) rfl (zq (PV.lss rfl rfl) rfl (zn (TC.cd rfl (fun hlt => ?_) (fun hlt => ?_))))))
  refine TC.skip (TQ.thenC (TC.block (zr (zm rfl (TL.call rfl Tb.gofn_79 (fun a w hs => scut_ok w (hW.new hs.new) 10 x.2.2.2 om) rfl dc (fun _ _ => ?_))))))
  refine zm rfl (zq (PV.extract rfl rfl) rfl (zq (PV.extract rfl rfl) rfl (zq (PV.extract rfl rfl) rfl (za rfl (za rfl (za rfl (zk (zm rfl (TL.call rfl Tb.gofn_79 (fun a w hs => scut_ok w (hW.new hs.new) 32 (brk 10 x.2.2.2).1 om) rfl dc (fun _ _ => ?_))))))))))
  refine zm rfl (zq (PV.extract rfl rfl) rfl (zq (PV.extract rfl rfl) rfl (zq (PV.extract rfl rfl) rfl (za rfl (za rfl (za rfl (zn (TC.seq (zr (zm rfl (TL.call rfl Tb.gofn_80 (fun a w hs => isLine_ok w (lnO x.2.2.2) om) rfl dc (fun _ _ => ?_))))))))))))
  refine zq ((by first | exact PV.notD rfl | exact PV.not rfl)) rfl ?_
  refine zn (TC.cd rfl (fun hnl => ?_) (fun hnl => ?_))
  have hr0 : rightS (lnO x.2.2.2) = false := decide_eq_false hnl
  refine TC.exit (TQ.thenE (TQ.blkE dc (TQ.thenE (TQ.blkS (TQ.thenC (zr (zm rfl (zm rfl (za rfl (za rfl (zt (TQ.retE2 rfl rfl rfl ?_))))))))))))
  have e := hx.2.stop (pg_line hr0)
  exact ⟨x.1, by rw [e]; exact congrArg (fun v => Value.tuple #[v, str x.2.2.2]) (ords_len hx.1), by rw [e]; exact hx.1, by rw [e]; exact List.sublist_append_left _ _⟩
  have hr1 : rightS (lnO x.2.2.2) = true := decide_eq_true (by simpa using hnl)
  refine TC.skip (TQ.thenC (zr (zm rfl (zm rfl (TL.call rfl Tb.gofn_46 (fun a w hs => Sum_ok w x.2.2.1 om (lnO x.2.2.2) om) rfl dc (fun _ _ => ?_))))))
  refine za rfl (zk (zm rfl (zm rfl (zm rfl (TL.call rfl Tb.gofn_82 (fun a w hs => page_ok w (hW.new hs.new) _ (smV_bd _ _) (lnO x.2.2.2) om) rfl dc (fun _ _ => ?_))))))
  refine TL.call rfl Tb.gofn_81 (fun a w hs => cutP_ok w x.2.2.2 _) rfl dc (fun _ _ => ?_)
  refine zm rfl (zq (PV.extract rfl rfl) rfl (zq (PV.extract rfl rfl) rfl (za rfl (za rfl (zn (TC.seq (zr (zm rfl (zq ((by first | exact PV.notD rfl | exact PV.not rfl)) rfl ?_)))))))))
  refine zn (TC.cd rfl (fun hnp => ?_) (fun hnp => ?_))
  have hp0 : ¬ (pageL dI (smV x.2.2.1 (lnO x.2.2.2)) (lnO x.2.2.2)).isPrefixOf x.2.2.2 = true := by first | exact hnp | (rw [Bool.not_eq_true]; simpa using hnp)
  refine TC.exit (TQ.thenE (TQ.blkE dc (TQ.thenE (TQ.blkS (TQ.thenC (zr (zm rfl (zm rfl (za rfl (za rfl (zt (TQ.retE2 rfl rfl rfl ?_))))))))))))
  have e := hx.2.stop (pg_pre hp0)
  exact ⟨x.1, by rw [e]; exact congrArg (fun v => Value.tuple #[v, str x.2.2.2]) (ords_len hx.1), by rw [e]; exact hx.1, by rw [e]; exact List.sublist_append_left _ _⟩
  have hp1 : (pageL dI (smV x.2.2.1 (lnO x.2.2.2)) (lnO x.2.2.2)).isPrefixOf x.2.2.2 = true := by first | exact hnp | simpa using hnp
  rw [if_pos hp1]
  refine TC.skip (TQ.thenC (TC.region (zm rfl (zm rfl (TL.buildSlice (cs := #[str (lnO x.2.2.2)]) rfl Tb.sl_43 Tb.zi_9 dc (fill_s (lnO x.2.2.2)) dc rfl dc (fun bI hbI => ?_))))))
  refine TL.appendRec (R := stR) (h0 := x.1) (ys := x.2.1) (r := lnO x.2.2.2) Tb.sl_43 Tb.zi_9 rfl rfl rfl m9z hx.1 h9z om om rfl dc (fun h9 ho9 => ?_)
  refine zm rfl (za rfl (za rfl (TL.nil (TQ.blkN (TQ.thenN (TQ.backK (h9, x.2.1 ++ [lnO x.2.2.2], smV x.2.2.1 (lnO x.2.2.2), x.2.2.2.drop (pageL dI (smV x.2.2.1 (lnO x.2.2.2)) (lnO x.2.2.2)).length) l9z l9z (List.Sublist.append (List.Sublist.refl _) (List.nil_sublist _)) ⟨ho9, hx.2.next om (pg_yes hr1 hp1)⟩ (by simp only [List.length_append, List.length_cons, List.length_nil]; omega)))))))
  refine TC.exit (TQ.thenE (TQ.thenE (TQ.blkS (TQ.thenC (zr (zm rfl (zm rfl (za rfl (za rfl (zt (TQ.retE2 rfl rfl rfl ?_)))))))))))
  have e := hx.2.full (by omega)
  exact ⟨x.1, by rw [e]; exact congrArg (fun v => Value.tuple #[v, str x.2.2.2]) (ords_len hx.1), by rw [e]; exact hx.1, by rw [e]; exact List.sublist_append_left _ _⟩
end Go.Proofs.YtbnjmkidbfmomaaGreatDoor
namespace Go.Proofs.YtbnjmkidbfmomaaGreatDoor
open Go.Sx Go.RowKit Go.Bt Go.Lib Go.Sand
section
variable {P : Program} {n : Nat} {w0 : World} {E : Env} {G : Heap} {d : Option Nat} {ty : TypeId} {pos : String} {aft : Array Edge} {g : Option (Nat × Bool)}
theorem str_size (L : List UInt8) : (⟨L.toArray⟩ : ByteArray).size = L.length := by simp [ByteArray.size]
theorem PV.slSt {x z : Operand} {L : List UInt8} {t : TypeId} {j : Int} {h : Nat} (hx : evo E x = some (str L)) (hz : evo E z = some (.int .i64 j)) (ht : P.underlying t = some .string) (hj : j = (h : Int)) (hh : h ≤ L.length) :
    PV P n w0 E G ⟨d, .slice t x none (some z) none, ty, pos, aft, g⟩ (str (L.take h)) := fun a w hs => by
  subst hj
  simp only [execOp, hs.ev hx, Option.map_some, Option.map_none, hs.ev hz]
  have h2 := run_slice_string_to_if (P := P) w t ⟨L.toArray⟩ .i64 h ht
  rw [if_pos ⟨by omega, by rw [str_size]; omega⟩, Int.toNat_natCast, ByteArray.extract_mk, List.drop_zero, Nat.sub_zero] at h2
  simp [str, run_sliceAt_string _ _ _ _ _ _ ht, h2]
end
structure Stp (c : UInt8) (l : List UInt8) (m k : Nat) : Prop where
  le : k ≤ m
  no : ∀ j, j < k → l.getD j 0 ≠ c
  at_ : k < m → l.getD k 0 = c
section
variable {r : List UInt8} {k i : Nat} {sum : Int}
end
end Go.Proofs.YtbnjmkidbfmomaaGreatDoor
namespace Go.Proofs.YtbnjmkidbfmomaaGreatDoor
open Go.Sx Go.RowKit Go.Bt Go.Lib Go.Sand
theorem ords_now {h : HD} {L : List (List UInt8)} (ho : goR stR h L) {k : Nat} (hk : k < L.length) : ∃ q, gp h = some q ∧ ∀ (w0 w : World) (Z : Heap), (∀ y ∈ gbR stR 9 h L, y ∈ Z) → New w0 w Z → w.cell? (q.add (k * 1)) = some (str (L.getD k [])) := by
  obtain _ | ⟨b, cap, sp⟩ := h
  · have h0 : L.length = 0 := ho.2
    omega
  · refine ⟨⟨b, 0, none⟩, rfl, fun w0 w Z hm hn => ?_⟩
    obtain ⟨q, h1, h2⟩ := ords_at hn hm ho k hk
    injection h1 with h1
    subst h1
    exact h2
section
variable {P : Program} {n : Nat} {w0 : World} {E : Env} {G : Heap} {d : Option Nat} {ty : TypeId} {pos : String} {aft : Array Edge} {g : Option (Nat × Bool)}
theorem PV.loadO {x : Operand} {q : Addr} {t : Nat} {h : HD} {L : List (List UInt8)} {k : Nat} (hx : evo E x = some (.pointer (some (q.add (k * 1))))) (ht : oneB P t = true) (hm : ∀ y ∈ gbR stR 9 h L, y ∈ G)
    (qv : ∀ (w0 w : World) (Z : Heap), (∀ y ∈ gbR stR 9 h L, y ∈ Z) → New w0 w Z → w.cell? (q.add (k * 1)) = some (str (L.getD k []))) : PV P n w0 E G ⟨d, .load t x, ty, pos, aft, g⟩ (str (L.getD k [])) :=
  PV.loadN hx ht (List.Sublist.refl _) fun w hn => qv _ _ _ hm hn
end
def MrP (A B : List (List UInt8) × List UInt8) (t u : List UInt8) (y : List UInt8 × Int × Int) : Prop :=
  ((A.2 ≠ [] ∨ B.2 ≠ []) ∧ y = ([], 0, 12)) ∨ (¬ (A.2 ≠ [] ∨ B.2 ≠ []) ∧ ((∃ k : Nat, k < min A.1.length B.1.length ∧ (∀ j, j < k → A.1.getD j [] = B.1.getD j []) ∧ A.1.getD k [] ≠ B.1.getD k [] ∧ y = ([], (k : Int), 7)) ∨
    ((∀ j, j < min A.1.length B.1.length → A.1.getD j [] = B.1.getD j []) ∧ y = if A.1.length < B.1.length then (u, (B.1.length : Int), 0) else (t, (A.1.length : Int), 0))))
theorem MrP.unique {A B : List (List UInt8) × List UInt8} {t u : List UInt8} {y z : List UInt8 × Int × Int} (h : MrP A B t u y) (h' : MrP A B t u z) : y = z := by
  rcases h with ⟨a, e⟩ | ⟨a, h⟩
  · rcases h' with ⟨b, e'⟩ | ⟨b, h'⟩
    · rw [e, e']
    · exact absurd a b
  rcases h' with ⟨b, e'⟩ | ⟨b, h'⟩
  · exact absurd b a
  rcases h with ⟨k, h1, h2, h3, e⟩ | ⟨h1, e⟩
  · rcases h' with ⟨k', h1', h2', h3', e'⟩ | ⟨h1', e'⟩
    · have : k = k' := by
        rcases Nat.lt_trichotomy k k' with hlt | rfl | hlt
        · exact absurd (h2' k hlt) h3
        · rfl
        · exact absurd (h2 k' hlt) h3'
      rw [e, e', this]
    · exact absurd (h1' k h1) h3
  · rcases h' with ⟨k', h1', h2', h3', e'⟩ | ⟨h1', e'⟩
    · exact absurd (h1 k' h1') h3'
    · rw [e, e']
section
variable {A B : List (List UInt8) × List UInt8} {t u : List UInt8}
theorem mr_12 (h : A.2 ≠ [] ∨ B.2 ≠ []) : MrP A B t u ([], 0, 12) := .inl ⟨h, rfl⟩
theorem mr_7 {k : Nat} (h : ¬ (A.2 ≠ [] ∨ B.2 ≠ [])) (h1 : k < A.1.length) (h2 : k < B.1.length) (h3 : ∀ j, j < k → A.1.getD j [] = B.1.getD j []) (h4 : A.1.getD k [] ≠ B.1.getD k []) : MrP A B t u ([], (k : Int), 7) :=
  .inr ⟨h, .inl ⟨k, by omega, h3, h4, rfl⟩⟩
theorem mr_u {k : Nat} (h : ¬ (A.2 ≠ [] ∨ B.2 ≠ [])) (h1 : A.1.length ≤ k ∨ B.1.length ≤ k) (h3 : ∀ j, j < k → A.1.getD j [] = B.1.getD j []) (h4 : A.1.length < B.1.length) : MrP A B t u (u, (B.1.length : Int), 0) :=
  .inr ⟨h, .inr ⟨fun j hj => h3 j (by omega), by rw [if_pos h4]⟩⟩
theorem mr_t {k : Nat} (h : ¬ (A.2 ≠ [] ∨ B.2 ≠ [])) (h1 : A.1.length ≤ k ∨ B.1.length ≤ k) (h3 : ∀ j, j < k → A.1.getD j [] = B.1.getD j []) (h4 : ¬ A.1.length < B.1.length) : MrP A B t u (t, (A.1.length : Int), 0) :=
  .inr ⟨h, .inr ⟨fun j hj => h3 j (by omega), by rw [if_neg h4]⟩⟩
end
set_option maxHeartbeats 1000000 in
theorem Merge_ok (w0 : World) (hW : WAt w0) (t u : List UInt8) (ht : t.length ≤ 1000000) (hu : u.length ≤ 1000000) :
    Calls Tryz.prog 52 #[str t, str u] w0 (Post (X := List UInt8 × Int × Int) (fun y => .tuple #[str y.1, .int .i64 y.2.1, .int .i64 y.2.2]) (fun y => MrP (readL t) (readL u) t u y) (fun _ => []) w0) := by
  refine calls Tryz.func52 rfl (n := 60) rfl (by simp) ?_
  refine zr (za rfl (za rfl (za rfl (zk (zm rfl (TL.call rfl Tb.gofn_43 (fun a w hs => Read_ok w (hW.new hs.new) t ht) rfl dc (fun hA hhA => ?_)))))))
  refine zm rfl (zq (PV.extract rfl rfl) rfl (zq (PV.extract rfl rfl) rfl (za rfl (za rfl (zk (zm rfl (TL.call rfl Tb.gofn_43 (fun a w hs => Read_ok w (hW.new hs.new) u hu) rfl dc (fun hB hhB => ?_))))))))
  refine zm rfl (zq (PV.extract rfl rfl) rfl (zq (PV.extract rfl rfl) rfl (za rfl (za rfl (zn (TC.seq (TC.seq ?_)))))))
  have hAl := (rd_sound 100 0 t).2.1
  have hBl := (rd_sound 100 0 u).2.1
  have eA : (readL t).1.length ≤ 100 := hAl
  have eB : (readL u).1.length ≤ 100 := hBl
  refine TC.region (zm rfl (zq (PV.neqS (M := []) rfl rfl) rfl (zm rfl (TL.sp 25 rfl (fun n1 => ?_) (fun n1 => ?_)))))
  refine zx rfl (zx rfl (zq (PV.pickT rfl rfl) rfl (zn (TC.condT rfl (zr (za rfl (za rfl (za rfl (zt (TQ.thenR (TQ.retE3 rfl rfl rfl rfl ?_)))))))))))
  exact ⟨([], 0, 12), rfl, mr_12 (by first | exact .inl n1 | exact .inr n2 | (simp_all)), nils⟩
  refine zm rfl (zq (PV.neqS (M := []) rfl rfl) rfl (zq (PV.pickF rfl rfl) rfl (zn (TC.cd rfl (fun h1 => ?_) (fun h1 => ?_)))))
  refine zr (za rfl (za rfl (za rfl (zt (TQ.thenR (TQ.retE3 rfl rfl rfl rfl ?_))))))
  exact ⟨([], 0, 12), rfl, mr_12 (by first | exact .inr n2 | exact .inl n1 | (simp_all)), nils⟩
  refine TC.skip (TQ.thenC (TC.seq ?_))
  have hno : ¬ ((readL t).2 ≠ [] ∨ (readL u).2 ≠ []) := by intro h9; rcases h9 with h9 | h9 <;> simp_all
  refine TC.region (zm rfl (zq (PV.len rfl Tb.sl_43) rfl (zm rfl (zq (PV.len rfl Tb.sl_43) rfl (zq (PV.min rfl rfl Tb.int_3) rfl (za rfl (zn (TC.seq (zr (zm rfl (zm rfl (zn (TC.block (TC.loopK [0, 1, 7, 9, 34] (X := Nat) (fun k => k ≤ min (readL t).1.length (readL u).1.length ∧ ∀ j, j < k → (readL t).1.getD j [] = (readL u).1.getD j []) (fun k => [(35, .int .i64 (k : Nat))]) (fun k => (gbR stR 9 hB (readL u).1 ++ (gbR stR 9 hA (readL t).1 ++ []))) (fun k => min (readL t).1.length (readL u).1.length - k) 0 ⟨Nat.zero_le _, fun j hj => absurd hj (Nat.not_lt_zero _)⟩ l9z (List.Sublist.refl _) ?_))))))))))))))
  intro k hk
  have hk1 := hk.1
  refine zr (zq (PV.lss rfl rfl) rfl (zn (TC.seq (TC.cd rfl (fun hlt => ?_) (fun hlt => ?_)))))
  refine TC.skip (TQ.thenC (TC.seq (TC.block (TC.seq ?_))))
  obtain ⟨q1, q1p, q1v⟩ := ords_now hhA (k := k) (by omega)
  obtain ⟨q2, q2p, q2v⟩ := ords_now hhB (k := k) (by omega)
  refine TC.region (zm rfl (za rfl (zn (TC.seq (TC.mixV [true, true, true, true, true, true, true, true, true] _ 9 Tb.mixed rfl kr kr kr kr (List.Sublist.refl _) ?_)))))
  refine zv 0 rfl kr (PV.move rfl) rfl (zv 1 rfl kr (PV.move rfl) rfl (zv 2 rfl kr (PV.indexA rfl q1p rfl Tb.elm_43 rfl om) rfl (zv 3 rfl kr (PV.loadO (h := hA) (L := (readL t).1) rfl Tb.one_9 r9z q1v) rfl ?_)))
  refine zv 4 rfl kr (PV.move rfl) rfl (zv 5 rfl kr (PV.move rfl) rfl (zv 6 rfl kr (PV.indexA rfl q2p rfl Tb.elm_43 rfl om) rfl (zv 7 rfl kr (PV.loadO (h := hB) (L := (readL u).1) rfl Tb.one_9 r9z q2v) rfl ?_)))
  refine zv 8 rfl kr (PV.neqS rfl rfl) rfl (TV.done kr ?_)
  refine TQ.thenC (TC.cd rfl (fun hne => ?_) (fun hne => ?_))
  refine zr (zm rfl (za rfl (za rfl (za rfl (zt (TQ.blkR (TQ.thenR (TQ.thenR (TQ.blkR (TQ.thenR (TQ.retE3 rfl rfl rfl rfl ?_)))))))))))
  exact ⟨([], (k : Int), 7), rfl, mr_7 hno (by omega) (by omega) hk.2 hne, nils⟩
  refine TC.skip (TQ.blkN (TQ.thenC (TC.region (zq (PV.add rfl rfl om) rfl (zm rfl (TL.nil (TQ.thenN (TQ.backK (k + 1) l9z l9z (List.Sublist.refl _) ⟨by omega, fun j hj => if e : j < k then hk.2 j e else (show k = j by omega) ▸ Decidable.not_not.1 hne⟩ om))))))))
  refine TC.exit (TQ.thenE (TQ.thenE (TQ.blkS (TQ.thenC (TC.seq (zr (zm rfl (zq (PV.len rfl Tb.sl_43) rfl (zm rfl (zq (PV.len rfl Tb.sl_43) rfl (zq (PV.lss rfl rfl) rfl (zn (TC.cd rfl (fun hsh => ?_) (fun hsh => ?_))))))))))))))
  refine zr (zm rfl (zm rfl (zq (PV.len rfl Tb.sl_43) rfl (za rfl (za rfl (za rfl (zt (TQ.thenR (TQ.retE3 rfl rfl rfl rfl ?_)))))))))
  exact ⟨(u, _, 0), rfl, mr_u hno (k := k) (by omega) hk.2 (by omega), nils⟩
  refine TC.skip (TQ.thenC (zr (zm rfl (zm rfl (zq (PV.len rfl Tb.sl_43) rfl (za rfl (za rfl (za rfl (zt (TQ.retE3 rfl rfl rfl rfl ?_))))))))))
  exact ⟨(t, _, 0), rfl, mr_t hno (k := k) (by omega) hk.2 (by omega), nils⟩
end Go.Proofs.YtbnjmkidbfmomaaGreatDoor
