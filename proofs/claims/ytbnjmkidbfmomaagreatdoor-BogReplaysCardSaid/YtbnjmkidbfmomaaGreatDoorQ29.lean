/- Xw Xy -/
import Derived.Test.YtbnjmkidbfmomaaGreatDoorQ06
import Derived.Test.YtbnjmkidbfmomaaGreatDoorQ28
set_option linter.unusedVariables false
set_option linter.unusedSimpArgs false
set_option maxRecDepth 100000
namespace Go.Proofs.YtbnjmkidbfmomaaGreatDoor
open Go.Sx Go.RowKit Go.Bt Go.Lib Go.Sand
section
variable {P : Program} {n : Nat} {w0 : World} {E : Env} {G : Heap} {d : Option Nat} {ty : TypeId} {pos : String} {aft : Array Edge} {g : Option (Nat × Bool)}
theorem PV.eqU8 {x : Operand} {c c0 : UInt8} {t t' : TypeId} {z : Value} (hx : evo E x = some (.int .u8 (c.toNat : Int))) (hz : z = .int .u8 (c0.toNat : Int)) : PV P n w0 E G ⟨d, .binOp .eql t x (.const z) t', ty, pos, aft, g⟩ (.bool (decide (c = c0))) := by
  subst hz
  have h := PV.eqlK (P := P) (n := n) (w0 := w0) (G := G) (d := d) (t := t) (t' := t') (ty := ty) (pos := pos) (aft := aft) (g := g) hx (show evo E (.const (.int .u8 (c0.toNat : Int))) = some (.int .u8 (c0.toNat : Int)) from rfl)
  have e : decide ((c.toNat : Int) = c0.toNat) = decide (c = c0) := decide_eq_decide.2 ⟨fun h => UInt8.toNat_inj.1 (by omega), fun h => by subst h; rfl⟩
  rwa [e] at h
end
theorem fill_118 (L : List UInt8) : Instr.fill ([(0, 1), (1, 1)][·]?) #[.string ⟨#[]⟩, .slice none 0 0] [(0, str L)] = some #[str L, .slice none 0 0] := by kernel_rfl
abbrev wds (L : List UInt8) : List (List UInt8) := spl 32 L
abbrev nmS (L : List UInt8) (k : Nat) : List Int := (((wds L).take k).drop 1).map nv
theorem nm_next {L : List UInt8} {k : Nat} (h1 : 1 ≤ k) (hk : k < (wds L).length) : nmS L (k + 1) = nmS L k ++ [nv ((wds L).getD k [])] := by
  show (((wds L).take (k + 1)).drop 1).map nv = _
  rw [List.take_succ_eq_append_getElem hk, List.drop_append_of_le_length (by rw [List.length_take]; omega), List.map_append]
  simp [List.getD, hk]
theorem nm_end {L : List UInt8} {k : Nat} (hk : k = (wds L).length) : nmS L k = ((wds L).drop 1).map nv := by subst hk; show (((wds L).take (wds L).length).drop 1).map nv = _; rw [List.take_length]
theorem nm_all {L : List UInt8} {k : Nat} (hk : k = (wds L).length) (h : ∀ j, 1 ≤ j → j < k → isNum ((wds L).getD j []) = true) : ((wds L).drop 1).all isNum = true := by
  refine List.all_eq_true.2 fun x hx => ?_
  obtain ⟨j, hj, e⟩ := List.getElem_of_mem hx
  rw [List.length_drop] at hj
  have := h (1 + j) (by omega) (by omega)
  rw [List.getD_eq_getElem?_getD, List.getElem?_eq_getElem (by omega)] at this
  rw [← e, List.getElem_drop]; exact this
theorem nm_len (L : List UInt8) (k : Nat) : (nmS L k).length ≤ k := by
  show ((((wds L).take k).drop 1).map nv).length ≤ k
  rw [List.length_map, List.length_drop, List.length_take]; omega
def paV (L : List UInt8) (h : HD) : Option Od → Value
  | none => .tuple #[.agg #[str [], .slice none 0 0], .bool false]
  | some o => .tuple #[.agg #[str ((wds L).getD 0 []), gval h o.ns.length], .bool true]
def paF (h : HD) : Option Od → Prop
  | none => True
  | some o => goI (h, o.ns)
def paD (h : HD) : Option Od → Heap
  | none => []
  | some o => gbI (h, o.ns)
set_option maxHeartbeats 2000000 in
theorem parse_ok (w0 : World) (hW : WAt w0) (L : List UInt8) :
    Calls Tryz.prog 72 #[str L] w0 (Post (X := HD) (fun h => paV L h (prsO L)) (fun h => paF h (prsO L)) (fun h => paD h (prsO L)) w0) := by
  refine calls Tryz.func72 rfl (n := 82) rfl (by simp) ?_
  refine zr (TL.alloc Tb.zero_118 rfl dc (fun b0 hb0 => ?_))
  refine za rfl (zn (TC.seq (zr (zm rfl (zq (PV.lenS rfl Tb.str_9) rfl (zq (PV.lss rfl rfl) rfl (zm rfl (TL.sp 14 rfl (fun l1 => ?_) (fun l1 => ?_)))))))))
  refine zx rfl (zx rfl (zx rfl (zq (PV.pickT rfl rfl) rfl (zn (TC.condT rfl (zr (zq (PV.build rfl Tb.zero_118 Tb.pl_118 rfl) rfl (TL.storeAgg (vs := [str [], .slice none 0 0]) rfl rfl Tb.cells_118 u9z rfl rfl rfl rfl rfl ?_))))))))
  refine za rfl (zt (TQ.thenR (TQ.retR rfl (Res.agg rfl Tb.agg_118 m9z rfl (Res.tmp rfl Res.nil)) ?_)))
  simp only [tup]
  have hp := prs_len (L := L) (by omega)
  exact ⟨none, by rw [hp]; rfl, by rw [hp]; trivial, by rw [hp]; exact nils⟩
  refine zm rfl (zq (PV.lenS rfl Tb.str_9) rfl (zq (PV.gtr rfl rfl) rfl (zq (PV.pickF rfl rfl) rfl (zn (TC.cd rfl (fun l2 => ?_) (fun l2 => ?_))))))
  refine zr (zq (PV.build rfl Tb.zero_118 Tb.pl_118 rfl) rfl (TL.storeAgg (vs := [str [], .slice none 0 0]) rfl rfl Tb.cells_118 u9z rfl rfl rfl rfl rfl ?_))
  refine za rfl (zt (TQ.thenR (TQ.retR rfl (Res.agg rfl Tb.agg_118 m9z rfl (Res.tmp rfl Res.nil)) ?_)))
  simp only [tup]
  have hp := prs_len (L := L) (by omega)
  exact ⟨none, by rw [hp]; rfl, by rw [hp]; trivial, by rw [hp]; exact nils⟩
  refine TC.skip (TQ.thenC (TC.seq ?_))
  have hL1 : 1 ≤ L.length ∧ L.length ≤ 40 := by omega
  refine TC.region (za rfl (zk (za rfl (zn (TC.seq (zr (za rfl (zn (TC.block (TC.loopK [0, 2, 3] (X := Nat × HD × List (List UInt8) × Nat) (fun x => goR stR x.2.1 x.2.2.1 ∧ WdS L x.1 x.2.2.1 x.2.2.2) (fun x => [(6, .int .i64 (x.1 : Nat)), (4, gval x.2.1 x.2.2.1.length), (5, .int .i64 (x.2.2.2 : Nat))]) (fun x => gbR stR 9 x.2.1 x.2.2.1 ++ [(b0, Obj.cells #[str [], .slice none 0 0] 118 (0, 0))]) (fun x => L.length + 1 - x.1) (0, none, [], 0) ⟨⟨rfl, rfl⟩, WdS.zero L⟩ l9z (List.Sublist.refl _) ?_))))))))))
  intro x hx
  refine TC.seq (zr (zm rfl (zm rfl (zq (PV.lenS rfl Tb.str_9) rfl (zq (PV.leq rfl rfl) rfl (zn (TC.cd rfl (fun hlt => ?_) (fun hlt => ?_))))))))
  refine TC.skip (TQ.thenC (TC.seq (TC.block (TC.seq ?_))))
  have hle := hx.2.le
  have hst := (hx.2.a (by omega)).1
  refine TC.region (zm rfl (zm rfl (zq (PV.lenS rfl Tb.str_9) rfl (zq (PV.eql rfl rfl) rfl (zm rfl (TL.sp 30 rfl (fun g0 => ?_) (fun g0 => ?_)))))))
  refine zx rfl (zx rfl (zx rfl (zx rfl (zq (PV.pickT rfl rfl) rfl (zn (TC.condT rfl (TC.seq ?_)))))))
  have hwn := hx.2.len
  refine TC.region (zm rfl (zm rfl (zm rfl (zm rfl (zq (PV.slS (l := x.2.2.2) (h := x.1) rfl rfl rfl Tb.str_9 rfl rfl om om) rfl (TL.buildSlice (cs := #[str ((L.drop x.2.2.2).take (x.1 - x.2.2.2))]) rfl Tb.sl_43 Tb.zi_9 dc (fill_s ((L.drop x.2.2.2).take (x.1 - x.2.2.2))) dc rfl dc (fun bI hbI => ?_)))))))
  refine TL.appendRec (R := stR) (h0 := x.2.1) (ys := x.2.2.1) (r := ((L.drop x.2.2.2).take (x.1 - x.2.2.2))) Tb.sl_43 Tb.zi_9 rfl rfl rfl m9z hx.1 h9z (by have := hx.2.len; omega) om rfl dc (fun h9 ho9 => ?_)
  refine za rfl (zn (TC.region (zm rfl (zq (PV.add rfl rfl om) rfl (za rfl (TL.nil (TQ.blkN (TQ.thenC (TC.region (zm rfl (zq (PV.add rfl rfl om) rfl (za rfl (TL.nil (TQ.thenN (TQ.backK (x.1 + 1, h9, x.2.2.1 ++ [((L.drop x.2.2.2).take (x.1 - x.2.2.2))], x.1 + 1) l9z l9z (List.Sublist.append (List.Sublist.refl _) (List.sublist_cons_self _ _)) ⟨ho9, hx.2.last om⟩ (by simp only; omega))))))))))))))))
  refine zm rfl (zm rfl (zq (PV.indexS (j := x.1) rfl rfl Tb.str_9 rfl om) rfl (zq (PV.eqU8 (c0 := 32) rfl rfl) rfl (zq (PV.pickF rfl rfl) rfl (zn (TC.cd rfl (fun h32 => ?_) (fun h32 => ?_)))))))
  refine TC.seq ?_
  have hwn := hx.2.len
  refine TC.region (zm rfl (zm rfl (zm rfl (zm rfl (zq (PV.slS (l := x.2.2.2) (h := x.1) rfl rfl rfl Tb.str_9 rfl rfl om om) rfl (TL.buildSlice (cs := #[str ((L.drop x.2.2.2).take (x.1 - x.2.2.2))]) rfl Tb.sl_43 Tb.zi_9 dc (fill_s ((L.drop x.2.2.2).take (x.1 - x.2.2.2))) dc rfl dc (fun bI hbI => ?_)))))))
  refine TL.appendRec (R := stR) (h0 := x.2.1) (ys := x.2.2.1) (r := ((L.drop x.2.2.2).take (x.1 - x.2.2.2))) Tb.sl_43 Tb.zi_9 rfl rfl rfl m9z hx.1 h9z (by have := hx.2.len; omega) om rfl dc (fun h9 ho9 => ?_)
  refine za rfl (zn (TC.region (zm rfl (zq (PV.add rfl rfl om) rfl (za rfl (TL.nil (TQ.blkN (TQ.thenC (TC.region (zm rfl (zq (PV.add rfl rfl om) rfl (za rfl (TL.nil (TQ.thenN (TQ.backK (x.1 + 1, h9, x.2.2.1 ++ [((L.drop x.2.2.2).take (x.1 - x.2.2.2))], x.1 + 1) l9z l9z (List.Sublist.append (List.Sublist.refl _) (List.sublist_cons_self _ _)) ⟨ho9, hx.2.cut om h32⟩ (by simp only; omega))))))))))))))))
  refine TC.skip (TQ.blkN (TQ.thenC (TC.region (zm rfl (zq (PV.add rfl rfl om) rfl (za rfl (TL.nil (TQ.thenN (TQ.backK (x.1 + 1, x.2.1, x.2.2.1, x.2.2.2) l9z l9z (List.Sublist.refl _) ⟨hx.1, hx.2.skip om h32⟩ (by simp only; omega))))))))))
  refine TC.exit (TQ.thenE (TQ.thenE (TQ.blkS (TQ.thenC (TC.seq (TC.seq ?_))))))
  have hws : x.2.2.1 = wds L := hx.2.z (by have := hx.2.le; omega)
  have hg := hx.1
  have hwl := hx.2.len
  have hle := hx.2.le
  rw [hws] at hg hwl
  rw [hws, ords_len hg]
  have hw1 : 0 < (wds L).length := spl_pos 32 L
  obtain ⟨q1, q1p, q1v⟩ := ords_now hg (k := 0) hw1
  refine TC.region (zm rfl (zq (PV.indexA (j := 0) rfl q1p rfl Tb.elm_43 rfl hw1) rfl (zq (PV.loadO (h := x.2.1) (L := wds L) (k := 0) rfl Tb.one_9 r9z q1v) rfl ?_)))
  refine TL.call rfl Tb.gofn_113 (fun a w hs => count_ok w _) rfl dc (fun _ _ => ?_)
  refine zm rfl (zq (PV.len rfl Tb.sl_43) rfl (zq (PV.sub rfl rfl om) rfl (zq (PV.neq rfl rfl) rfl (zn (TC.cd rfl (fun hc => ?_) (fun hc => ?_))))))
  refine zr (zq (PV.build rfl Tb.zero_118 Tb.pl_118 rfl) rfl (TL.storeAgg (vs := [str [], .slice none 0 0]) rfl rfl Tb.cells_118 u9z rfl rfl rfl rfl rfl ?_))
  refine za rfl (zt (TQ.thenR (TQ.retR rfl (Res.agg rfl Tb.agg_118 m9z rfl (Res.tmp rfl Res.nil)) ?_)))
  simp only [tup]
  have hp := prs_cnt (L := L) hc
  exact ⟨none, by rw [hp]; rfl, by rw [hp]; trivial, by rw [hp]; exact nils⟩
  refine TC.skip (TQ.thenC (zr (zm rfl (zq (PV.indexA (j := 0) rfl q1p rfl Tb.elm_43 rfl hw1) rfl (zq (PV.loadO (h := x.2.1) (L := wds L) (k := 0) rfl Tb.one_9 r9z q1v) rfl ?_)))))
  refine zq (PV.build rfl Tb.zero_118 Tb.pl_118 (fill_118 _)) rfl (TL.alloc Tb.zero_118 rfl dc (fun b1 hb1 => ?_))
  refine TL.storeAgg (vs := [str ((wds L).getD 0 []), .slice none 0 0]) rfl rfl Tb.cells_118 u9z rfl rfl rfl rfl rfl ?_
  refine zn (TC.seq (zr (za rfl (zn (TC.block (TC.loopK [2, 4, 7] (X := Nat × HD) (fun y => 1 ≤ y.1 ∧ y.1 ≤ (wds L).length ∧ goI (y.2, nmS L y.1) ∧ ∀ j, 1 ≤ j → j < y.1 → isNum ((wds L).getD j []) = true) (fun y => [(8, .int .i64 (y.1 : Nat))]) (fun y => (b1, Obj.cells #[str ((wds L).getD 0 []), gval y.2 (nmS L y.1).length] 118 (0, 0)) :: (gbI (y.2, nmS L y.1) ++ (gbR stR 9 x.2.1 (wds L) ++ [(b0, Obj.cells #[str [], .slice none 0 0] 118 (0, 0))]))) (fun y => (wds L).length - y.1) (1, none) ⟨Nat.le_refl _, hw1, (by have e : nmS L 1 = [] := (by show (((wds L).take 1).drop 1).map nv = []; rw [List.drop_eq_nil_of_le (by rw [List.length_take]; omega)]; rfl); show goI (none, nmS L 1); rw [e]; exact ⟨rfl, rfl⟩), fun j h1 h2 => by omega⟩ l9z (List.Sublist.refl _) ?_))))))
  intro y hy
  have hy1 := hy.1
  have hy2 := hy.2.1
  refine TC.seq (zr (zm rfl (zm rfl (zq (PV.len rfl Tb.sl_43) rfl (zq (PV.lss rfl rfl) rfl (zn (TC.cd rfl (fun hk2 => ?_) (fun hk2 => ?_))))))))
  refine TC.skip (TQ.thenC (TC.seq (TC.block (TC.seq ?_))))
  obtain ⟨q2, q2p, q2v⟩ := ords_now hg (k := y.1) (by omega)
  refine TC.region (zm rfl (zm rfl (zq (PV.indexA (j := y.1) rfl q2p rfl Tb.elm_43 rfl om) rfl (zq (PV.loadO (h := x.2.1) (L := wds L) (k := y.1) rfl Tb.one_9 r9z q2v) rfl ?_))))
  refine TL.call rfl Tb.gofn_114 (fun a w hs => number_ok w (hW.new hs.new) _) rfl dc (fun _ _ => ?_)
  refine zm rfl (zq (PV.extract rfl rfl) rfl (zq (PV.extract rfl rfl) rfl (za rfl (za rfl (zn (TC.seq (zr (zm rfl (zq ((by first | exact PV.notD rfl | exact PV.not rfl)) rfl ?_)))))))))
  refine zn (TC.cd rfl (fun hn => ?_) (fun hn => ?_))
  have hn0 : isNum ((wds L).getD y.1 []) = false := by simpa using hn
  refine zr (zq (PV.build rfl Tb.zero_118 Tb.pl_118 rfl) rfl (TL.storeAgg (vs := [str [], .slice none 0 0]) rfl rfl Tb.cells_118 u9z rfl rfl rfl rfl rfl ?_))
  refine za rfl (zt (TQ.thenR (TQ.blkR (TQ.thenR (TQ.thenR (TQ.blkR (TQ.thenR (TQ.retR rfl (Res.agg rfl Tb.agg_118 m9z rfl (Res.tmp rfl Res.nil)) ?_))))))))
  simp only [tup]
  have hp := prs_bad (L := L) (show y.1 < (wds L).length by omega) hy1 hn0
  exact ⟨none, by rw [hp]; rfl, by rw [hp]; trivial, by rw [hp]; exact nils⟩
  have hn1 : isNum ((wds L).getD y.1 []) = true := by simpa using hn
  refine TC.skip (TQ.thenC (TC.region (zq (PV.fieldAddr rfl Tb.fo_118_1) rfl (zq (PV.load (v := gval y.2 (nmS L y.1).length) rfl Tb.one_25 m9z rfl) rfl ?_))))
  refine zm rfl (TL.buildSlice rfl Tb.sl_25 Tb.zi_3 dc (C.fill_i _) dc rfl dc (fun bI hbI => ?_))
  refine TL.appendI (x0 := (y.2, nmS L y.1)) rfl rfl m9z hy.2.2.1 h9z (by have := nm_len L y.1; show (nmS L y.1).length ≤ 1000000; omega) rfl dc (fun h8 ho8 => ?_)
  refine zq (PV.fieldAddr rfl Tb.fo_118_1) rfl (TL.store rfl rfl Tb.cells_25 (gval_one _ _) u9z e9z rfl rfl ?_)
  refine TL.nil (TQ.blkN (TQ.thenC (TC.region (zm rfl (zq (PV.add rfl rfl om) rfl (za rfl (TL.nil (TQ.thenN (TQ.perm (G' := (b1, Obj.cells #[str ((wds L).getD 0 []), gval h8 (nmS L (y.1 + 1)).length] 118 (0, 0)) :: (gbI (h8, nmS L (y.1 + 1)) ++ (gbR stR 9 x.2.1 (wds L) ++ ([(b0, Obj.cells #[str [], .slice none 0 0] 118 (0, 0))] ++ [(bI, Obj.cells #[.int .i64 (nv ((wds L).getD y.1 []))] 3 (0, 0))])))) (perm_of fun c9 => by rw [nm_next hy1 om, show (#[str ((wds L).getD 0 []), gval y.2 (nmS L y.1).length] : Array Value).setIfInBounds (0 + 1) (gval h8 (nmS L y.1 ++ [nv ((wds L).getD y.1 [])]).length) = #[str ((wds L).getD 0 []), gval h8 (nmS L y.1 ++ [nv ((wds L).getD y.1 [])]).length] from rfl]; simp only [List.map_append, List.sum_append, List.map_cons, List.sum_cons, List.map_nil, List.sum_nil]; omega) ?_)))))))))
  refine TQ.backK (y.1 + 1, h8) l9z l9z (List.Sublist.cons_cons _ (List.Sublist.append_left (List.Sublist.append_left (List.sublist_append_left _ _) _) _)) ⟨by simp only; omega, by simp only; omega, by show goI (h8, nmS L (y.1 + 1)); rw [nm_next hy1 om]; exact ho8, fun j h1 h2 => if e : j < y.1 then hy.2.2.2 j h1 e else (show y.1 = j by simp only at h2; omega) ▸ hn1⟩ (by simp only; omega)
  refine TC.exit (TQ.thenE (TQ.thenE (TQ.blkS (TQ.thenC (zr (zq (PV.loadBox (cs := [str ((wds L).getD 0 []), gval y.2 (nmS L y.1).length]) rfl Tb.agg_118 m9z rfl) rfl ?_))))))
  refine TL.storeAgg (vs := [str ((wds L).getD 0 []), gval y.2 (nmS L y.1).length]) rfl rfl Tb.cells_118 u9z rfl rfl (by show (true && (Value.oneCell' (gval _ _) && true)) = true; rw [gval_one]; rfl) rfl rfl ?_
  refine za rfl (zt (TQ.retR rfl (Res.agg rfl Tb.agg_118 m9z rfl (Res.tmp rfl Res.nil)) ?_))
  simp only [tup]
  have hke : y.1 = (wds L).length := by omega
  obtain ⟨k, hkd⟩ := cnt_kd (w := (wds L).getD 0 []) (n := (wds L).length - 1) (by have := Decidable.not_not.1 hc; omega)
  have hp := prs_o (L := L) hkd (show (wds L).length = 1 + ((wds L).length - 1) by omega) (nm_all hke hy.2.2.2)
  exact ⟨y.2, by rw [hp, nm_end hke]; rfl, by rw [hp]; show goI (y.2, ((wds L).drop 1).map nv); rw [← nm_end hke]; exact hy.2.2.1, by rw [hp]; show List.Sublist (gbI (y.2, ((wds L).drop 1).map nv)) _; rw [← nm_end hke]; exact List.Sublist.cons _ (List.sublist_append_left _ _)⟩
end Go.Proofs.YtbnjmkidbfmomaaGreatDoor
namespace Go.Proofs.YtbnjmkidbfmomaaGreatDoor
open Go.Sx Go.RowKit Go.Bt Go.Lib Go.Sand
theorem goI_set {h : HD} {xs : List Int} (ho : goI (h, xs)) {k : Nat} {x : Int} : goI (h, xs.set k x) := by
  obtain _ | ⟨b, cap, sp⟩ := h
  · have h0 : xs.length = 0 := ho.2
    have e : xs = [] := List.length_eq_zero_iff.1 h0
    subst e; exact ho
  · obtain ⟨h1, h2⟩ := ho
    exact ⟨by simp [ival], by simpa [ival] using h2⟩
theorem rsq_ok (w0 : World) (b : Nat) (n r k : Int) (hc : w0.cell? ⟨b, 4, none⟩ = some (.int .i64 n)) (hn : 0 ≤ n ∧ n ≤ 1000) (hr : 0 ≤ r ∧ r ≤ 1000) (hk : 0 ≤ k ∧ k ≤ 1000) :
    Calls Tryz.prog 116 #[.pointer (some ⟨b, 0, none⟩), .int .i64 r, .int .i64 k] w0 (Post (X := Unit) (fun _ => .int .i64 (r * n + k)) (fun _ => True) (fun _ => []) w0) := by
  have hm : 0 ≤ r * n ∧ r * n ≤ 1000000 := ⟨Int.mul_nonneg hr.1 hn.1, Int.le_trans (Int.mul_le_mul hr.2 hn.2 hn.1 (by decide)) (by decide)⟩
  refine calls Tryz.func116 rfl (n := 16) rfl (by simp) ?_
  refine zr (za rfl (zk (zm rfl (zm rfl (zq (PV.nilCheck rfl) rfl (zq (PV.fieldAddr rfl Tb.fo_54_2) rfl (zq (PV.fieldAddr rfl Tb.fo_52_1) rfl (zq (PV.loadOld rfl Tb.one_3 hc) rfl (zq (PV.mul rfl rfl om) rfl (zm rfl (zq (PV.add rfl rfl om) rfl (za rfl (zt (TQ.retE1 rfl rfl ?_))))))))))))))
  exact ⟨(), rfl, trivial, nils⟩
set_option maxHeartbeats 1000000 in
theorem rload_ok (w0 w : World) (s : St) (hv : SV s) (u : SU) (c : Co) (v : RV) (hi : Inv s c) (b : Nat) (ho : HD) (hgt : goI (v.ht, c.tur)) (Z : Heap) (hN : New w0 w (rcB b s u c v ho :: rcH c v :: (gbI (v.ht, c.tur) ++ Z))) (a n : Int) (ha : 0 ≤ a ∧ a ≤ 999) (hn : 0 ≤ n ∧ n ≤ 999) :
    Calls Tryz.prog 75 #[.pointer (some ⟨b, 0, none⟩), .int .i64 a, .int .i64 n] w (Post (X := Unit) (fun _ => .int .i64 (actI s c ⟨2, [a, n]⟩)) (fun _ => goI (v.ht, (chgC s c ⟨2, [a, n]⟩).tur)) (fun _ => rcB b s u (chgC s c ⟨2, [a, n]⟩) v ho :: rcH (chgC s c ⟨2, [a, n]⟩) v :: (gbI (v.ht, (chgC s c ⟨2, [a, n]⟩).tur) ++ Z)) w0) := by
  have hbn := hi.bnd hv
  have h5 := hv.n5
  have hhl := hi.hl
  have htl := hi.tl' hv
  have hbm := hbn.bm
  have hbl := hbn.bl
  refine callsM hN Tryz.func75 rfl (n := 51) rfl (by simp) ?_
  refine zr (za rfl (zn (TC.seq (zr (zm rfl (zm rfl (zq (PV.nilCheck rfl) rfl (zq (PV.fieldAddr rfl Tb.fo_54_10) rfl (zq (PV.load (v := .slice (gp v.ht) c.tur.length (gc v.ht)) rfl Tb.one_25 m9z rfl) rfl ?_)))))))))
  refine zq (PV.len rfl Tb.sl_25) rfl (zq (PV.geq rfl rfl) rfl (zn (TC.cd rfl (fun g1 => ?_) (fun g1 => ?_))))
  refine zr (za rfl (zt (TQ.thenR (TQ.retE1 rfl rfl ?_))))
  have hE : actI s c ⟨2, [a, n]⟩ = 4 := by rw [load_e, if_pos (by omega)]
  have hC := chg_no (s := s) (c := c) (o := ⟨2, [a, n]⟩) (by rw [hE]; decide)
  exact ⟨(), by rw [hE], by rw [hC]; exact hgt, by rw [hC]; exact List.Sublist.refl _⟩
  refine TC.skip (TQ.thenC (TC.seq (zr (zm rfl (zq (PV.eql rfl rfl) rfl (zn (TC.cd rfl (fun g2 => ?_) (fun g2 => ?_))))))))
  refine zr (za rfl (zt (TQ.thenR (TQ.retE1 rfl rfl ?_))))
  have hE : actI s c ⟨2, [a, n]⟩ = 1 := by rw [load_e, if_neg (by omega), if_pos (by first | exact g2 | omega)]
  have hC := chg_no (s := s) (c := c) (o := ⟨2, [a, n]⟩) (by rw [hE]; decide)
  exact ⟨(), by rw [hE], by rw [hC]; exact hgt, by rw [hC]; exact List.Sublist.refl _⟩
  refine TC.skip (TQ.thenC (TC.seq (zr (zm rfl (zq (PV.nilCheck rfl) rfl (zq (PV.fieldAddr rfl Tb.fo_54_10) rfl (zq (PV.load (v := gval v.ht c.tur.length) rfl Tb.one_25 m9z (by show some (Value.slice (gp v.ht) c.tur.length (gc v.ht)) = _; rw [gvs hgt])) rfl ?_)))))))
  refine zm rfl (zq (PV.indexG (h := v.ht) (len := c.tur.length) (ys := ival c.tur) (j := a.toNat) rfl rfl hgt Tb.elm_25 (Int.toNat_of_nonneg ha.1).symm om) rfl (zq (PV.loadGI (y := (v.ht, c.tur)) (j := a.toNat) (v := c.tur.getD a.toNat 0) rfl Tb.one_3 r9z hgt (by show a.toNat < c.tur.length; omega) rfl) rfl ?_))
  refine zm rfl (zq (PV.lss rfl rfl) rfl (zn (TC.cd rfl (fun g3 => ?_) (fun g3 => ?_))))
  refine zr (za rfl (zt (TQ.thenR (TQ.retE1 rfl rfl ?_))))
  have hE : actI s c ⟨2, [a, n]⟩ = 11 := by rw [load_e, if_neg (by omega), if_neg (by first | exact g2 | omega), if_pos (by first | exact g3 | omega)]
  have hC := chg_no (s := s) (c := c) (o := ⟨2, [a, n]⟩) (by rw [hE]; decide)
  exact ⟨(), by rw [hE], by rw [hC]; exact hgt, by rw [hC]; exact List.Sublist.refl _⟩
  refine TC.skip (TQ.thenC (zr (zm rfl (zq (PV.nilCheck rfl) rfl (zq (PV.fieldAddr rfl Tb.fo_54_10) rfl (zq (PV.load (v := gval v.ht c.tur.length) rfl Tb.one_25 m9z (by show some (Value.slice (gp v.ht) c.tur.length (gc v.ht)) = _; rw [gvs hgt])) rfl ?_))))))
  refine zm rfl (zq (PV.indexG (h := v.ht) (len := c.tur.length) (ys := ival c.tur) (j := a.toNat) rfl rfl hgt Tb.elm_25 (Int.toNat_of_nonneg ha.1).symm om) rfl (zq (PV.loadGI (y := (v.ht, c.tur)) (j := a.toNat) (v := c.tur.getD a.toNat 0) rfl Tb.one_3 r9z hgt (by show a.toNat < c.tur.length; omega) rfl) rfl ?_))
  refine zm rfl (zq (PV.sub rfl rfl (by have := (hi.tb hv a.toNat); omega)) rfl ?_)
  refine zq (PV.indexG (h := v.ht) (len := c.tur.length) (ys := ival c.tur) (j := a.toNat) rfl rfl hgt Tb.elm_25 (Int.toNat_of_nonneg ha.1).symm om) rfl (TL.putI (h := v.ht) (xs := c.tur) (xs' := c.tur.set a.toNat (c.tur.getD a.toNat 0 - n)) (j := a.toNat) rfl rfl Tb.cells_3 hgt rfl p9z om rfl rfl ?_)
  refine zk (zm rfl (zq (PV.nilCheck rfl) rfl (zq (PV.fieldAddr rfl Tb.fo_54_7) rfl (zq (PV.load rfl Tb.one_3 m9z rfl) rfl ?_))))
  refine zm rfl (zq (PV.add rfl rfl om) rfl (zq (PV.nilCheck rfl) rfl (zq (PV.fieldAddr rfl Tb.fo_54_7) rfl (TL.store rfl rfl Tb.cells_3 rfl u9z d9z rfl rfl ?_))))
  refine zk (zm rfl (zq (PV.nilCheck rfl) rfl (zq (PV.fieldAddr rfl Tb.fo_54_5) rfl (zq (PV.load rfl Tb.one_3 m9z rfl) rfl ?_))))
  refine zm rfl (zq (PV.add rfl rfl om) rfl (zq (PV.nilCheck rfl) rfl (zq (PV.fieldAddr rfl Tb.fo_54_5) rfl (TL.store rfl rfl Tb.cells_3 rfl u9z d9z rfl rfl ?_))))
  refine zk (za rfl (zt (TQ.retE1 rfl rfl ?_)))
  have hE : actI s c ⟨2, [a, n]⟩ = 0 := by rw [load_e, if_neg (by omega), if_neg (by first | exact g2 | omega), if_neg (by first | exact g3 | omega)]
  have hC := (chg_yes (s := s) (c := c) (o := ⟨2, [a, n]⟩) hE).trans load_c
  exact ⟨(), by rw [hE], by rw [hC]; exact goI_set hgt, by rw [hC]; simp only [rcB, rcL, rcH, List.length_set]; exact List.Sublist.refl _⟩
theorem rsq_v (w0 : World) (s : St) (hv : SV s) (b : Nat) (r k : Int) (hc : w0.cell? ⟨b, 4, none⟩ = some (.int .i64 (s.W.length : Nat))) (hr : 0 ≤ r ∧ r ≤ 1000) (hk : 0 ≤ k ∧ k ≤ 1000) :
    Calls Tryz.prog 116 #[.pointer (some ⟨b, 0, none⟩), .int .i64 r, .int .i64 k] w0 (Post (X := Unit) (fun _ => .int .i64 (s.sq r k : Nat)) (fun _ => True) (fun _ => []) w0) := by
  have h5 := hv.n5
  have hm : 0 ≤ r * (s.W.length : Int) := Int.mul_nonneg hr.1 (by omega)
  have e : ((s.sq r k : Nat) : Int) = r * (s.W.length : Int) + k := by
    show (((r * s.W.length + k).toNat : Nat) : Int) = _
    rw [Int.toNat_of_nonneg (by omega)]
  rw [e]
  exact rsq_ok w0 b (s.W.length : Nat) r k hc (by omega) hr hk
set_option maxHeartbeats 1000000 in
theorem rwet_ok (w0 w : World) (s : St) (hv : SV s) (u : SU) (c : Co) (v : RV) (hi : Inv s c) (b : Nat) (ho : HD) (hgt : goI (v.ht, c.tur)) (Z : Heap) (hN : New w0 w (rcB b s u c v ho :: rcH c v :: (gbI (v.ht, c.tur) ++ Z))) (r k : Int) (hr : 0 ≤ r ∧ r ≤ 999) (hk : 0 ≤ k ∧ k ≤ 999) :
    Calls Tryz.prog 76 #[.pointer (some ⟨b, 0, none⟩), .int .i64 r, .int .i64 k] w (Post (X := Unit) (fun _ => .int .i64 (actI s c ⟨3, [r, k]⟩)) (fun _ => goI (v.ht, (chgC s c ⟨3, [r, k]⟩).tur)) (fun _ => rcB b s u (chgC s c ⟨3, [r, k]⟩) v ho :: rcH (chgC s c ⟨3, [r, k]⟩) v :: (gbI (v.ht, (chgC s c ⟨3, [r, k]⟩).tur) ++ Z)) w0) := by
  have hbn := hi.bnd hv
  have h5 := hv.n5
  have hhl := hi.hl
  have htl := hi.tl' hv
  have hbm := hbn.bm
  have hbl := hbn.bl
  have hwl := hi.wl
  have h63 := wet63 hv hwl
  refine callsM hN Tryz.func76 rfl (n := 54) rfl (by simp) ?_
  refine zr (za rfl (zn (TC.seq (zr (zm rfl (zm rfl (zq (PV.nilCheck rfl) rfl (zq (PV.fieldAddr rfl Tb.fo_54_2) rfl (zq (PV.fieldAddr rfl Tb.fo_52_0) rfl (zq (PV.load rfl Tb.one_3 m9z rfl) rfl ?_))))))))))
  refine zq (PV.geq rfl rfl) rfl (zm rfl (TL.sp 14 rfl (fun g0 => ?_) (fun g0 => ?_)))
  refine zx rfl (zx rfl (zx rfl (zx rfl (zx rfl (zx rfl (zx rfl (zq (PV.pickT rfl rfl) rfl (zn (TC.condT rfl (zr (za rfl (zt (TQ.thenR (TQ.retE1 rfl rfl ?_))))))))))))))
  have hE : actI s c ⟨3, [r, k]⟩ = 4 := by rw [wet_e, if_pos (by omega)]
  have hC := chg_no (s := s) (c := c) (o := ⟨3, [r, k]⟩) (by rw [hE]; decide)
  exact ⟨(), by rw [hE], by rw [hC]; exact hgt, by rw [hC]; exact List.Sublist.refl _⟩
  refine zm rfl (zm rfl (zq (PV.nilCheck rfl) rfl (zq (PV.fieldAddr rfl Tb.fo_54_2) rfl (zq (PV.fieldAddr rfl Tb.fo_52_1) rfl (zq (PV.load rfl Tb.one_3 m9z rfl) rfl ?_)))))
  refine zq (PV.geq rfl rfl) rfl (zq (PV.pickF rfl rfl) rfl (zn (TC.cd rfl (fun g1 => ?_) (fun g1 => ?_))))
  refine zr (za rfl (zt (TQ.thenR (TQ.retE1 rfl rfl ?_))))
  have hE : actI s c ⟨3, [r, k]⟩ = 4 := by rw [wet_e, if_pos (by omega)]
  have hC := chg_no (s := s) (c := c) (o := ⟨3, [r, k]⟩) (by rw [hE]; decide)
  exact ⟨(), by rw [hE], by rw [hC]; exact hgt, by rw [hC]; exact List.Sublist.refl _⟩
  refine TC.skip (TQ.thenC (TC.seq (TC.seq ?_)))
  have hat := hi.ho.toNB.at_ k.toNat
  refine TC.region (zm rfl (zq (PV.nilCheck rfl) rfl (zq (PV.fieldAddr rfl Tb.fo_54_9) rfl (zq (PV.load (v := .slice (some ⟨v.bh, 0, none⟩) c.hol.length c.hol.length) rfl Tb.one_25 m9z rfl) rfl ?_))))
  refine zm rfl (zq (PV.index1 (j := k.toNat) rfl rfl Tb.elm_25 (Int.toNat_of_nonneg hk.1).symm om) rfl (zq (C.PV.loadIv (xs := c.hol) (j := k.toNat) (v := c.hol.getD k.toNat 0) rfl Tb.one_3 m9z om rfl) rfl ?_))
  refine zm rfl (zq (PV.leq rfl rfl) rfl (zn (TC.cd rfl (fun g2 => ?_) (fun g2 => ?_))))
  refine zr (za rfl (zt (TQ.thenR (TQ.retE1 rfl rfl ?_))))
  have hE : actI s c ⟨3, [r, k]⟩ = 8 := by rw [wet_e, if_neg (by omega), if_pos (by first | exact g2 | omega)]
  have hC := chg_no (s := s) (c := c) (o := ⟨3, [r, k]⟩) (by rw [hE]; decide)
  exact ⟨(), by rw [hE], by rw [hC]; exact hgt, by rw [hC]; exact List.Sublist.refl _⟩
  refine TC.skip (TQ.thenC (TC.seq (TC.seq ?_)))
  have hq60 := sq_60 hv (r := r) (k := k) (by omega) (by omega)
  refine TC.mixV [true, true, true, true, true, true, true, false, false] [rcB b s u c v ho] 9 Tb.mixed rfl kr kr kr kr s9z ?_
  refine zv 0 rfl kr (PV.move rfl) rfl (zv 1 rfl kr (PV.nilCheck rfl) rfl (zv 2 rfl kr (PV.fieldAddr rfl Tb.fo_54_4) rfl (zv 3 rfl kr (PV.load rfl Tb.one_3 m9z rfl) rfl ?_)))
  refine zv 4 rfl kr (PV.move rfl) rfl (zv 5 rfl kr (PV.move rfl) rfl (zv 6 rfl kr (PV.move rfl) rfl (TV.step [7] kr dc rfl ⟨⟨_, rfl, ?_⟩, trivial⟩)))
  refine TL.call rfl Tb.gofn_116 (fun a w hs => rsq_v w s hv b r k (hs.new.cell m9z rfl) om om) rfl dc (fun _ _ => ?_)
  refine TL.nil (TV.next (.inl s9z) ?_)
  refine TV.step [8] kr dc rfl ⟨⟨_, rfl, ?_⟩, trivial⟩
  refine TL.call rfl Tb.gofn_117 (fun a w hs => M.rHas_ok w c.wet (s.sq r k) h63 om) rfl dc (fun _ _ => ?_)
  refine TL.nil (TV.next (.inl s9z) ?_)
  refine TV.done kr ?_
  refine TQ.thenC (TC.cd rfl (fun g3 => ?_) (fun g3 => ?_))
  refine zr (za rfl (zt (TQ.thenR (TQ.retE1 rfl rfl ?_))))
  have hE : actI s c ⟨3, [r, k]⟩ = 5 := by rw [wet_e, if_neg (by omega), if_neg (by first | exact g2 | omega), if_pos g3]
  have hC := chg_no (s := s) (c := c) (o := ⟨3, [r, k]⟩) (by rw [hE]; decide)
  exact ⟨(), by rw [hE], by rw [hC]; exact hgt, by rw [hC]; exact List.Sublist.refl _⟩
  refine TC.skip (TQ.thenC (TC.seq (TC.mixV [true, true, true, false, true, true, true, false, false, true, true, true, true, false] [] 14 Tb.mixed rfl kr kr kr kr s9z ?_)))
  refine zv 0 rfl kr (PV.move rfl) rfl (zv 1 rfl kr (PV.nilCheck rfl) rfl (zv 2 rfl kr (PV.fieldAddr rfl Tb.fo_54_4) rfl (zv 4 rfl kr (PV.move rfl) rfl (zv 5 rfl kr (PV.move rfl) rfl (zv 6 rfl kr (PV.move rfl) rfl (TV.step [3, 7] kr dc rfl ⟨⟨_, rfl, ?_⟩, ⟨_, rfl, ?_⟩, trivial⟩))))))
  refine zq (PV.load rfl Tb.one_3 m9z rfl) rfl ?_
  refine TL.nil (TV.next (.inl s9z) ?_)
  refine TV.step [7] kr dc rfl ⟨⟨_, rfl, ?_⟩, trivial⟩
  refine TL.call rfl Tb.gofn_116 (fun a w hs => rsq_v w s hv b r k (hs.new.cell m9z rfl) om om) rfl dc (fun _ _ => ?_)
  refine TL.nil (TV.next (.inl s9z) ?_)
  refine TV.step [8] kr dc rfl ⟨⟨_, rfl, ?_⟩, trivial⟩
  refine zq (PV.conv (v := ((s.sq r k : Nat) : Int)) Tb.int_3 Tb.int_55 rfl (M.conv_u om)) rfl ?_
  refine TL.nil (TV.next (.inl s9z) ?_)
  refine zv 9 rfl kr (M.PV.shlK rfl rfl om om (M.shl_nat hq60)) rfl (zv 10 rfl kr (M.PV.orK rfl rfl (M.or_nat h63 (M.p63 om))) rfl (zv 11 rfl kr (PV.nilCheck rfl) rfl (zv 12 rfl kr (PV.fieldAddr rfl Tb.fo_54_4) rfl (TV.step [13] kr dc rfl ⟨⟨_, rfl, ?_⟩, trivial⟩))))
  refine TL.store rfl rfl Tb.cells_3 rfl u9z d9z rfl rfl ?_
  refine TL.nil (TV.next (.inl s9z) ?_)
  refine TV.done kr ?_
  refine TQ.thenC (zr (za rfl (zt (TQ.retE1 rfl rfl ?_))))
  have hE : actI s c ⟨3, [r, k]⟩ = 0 := by rw [wet_e, if_neg (by omega), if_neg (by first | exact g2 | omega), if_neg (by rw [g3]; decide)]
  have hC := (chg_yes (s := s) (c := c) (o := ⟨3, [r, k]⟩) hE).trans wet_c
  exact ⟨(), by rw [hE], by rw [hC]; exact hgt, by rw [hC]; exact List.Sublist.refl _⟩
  refine TL.call rfl Tb.gofn_116 (fun a w hs => rsq_v w s hv b r k (hs.new.cell m9z rfl) om om) rfl dc (fun _ _ => ?_)
  refine TL.nil (TV.next (.inl s9z) ?_)
  refine TV.step [3, 8] kr dc rfl ⟨⟨_, rfl, ?_⟩, ⟨_, rfl, ?_⟩, trivial⟩
  refine zq (PV.load rfl Tb.one_3 m9z rfl) rfl ?_
  refine TL.nil (TV.next (.inl s9z) ?_)
  refine TV.step [8] kr dc rfl ⟨⟨_, rfl, ?_⟩, trivial⟩
  refine zq (PV.conv (v := ((s.sq r k : Nat) : Int)) Tb.int_3 Tb.int_55 rfl (M.conv_u om)) rfl ?_
  refine TL.nil (TV.next (.inl s9z) ?_)
  refine zv 9 rfl kr (M.PV.shlK rfl rfl om om (M.shl_nat hq60)) rfl (zv 10 rfl kr (M.PV.orK rfl rfl (M.or_nat h63 (M.p63 om))) rfl (zv 11 rfl kr (PV.nilCheck rfl) rfl (zv 12 rfl kr (PV.fieldAddr rfl Tb.fo_54_4) rfl (TV.step [13] kr dc rfl ⟨⟨_, rfl, ?_⟩, trivial⟩))))
  refine TL.store rfl rfl Tb.cells_3 rfl u9z d9z rfl rfl ?_
  refine TL.nil (TV.next (.inl s9z) ?_)
  refine TV.done kr ?_
  refine TQ.thenC (zr (za rfl (zt (TQ.retE1 rfl rfl ?_))))
  have hE : actI s c ⟨3, [r, k]⟩ = 0 := by rw [wet_e, if_neg (by omega), if_neg (by first | exact g2 | omega), if_neg (by rw [g3]; decide)]
  have hC := (chg_yes (s := s) (c := c) (o := ⟨3, [r, k]⟩) hE).trans wet_c
  exact ⟨(), by rw [hE], by rw [hC]; exact hgt, by rw [hC]; exact List.Sublist.refl _⟩
  refine zq (PV.conv (v := ((s.sq r k : Nat) : Int)) Tb.int_3 Tb.int_55 rfl (M.conv_u om)) rfl ?_
  refine TL.nil (TV.next (.inl s9z) ?_)
  refine zv 9 rfl kr (M.PV.shlK rfl rfl om om (M.shl_nat hq60)) rfl (TV.step [3] kr dc rfl ⟨⟨_, rfl, ?_⟩, trivial⟩)
  refine zq (PV.load rfl Tb.one_3 m9z rfl) rfl ?_
  refine TL.nil (TV.next (.inl s9z) ?_)
  refine zv 10 rfl kr (M.PV.orK rfl rfl (M.or_nat h63 (M.p63 om))) rfl (zv 11 rfl kr (PV.nilCheck rfl) rfl (zv 12 rfl kr (PV.fieldAddr rfl Tb.fo_54_4) rfl (TV.step [13] kr dc rfl ⟨⟨_, rfl, ?_⟩, trivial⟩)))
  refine TL.store rfl rfl Tb.cells_3 rfl u9z d9z rfl rfl ?_
  refine TL.nil (TV.next (.inl s9z) ?_)
  refine TV.done kr ?_
  refine TQ.thenC (zr (za rfl (zt (TQ.retE1 rfl rfl ?_))))
  have hE : actI s c ⟨3, [r, k]⟩ = 0 := by rw [wet_e, if_neg (by omega), if_neg (by first | exact g2 | omega), if_neg (by rw [g3]; decide)]
  have hC := (chg_yes (s := s) (c := c) (o := ⟨3, [r, k]⟩) hE).trans wet_c
  exact ⟨(), by rw [hE], by rw [hC]; exact hgt, by rw [hC]; exact List.Sublist.refl _⟩
end Go.Proofs.YtbnjmkidbfmomaaGreatDoor
