/- Xf Er Xg -/
import Derived.Test.YtbnjmkidbfmomaaGreatDoorQ06
import Derived.Test.YtbnjmkidbfmomaaGreatDoorQ08
import Derived.Test.YtbnjmkidbfmomaaGreatDoorQ09
import Derived.Test.YtbnjmkidbfmomaaGreatDoorQ21
import Derived.Test.YtbnjmkidbfmomaaGreatDoorQ22
import Derived.WalkKit
import Derived.LaidEql
import Derived.Stop.Asserts
import Derived.RowKitTokens
set_option linter.unusedVariables false
set_option linter.unusedSimpArgs false
set_option maxRecDepth 100000
namespace Go.Proofs.YtbnjmkidbfmomaaGreatDoor
open Go.Sx Go.RowKit Go.Bt Go.Lib Go.Sand
theorem strs_at {ws : List (List UInt8)} {j : Nat} (h : j < ws.length) : ((ws.map str).toArray)[0 + j * 1]? = some (str (ws.getD j [])) := by
  rw [Nat.zero_add, Nat.mul_one]
  simp [List.getD, h]
theorem strs_at1 {ws : List (List UInt8)} {j : Nat} (h : j + 1 < ws.length) : ((ws.map str).toArray)[1 + j * 1]? = some (str (ws.getD (j + 1) [])) := by
  rw [Nat.mul_one, Nat.add_comm]
  simp [List.getD, h]
theorem isNum_yes {w : List UInt8} {v : Int} (h0 : 0 ≤ v) (h1 : v ≤ 999) (h : dI v = w) : isNum w = true ∧ nv w = v := by
  obtain ⟨u, rfl⟩ := Int.eq_ofNat_of_zero_le h0
  have e : w = decDigits u := by rw [← h]; exact itoa_nat u
  subst e
  unfold isNum nv
  rw [numF_dec (by omega)]
  exact ⟨rfl, rfl⟩
theorem isNum_no {w : List UInt8} {v : Int} {b : Bool} (hx : ∀ u, u < 1000 → w = decDigits u → b = true ∧ v = (u : Int)) (h : ¬ (b = true ∧ 0 ≤ v ∧ v ≤ 999 ∧ dI v = w)) : isNum w = false := by
  cases h9 : isNum w with
  | false => rfl
  | true =>
    exfalso
    unfold isNum at h9
    cases h8 : numF w with
    | none => rw [h8] at h9; cases h9
    | some u =>
      obtain ⟨h1, h2⟩ := numF_some h8
      obtain ⟨h3, h4⟩ := hx u h1 h2
      exact h ⟨h3, by omega, by omega, by rw [h4, h2]; exact itoa_nat u⟩
theorem spl_mem (c : UInt8) : ∀ (L : List UInt8), ∀ w ∈ spl c L, w.length ≤ L.length
  | [], w, h => by simp [spl] at h; subst h; exact Nat.le_refl _
  | b :: l, w, h => by
    have ih := spl_mem c l
    unfold spl at h
    split at h
    · rcases List.mem_cons.1 h with h | h
      · subst h; exact Nat.zero_le _
      · have := ih w h; simp; omega
    · split at h
      · simp at h; subst h; simp
      · rename_i h1 t1 e1
        rcases List.mem_cons.1 h with h | h
        · subst h
          have := ih h1 (by rw [e1]; simp)
          simp; omega
        · have := ih w (by rw [e1]; simp [h])
          simp; omega
theorem spl_len (c : UInt8) (L : List UInt8) (j : Nat) : ((spl c L).getD j []).length ≤ L.length := by
  by_cases h : j < (spl c L).length
  · rw [List.getD_eq_getElem?_getD, List.getElem?_eq_getElem h]
    exact spl_mem c L _ (List.getElem_mem h)
  · rw [List.getD_eq_getElem?_getD, List.getElem?_eq_none (by omega)]; exact Nat.zero_le _
abbrev nmF (ws : List (List UInt8)) (j : Nat) : Int := nv (ws.getD (j + 1) [])
def prV (o : Option Od) (b : Nat) : Value := match o with
  | none => .tuple #[.agg #[.int .i64 0, .slice none 0 0], .bool false]
  | some o => .tuple #[.agg #[.int .i64 (o.k : Nat), .slice (some ⟨b, 0, none⟩) o.ns.length o.ns.length], .bool true]
def prD (o : Option Od) (b : Nat) : Heap := match o with
  | none => []
  | some o => [(b, .cells (intsA o.ns) 3 (0, 0))]
theorem prs_no1 {L : List UInt8} (h : rightS L = false) : prsO L = none := by
  cases h2 : prsO L with
  | none => rfl
  | some o => rw [prs_right h2] at h; cases h
theorem prs_no2 {L : List UInt8} (h : (kdF ((spl 32 L).getD 0 [])).isSome = false) : prsO L = none := by
  unfold prsO
  cases h2 : kdF ((spl 32 L).getD 0 []) with
  | none => rfl
  | some o => rw [h2] at h; cases h
theorem prs_no3 {L : List UInt8} (h : ¬ (spl 32 L).length = 1 + ((kdF ((spl 32 L).getD 0 [])).getD (0, 0)).2) : prsO L = none := by
  unfold prsO
  cases h2 : kdF ((spl 32 L).getD 0 []) with
  | none => rfl
  | some o => rw [h2] at h; simp only at h ⊢; rw [if_neg fun h9 => h h9.1]
theorem drop1 {ws : List (List UInt8)} {k : Nat} (h : k + 1 < ws.length) : (ws.drop 1)[k]? = some (ws.getD (k + 1) []) := by
  rw [List.getElem?_drop]; simp [List.getD, h, Nat.add_comm 1 k]
theorem prs_no4 {L : List UInt8} {k : Nat} (hk : k + 1 < (spl 32 L).length) (h : isNum ((spl 32 L).getD (k + 1) []) = false) : prsO L = none := by
  unfold prsO
  cases h2 : kdF ((spl 32 L).getD 0 []) with
  | none => rfl
  | some o =>
    simp only
    rw [if_neg]
    rintro ⟨_, h9⟩
    have := List.all_eq_true.1 h9 _ (List.mem_of_getElem? (drop1 hk))
    rw [h] at this; cases this
theorem prs_yes {L : List UInt8} {k c : Nat} (h : kdF ((spl 32 L).getD 0 []) = some (k, c)) (hl : (spl 32 L).length = 1 + c) (ha : ∀ j, j < c → isNum ((spl 32 L).getD (j + 1) []) = true) : prsO L = some ⟨k, (List.range c).map (nmF (spl 32 L))⟩ := by
  unfold prsO
  rw [h]
  simp only
  have e : ((spl 32 L).drop 1).map nv = (List.range c).map (nmF (spl 32 L)) := by
    apply List.ext_getElem
    · simp; omega
    · intro i h1 h2
      have hi : i < c := by simpa using h2
      have := drop1 (ws := spl 32 L) (k := i) (by omega)
      rw [List.getElem_map, List.getElem_map, List.getElem_range]
      rw [List.getElem?_eq_getElem (by simp; omega)] at this
      rw [Option.some.inj this]
  rw [if_pos, e]
  refine ⟨hl, List.all_eq_true.2 fun x hx => ?_⟩
  obtain ⟨j, hj, rfl⟩ := List.getElem_of_mem hx
  have hj' : j < c := by simp at hj; omega
  have := drop1 (ws := spl 32 L) (k := j) (by omega)
  rw [List.getElem?_eq_getElem hj] at this
  rw [Option.some.inj this]
  exact ha j hj'
theorem prV_mk {L : List UInt8} {k c b : Nat} {f : Nat → Int} (hp : prsO L = some ⟨k, (List.range c).map f⟩) : Value.tuple #[.agg #[.int .i64 (k : Nat), .slice (some ⟨b, 0, none⟩) c c], .bool true] = prV (prsO L) b := by
  rw [hp]
  unfold prV
  simp only [List.length_map, List.length_range]
theorem kd_c2 {h : List UInt8} : ((kdF h).getD (0, 0)).2 ≤ 2 := by
  cases h2 : kdF h with
  | none => exact Nat.zero_le _
  | some kc => obtain ⟨k, c⟩ := kc; exact (kd_word h2).2.2.2.1
theorem cutA_1 {b n : Nat} (h : ¬ n = 1) : cutA (some ⟨b, 0, none⟩) n 1 1 = some ⟨b, 1, none⟩ := by
  unfold cutA; rw [if_neg h]; rfl
theorem isLine_ok (w0 : World) (L : List UInt8) (hl : L.length ≤ 1000000) :
    Calls Tryz.prog 80 #[str L] w0 (Post (X := Unit) (fun _ => .bool (rightS L)) (fun _ => True) (fun _ => []) w0) := by
  refine calls Tryz.func80 rfl (n := 16) rfl (by simp) ?_
  refine zr (za rfl (zk (zm rfl (zq (PV.lenS rfl Tb.str_9) rfl (zq (PV.geq rfl rfl) rfl (zm rfl (TL.sp 6 rfl (fun g1 => ?_) (fun g1 => ?_))))))))
  refine zm rfl (zq (PV.lenS rfl Tb.str_9) rfl (zq (PV.leq rfl rfl) rfl (zq (PV.pickT rfl rfl) rfl (zm rfl (TL.sp 11 rfl (fun g2 => ?_) (fun g2 => ?_))))))
  refine zm rfl (TL.call rfl Tb.gofn_124 (fun a w hs => cont_ok w L 10) rfl dc (fun _ _ => ?_))
  refine zq ((by first | exact PV.notD rfl | exact PV.not rfl)) rfl ?_
  refine zq (PV.pickT rfl rfl) rfl (za rfl (zt (TQ.retE1 rfl rfl ?_)))
  exact ⟨(), congrArg Value.bool (by unfold rightS; first | exact (decide_eq_false (fun h9 => by omega)).symm | exact (decide_eq_false (fun h9 => by simp only [Bool.false_eq_true, Bool.true_eq_false, decide_eq_true_eq, decide_eq_false_iff_not] at *; omega)).symm | exact decide_eq_decide.2 ⟨fun h9 => ⟨by omega, by omega, h9⟩, fun h9 => h9.2.2⟩), trivial, nils⟩
  refine zx rfl (zx rfl (zx rfl (zq (PV.pickF rfl rfl) rfl (za rfl (zt (TQ.retE1 rfl rfl ?_))))))
  exact ⟨(), congrArg Value.bool (by unfold rightS; first | exact (decide_eq_false (fun h9 => by omega)).symm | exact (decide_eq_false (fun h9 => by simp only [Bool.false_eq_true, Bool.true_eq_false, decide_eq_true_eq, decide_eq_false_iff_not] at *; omega)).symm | exact decide_eq_decide.2 ⟨fun h9 => ⟨by omega, by omega, h9⟩, fun h9 => h9.2.2⟩), trivial, nils⟩
  refine zx rfl (zx rfl (zx rfl (zq (PV.pickF rfl rfl) rfl (zm rfl (zx rfl (zx rfl (zx rfl (zq (PV.pickF rfl rfl) rfl (za rfl (zt (TQ.retE1 rfl rfl ?_)))))))))))
  exact ⟨(), congrArg Value.bool (by unfold rightS; first | exact (decide_eq_false (fun h9 => by omega)).symm | exact (decide_eq_false (fun h9 => by simp only [Bool.false_eq_true, Bool.true_eq_false, decide_eq_true_eq, decide_eq_false_iff_not] at *; omega)).symm | exact decide_eq_decide.2 ⟨fun h9 => ⟨by omega, by omega, h9⟩, fun h9 => h9.2.2⟩), trivial, nils⟩
set_option maxHeartbeats 1000000 in
theorem orderIn_ok (w0 : World) (hW : WAt w0) (L : List UInt8) (hl : L.length ≤ 1000000) :
    Calls Tryz.prog 102 #[str L] w0 (Post (X := Nat) (fun b => prV (prsO L) b) (fun _ => True) (fun b => prD (prsO L) b) w0) := by
  refine calls Tryz.func102 rfl (n := 77) rfl (by simp) ?_
  refine zr (TL.alloc Tb.zero_144 rfl dc (fun b0 hb0 => ?_))
  refine za rfl (zn (TC.seq (zr (zm rfl (TL.call rfl Tb.gofn_80 (fun a w hs => isLine_ok w L hl) rfl dc (fun _ _ => ?_))))))
  refine zq ((by first | exact PV.notD rfl | exact PV.not rfl)) rfl ?_
  refine zn (TC.cd rfl (fun hr => ?_) (fun hr => ?_))
  refine zr (zq (PV.build rfl Tb.zero_144 Tb.pl_144 rfl) rfl (TL.storeAgg rfl rfl Tb.cells_144 u9z rfl rfl rfl rfl rfl ?_))
  refine za rfl (zt (TQ.thenR (TQ.retR rfl (Res.agg rfl Tb.agg_144 m9z rfl (Res.tmp rfl Res.nil)) ?_)))
  simp only [tup]
  have hp : prsO L = none := prs_no1 (decide_eq_false hr)
  exact ⟨0, by rw [hp]; rfl, trivial, by rw [hp]; exact nils⟩
  refine TC.skip (TQ.thenC (zr (zm rfl (TL.call rfl Tb.gofn_147 (fun a w hs => split_ok w (hW.new hs.new) L hl) rfl dc (fun bw hbw => ?_)))))
  refine za rfl (zn (TC.seq ?_))
  have hp1 := spl_pos 32 L
  have hwl := spl_len 32 L
  refine TC.region (zm rfl (zq (PV.index (j := 0) rfl rfl Tb.elm_43 rfl hp1) rfl (zq (PV.loadG' rfl Tb.one_9 m9z (strs_at (j := 0) hp1)) rfl ?_)))
  refine TL.call rfl Tb.gofn_148 (fun a w hs => kindOf_ok w _) rfl dc (fun _ _ => ?_)
  refine zm rfl (zq (PV.extract rfl rfl) rfl (zq (PV.extract rfl rfl) rfl (zq (PV.extract rfl rfl) rfl (za rfl (za rfl (za rfl (zn (TC.seq (TC.seq ?_)))))))))
  have hc2 := kd_c2 (h := (spl 32 L).getD 0 [])
  refine TC.region (zm rfl (zq ((by first | exact PV.notD rfl | exact PV.not rfl)) rfl ?_))
  refine zm rfl (TL.sp 29 rfl (fun g5 => ?_) (fun g5 => ?_))
  refine zx rfl (zx rfl (zx rfl (zx rfl (zx rfl (zq (PV.pickT rfl rfl) rfl (zn (TC.condT rfl (zr (zq (PV.build rfl Tb.zero_144 Tb.pl_144 rfl) rfl (TL.storeAgg rfl rfl Tb.cells_144 u9z rfl rfl rfl rfl rfl ?_))))))))))
  refine za rfl (zt (TQ.thenR (TQ.retR rfl (Res.agg rfl Tb.agg_144 m9z rfl (Res.tmp rfl Res.nil)) ?_)))
  simp only [tup]
  have hp : prsO L = none := prs_no2 (by simpa using g5)
  exact ⟨0, by rw [hp]; rfl, trivial, by rw [hp]; exact nils⟩
  refine zm rfl (zq (PV.len rfl Tb.sl_43) rfl (zm rfl (zq (PV.add rfl rfl om) rfl (zq (PV.neq rfl rfl) rfl (zq (PV.pickF rfl rfl) rfl (zn (TC.cd rfl (fun h35 => ?_) (fun h35 => ?_))))))))
  refine zr (zq (PV.build rfl Tb.zero_144 Tb.pl_144 rfl) rfl (TL.storeAgg rfl rfl Tb.cells_144 u9z rfl rfl rfl rfl rfl ?_))
  refine za rfl (zt (TQ.thenR (TQ.retR rfl (Res.agg rfl Tb.agg_144 m9z rfl (Res.tmp rfl Res.nil)) ?_)))
  simp only [tup]
  have hp : prsO L = none := prs_no3 (by omega)
  exact ⟨0, by rw [hp]; rfl, trivial, by rw [hp]; exact nils⟩
  refine TC.skip (TQ.thenC (zr (zm rfl (TL.makeI rfl rfl Tb.sl_25 Tb.zi_3 rfl om om rfl dc (fun b1 hb1 => ?_)))))
  refine za rfl (zn (TC.seq (TC.seq (TC.sub (G' := [(b1, Obj.cells (intsA (fillZ (nmF (spl 32 L)) ((kdF ((spl 32 L).getD 0 [])).getD (0, 0)).2 0)) 3 (0, 0)), (bw, Obj.cells ((spl 32 L).map str).toArray 9 (0, 0)), (b0, Obj.cells #[.int .i64 0, .slice none 0 0] 144 (0, 0))]) (by rw [fillZ_zero]; exact List.Sublist.refl _) ?_))))
  refine TC.region (zm rfl (zq (PV.sliceL (l := 1) rfl rfl Tb.elm_43 rfl hp1) rfl (zq (PV.len rfl Tb.sl_43) rfl (zm rfl (zn (TC.block (TC.lit [(2, _), (5, _), (8, _), (40, _), (41, _), (42, _)] l9z ?_)))))))
  refine TC.loopK [2, 5, 8, 40, 41] (X := Nat) (fun k => k ≤ (spl 32 L).length - 1 ∧ ∀ j, j < k → isNum ((spl 32 L).getD (j + 1) []) = true) (fun k => [(42, .int .i64 (k : Nat))]) (fun k => [(b1, Obj.cells (intsA (fillZ (nmF (spl 32 L)) ((kdF ((spl 32 L).getD 0 [])).getD (0, 0)).2 k)) 3 (0, 0)), (bw, Obj.cells ((spl 32 L).map str).toArray 9 (0, 0)), (b0, Obj.cells #[.int .i64 0, .slice none 0 0] 144 (0, 0))]) (fun k => (spl 32 L).length - 1 - k) 0 ⟨Nat.zero_le _, fun j hj => absurd hj (Nat.not_lt_zero _)⟩ l9z s9z ?_
  intro k hk
  have hk1 := hk.1
  refine TC.lit [(2, _), (5, _), (8, _), (40, _), (41, _), (42, _)] l9z ?_
  refine zr (zq (PV.lss rfl rfl) rfl (zn (TC.seq (TC.cd rfl (fun hlt => ?_) (fun hlt => ?_)))))
  refine TC.skip (TQ.thenC (TC.seq (TC.block (TC.seq ?_))))
  have hcut := cutA_1 (b := bw) (n := (spl 32 L).length) (by omega)
  refine TC.region (zm rfl (zq (PV.indexA (j := k) rfl hcut rfl Tb.elm_43 rfl om) rfl (zq (M.PV.loadW rfl Tb.one_9 (fun w hn => by rw [add_off]; exact hn.cell m9z (strs_at1 (j := k) om))) rfl ?_)))
  refine za rfl (za rfl (zk (zm rfl (TL.call rfl Tb.gofn_149 (fun a w hs => atoi_ok w (hW.new hs.new) _ (by have := hwl (k + 1); omega)) rfl dc (fun x hx9 => ?_)))))
  refine zm rfl (zq (PV.extract rfl rfl) rfl (zq (PV.extract rfl rfl) rfl (za rfl (za rfl (zn (TC.seq (TC.seq ?_)))))))
  have hxb := hx9.1
  refine TC.region (zm rfl (zq (PV.neqErr rfl) rfl (zm rfl (TL.sp 54 rfl (fun g1 => ?_) (fun g1 => ?_)))))
  refine zx rfl (zx rfl (zq (PV.pickT rfl rfl) rfl (zm rfl (zx rfl (zx rfl (zq (PV.pickT rfl rfl) rfl (zm rfl (zx rfl (zx rfl (zx rfl (zx rfl (zq (PV.pickT rfl rfl) rfl (zn (TC.condT rfl (zr (zq (PV.build rfl Tb.zero_144 Tb.pl_144 rfl) rfl (TL.storeAgg rfl rfl Tb.cells_144 u9z rfl rfl rfl rfl rfl ?_)))))))))))))))))
  refine za rfl (zt (TQ.thenR (TQ.blkR (TQ.thenR (TQ.thenR (TQ.blkR (TQ.thenR (TQ.retR rfl (Res.agg rfl Tb.agg_144 m9z rfl (Res.tmp rfl Res.nil)) ?_))))))))
  simp only [tup]
  have hp : prsO L = none := prs_no4 (k := k) (by omega) (isNum_no hx9.2 (fun h9 => by rw [h9.1] at g1; cases g1))
  exact ⟨0, by rw [hp]; rfl, trivial, by rw [hp]; exact nils⟩
  refine zm rfl (zq (PV.lss rfl rfl) rfl (zq (PV.pickF rfl rfl) rfl (zm rfl (TL.sp 58 rfl (fun g2 => ?_) (fun g2 => ?_)))))
  refine zx rfl (zx rfl (zq (PV.pickT rfl rfl) rfl (zm rfl (zx rfl (zx rfl (zx rfl (zx rfl (zq (PV.pickT rfl rfl) rfl (zn (TC.condT rfl (zr (zq (PV.build rfl Tb.zero_144 Tb.pl_144 rfl) rfl (TL.storeAgg rfl rfl Tb.cells_144 u9z rfl rfl rfl rfl rfl ?_)))))))))))))
  refine za rfl (zt (TQ.thenR (TQ.blkR (TQ.thenR (TQ.thenR (TQ.blkR (TQ.thenR (TQ.retR rfl (Res.agg rfl Tb.agg_144 m9z rfl (Res.tmp rfl Res.nil)) ?_))))))))
  simp only [tup]
  have hp : prsO L = none := prs_no4 (k := k) (by omega) (isNum_no hx9.2 (fun h9 => absurd g2 (by omega)))
  exact ⟨0, by rw [hp]; rfl, trivial, by rw [hp]; exact nils⟩
  refine zm rfl (zq (PV.gtr rfl rfl) rfl (zq (PV.pickF rfl rfl) rfl (zm rfl (TL.sp 62 rfl (fun g3 => ?_) (fun g3 => ?_)))))
  refine zx rfl (zx rfl (zx rfl (zx rfl (zq (PV.pickT rfl rfl) rfl (zn (TC.condT rfl (zr (zq (PV.build rfl Tb.zero_144 Tb.pl_144 rfl) rfl (TL.storeAgg rfl rfl Tb.cells_144 u9z rfl rfl rfl rfl rfl ?_)))))))))
  refine za rfl (zt (TQ.thenR (TQ.blkR (TQ.thenR (TQ.thenR (TQ.blkR (TQ.thenR (TQ.retR rfl (Res.agg rfl Tb.agg_144 m9z rfl (Res.tmp rfl Res.nil)) ?_))))))))
  simp only [tup]
  have hp : prsO L = none := prs_no4 (k := k) (by omega) (isNum_no hx9.2 (fun h9 => absurd g3 (by omega)))
  exact ⟨0, by rw [hp]; rfl, trivial, by rw [hp]; exact nils⟩
  refine zm rfl (TL.call rfl Tb.gofn_78 (fun a w hs => itoa_ok w (hW.new hs.new) _ om om) rfl dc (fun _ _ => ?_))
  refine zm rfl (zq (PV.neqS rfl rfl) rfl (zq (PV.pickF rfl rfl) rfl (zn (TC.cd rfl (fun g4 => ?_) (fun g4 => ?_)))))
  refine zr (zq (PV.build rfl Tb.zero_144 Tb.pl_144 rfl) rfl (TL.storeAgg rfl rfl Tb.cells_144 u9z rfl rfl rfl rfl rfl ?_))
  refine za rfl (zt (TQ.thenR (TQ.blkR (TQ.thenR (TQ.thenR (TQ.blkR (TQ.thenR (TQ.retR rfl (Res.agg rfl Tb.agg_144 m9z rfl (Res.tmp rfl Res.nil)) ?_))))))))
  simp only [tup]
  have hp : prsO L = none := prs_no4 (k := k) (by omega) (isNum_no hx9.2 (fun h9 => g4 h9.2.2.2))
  exact ⟨0, by rw [hp]; rfl, trivial, by rw [hp]; exact nils⟩
  refine TC.skip (TQ.thenC ?_)
  have hyes := isNum_yes (w := (spl 32 L).getD (k + 1) []) (v := x.1) (by omega) (by omega) (Decidable.not_not.1 g4)
  refine TC.region (zm rfl (zm rfl (zm rfl (zq (PV.index1 (j := k) rfl rfl Tb.elm_25 rfl om) rfl (TL.storeI (xs := fillZ (nmF (spl 32 L)) ((kdF ((spl 32 L).getD 0 [])).getD (0, 0)).2 k) (j := k) rfl rfl Tb.cells_3 u9z (by rw [fillZ_len]; omega) rfl rfl ?_)))))
  refine TL.nil (TQ.blkN (TQ.thenC (TC.region (zq (PV.add rfl rfl om) rfl (zm rfl (TL.nil (TQ.thenN (TQ.sub (G' := [(b1, Obj.cells (intsA (fillZ (nmF (spl 32 L)) ((kdF ((spl 32 L).getD 0 [])).getD (0, 0)).2 (k + 1))) 3 (0, 0)), (bw, Obj.cells ((spl 32 L).map str).toArray 9 (0, 0)), (b0, Obj.cells #[.int .i64 0, .slice none 0 0] 144 (0, 0))]) (by rw [← fillZ_set om]; show List.Sublist _ [(b1, Obj.cells (intsA ((fillZ (nmF (spl 32 L)) ((kdF ((spl 32 L).getD 0 [])).getD (0, 0)).2 k).set k _)) 3 (0, 0)), _, _]; rw [show nmF (spl 32 L) k = x.1 from hyes.2]; exact List.Sublist.refl _) ?_))))))))
  refine TQ.backK (k + 1) l9z l9z s9z ⟨by omega, fun j hj => if e : j < k then hk.2 j e else (show k = j by omega) ▸ hyes.1⟩ om
  refine TC.exit (TQ.thenE (TQ.thenE (TQ.blkS (TQ.thenC (zr (zm rfl (zm rfl (zq (PV.build rfl Tb.zero_144 Tb.pl_144 rfl) rfl (TL.storeAgg rfl rfl Tb.cells_144 u9z rfl rfl rfl rfl rfl ?_)))))))))
  refine za rfl (zt (TQ.retR rfl (Res.agg rfl Tb.agg_144 m9z rfl (Res.tmp rfl Res.nil)) ?_))
  simp only [tup]
  have hke : k = (spl 32 L).length - 1 := by omega
  have hsm : kdF ((spl 32 L).getD 0 []) = some (((kdF ((spl 32 L).getD 0 [])).getD (0, 0)).1, ((kdF ((spl 32 L).getD 0 [])).getD (0, 0)).2) := by cases h9 : kdF ((spl 32 L).getD 0 []) with | none => rw [h9] at g5; cases g5 | some kc => rfl
  have hp := prs_yes hsm (by omega) (fun j hj => hk.2 j (by omega))
  exact ⟨b1, prV_mk hp, trivial, by rw [hp]; show List.Sublist [(b1, Obj.cells (intsA ((List.range ((kdF ((spl 32 L).getD 0 [])).getD (0, 0)).2).map (nmF (spl 32 L)))) 3 (0, 0))] _; rw [← fillZ_all, show ((kdF ((spl 32 L).getD 0 [])).getD (0, 0)).2 = k by omega]; exact s9z⟩
end Go.Proofs.YtbnjmkidbfmomaaGreatDoor
namespace Go.Proofs.YtbnjmkidbfmomaaGreatDoor
open Go.RowKit Go.Extern.Stop Go.Stop Go.Extern
theorem as_nil (t : Value) (w : World) :
    Calls Tryz.prog 65 #[.nilIface, t] w fun e w' => e = .returned (.bool false) ∧ w' = w := by
  go_enter Tryz.func65, Tryz.ntmps65
  go_wp2
  go_ret
  exact ⟨rfl, rfl⟩
theorem as_valueOf (t : Addr) (w : World) : (ReflectliteValue.unpack (.iface 111 (.pointer (some t)))).run Tryz.prog w
    = .ok (.agg #[.pointer (some ⟨9, 111, none⟩), .pointer (some ⟨w.heap.size, 0, none⟩), .int .u64 150]) (w.alloc (.cells #[.pointer (some t)] 111)) := by kernel_rfl
theorem as_type (a : Addr) (w : World) : (ReflectliteValue.methodAny (ReflectliteValue.valueError "reflectlite.Value.Type" 0) (fun t _ _ _ => ReflectliteType.toType t) #[.agg #[.pointer (some ⟨9, 111, none⟩), .pointer (some a), .int .u64 150]]).run Tryz.prog w
    = .ok (.iface 196 (.agg #[.pointer (some ⟨9, 111, none⟩)])) w := by kernel_rfl
theorem as_mKind (h : Value) (w : World) : (Go.method 418 196 (.agg #[h]) "Kind").run Tryz.prog w = .ok (270, h) w := by kernel_rfl
theorem as_kind111 (w : World) : ((ReflectliteType.abiMethod fun t => Functor.map (fun a : Nat => Value.int IntKind.u8 (a : Int)) (Rtype.kind t)) #[.pointer (some ⟨9, 111, none⟩)]).run Tryz.prog w = .ok (.int .u8 22) w := by kernel_rfl
theorem as_kind109 (w : World) : ((ReflectliteType.abiMethod fun t => Functor.map (fun a : Nat => Value.int IntKind.u8 (a : Int)) (Rtype.kind t)) #[.pointer (some ⟨9, 109, none⟩)]).run Tryz.prog w = .ok (.int .u8 25) w := by kernel_rfl
theorem rlm (z : Sem Value) (f : TypeId → Addr → Nat → Nat → Sem Value) (v : Value) :
    ReflectliteValue.method z f #[v] = (do match ← ReflectliteValue.parts v with | none => z | some (t, a, fl) => f t a fl (fl % 32)) := rfl
theorem as_parts111 (a : Addr) (w : World) : (ReflectliteValue.parts (.agg #[.pointer (some ⟨9, 111, none⟩), .pointer (some a), .int .u64 150])).run Tryz.prog w = .ok (some (111, a, 150)) w := by kernel_rfl
theorem as_isNil (a p : Addr) (W : World) (ha : W.cell? a = some (.pointer (some p))) :
    (ReflectliteValue.method (ReflectliteValue.valueError "reflectlite.Value.IsNil" 0) ReflectliteValue.isNil #[.agg #[.pointer (some ⟨9, 111, none⟩), .pointer (some a), .int .u64 150]]).run Tryz.prog W = .ok (.bool false) W := by
  rw [rlm]
  simp only [Sem.run_bind, as_parts111, Result.andThen]
  simp [ReflectliteValue.isNil, loadVar, isAgg, underlying, Tryz.underlying111, ha, Result.andThen]
theorem as_mElem (h : Value) (w : World) : (Go.method 418 196 (.agg #[h]) "Elem").run Tryz.prog w = .ok (280, .agg #[h]) w := by kernel_rfl
theorem as_mImpl (h : Value) (w : World) : (Go.method 418 196 (.agg #[h]) "Implements").run Tryz.prog w = .ok (281, .agg #[h]) w := by kernel_rfl
theorem as_mAssign (h : Value) (w : World) : (Go.method 418 196 (.agg #[h]) "AssignableTo").run Tryz.prog w = .ok (278, .agg #[h]) w := by kernel_rfl
theorem as_elem (w : World) : (ReflectliteType.method ReflectliteType.elem #[.agg #[.pointer (some ⟨9, 111, none⟩)]]).run Tryz.prog w = .ok (.iface 196 (.agg #[.pointer (some ⟨9, 109, none⟩)])) w := by kernel_rfl
theorem as_impl (w : World) : (ReflectliteType.relation "Implements" ReflectliteType.implements_ #[.agg #[.pointer (some ⟨9, 109, none⟩)], .iface 196 (.agg #[.pointer (some ⟨9, 105, none⟩)])]).run Tryz.prog w = .ok (.bool true) w := by kernel_rfl
theorem as_typeOf (v : Value) (w : World) : (ReflectliteType.typeOf #[.iface 109 v]).run Tryz.prog w = .ok (.iface 196 (.agg #[.pointer (some ⟨9, 109, none⟩)])) w := by kernel_rfl
theorem as_assign (w : World) : (ReflectliteType.relation "AssignableTo" ReflectliteType.assignableTo #[.agg #[.pointer (some ⟨9, 109, none⟩)], .iface 196 (.agg #[.pointer (some ⟨9, 109, none⟩)])]).run Tryz.prog w = .ok (.bool true) w := by kernel_rfl
theorem as_valueOfE (cs : Array Value) (w : World) : (ReflectliteValue.unpack (.iface 109 (.agg cs))).run Tryz.prog w
    = .ok (.agg #[.pointer (some ⟨9, 109, none⟩), .pointer (some ⟨w.heap.size, 0, none⟩), .int .u64 153]) (w.alloc (.cells cs 109)) := by kernel_rfl
theorem as_elemOf (w : World) : (Rtype.elem? 111).run Tryz.prog w = .ok (some 109) w := by kernel_rfl
theorem as_mk (p : Addr) (w : World) : (ReflectliteValue.mk 109 p ReflectliteValue.flagAddr).run Tryz.prog w = .ok (.agg #[.pointer (some ⟨9, 109, none⟩), .pointer (some p), .int .u64 409]) w := by kernel_rfl
theorem as_elemV (a p : Addr) (W : World) (ha : W.cell? a = some (.pointer (some p))) :
    (ReflectliteValue.method (ReflectliteValue.valueError "reflectlite.Value.Elem" 0) ReflectliteValue.elem #[.agg #[.pointer (some ⟨9, 111, none⟩), .pointer (some a), .int .u64 150]]).run Tryz.prog W
      = .ok (.agg #[.pointer (some ⟨9, 109, none⟩), .pointer (some p), .int .u64 409]) W := by
  rw [rlm]
  simp only [Sem.run_bind, as_parts111, Result.andThen]
  simp [ReflectliteValue.elem, loadVar, isAgg, underlying, Tryz.underlying111, ha, Result.andThen, as_elemOf, as_mk]
theorem rls (v x : Value) : ReflectliteValue.set #[v, x] = (do
    let (some (dst, a, fl), some (src, b, _)) := (← ReflectliteValue.parts v, ← ReflectliteValue.parts x)
      | unsupported (.noEntry "extern/(internal/reflectlite.Value).Set.zeroValue")
    if fl / ReflectliteValue.flagAddr % 2 == 0 then unsupported (.noEntry "extern/(internal/reflectlite.Value).Set.unaddressable")
    let val ← loadVar src b
    if ← Rtype.directlyAssignable dst src then storeVar dst a val
    else if ← Rtype.implements dst src then
      if (← Rtype.kind src) == 20 then
        match val with
        | .nilIface => unsupported (.noEntry "extern/reflectlite: a nil value of one interface type handed on as a value of another")
        | _ => storeVar dst a val
      else storeVar dst a (.iface src val)
    else panicString ("reflectlite.Set: value of type " ++ (← Rtype.spelt src) ++ " is not assignable to type " ++ (← Rtype.spelt dst))
    pure (.tuple #[])) := rfl
theorem as_parts109a (a : Addr) (w : World) : (ReflectliteValue.parts (.agg #[.pointer (some ⟨9, 109, none⟩), .pointer (some a), .int .u64 409])).run Tryz.prog w = .ok (some (109, a, 409)) w := by kernel_rfl
theorem as_parts109 (a : Addr) (w : World) : (ReflectliteValue.parts (.agg #[.pointer (some ⟨9, 109, none⟩), .pointer (some a), .int .u64 153])).run Tryz.prog w = .ok (some (109, a, 153)) w := by kernel_rfl
theorem as_direct (w : World) : (Rtype.directlyAssignable 109 109).run Tryz.prog w = .ok true w := by kernel_rfl
theorem as_set (t b : Nat) (x y o1 o2 : Value) (hx : x.oneCell' = true) (hy : y.oneCell' = true) (W : World) (hb : W.heap[b]? = some (.cells #[x, y] 109 (0, 0))) (ht : W.heap[t]? = some (.cells #[o1, o2] 109 (0, 0))) :
    (ReflectliteValue.set #[.agg #[.pointer (some ⟨9, 109, none⟩), .pointer (some ⟨t, 0, none⟩), .int .u64 409], .agg #[.pointer (some ⟨9, 109, none⟩), .pointer (some ⟨b, 0, none⟩), .int .u64 153]]).run Tryz.prog W
      = .ok (.tuple #[]) (W.setRow t #[x, y]) := by
  have hl := Sx.run_loadAgg (P := Tryz.prog) (w := W) (t := 109) (k := 2) (b := b) (off := 0) (vs := [x, y]) Tb.agg_109 rfl (fun j v h => by
    have hc : W.cell? ⟨b, 0 + j, none⟩ = ([x, y] : List Value)[j]? := by
      simp [World.cell?, hb]
    rw [hc]; exact h)
  have hst := run_storeCells_at (P := Tryz.prog) t 0 109 [x, y] 0 #[o1, o2] W ht (by simp) (by simp [hx, hy])
  rw [rls]
  simp only [Sem.run_bind, as_parts109a, as_parts109, Result.andThen]
  simp [ReflectliteValue.flagAddr, hl, Result.andThen, as_direct]
  have hst' : (storeCells ⟨t, 0, none⟩ [x, y]).run Tryz.prog W = .ok () (W.setRow t #[x, y]) := hst
  have hsv : (storeVar 109 ⟨t, 0, none⟩ (.agg #[x, y])).run Tryz.prog W = .ok () (W.setRow t #[x, y]) := by
    have h2 := Tb.cells_109
    unfold Sx.cellsN at h2
    cases hi : Tryz.prog.info? 109 with
    | none => simp [hi] at h2
    | some i =>
      simp [hi] at h2
      simp [storeVar, sizeOf, typeInfo, hi, h2, Value.cells, hst']
  rw [hsv]
set_option maxHeartbeats 4000000 in
theorem as_hit (t : Nat) (x y o1 o2 : Value) (hx : x.oneCell' = true) (hy : y.oneCell' = true) (w : World) (hg : w.cell? ⟨0, 0, none⟩ = some (.iface 196 (.agg #[.pointer (some ⟨9, 105, none⟩)]))) (ht : w.heap[t]? = some (.cells #[o1, o2] 109 (0, 0))) :
    Calls Tryz.prog 65 #[.iface 109 (.agg #[x, y]), .iface 111 (.pointer (some ⟨t, 0, none⟩))] w fun ev w' => ev = .returned (.bool true) ∧ w' = ((((w.alloc (.cells #[.pointer (some ⟨t, 0, none⟩)] 111)).alloc (.cells #[.pointer (some ⟨9, 111, none⟩), .pointer (some ⟨w.heap.size, 0, none⟩), .int .u64 150] 152)).alloc (.cells #[.pointer (some ⟨9, 111, none⟩), .pointer (some ⟨w.heap.size, 0, none⟩), .int .u64 150] 152)).alloc (.cells #[x, y] 109)).setRow t #[x, y] := by
  have h104 := @run_callFunc_extern Tryz.prog 104 _ (fun args => ReflectliteValue.unpack (args.getD 0 (.tuple #[]))) Tryz.func104 (by kernel_rfl) (by kernel_rfl) (by kernel_rfl) (by kernel_rfl)
  have h105 := @run_callFunc_extern Tryz.prog 105 _ (ReflectliteValue.methodAny (ReflectliteValue.valueError "reflectlite.Value.Type" 0) (fun t _ _ _ => ReflectliteType.toType t)) Tryz.func105 (by kernel_rfl) (by kernel_rfl) (by kernel_rfl) (by kernel_rfl)
  have h106 := @run_callFunc_extern Tryz.prog 106 _ (ReflectliteValue.method (ReflectliteValue.valueError "reflectlite.Value.IsNil" 0) ReflectliteValue.isNil) Tryz.func106 (by kernel_rfl) (by kernel_rfl) (by kernel_rfl) (by kernel_rfl)
  have h270 := @run_callFunc_extern Tryz.prog 270 _ (ReflectliteType.abiMethod fun t => do pure (.int .u8 (← Rtype.kind t))) Tryz.func270 (by kernel_rfl) (by kernel_rfl) (by kernel_rfl) (by kernel_rfl)
  have h280 := @run_callFunc_extern Tryz.prog 280 _ (ReflectliteType.method ReflectliteType.elem) Tryz.func280 (by kernel_rfl) (by kernel_rfl) (by kernel_rfl) (by kernel_rfl)
  have h281 := @run_callFunc_extern Tryz.prog 281 _ (ReflectliteType.relation "Implements" ReflectliteType.implements_) Tryz.func281 (by kernel_rfl) (by kernel_rfl) (by kernel_rfl) (by kernel_rfl)
  have h155 := @run_callFunc_extern Tryz.prog 155 _ ReflectliteType.typeOf Tryz.func155 (by kernel_rfl) (by kernel_rfl) (by kernel_rfl) (by kernel_rfl)
  have h278 := @run_callFunc_extern Tryz.prog 278 _ (ReflectliteType.relation "AssignableTo" ReflectliteType.assignableTo) Tryz.func278 (by kernel_rfl) (by kernel_rfl) (by kernel_rfl) (by kernel_rfl)
  have h156 := @run_callFunc_extern Tryz.prog 156 _ (ReflectliteValue.method (ReflectliteValue.valueError "reflectlite.Value.Elem" 0) ReflectliteValue.elem) Tryz.func156 (by kernel_rfl) (by kernel_rfl) (by kernel_rfl) (by kernel_rfl)
  have h157 := @run_callFunc_extern Tryz.prog 157 _ ReflectliteValue.set Tryz.func157 (by kernel_rfl) (by kernel_rfl) (by kernel_rfl) (by kernel_rfl)
  have tO := as_typeOf
  have mA := as_mAssign
  have a25 := as_assign
  have v25 := as_valueOfE
  have f6 := as_valueOf
  have f7 := as_type
  have mK := as_mKind
  have mE := as_mElem
  have mI := as_mImpl
  have k27 := as_kind111
  have k25 := as_kind109
  have e27 := as_elem
  have i25 := as_impl
  have n8 := as_isNil ⟨w.heap.size, 0, none⟩ ⟨t, 0, none⟩ ((w.alloc (.cells #[.pointer (some ⟨t, 0, none⟩)] 111)).alloc (.cells #[.pointer (some ⟨9, 111, none⟩), .pointer (some ⟨w.heap.size, 0, none⟩), .int .u64 150] 152)) (by simp)
  have htl : t < w.heap.size := (Array.getElem?_eq_some_iff.1 ht).1
  have hlt : 0 < w.heap.size := by omega
  have hg2 : ((w.alloc (.cells #[.pointer (some ⟨t, 0, none⟩)] 111)).alloc (.cells #[.pointer (some ⟨9, 111, none⟩), .pointer (some ⟨w.heap.size, 0, none⟩), .int .u64 150] 152)).cell? ⟨0, 0, none⟩ = some (.iface 196 (.agg #[.pointer (some ⟨9, 105, none⟩)])) := by
    rw [World.cell?_alloc_lt _ _ ⟨0, 0, none⟩ (by simp), World.cell?_alloc_lt _ _ ⟨0, 0, none⟩ hlt]; exact hg
  have el := as_elemV ⟨w.heap.size, 0, none⟩ ⟨t, 0, none⟩ (((w.alloc (.cells #[.pointer (some ⟨t, 0, none⟩)] 111)).alloc (.cells #[.pointer (some ⟨9, 111, none⟩), .pointer (some ⟨w.heap.size, 0, none⟩), .int .u64 150] 152)).alloc (.cells #[.pointer (some ⟨9, 111, none⟩), .pointer (some ⟨w.heap.size, 0, none⟩), .int .u64 150] 152)) (by rw [World.cell?_alloc_lt _ _ ⟨w.heap.size, 0, none⟩ (by simp; omega)]; simp)
  have ha : ∀ (W : World) (o : Obj) (k : Nat), k < W.heap.size → (W.alloc o).heap[k]? = W.heap[k]? := fun W o k hk => by
    show (W.heap.push o)[k]? = _
    rw [Array.getElem?_push]; simp [Nat.ne_of_lt hk]
  have hz : ∀ (W : World) (o : Obj), (W.alloc o).heap.size = W.heap.size + 1 := fun W o => by show (W.heap.push o).size = _; simp
  have st := as_set t (w.heap.size + 1 + 1 + 1) x y o1 o2 hx hy ((((w.alloc (.cells #[.pointer (some ⟨t, 0, none⟩)] 111)).alloc (.cells #[.pointer (some ⟨9, 111, none⟩), .pointer (some ⟨w.heap.size, 0, none⟩), .int .u64 150] 152)).alloc (.cells #[.pointer (some ⟨9, 111, none⟩), .pointer (some ⟨w.heap.size, 0, none⟩), .int .u64 150] 152)).alloc (.cells #[x, y] 109))
    (by
      show (Array.push _ _)[_]? = _
      rw [Array.getElem?_push, if_pos (by rw [hz, hz, hz])])
    (by rw [ha _ _ _ (by rw [hz, hz, hz]; omega), ha _ _ _ (by rw [hz, hz]; omega), ha _ _ _ (by rw [hz]; omega), ha _ _ _ htl]; exact ht)
  go_enter Tryz.func65, Tryz.ntmps65
  go_wp2
  refine wp_loop_rounds 1 ?_
  rw [rounds_succ]
  go_wp2
  go_ret
  exact ⟨rfl, rfl⟩
end Go.Proofs.YtbnjmkidbfmomaaGreatDoor
namespace Go.Proofs.YtbnjmkidbfmomaaGreatDoor
open Go.Sx Go.RowKit Go.Bt Go.Lib Go.Sand
def stR : Rec (List UInt8) := ⟨fun s => [str s], 1, fun _ => rfl, fun s v h => by
  rw [List.mem_singleton] at h; subst h; rfl, Nat.one_pos⟩
abbrev tyZ : List Value := [.int .i64 0, .int .i64 0, .int .i64 0, .int .i64 0, .int .i64 0, .int .i64 0, .bool false, .slice none 0 0, .slice none 0 0]
noncomputable def afC (s : St) (c : Co) (t : List UInt8) : Co := match prsO t with
  | none => c
  | some o => if 100 ≤ c.ords.length then c else chgC s c o
theorem do_none {s : St} {c : Co} {t : List UInt8} (hp : prsO t = none) : doI s c t = 2 := by unfold doI; rw [hp]
theorem do_full {s : St} {c : Co} {t : List UInt8} {o : Od} (hp : prsO t = some o) (h : 100 ≤ c.ords.length) : doI s c t = 3 := by unfold doI; rw [hp]; simp only; rw [if_pos h]
theorem do_some {s : St} {c : Co} {t : List UInt8} {o : Od} (hp : prsO t = some o) (h : ¬ 100 ≤ c.ords.length) : doI s c t = actI s c o := by unfold doI; rw [hp]; simp only; rw [if_neg h]
theorem af_some {s : St} {c : Co} {t : List UInt8} {o : Od} (hp : prsO t = some o) (h : ¬ 100 ≤ c.ords.length) : afC s c t = chgC s c o := by unfold afC; rw [hp]; simp only; rw [if_neg h]
theorem af_full {s : St} {c : Co} {t : List UInt8} {o : Od} (hp : prsO t = some o) (h : 100 ≤ c.ords.length) : afC s c t = c := by unfold afC; rw [hp]; simp only; rw [if_pos h]
theorem do_af {s : St} {c : Co} {t : List UInt8} (h : doI s c t = 0) : doC s c t = { afC s c t with ords := c.ords ++ [t] } := by
  obtain ⟨o, hp, hl, ha, e⟩ := doC_yes h
  rw [e, af_some hp (by omega), chg_yes ha]
def afV (e : Int) (t : List UInt8) (c' : Co) (v : TV) : Value := if e = 0 then .tuple #[.agg (tyL c' v).toArray, .nilIface] else .tuple #[.agg tyZ.toArray, .iface 109 (.agg #[str t, .int .i64 e])]
theorem afV_0 {e : Int} {t : List UInt8} {c' : Co} {v : TV} (h : e = 0) : afV e t c' v = .tuple #[.agg (tyL c' v).toArray, .nilIface] := if_pos h
theorem afV_e {e : Int} {t : List UInt8} {c' : Co} {v : TV} (h : e ≠ 0) : afV e t c' v = .tuple #[.agg tyZ.toArray, .iface 109 (.agg #[str t, .int .i64 e])] := if_neg h
theorem ords_len {h : HD} {l : List (List UInt8)} (ho : goR stR h l) : gval h l.length = .slice (gp h) l.length (gc h) := by
  have e := rcs_len (R := stR) l
  exact gval_eq (sz := 1) (by unfold goR at ho; exact ho)
theorem od_ok {t : List UInt8} {o : Od} (h : prsO t = some o) : OdOk o := prs_ns h
section
variable {P : Program} {n : Nat} {w0 : World} {E : Env} {G : Heap} {d : Option Nat} {ty : TypeId} {pos : String} {aft : Array Edge} {g : Option (Nat × Bool)}
theorem PV.makeIface {t : Nat} {x : Operand} {v : Value} (hx : evo E x = some v) (ht : P.concrete t = true) : PV P n w0 E G ⟨d, .makeInterface t x, ty, pos, aft, g⟩ (.iface t v) :=
  fun a w hs => by simp [execOp, hs.ev hx, run_makeInterface (P := P) w t v ht]
theorem PV.eqPtr {x : Operand} {a : Option Addr} {t' : TypeId} (hx : evo E x = some (.pointer a)) : PV Tryz.prog n w0 E G ⟨d, .binOp .eql 30 x (.const (.pointer none)) t', ty, pos, aft, g⟩ (.bool a.isNone) :=
  PV.cmp hx rfl (fun w => by cases a <;> (cases x <;> rfl)) (fun w => by cases a <;> kernel_rfl)
end
section
variable {n : Nat} {w0 : World} {E : Env} {G : Heap} {d : Option Nat} {ty : TypeId} {pos : String} {aft : Array Edge} {g : Option (Nat × Bool)}
theorem PV.lenO {x : Operand} {h : HD} {l : List (List UInt8)} (hx : evo E x = some (gval h l.length)) (hg : goR stR h l) : PV Tryz.prog n w0 E G ⟨d, .call { callee := .builtin .len, args := #[x], argTypes := #[43] }, ty, pos, aft, g⟩ (.int .i64 (l.length : Nat)) :=
  PV.len (by rw [hx, ords_len hg]) Tb.sl_43
end
abbrev coB (b : Nat) (s : St) (u : SU) (lk : Int) (c : Co) (v : TV) (ho : HD) : Nat × Obj := (b, .cells (coL s u lk c v (gval ho c.ords.length)).toArray 103 (0, 0))
theorem lock_co {w0 w : World} {b : Nat} {s : St} {u : SU} {c : Co} {v : TV} {ho : HD} {Z : Heap} (hN : New w0 w (coB b s u 0 c v ho :: Z)) :
    Calls Tryz.prog 62 #[.pointer (some ⟨b, 6, none⟩)] w fun e w' => ∃ x : Unit, e = .returned (.tuple #[]) ∧ True ∧ New w0 w' (coB b s u 1 c v ho :: Z) :=
  lock_new (cs := (coL s u 0 c v (gval ho c.ords.length)).toArray) hN (Upd.head _) rfl
theorem as_new {w0 w : World} (hW : WAt w) {b : Nat} {x y o1 o2 : Value} (hx : x.oneCell' = true) (hy : y.oneCell' = true) {G : Heap} (hN : New w0 w ((b, .cells #[o1, o2] 109 (0, 0)) :: G)) :
    Calls Tryz.prog 65 #[.iface 109 (.agg #[x, y]), .iface 111 (.pointer (some ⟨b, 0, none⟩))] w fun e w' => ∃ z : Unit, e = .returned (.bool true) ∧ True ∧ New w0 w' ((b, .cells #[x, y] 109 (0, 0)) :: G) := by
  have hb : w.heap[b]? = some (.cells #[o1, o2] 109 (0, 0)) := hN.here _ (.head _)
  refine (as_hit b x y o1 o2 hx hy w hW.er hb).mono fun e w' ⟨h1, h2⟩ => ⟨(), h1, trivial, ?_⟩
  rw [h2]
  have h3 := (((hN.alloc (.cells #[.pointer (some ⟨b, 0, none⟩)] 111)).alloc (.cells #[.pointer (some ⟨9, 111, none⟩), .pointer (some ⟨w.heap.size, 0, none⟩), .int .u64 150] 152)).alloc (.cells #[.pointer (some ⟨9, 111, none⟩), .pointer (some ⟨w.heap.size, 0, none⟩), .int .u64 150] 152)).alloc (.cells #[x, y] 109)
  have h4 := h3.sub (List.sublist_append_right [_, _, _, _] ((b, .cells #[o1, o2] 109 (0, 0)) :: G))
  have h5 := h4.here (b, .cells #[o1, o2] 109 (0, 0)) (.head _)
  refine h4.turn (Upd.head _) ?_ ?_ rfl rfl rfl ?_ rfl
  · simp only at h5
    simp only [World.setRow, Array.getElem?_modify, if_true, h5, Option.map_some]
  · intro k hk
    simp only [World.setRow, Array.getElem?_modify]
    rw [if_neg (by omega)]
  · simp [World.setRow]
theorem fill_s (L : List UInt8) : Instr.fill (fun i => some (i * 1, 1)) ((Array.range (1 * 1)).map ((Value.string ⟨#[]⟩).cells[· % (Value.string ⟨#[]⟩).cells.size]!)) [(0, str L)] = some #[str L] := by kernel_rfl
theorem Inv.need {s : St} (hv : SV s) : s.need ≠ 0 := by
  have := hv.mo.K1
  have h2 := hv.nd
  have e : s.md.K = s.need.toNat := rfl
  rw [e] at this
  omega
theorem isNone_ok (w0 : World) (b : Nat) (k : Int) (hk : k ≠ 0) (hc : w0.cell? ⟨b, 5, none⟩ = some (.int .i64 k)) :
    Calls Tryz.prog 61 #[.pointer (some ⟨b, 0, none⟩)] w0 (Post (X := Unit) (fun _ => .bool false) (fun _ => True) (fun _ => []) w0) := by
  refine calls Tryz.func61 rfl (n := 14) rfl (by simp) ?_
  refine zr (za rfl (zk (zm rfl (zq (PV.eqPtr rfl) rfl (zm rfl (zm rfl (zq (PV.nilCheck rfl) rfl (zq (PV.fieldAddr rfl Tb.fo_103_0) rfl (zq (PV.fieldAddr rfl Tb.fo_90_2) rfl (zq (PV.fieldAddr rfl Tb.fo_52_2) rfl (zq (PV.loadOld rfl Tb.one_3 hc) rfl (zq (PV.eql rfl rfl) rfl (zq (PV.pickF rfl rfl) rfl (za rfl (zt (TQ.retE1 rfl rfl ?_))))))))))))))))
  exact ⟨(), by rw [decide_eq_false hk], trivial, nils⟩
theorem after_n (w0 w : World) (hW : WAt w0) (s : St) (hv : SV s) (u : SU) (c : Co) (v : TV) (hi : Inv s c) (b : Nat) (ho : HD) (hgo : goR stR ho c.ords) (Z : Heap) (hN : New w0 w (coB b s u 1 c v ho :: Z)) (Zf : Heap) (hZf : List.Sublist Zf Z) (hS : ∀ w9, New w0 w9 Zf → SiteAt w9 s u) (hT : ∀ w9, New w0 w9 Zf → TurAt w9 c v) (t : List UInt8) (ht : t.length ≤ 1000000) (hp : prsO t = none) :
    Calls Tryz.prog 64 #[.pointer (some ⟨b, 0, none⟩), str t] w (Post (X := TV × Heap) (fun y => afV (doI s c t) t (afC s c t) y.1) (fun y => ∀ w9, New w0 w9 (y.2 ++ Zf) → TurAt w9 (afC s c t) y.1) (fun y => y.2 ++ (coB b s u 1 c v ho :: Z)) w0) := by
  refine callsM hN Tryz.func64 rfl (n := 49) rfl (by simp) ?_
  refine zr (TL.alloc Tb.zero_101 rfl dc (fun b0 hb0 => ?_))
  refine za rfl (zk (zm rfl (TL.call rfl Tb.gofn_102 (fun a w hs => (by have h := orderIn_ok w (hW.new hs.new) t ht; rw [hp] at h; exact h)) rfl dc (fun bn _ => ?_))))
  refine zm rfl (zq (PV.extract rfl rfl) rfl (zq (PV.extract rfl rfl) rfl (TL.alloc Tb.zero_144 rfl dc (fun b1 hb1 => ?_))))
  refine TL.storeAgg rfl rfl Tb.cells_144 u9z rfl rfl rfl rfl rfl ?_
  refine za rfl (zn (TC.seq (zr (zm rfl (zq (PV.not rfl) rfl (zn (TC.condT rfl (zr (zq (PV.build rfl Tb.zero_101 Tb.pl_101 rfl) rfl (zm rfl (zq (PV.build rfl Tb.zero_109 Tb.pl_109 rfl) rfl (zq (PV.makeIface rfl kr) rfl (TL.storeAgg rfl rfl Tb.cells_101 u9z rfl rfl rfl rfl rfl ?_)))))))))))))
  refine za rfl (zt (TQ.thenR (TQ.retR rfl (Res.agg rfl Tb.agg_101 m9z rfl (Res.tmp rfl Res.nil)) ?_)))
  simp only [tup]
  have hE := do_none (s := s) (c := c) hp
  have hA : afC s c t = c := by unfold afC; rw [hp]
  exact ⟨(v, []), by rw [afV_e (by rw [hE]; decide), hE]; rfl, by rw [hA]; exact hT, s9z⟩
set_option maxHeartbeats 1000000 in
theorem after_y (w0 w : World) (hW : WAt w0) (s : St) (hv : SV s) (u : SU) (c : Co) (v : TV) (hi : Inv s c) (b : Nat) (ho : HD) (hgo : goR stR ho c.ords) (Z : Heap) (hN : New w0 w (coB b s u 1 c v ho :: Z)) (Zf : Heap) (hZf : List.Sublist Zf Z) (hS : ∀ w9, New w0 w9 Zf → SiteAt w9 s u) (hT : ∀ w9, New w0 w9 Zf → TurAt w9 c v) (t : List UInt8) (ht : t.length ≤ 1000000) (o : Od) (hp : prsO t = some o) :
    Calls Tryz.prog 64 #[.pointer (some ⟨b, 0, none⟩), str t] w (Post (X := TV × Heap) (fun y => afV (doI s c t) t (afC s c t) y.1) (fun y => ∀ w9, New w0 w9 (y.2 ++ Zf) → TurAt w9 (afC s c t) y.1) (fun y => y.2 ++ (coB b s u 1 c v ho :: Z)) w0) := by
  refine callsM hN Tryz.func64 rfl (n := 49) rfl (by simp) ?_
  refine zr (TL.alloc Tb.zero_101 rfl dc (fun b0 hb0 => ?_))
  refine za rfl (zk (zm rfl (TL.call rfl Tb.gofn_102 (fun a w hs => (by have h := orderIn_ok w (hW.new hs.new) t ht; rw [hp] at h; exact h)) rfl dc (fun bn _ => ?_))))
  refine zm rfl (zq (PV.extract rfl rfl) rfl (zq (PV.extract rfl rfl) rfl (TL.alloc Tb.zero_144 rfl dc (fun b1 hb1 => ?_))))
  refine TL.storeAgg rfl rfl Tb.cells_144 u9z rfl rfl rfl rfl rfl ?_
  refine za rfl (zn (TC.seq (zr (zm rfl (zq (PV.not rfl) rfl (zn (TC.condF rfl (TC.skip (TQ.thenC (TC.seq (zr (zm rfl (zq (PV.nilCheck rfl) rfl (zq (PV.fieldAddr rfl Tb.fo_103_3) rfl (zq (PV.load rfl Tb.one_43 m9z rfl) rfl ?_)))))))))))))))
  refine zq (PV.lenO rfl hgo) rfl (zq (PV.eql rfl rfl) rfl (zn (TC.cd rfl (fun gl => ?_) (fun gl => ?_))))
  refine zr (zq (PV.build rfl Tb.zero_101 Tb.pl_101 rfl) rfl (zm rfl (zq (PV.build rfl Tb.zero_109 Tb.pl_109 rfl) rfl (zq (PV.makeIface rfl kr) rfl (TL.storeAgg rfl rfl Tb.cells_101 u9z rfl rfl rfl rfl rfl ?_)))))
  refine za rfl (zt (TQ.thenR (TQ.retR rfl (Res.agg rfl Tb.agg_101 m9z rfl (Res.tmp rfl Res.nil)) ?_)))
  simp only [tup]
  have hE := do_full (s := s) (c := c) hp (by omega)
  exact ⟨(v, []), by rw [afV_e (by rw [hE]; decide), hE]; rfl, by rw [af_full hp (by omega)]; exact hT, s9z⟩
  refine TC.skip (TQ.thenC (zr (zm rfl (zq (PV.nilCheck rfl) rfl (zq (PV.fieldAddr rfl Tb.fo_103_2) rfl (zq (PV.loadMid (cs := coL s u 1 c v (gval ho c.ords.length)) (off := 8) (k := 9) (vs := tyL c v) rfl Tb.agg_101 m9z rfl rfl) rfl ?_))))))
  refine TL.alloc Tb.zero_101 rfl dc (fun b2 hb2 => ?_)
  refine TL.storeAgg rfl rfl Tb.cells_101 u9z rfl rfl rfl rfl rfl ?_
  refine zn (TC.seq (TC.seq (TC.sub (G' := (b2, Obj.cells (tyL c v).toArray 101 (0, 0)) :: ((b1, Obj.cells [.int .i64 (o.k : Nat), .slice (some ⟨bn, 0, none⟩) o.ns.length o.ns.length].toArray 144 (0, 0)) :: (bn, Obj.cells (intsA o.ns) 3 (0, 0)) :: (b0, Obj.cells tyZ.toArray 101 (0, 0)) :: coB b s u 1 c v ho :: Z)) (List.Sublist.refl _) ?_)))
  refine TC.draw 5 Tb.mixed kr ?_
  simp only [List.take_succ_cons, List.take_zero, List.drop_succ_cons, List.drop_zero]
  refine TS.pure (PV.move rfl) rfl dc ?_
  refine TS.pure (PV.nilCheck rfl) rfl dc ?_
  refine TS.pure (PV.fieldAddr rfl Tb.fo_103_0) rfl dc ?_
  refine TS.pure (PV.loadMid (cs := coL s u 1 c v (gval ho c.ords.length)) (off := 0) (k := 6) (vs := siL s u) rfl Tb.agg_90 m9z rfl rfl) rfl dc ?_
  refine TS.pure (PV.loadBox (cs := [.int .i64 (o.k : Nat), .slice (some ⟨bn, 0, none⟩) o.ns.length o.ns.length]) rfl Tb.agg_144 m9z rfl) rfl dc ?_
  refine TS.nil ?_
  refine TL.callW (X := TV × Heap) (fun _ => .int .i64 (actI s c o)) (fun y => ∀ w9, New w0 w9 (y.2 ++ ((bn, Obj.cells (intsA o.ns) 3 (0, 0)) :: Zf)) → TurAt w9 (chgC s c o) y.1) (fun y => (b2, Obj.cells (tyL (chgC s c o) y.1).toArray 101 (0, 0)) :: (y.2 ++ ((b1, Obj.cells [.int .i64 (o.k : Nat), .slice (some ⟨bn, 0, none⟩) o.ns.length o.ns.length].toArray 144 (0, 0)) :: (bn, Obj.cells (intsA o.ns) 3 (0, 0)) :: (b0, Obj.cells tyZ.toArray 101 (0, 0)) :: coB b s u 1 c v ho :: Z))) rfl Tb.gofn_103 (fun a w hs => change_ok w0 w s hv u c v hi b2 ((b1, Obj.cells [.int .i64 (o.k : Nat), .slice (some ⟨bn, 0, none⟩) o.ns.length o.ns.length].toArray 144 (0, 0)) :: (bn, Obj.cells (intsA o.ns) 3 (0, 0)) :: (b0, Obj.cells tyZ.toArray 101 (0, 0)) :: coB b s u 1 c v ho :: Z) hs.new ((bn, Obj.cells (intsA o.ns) 3 (0, 0)) :: Zf) (List.Sublist.cons _ (List.Sublist.cons_cons _ (List.Sublist.cons _ (List.Sublist.cons _ hZf)))) (fun w9 h9 => hS w9 (h9.sub (List.sublist_cons_self _ _))) (fun w9 h9 => hT w9 (h9.sub (List.sublist_cons_self _ _))) hW.tz o (od_ok hp) _ _ (fun w9 h9 => IntsAt.arr h9 (.head _))) rfl dc (fun y hy => ?_)
  refine za rfl (zk (zm rfl (zq (PV.neq rfl rfl) rfl (zn (TC.cd rfl (fun ge => ?_) (fun ge => ?_))))))
  refine zr (zq (PV.build rfl Tb.zero_101 Tb.pl_101 rfl) rfl (zm rfl (zm rfl (zq (PV.build rfl Tb.zero_109 Tb.pl_109 rfl) rfl (zq (PV.makeIface rfl kr) rfl (TL.storeAgg rfl rfl Tb.cells_101 u9z rfl rfl rfl rfl rfl ?_))))))
  refine za rfl (zt (TQ.thenR (TQ.retR rfl (Res.agg rfl Tb.agg_101 m9z rfl (Res.tmp rfl Res.nil)) ?_)))
  simp only [tup]
  have hE := do_some (s := s) (c := c) hp (by have := hi.ol; omega)
  have hA := af_some (s := s) (c := c) hp (by have := hi.ol; omega)
  exact ⟨(y.1, y.2 ++ [(bn, Obj.cells (intsA o.ns) 3 (0, 0))]), by rw [afV_e (by rw [hE]; exact ge), hE]; rfl, by rw [hA]; exact fun w9 h9 => hy w9 (by rw [List.append_assoc] at h9; exact h9), (by show List.Sublist ((y.2 ++ [_]) ++ (_ :: Z)) _; rw [List.append_assoc]; exact List.Sublist.cons _ (List.Sublist.append (List.Sublist.refl _) (List.Sublist.cons _ (List.Sublist.cons_cons _ (List.Sublist.cons _ (List.Sublist.refl _))))))⟩
  refine TC.skip (TQ.thenC (zr (zq (PV.loadBox rfl Tb.agg_101 m9z rfl) rfl ?_)))
  refine TL.storeAgg rfl rfl Tb.cells_101 u9z rfl rfl rfl rfl rfl ?_
  refine za rfl (zt (TQ.retR rfl (Res.agg rfl Tb.agg_101 m9z rfl (Res.tmp rfl Res.nil)) ?_))
  simp only [tup]
  have hE := do_some (s := s) (c := c) hp (by have := hi.ol; omega)
  have hA := af_some (s := s) (c := c) hp (by have := hi.ol; omega)
  exact ⟨(y.1, y.2 ++ [(bn, Obj.cells (intsA o.ns) 3 (0, 0))]), by rw [afV_0 (by rw [hE]; exact Decidable.not_not.1 ge), hA], by rw [hA]; exact fun w9 h9 => hy w9 (by rw [List.append_assoc] at h9; exact h9), (by show List.Sublist ((y.2 ++ [_]) ++ (_ :: Z)) _; rw [List.append_assoc]; exact List.Sublist.cons _ (List.Sublist.append (List.Sublist.refl _) (List.Sublist.cons _ (List.Sublist.cons_cons _ (List.Sublist.cons _ (List.Sublist.refl _))))))⟩
end Go.Proofs.YtbnjmkidbfmomaaGreatDoor
