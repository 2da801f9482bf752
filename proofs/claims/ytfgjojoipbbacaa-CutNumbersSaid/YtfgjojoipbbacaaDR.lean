/- Ranks: mathematics; the reference's contracts; the index of a hollow. -/
import Derived.Test.YtfgjojoipbbacaaDP
set_option linter.unusedVariables false
set_option linter.unusedSimpArgs false
namespace Go.Proofs.Ytfgjojoipbbacaa
open Go.Sx Go.RowKit

theorem allH_nodup {ls : List (List Int)} : (allH ls).Nodup := (all_asc (dep ls) ls.length).imp fun {x y} hlt e => by subst e; rw [cmpL_self] at hlt; exact absurd hlt (by decide)
theorem allV_len (ls : List (List Int)) : (allV ls).length = (allH ls).length := by simp [allV]
theorem allH_15625 {ls : List (List Int)} (hb : VB ls) : (allH ls).length ≤ 15625 := Nat.le_trans (all_len hb.d.2 ls.length) (pow_6 hb.n.2)
theorem count_is {ls : List (List Int)} {es : List Ent} (hb : VB ls) (hw : WI ls es []) : es.length = (allH ls).length := by
  have hp : (keysE es).Perm ((allV ls).map Vector.toList) := by
    refine (List.perm_ext_iff_of_nodup hw.nd ?_).2 fun k => ?_
    · have := asc_nodup (allV_asc hb)
      exact List.Pairwise.map Vector.toList (fun a b h e => h (Vector.toList_inj.1 e)) this
    · constructor
      · intro h
        obtain ⟨q, hq, e⟩ := List.mem_map.1 h
        have hr := (hw.good q hq).1
        rw [e] at hr
        exact List.mem_map.2 ⟨toHv k, (allV_mem hb _).2 (by rw [toHv_six hr.len]; exact hr), toHv_six hr.len⟩
      · intro h
        obtain ⟨x, hx, rfl⟩ := List.mem_map.1 h
        exact WI.all hb hw _ _ ((allV_mem hb x).1 hx) rfl
  have := hp.length_eq
  simpa [keysE, allV] using this
theorem allV_at {ls : List (List Int)} {k : Nat} (hk : k < (allH ls).length) : (allV ls).getD k default = toHv ((allH ls).getD k []) := by simp [allV, List.getD, hk]
theorem ho_at {ls : List (List Int)} (hb : VB ls) {k : Nat} (hk : k < (allH ls).length) : HO ls ((allH ls).getD k []) := (all_ho hb _).1 (getD_mem hk)
/-- The rank of a hollow. -/
structure RkP (ls : List (List Int)) (xs : List Int) (r : Nat) : Prop where
  bad : holI ls xs ≠ 0 → r = 0
  ok : holI ls xs = 0 → r < (allH ls).length ∧ (allH ls).getD r [] = xs
theorem nodup_at {l : List (List Int)} (h : l.Nodup) {i j : Nat} (hi : i < l.length) (hj : j < l.length) (e : l.getD i [] = l.getD j []) : i = j := by
  simp only [List.getD, List.getElem?_eq_getElem hi, List.getElem?_eq_getElem hj, Option.getD_some] at e
  have hp := List.pairwise_iff_getElem.1 h
  rcases Nat.lt_trichotomy i j with hlt | e2 | hgt
  · exact absurd e (hp i j hi hj hlt)
  · exact e2
  · exact absurd e.symm (hp j i hj hi hgt)
theorem RkP.unique {ls : List (List Int)} {xs : List Int} {r s : Nat} (h : RkP ls xs r) (k : RkP ls xs s) : r = s := by
  by_cases h0 : holI ls xs = 0
  · obtain ⟨h1, h2⟩ := h.ok h0
    obtain ⟨k1, k2⟩ := k.ok h0
    exact nodup_at allH_nodup h1 k1 (h2.trans k2.symm)
  · rw [h.bad h0, k.bad h0]
def urI (ls : List (List Int)) (i : Int) : Int := if validI ls ≠ 0 then validI ls else if 0 ≤ i ∧ i < (allH ls).length then 0 else 4
def urL (ls : List (List Int)) (i : Int) : List Int := if urI ls i = 0 then (allH ls).getD i.toNat [] else []
theorem ur_1 {ls : List (List Int)} {i : Int} (h : validI ls ≠ 0) : urI ls i = validI ls := if_pos h
theorem ur_4 {ls : List (List Int)} {i : Int} (h : ¬ validI ls ≠ 0) (h2 : ¬ (0 ≤ i ∧ i < (allH ls).length)) : urI ls i = 4 := by unfold urI; rw [if_neg h, if_neg h2]
theorem ur_0 {ls : List (List Int)} {i : Int} (h : ¬ validI ls ≠ 0) (h2 : 0 ≤ i ∧ i < (allH ls).length) : urI ls i = 0 := by unfold urI; rw [if_neg h, if_pos h2]
theorem urL_no {ls : List (List Int)} {i : Int} (h : urI ls i ≠ 0) : urL ls i = [] := if_neg h
theorem urL_ok {ls : List (List Int)} {i : Int} (h : urI ls i = 0) : urL ls i = (allH ls).getD i.toNat [] := if_pos h
theorem ur_is {ls : List (List Int)} {i : Int} (h : urI ls i = 0) : ¬ validI ls ≠ 0 ∧ 0 ≤ i ∧ i < (allH ls).length := by
  unfold urI at h
  by_cases h1 : validI ls ≠ 0
  · rw [if_pos h1] at h; exact absurd h h1
  · rw [if_neg h1] at h
    by_cases h2 : 0 ≤ i ∧ i < (allH ls).length
    · exact ⟨h1, h2⟩
    · rw [if_neg h2] at h; cases h
theorem urL_len {ls : List (List Int)} {i : Int} : (urL ls i).length ≤ 1000000 := by
  by_cases h : urI ls i = 0
  · obtain ⟨h1, h2, h3⟩ := ur_is h
    have hb := vb_of h1
    rw [urL_ok h, (ho_at hb (by omega)).len]
    have := hb.n
    omega
  · rw [urL_no h]; exact Nat.zero_le _
theorem bl_sub {ps : List (HD × List Int)} {z : HD × List Int} (h : z ∈ ps) : List.Sublist (gbI z) (bl ps) := by
  obtain ⟨A, B, rfl⟩ := List.append_of_mem h
  rw [bl_append, bl_cons, List.append_assoc]
  exact List.Sublist.trans (List.sublist_append_left _ _) (List.sublist_append_right _ _)
theorem eql69_guard (x y : Operand) (xs ys : List Int) (w : World) : (eqGuard .eql 69 x y (.agg (intsA xs)) (.agg (intsA ys))).run Try.prog w = .ok () w :=
  run_eqGuard_agg (w := w) .eql 69 x y _ _ (by kernel_rfl)
theorem eql69 {xs ys : List Int} (hx : xs.length = 6) (hy : ys.length = 6) (w : World) : (binOp .eql 69 (.agg (intsA xs)) (.agg (intsA ys))).run Try.prog w = .ok (.bool (decide (xs = ys))) w := by
  have h := run_eqK key_69 hx hy w
  rw [show (Op.equal 69 (.agg (intsA xs)) (.agg (intsA ys))) = Op.equalIn 10000 69 (.agg (intsA xs)) (.agg (intsA ys)) from rfl] at h
  rw [run_eql_struct, h]
  rfl


set_option maxRecDepth 100000 in
set_option maxHeartbeats 1000000 in
theorem rCount_ok (w0 : World) (p : Option Addr) (cap : Nat) (ls : List (List Int)) (hr : LsAt w0 p ls) :
    Calls Try.prog 46 #[bv p ls.length cap] w0 (Post (X := Unit) (fun _ => .tuple #[.int .i64 (if validI ls = 0 then ((allH ls).length : Int) else 0), .int .i64 (validI ls)]) (fun _ => True) (fun _ => []) w0) := by
  refine calls Try.func46 rfl (n := 13) rfl (by simp) ?_
  refine TC.seq ?_
  refine TC.region ?_
  refine TL.box rfl rfl (by decide) (fun b0 hb0 => ?_)
  refine TL.pure (PV.assign rfl) rfl (by decide) ?_
  refine TL.pure (PV.assign rfl) rfl (by decide) ?_
  refine TL.nil ?_
  refine TQ.thenC ?_
  refine TC.seq ?_
  refine TC.region ?_
  refine TL.pure (PV.loadBox rfl Tb.agg_24 (by repeat (first | exact List.Mem.head _ | refine List.Mem.tail _ ?_ | refine List.mem_append_right _ ?_)) rfl) rfl (by decide) ?_
  refine TL.call rfl Tb.gofn_22 (fun a w hs => rvalidate_ok w _ _ _ (hr.new hs.new)) rfl (by decide) (fun _ _ => ?_)
  refine TL.pure (PV.assign rfl) rfl (by decide) ?_
  refine TL.nil ?_
  refine TQ.thenC ?_
  refine TC.seq ?_
  refine TC.seq ?_
  refine TC.region ?_
  refine TL.pure (PV.move rfl) rfl (by decide) ?_
  refine TL.pure (PV.neq rfl rfl) rfl (by decide) ?_
  refine TL.nil ?_
  refine TQ.thenC ?_
  first | refine TC.condD rfl (fun hbad => ?_) (fun hbad => ?_) | refine TC.cond rfl (fun hbad => ?_) (fun hbad => ?_)
  · skip
    refine TC.seq ?_
    refine TC.region ?_
    refine TL.pure (PV.move rfl) rfl (by decide) ?_
    refine TL.pure (PV.assign rfl) rfl (by decide) ?_
    refine TL.pure (PV.assign rfl) rfl (by decide) ?_
    refine TL.nil ?_
    refine TQ.thenC ?_
    refine TC.ret ?_
    refine TQ.thenR ?_
    refine TQ.retE2 rfl rfl rfl ?_
    exact ⟨(), by rw [if_neg hbad], trivial, List.nil_sublist _⟩
  · skip
    refine TC.skip ?_
    refine TQ.thenC ?_
    refine TC.seq ?_
    have hb := vb_of hbad
    have hv0 : validI ls = 0 := Decidable.of_not_not hbad
    refine TC.region ?_
    refine TL.pure (PV.loadBox rfl Tb.agg_24 (by repeat (first | exact List.Mem.head _ | refine List.Mem.tail _ ?_ | refine List.mem_append_right _ ?_)) rfl) rfl (by decide) ?_
    refine TL.call rfl Tb.gofn_77 (fun a w hs => all_ok w _ _ _ (hr.new hs.new) hb) rfl (by decide) (fun y9 hy9 => ?_)
    refine TL.pure (PV.lenG rfl hy9.ok Tb.sl_22) rfl (by decide) ?_
    refine TL.pure (PV.assign rfl) rfl (by decide) ?_
    refine TL.pure (PV.assign rfl) rfl (by decide) ?_
    refine TL.nil ?_
    refine TQ.thenC ?_
    refine TC.ret ?_
    refine TQ.retE2 rfl rfl rfl ?_
    exact ⟨(), by rw [if_pos hv0, hv0, hy9.len], trivial, List.nil_sublist _⟩

set_option maxRecDepth 100000 in
set_option maxHeartbeats 1000000 in
theorem rRank_ok (w0 : World) (p : Option Addr) (cap : Nat) (ls : List (List Int)) (hr : LsAt w0 p ls) (pl : Option Addr) (cl : Nat) (xs : List Int) (hx : IntsAt w0 pl xs) :
    Calls Try.prog 48 #[bv p ls.length cap, .slice pl xs.length cl] w0 (Post (X := Nat) (fun r => .tuple #[.int .i64 r, .int .i64 (holI ls xs)]) (fun r => RkP ls xs r) (fun _ => []) w0) := by
  refine calls Try.func48 rfl (n := 27) rfl (by simp) ?_
  refine TC.seq ?_
  refine TC.region ?_
  refine TL.box rfl rfl (by decide) (fun b0 hb0 => ?_)
  refine TL.pure (PV.assign rfl) rfl (by decide) ?_
  refine TL.pure (PV.assign rfl) rfl (by decide) ?_
  refine TL.nil ?_
  refine TQ.thenC ?_
  refine TC.seq ?_
  refine TC.region ?_
  refine TL.pure (PV.loadBox rfl Tb.agg_24 (by repeat (first | exact List.Mem.head _ | refine List.Mem.tail _ ?_ | refine List.mem_append_right _ ?_)) rfl) rfl (by decide) ?_
  refine TL.pure (PV.move rfl) rfl (by decide) ?_
  refine TL.call rfl Tb.gofn_24 (fun a w hs => rcheckHollow_ok w _ _ _ (hr.new hs.new) _ _ _ (hx.new hs.new)) rfl (by decide) (fun _ _ => ?_)
  refine TL.pure (PV.assign rfl) rfl (by decide) ?_
  refine TL.nil ?_
  refine TQ.thenC ?_
  refine TC.seq ?_
  refine TC.seq ?_
  refine TC.region ?_
  refine TL.pure (PV.move rfl) rfl (by decide) ?_
  refine TL.pure (PV.neq rfl rfl) rfl (by decide) ?_
  refine TL.nil ?_
  refine TQ.thenC ?_
  first | refine TC.condD rfl (fun hbad => ?_) (fun hbad => ?_) | refine TC.cond rfl (fun hbad => ?_) (fun hbad => ?_)
  · skip
    refine TC.seq ?_
    refine TC.region ?_
    refine TL.pure (PV.move rfl) rfl (by decide) ?_
    refine TL.pure (PV.assign rfl) rfl (by decide) ?_
    refine TL.pure (PV.assign rfl) rfl (by decide) ?_
    refine TL.nil ?_
    refine TQ.thenC ?_
    refine TC.ret ?_
    refine TQ.thenR ?_
    refine TQ.retE2 rfl rfl rfl ?_
    exact ⟨0, rfl, ⟨fun _ => rfl, fun h => absurd h hbad⟩, List.nil_sublist _⟩
  · skip
    refine TC.skip ?_
    refine TQ.thenC ?_
    refine TC.seq ?_
    have hh := ho_of hbad
    have hb := hh.vb
    have hn9 := hb.n
    have hxl := hh.len
    have hv0 : holI ls xs = 0 := Decidable.of_not_not hbad
    have hal := allH_15625 hb
    obtain ⟨k0, hk0, hke⟩ := List.getElem_of_mem ((all_ho hb xs).2 hh)
    have hke2 : (allH ls).getD k0 [] = xs := by simp [List.getD, hk0, hke]
    refine TC.region ?_
    refine TL.pure (PV.loadBox rfl Tb.agg_24 (by repeat (first | exact List.Mem.head _ | refine List.Mem.tail _ ?_ | refine List.mem_append_right _ ?_)) rfl) rfl (by decide) ?_
    refine TL.call rfl Tb.gofn_77 (fun a w hs => all_ok w _ _ _ (hr.new hs.new) hb) rfl (by decide) (fun y9 hy9 => ?_)
    refine TL.pure (PV.assign rfl) rfl (by decide) ?_
    refine TL.nil ?_
    refine TQ.thenC ?_
    refine TC.seq ?_
    have hyl := hy9.len
    refine TC.region ?_
    refine TL.pure (PV.assign rfl) rfl (by decide) ?_
    refine TL.nil ?_
    refine TQ.thenC ?_
    refine TC.seq ?_
    refine TC.block ?_
    refine TC.loopG [1, 4, 5, 7] (X := Nat) (fun r => r ≤ k0) (fun r => [(8, .int .i64 r)]) (fun r => k0 - r) 0 (Nat.zero_le _) (by repeat (first | exact True.intro | refine And.intro rfl ?_)) ?_
    intro r hr9
    refine TC.seq ?_
    refine TC.seq ?_
    obtain ⟨hro, hre, hrm⟩ := hy9.row (i := r) (by omega)
    refine TC.region ?_
    refine TL.pure (PV.move rfl) rfl (by decide) ?_
    refine TL.pure (PV.move rfl) rfl (by decide) ?_
    refine TL.pure (PV.indexG (j := r) rfl rfl hy9.ok Tb.elm_22 rfl (by omega)) rfl (by decide) ?_
    refine TL.pure (PV.loadGP (y := y9) (j := r) (v := gvI (y9.2.getD r (none, []))) rfl Tb.one_25 (fun yy hyy => by simp only [List.mem_append, List.mem_cons]; simp [hyy]) hy9.ok (by omega) rfl) rfl (by decide) ?_
    refine TL.pure (PV.move rfl) rfl (by decide) ?_
    refine TL.call rfl Tb.gofn_29 (fun a w hs => (by rw [show gvI (y9.2.getD r (none, [])) = .slice (gp (y9.2.getD r (none, [])).1) (y9.2.getD r (none, [])).2.length (gc (y9.2.getD r (none, [])).1) from gval_eq hro]; exact sameInts_ok w _ _ (y9.2.getD r (none, [])).2 (IntsAt.g (x := (y9.2.getD r (none, []))) hs.new (fun yy hyy => by have := bl_mem hrm yy hyy; simp only [List.mem_append, List.mem_cons]; simp [this]) hro) _ _ _ (hx.new hs.new) (by rw [hre, (ho_at hb (by omega)).len]; omega) (by omega))) rfl (by decide) (fun _ _ => ?_)
    refine TL.pure ((by first | exact PV.notD rfl | exact PV.not rfl)) rfl (by decide) ?_
    refine TL.nil ?_
    refine TQ.thenC ?_
    first | refine TC.condD rfl (fun hne => ?_) (fun hne => ?_) | refine TC.cond rfl (fun hne => ?_) (fun hne => ?_)
    · skip
      refine TC.skip ?_
      refine TQ.thenC ?_
      refine TC.block ?_
      refine TC.region ?_
      refine TL.pure (PV.move rfl) rfl (by decide) ?_
      refine TL.pure (PV.add rfl rfl (by omega)) rfl (by decide) ?_
      refine TL.pure (PV.assign rfl) rfl (by decide) ?_
      refine TL.nil ?_
      refine TQ.blkN ?_
      refine TQ.thenN ?_
      refine TQ.backK (r + 1) (by repeat (first | exact True.intro | refine And.intro rfl ?_)) (by repeat (first | exact True.intro | refine And.intro rfl ?_)) (by repeat (first | exact List.Sublist.slnil | exact List.nil_sublist _ | exact List.Sublist.refl _ | refine List.Sublist.cons_cons _ ?_ | refine List.Sublist.cons _ ?_ | refine List.Sublist.trans ?_ (List.sublist_append_right _ _))) (by have hn : ¬ r = k0 := (fun e => hne (by rw [hre, e]; exact hke2)); omega) (by have hn : ¬ r = k0 := (fun e => hne (by rw [hre, e]; exact hke2)); omega)
    · skip
      refine TC.exit ?_
      refine TQ.thenE ?_
      refine TQ.thenE ?_
      refine TQ.blkS ?_
      refine TQ.thenC ?_
      refine TC.seq ?_
      refine TC.region ?_
      refine TL.pure (PV.move rfl) rfl (by decide) ?_
      refine TL.pure (PV.assign rfl) rfl (by decide) ?_
      refine TL.pure (PV.assign rfl) rfl (by decide) ?_
      refine TL.nil ?_
      refine TQ.thenC ?_
      refine TC.ret ?_
      refine TQ.retE2 rfl rfl rfl ?_
      exact ⟨r, by rw [hv0], ⟨fun h => absurd hv0 h, fun _ => ⟨by omega, by rw [← hre]; exact Decidable.of_not_not hne⟩⟩, List.nil_sublist _⟩

set_option maxRecDepth 100000 in
set_option maxHeartbeats 1000000 in
theorem rUnrank_ok (w0 : World) (p : Option Addr) (cap : Nat) (ls : List (List Int)) (hr : LsAt w0 p ls) (i : Int) :
    Calls Try.prog 50 #[bv p ls.length cap, .int .i64 i] w0 (Post (X := HD) (fun h => .tuple #[gval h (urL ls i).length, .int .i64 (urI ls i)]) (fun h => goI (h, urL ls i)) (fun h => gbI (h, urL ls i)) w0) := by
  refine calls Try.func50 rfl (n := 27) rfl (by simp) ?_
  refine TC.seq ?_
  refine TC.region ?_
  refine TL.box rfl rfl (by decide) (fun b0 hb0 => ?_)
  refine TL.pure (PV.assign rfl) rfl (by decide) ?_
  refine TL.pure (PV.assign rfl) rfl (by decide) ?_
  refine TL.nil ?_
  refine TQ.thenC ?_
  refine TC.seq ?_
  refine TC.region ?_
  refine TL.pure (PV.loadBox rfl Tb.agg_24 (by repeat (first | exact List.Mem.head _ | refine List.Mem.tail _ ?_ | refine List.mem_append_right _ ?_)) rfl) rfl (by decide) ?_
  refine TL.call rfl Tb.gofn_22 (fun a w hs => rvalidate_ok w _ _ _ (hr.new hs.new)) rfl (by decide) (fun _ _ => ?_)
  refine TL.pure (PV.assign rfl) rfl (by decide) ?_
  refine TL.nil ?_
  refine TQ.thenC ?_
  refine TC.seq ?_
  refine TC.seq ?_
  refine TC.region ?_
  refine TL.pure (PV.move rfl) rfl (by decide) ?_
  refine TL.pure (PV.neq rfl rfl) rfl (by decide) ?_
  refine TL.nil ?_
  refine TQ.thenC ?_
  first | refine TC.condD rfl (fun hbad => ?_) (fun hbad => ?_) | refine TC.cond rfl (fun hbad => ?_) (fun hbad => ?_)
  · skip
    refine TC.seq ?_
    refine TC.region ?_
    refine TL.pure (PV.move rfl) rfl (by decide) ?_
    refine TL.pure (PV.assign rfl) rfl (by decide) ?_
    refine TL.pure (PV.assign rfl) rfl (by decide) ?_
    refine TL.nil ?_
    refine TQ.thenC ?_
    refine TC.ret ?_
    refine TQ.thenR ?_
    refine TQ.retE2 rfl rfl rfl ?_
    first | exact ⟨none, by rw [urL_no (by rw [ur_1 hbad]; exact hbad), ur_1 hbad]; rfl, by rw [urL_no (by rw [ur_1 hbad]; exact hbad)]; exact goI_nil, by rw [urL_no (by rw [ur_1 hbad]; exact hbad)]; exact List.nil_sublist _⟩ | exact ⟨none, by rw [urL_no (by rw [ur_4 hbad (by omega)]; decide), ur_4 hbad (by omega)]; rfl, by rw [urL_no (by rw [ur_4 hbad (by omega)]; decide)]; exact goI_nil, by rw [urL_no (by rw [ur_4 hbad (by omega)]; decide)]; exact List.nil_sublist _⟩ | exact ⟨(y9.2.getD i.toNat (none, [])).1, by rw [h0, urL_ok h0, ← hre], by rw [urL_ok h0, ← hre]; exact hro, by rw [urL_ok h0, ← hre]; exact List.Sublist.trans (bl_sub hrm) (List.Sublist.trans (List.sublist_append_right _ _) (List.sublist_append_left _ _))⟩
  · skip
    refine TC.skip ?_
    refine TQ.thenC ?_
    refine TC.seq ?_
    have hb := vb_of hbad
    refine TC.region ?_
    refine TL.pure (PV.loadBox rfl Tb.agg_24 (by repeat (first | exact List.Mem.head _ | refine List.Mem.tail _ ?_ | refine List.mem_append_right _ ?_)) rfl) rfl (by decide) ?_
    refine TL.call rfl Tb.gofn_77 (fun a w hs => all_ok w _ _ _ (hr.new hs.new) hb) rfl (by decide) (fun y9 hy9 => ?_)
    refine TL.pure (PV.assign rfl) rfl (by decide) ?_
    refine TL.nil ?_
    refine TQ.thenC ?_
    refine TC.seq ?_
    refine TC.seq ?_
    have hyl := hy9.len
    refine TC.region ?_
    refine TL.pure (PV.move rfl) rfl (by decide) ?_
    refine TL.pure (PV.lss rfl rfl) rfl (by decide) ?_
    refine TL.pure (PV.move rfl) rfl (by decide) ?_
    first | refine TL.splitD 17 rfl (fun hn => ?_) (fun hn => ?_) | refine TL.split 17 rfl (fun hn => ?_) (fun hn => ?_)
    · skip
      refine TL.skip rfl (fun k hk => by cases hk; decide) ?_
      refine TL.skip rfl (fun k hk => by cases hk; decide) ?_
      refine TL.skip rfl (fun k hk => by cases hk; decide) ?_
      refine TL.skip rfl (fun k hk => by cases hk; decide) ?_
      refine TL.pure (PV.pickT rfl rfl) rfl (by decide) ?_
      refine TL.nil ?_
      refine TQ.thenC ?_
      refine TC.condT rfl ?_
      refine TC.seq ?_
      refine TC.region ?_
      refine TL.pure (PV.assign rfl) rfl (by decide) ?_
      refine TL.pure (PV.assign rfl) rfl (by decide) ?_
      refine TL.nil ?_
      refine TQ.thenC ?_
      refine TC.ret ?_
      refine TQ.thenR ?_
      refine TQ.retE2 rfl rfl rfl ?_
      first | exact ⟨none, by rw [urL_no (by rw [ur_1 hbad]; exact hbad), ur_1 hbad]; rfl, by rw [urL_no (by rw [ur_1 hbad]; exact hbad)]; exact goI_nil, by rw [urL_no (by rw [ur_1 hbad]; exact hbad)]; exact List.nil_sublist _⟩ | exact ⟨none, by rw [urL_no (by rw [ur_4 hbad (by omega)]; decide), ur_4 hbad (by omega)]; rfl, by rw [urL_no (by rw [ur_4 hbad (by omega)]; decide)]; exact goI_nil, by rw [urL_no (by rw [ur_4 hbad (by omega)]; decide)]; exact List.nil_sublist _⟩ | exact ⟨(y9.2.getD i.toNat (none, [])).1, by rw [h0, urL_ok h0, ← hre], by rw [urL_ok h0, ← hre]; exact hro, by rw [urL_ok h0, ← hre]; exact List.Sublist.trans (bl_sub hrm) (List.Sublist.trans (List.sublist_append_right _ _) (List.sublist_append_left _ _))⟩
    · skip
      refine TL.pure (PV.move rfl) rfl (by decide) ?_
      refine TL.pure (PV.move rfl) rfl (by decide) ?_
      refine TL.pure (PV.lenG rfl hy9.ok Tb.sl_22) rfl (by decide) ?_
      refine TL.pure (PV.geq rfl rfl) rfl (by decide) ?_
      refine TL.pure (PV.pickF rfl rfl) rfl (by decide) ?_
      refine TL.nil ?_
      refine TQ.thenC ?_
      first | refine TC.condD rfl (fun hr1 => ?_) (fun hr1 => ?_) | refine TC.cond rfl (fun hr1 => ?_) (fun hr1 => ?_)
      · skip
        refine TC.seq ?_
        refine TC.region ?_
        refine TL.pure (PV.assign rfl) rfl (by decide) ?_
        refine TL.pure (PV.assign rfl) rfl (by decide) ?_
        refine TL.nil ?_
        refine TQ.thenC ?_
        refine TC.ret ?_
        refine TQ.thenR ?_
        refine TQ.retE2 rfl rfl rfl ?_
        first | exact ⟨none, by rw [urL_no (by rw [ur_1 hbad]; exact hbad), ur_1 hbad]; rfl, by rw [urL_no (by rw [ur_1 hbad]; exact hbad)]; exact goI_nil, by rw [urL_no (by rw [ur_1 hbad]; exact hbad)]; exact List.nil_sublist _⟩ | exact ⟨none, by rw [urL_no (by rw [ur_4 hbad (by omega)]; decide), ur_4 hbad (by omega)]; rfl, by rw [urL_no (by rw [ur_4 hbad (by omega)]; decide)]; exact goI_nil, by rw [urL_no (by rw [ur_4 hbad (by omega)]; decide)]; exact List.nil_sublist _⟩ | exact ⟨(y9.2.getD i.toNat (none, [])).1, by rw [h0, urL_ok h0, ← hre], by rw [urL_ok h0, ← hre]; exact hro, by rw [urL_ok h0, ← hre]; exact List.Sublist.trans (bl_sub hrm) (List.Sublist.trans (List.sublist_append_right _ _) (List.sublist_append_left _ _))⟩
      · skip
        refine TC.skip ?_
        refine TQ.thenC ?_
        refine TC.seq ?_
        have h0 : urI ls i = 0 := ur_0 hbad (by omega)
        have hil : i.toNat < (allH ls).length := by omega
        obtain ⟨hro, hre, hrm⟩ := hy9.row hil
        refine TC.region ?_
        refine TL.pure (PV.move rfl) rfl (by decide) ?_
        refine TL.pure (PV.move rfl) rfl (by decide) ?_
        refine TL.pure (PV.indexG (j := i.toNat) rfl rfl hy9.ok Tb.elm_22 (by omega) (by omega)) rfl (by decide) ?_
        refine TL.pure (PV.loadGP (y := y9) (j := i.toNat) (v := gvI (y9.2.getD i.toNat (none, []))) rfl Tb.one_25 (fun yy hyy => by simp only [List.mem_append, List.mem_cons]; simp [hyy]) hy9.ok (by omega) rfl) rfl (by decide) ?_
        refine TL.pure (PV.assign rfl) rfl (by decide) ?_
        refine TL.pure (PV.assign rfl) rfl (by decide) ?_
        refine TL.nil ?_
        refine TQ.thenC ?_
        refine TC.ret ?_
        refine TQ.retE2 rfl rfl rfl ?_
        first | exact ⟨none, by rw [urL_no (by rw [ur_1 hbad]; exact hbad), ur_1 hbad]; rfl, by rw [urL_no (by rw [ur_1 hbad]; exact hbad)]; exact goI_nil, by rw [urL_no (by rw [ur_1 hbad]; exact hbad)]; exact List.nil_sublist _⟩ | exact ⟨none, by rw [urL_no (by rw [ur_4 hbad (by omega)]; decide), ur_4 hbad (by omega)]; rfl, by rw [urL_no (by rw [ur_4 hbad (by omega)]; decide)]; exact goI_nil, by rw [urL_no (by rw [ur_4 hbad (by omega)]; decide)]; exact List.nil_sublist _⟩ | exact ⟨(y9.2.getD i.toNat (none, [])).1, by rw [h0, urL_ok h0, ← hre], by rw [urL_ok h0, ← hre]; exact hro, by rw [urL_ok h0, ← hre]; exact List.Sublist.trans (bl_sub hrm) (List.Sublist.trans (List.sublist_append_right _ _) (List.sublist_append_left _ _))⟩

set_option maxRecDepth 100000 in
set_option maxHeartbeats 1000000 in
theorem index_ok (w0 : World) (p : Option Addr) (c : Nat) (l : List Hv) (hr : RecsAt hR w0 p l) (hl : l.length ≤ 1000000) (x : Hv) :
    Calls Try.prog 82 #[.slice p l.length c, .agg (intsA x.toList)] w0 (Post (X := Int) (fun i => .int .i64 i) (fun i => (∃ k : Nat, i = k ∧ k < l.length ∧ l.getD k default = x) ∨ (i = -1 ∧ x ∉ l)) (fun _ => []) w0) := by
  refine calls Try.func82 rfl (n := 19) rfl (by simp) ?_
  refine TC.seq ?_
  refine TC.region ?_
  refine TL.box rfl rfl (by decide) (fun b0 hb0 => ?_)
  refine TL.pure (PV.assign rfl) rfl (by decide) ?_
  refine TL.nil ?_
  refine TQ.thenC ?_
  refine TC.seq ?_
  refine TC.seq ?_
  refine TC.region ?_
  refine TL.pure (PV.move rfl) rfl (by decide) ?_
  refine TL.pure (PV.len rfl Tb.sl_82) rfl (by decide) ?_
  refine TL.pure (PV.move rfl) rfl (by decide) ?_
  refine TL.nil ?_
  refine TQ.thenC ?_
  refine TC.block ?_
  -- live and written in the loop, not told: [4]
  refine TC.loopG [0, 3, 7] (X := Nat) (fun k => k ≤ l.length ∧ ∀ j, j < k → l.getD j default ≠ x) (fun k => [(8, .int .i64 k)]) (fun k => l.length - k) 0 ⟨Nat.zero_le _, fun j hj => absurd hj (Nat.not_lt_zero _)⟩ (by repeat (first | exact True.intro | refine And.intro rfl ?_)) ?_
  intro k hk
  refine TC.seq ?_
  refine TC.region ?_
  refine TL.pure (PV.lss rfl rfl) rfl (by decide) ?_
  refine TL.nil ?_
  refine TQ.thenC ?_
  refine TC.seq ?_
  first | refine TC.condD rfl (fun hlt => ?_) (fun hlt => ?_) | refine TC.cond rfl (fun hlt => ?_) (fun hlt => ?_)
  · skip
    refine TC.skip ?_
    refine TQ.thenC ?_
    refine TC.seq ?_
    refine TC.block ?_
    refine TC.seq ?_
    refine TC.region ?_
    refine TL.pure (PV.move rfl) rfl (by decide) ?_
    refine TL.pure (PV.assign rfl) rfl (by decide) ?_
    refine TL.nil ?_
    refine TQ.thenC ?_
    refine TC.seq ?_
    obtain ⟨q2, hq2p, hq2⟩ := hr k (by omega)
    refine TC.any Tb.mixed rfl rfl ?_
    refine TA.op (OpOK.pure (PV.loadBox (cs := x.toList.map (Value.int .i64)) rfl Tb.agg_69 (by repeat (first | exact List.Mem.head _ | refine List.Mem.tail _ ?_ | refine List.mem_append_right _ ?_)) (map_len (by simp))) rfl (by decide)) (by decide) ?_
    refine TA.op (OpOK.pure (PV.move rfl) rfl (by decide)) (by decide) ?_
    refine TA.op (OpOK.pure (PV.move rfl) rfl (by decide)) (by decide) ?_
    refine TA.op (OpOK.pure (PV.indexA (j := k) rfl hq2p rfl Tb.elm_82 rfl (by omega)) rfl (by decide)) (by decide) ?_
    refine TA.op (OpOK.pure (PV.loadAggA (vs := (l.getD k default).toList.map (Value.int .i64)) rfl Tb.agg_69 (map_len (by simp)) hq2) rfl (by decide)) (by decide) ?_
    refine TA.op (OpOK.pure (PV.cmp rfl rfl (eql69_guard _ _ _ _) (eql69 (by simp) (by simp))) rfl (by decide)) (by decide) ?_
    show TQ _ _ _ _ _
    refine TQ.thenC ?_
    first | refine TC.condD rfl (fun heq => ?_) (fun heq => ?_) | refine TC.cond rfl (fun heq => ?_) (fun heq => ?_)
    · skip
      refine TC.seq ?_
      refine TC.region ?_
      refine TL.pure (PV.move rfl) rfl (by decide) ?_
      refine TL.pure (PV.assign rfl) rfl (by decide) ?_
      refine TL.nil ?_
      refine TQ.thenC ?_
      refine TC.ret ?_
      refine TQ.blkR ?_
      refine TQ.thenR ?_
      refine TQ.thenR ?_
      refine TQ.blkR ?_
      refine TQ.thenR ?_
      refine TQ.retE1 rfl rfl ?_
      exact ⟨(k : Int), rfl, .inl ⟨k, rfl, by omega, (Vector.toList_inj.1 heq).symm⟩, List.nil_sublist _⟩
    · skip
      refine TC.skip ?_
      refine TQ.blkN ?_
      refine TQ.thenC ?_
      refine TC.region ?_
      refine TL.pure (PV.add rfl rfl (by omega)) rfl (by decide) ?_
      refine TL.pure (PV.move rfl) rfl (by decide) ?_
      refine TL.nil ?_
      refine TQ.thenN ?_
      refine TQ.backK (k + 1) (by repeat (first | exact True.intro | refine And.intro rfl ?_)) (by repeat (first | exact True.intro | refine And.intro rfl ?_)) (by repeat (first | exact List.Sublist.slnil | exact List.nil_sublist _ | exact List.Sublist.refl _ | refine List.Sublist.cons_cons _ ?_ | refine List.Sublist.cons _ ?_ | refine List.Sublist.trans ?_ (List.sublist_append_right _ _))) ⟨by omega, fun j hj => if e : j < k then hk.2 j e else (show k = j by omega) ▸ (fun h => heq (by rw [h]))⟩ (by omega)
  · skip
    refine TC.exit ?_
    refine TQ.thenE ?_
    refine TQ.thenE ?_
    refine TQ.blkS ?_
    refine TQ.thenC ?_
    refine TC.seq ?_
    refine TC.region ?_
    refine TL.pure (PV.assign rfl) rfl (by decide) ?_
    refine TL.nil ?_
    refine TQ.thenC ?_
    refine TC.ret ?_
    refine TQ.retE1 rfl rfl ?_
    exact ⟨-1, rfl, .inr ⟨rfl, fun h => by obtain ⟨j, hj, e⟩ := List.getElem_of_mem h; exact hk.2 j (by omega) (by simp [List.getD, hj, e])⟩, List.nil_sublist _⟩

end Go.Proofs.Ytfgjojoipbbacaa
