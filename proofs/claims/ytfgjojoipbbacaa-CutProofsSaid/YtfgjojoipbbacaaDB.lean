/- Both and Either: contracts; hollows that are joined: the law's contract. -/
import Derived.Test.YtfgjojoipbbacaaDA
set_option linter.unusedVariables false
set_option linter.unusedSimpArgs false
namespace Go.Proofs.Ytfgjojoipbbacaa
open Go.Sx Go.RowKit

theorem two_hol {ls : List (List Int)} {xs ys : List Int} (h : ¬ twoI ls xs ys ≠ 0) : HO ls xs ∧ HO ls ys := ⟨ho_of (two_of h).1, ho_of (two_of h).2⟩
theorem jn_len {J : Int → Int → Int} {ls : List (List Int)} {xs ys : List Int} : (jnL J ls xs ys).length ≤ 1000000 := by
  by_cases h : twoI ls xs ys ≠ 0
  · rw [jn_bad h]; exact Nat.zero_le _
  · obtain ⟨h1, h2⟩ := two_hol h
    rw [jn_ok (Decidable.of_not_not h), zip_len h1.len h2.len]
    have := h1.vb.n
    omega
theorem fld_two {J : Int → Int → Int} (hJ : ∀ a, J a a = a) {xs ys : List Int} {n : Nat} (hx : xs.length = n) (hy : ys.length = n) : fldJ J ([xs, ys].getD 0 []) [xs, ys] [xs, ys].length = List.zipWith J xs ys := by
  show List.zipWith J (List.zipWith J xs xs) ys = _
  congr 1
  refine ints_ext (by rw [zip_len hx hx, hx]) fun j hj => ?_
  rw [zip_len hx hx] at hj
  rw [zip_at (by omega) (by omega), hJ]
/-- The worth of what is joined. -/
theorem joins {ls : List (List Int)} {xs ys : List Int} (h : ¬ twoI ls xs ys ≠ 0) : holI ls (jnL min ls xs ys) = 0 ∧ holI ls (jnL max ls xs ys) = 0 ∧ holI ls xs = 0 ∧ holI ls ys = 0 ∧ worH ls (jnL min ls xs ys) + worH ls (jnL max ls xs ys) = worH ls xs + worH ls ys := by
  obtain ⟨h1, h2⟩ := two_hol h
  have hv := hol_val (two_of h).1
  rw [jn_ok (Decidable.of_not_not h), jn_ok (Decidable.of_not_not h)]
  exact ⟨ho_to hv (h1.both h2), ho_to hv (h1.either h2), Decidable.of_not_not (two_of h).1, Decidable.of_not_not (two_of h).2, wor_mod h1.len h2.len⟩
theorem wor_bd2 {ls : List (List Int)} {xs : List Int} (h : holI ls xs = 0) : -1200 ≤ worH ls xs ∧ worH ls xs ≤ 1200 := by
  have h1 := ho_of (show ¬ holI ls xs ≠ 0 by rw [h]; decide)
  have h2 := wor_bd h1.toNB xs.length
  have h3 := h1.len
  have h4 := h1.vb.n
  unfold worH
  omega


set_option maxRecDepth 100000 in
set_option maxHeartbeats 1000000 in
theorem joinTwoB_ok (w0 : World) (p : Option Addr) (cap : Nat) (ls : List (List Int)) (hr : LsAt w0 p ls) (pl : Option Addr) (cl : Nat) (xs : List Int) (hx : IntsAt w0 pl xs) (p2 : Option Addr) (c2 : Nat) (ys : List Int) (hy : IntsAt w0 p2 ys) :
    Calls Try.prog 74 #[bv p ls.length cap, .slice pl xs.length cl, .slice p2 ys.length c2, .func (.func 69) #[] #[]] w0 (Post (X := HD) (fun h => .tuple #[gval h (jnL min ls xs ys).length, .int .i64 (twoI ls xs ys)]) (fun h => goI (h, jnL min ls xs ys)) (fun h => gbI (h, jnL min ls xs ys)) w0) := by
  refine calls Try.func74 rfl (n := 32) rfl (by simp) ?_
  refine TC.seq ?_
  refine TC.region ?_
  refine TL.box rfl rfl (by decide) (fun b0 hb0 => ?_)
  refine TL.pure (PV.assign rfl) rfl (by decide) ?_
  refine TL.pure (PV.assign rfl) rfl (by decide) ?_
  refine TL.nil ?_
  refine TQ.thenC ?_
  refine TC.seq ?_
  refine TC.seq ?_
  refine TC.region ?_
  refine TL.pure (PV.loadBox rfl Tb.agg_24 (by repeat (first | exact List.Mem.head _ | refine List.Mem.tail _ ?_ | refine List.mem_append_right _ ?_)) rfl) rfl (by decide) ?_
  refine TL.pure (PV.move rfl) rfl (by decide) ?_
  refine TL.call rfl Tb.gofn_23 (fun a w hs => checkHollow_ok w _ _ _ (hr.new hs.new) _ _ _ (hx.new hs.new)) rfl (by decide) (fun _ _ => ?_)
  refine TL.pure (PV.assign rfl) rfl (by decide) ?_
  refine TL.nil ?_
  refine TQ.thenC ?_
  refine TC.seq ?_
  refine TC.region ?_
  refine TL.pure (PV.move rfl) rfl (by decide) ?_
  refine TL.pure (PV.neq rfl rfl) rfl (by decide) ?_
  refine TL.nil ?_
  refine TQ.thenC ?_
  first | refine TC.condD rfl (fun hbad => ?_) (fun hbad => ?_) | refine TC.cond rfl (fun hbad => ?_) (fun hbad => ?_)
  · skip
    refine TC.seq ?_
    refine TC.region ?_
    refine TL.pure (PV.move rfl) rfl (by decide) ?_
    refine TL.pure (PV.assign rfl) rfl (by decide) ?_
    refine TL.pure (PV.assign rfl) rfl (by decide) ?_
    refine TL.nil ?_
    refine TQ.thenC ?_
    refine TC.ret ?_
    refine TQ.thenR ?_
    refine TQ.retE2 rfl rfl rfl ?_
    exact ⟨none, by rw [jn_bad (by rw [two_x hbad]; exact hbad), two_x hbad]; rfl, by rw [jn_bad (by rw [two_x hbad]; exact hbad)]; exact goI_nil, by rw [jn_bad (by rw [two_x hbad]; exact hbad)]; exact List.nil_sublist _⟩
  · skip
    refine TC.skip ?_
    refine TQ.thenC ?_
    refine TC.seq ?_
    refine TC.seq ?_
    refine TC.region ?_
    refine TL.pure (PV.loadBox rfl Tb.agg_24 (by repeat (first | exact List.Mem.head _ | refine List.Mem.tail _ ?_ | refine List.mem_append_right _ ?_)) rfl) rfl (by decide) ?_
    refine TL.pure (PV.move rfl) rfl (by decide) ?_
    refine TL.call rfl Tb.gofn_23 (fun a w hs => checkHollow_ok w _ _ _ (hr.new hs.new) _ _ _ (hy.new hs.new)) rfl (by decide) (fun _ _ => ?_)
    refine TL.pure (PV.assign rfl) rfl (by decide) ?_
    refine TL.nil ?_
    refine TQ.thenC ?_
    refine TC.seq ?_
    refine TC.region ?_
    refine TL.pure (PV.move rfl) rfl (by decide) ?_
    refine TL.pure (PV.neq rfl rfl) rfl (by decide) ?_
    refine TL.nil ?_
    refine TQ.thenC ?_
    first | refine TC.condD rfl (fun hbad2 => ?_) (fun hbad2 => ?_) | refine TC.cond rfl (fun hbad2 => ?_) (fun hbad2 => ?_)
    · skip
      refine TC.seq ?_
      refine TC.region ?_
      refine TL.pure (PV.move rfl) rfl (by decide) ?_
      refine TL.pure (PV.assign rfl) rfl (by decide) ?_
      refine TL.pure (PV.assign rfl) rfl (by decide) ?_
      refine TL.nil ?_
      refine TQ.thenC ?_
      refine TC.ret ?_
      refine TQ.thenR ?_
      refine TQ.retE2 rfl rfl rfl ?_
      exact ⟨none, by rw [jn_bad (by rw [two_y hbad]; exact hbad2), two_y hbad]; rfl, by rw [jn_bad (by rw [two_y hbad]; exact hbad2)]; exact goI_nil, by rw [jn_bad (by rw [two_y hbad]; exact hbad2)]; exact List.nil_sublist _⟩
    · skip
      refine TC.skip ?_
      refine TQ.thenC ?_
      refine TC.seq ?_
      have hx9 := ho_of hbad
      have hy9 := ho_of hbad2
      have hn9 := hx9.vb.n
      have hxl := hx9.len
      have hyl := hy9.len
      have h0 : twoI ls xs ys = 0 := by rw [two_y hbad]; exact Decidable.of_not_not hbad2
      have h7 : (List.zipWith min (pad6 xs) (pad6 ys)).take ls.length = jnL min ls xs ys := by rw [jn_ok h0]; exact zip_pad hxl hyl
      refine TC.mix [true, true, false, true, false, false, true, false, false, false] _ 6 Tb.mixed rfl (by kernel_rfl) (by kernel_rfl) (by kernel_rfl) (by kernel_rfl) (List.Sublist.refl _) ?_
      refine TB.op (SOK.pure (PV.move rfl) rfl) (by decide) ?_
      refine TB.op (SOK.pure (PV.move rfl) rfl) (by decide) ?_
      refine TB.no ?_
      refine TB.op (SOK.pure (PV.move rfl) rfl) (by decide) ?_
      refine TB.no ?_
      refine TB.no ?_
      refine TB.op (SOK.pure (PV.loadBox rfl Tb.agg_24 (by repeat (first | exact List.Mem.head _ | refine List.Mem.tail _ ?_ | refine List.mem_append_right _ ?_)) rfl) rfl) (by decide) ?_
      refine TB.no ?_
      refine TB.no ?_
      refine TB.no ?_
      refine TB.fin ?_
      refine TX.step [2] (by kernel_rfl) (by decide) ⟨⟨_, rfl, ?_⟩, trivial⟩
      refine TL.call rfl Tb.gofn_84 (fun a w hs => hollowOf_ok w _ _ _ (hx.new hs.new) (by omega)) rfl (by decide) (fun _ _ => ?_)
      refine TL.nil ?_
      refine TX.next (.inl (by repeat (first | exact List.Sublist.slnil | exact List.nil_sublist _ | exact List.Sublist.refl _ | refine List.Sublist.cons_cons _ ?_ | refine List.Sublist.cons _ ?_ | refine List.Sublist.trans ?_ (List.sublist_append_right _ _)))) ?_
      refine TX.step [4] (by kernel_rfl) (by decide) ⟨⟨_, rfl, ?_⟩, trivial⟩
      refine TL.call rfl Tb.gofn_84 (fun a w hs => hollowOf_ok w _ _ _ (hy.new hs.new) (by omega)) rfl (by decide) (fun _ _ => ?_)
      refine TL.nil ?_
      refine TX.next (.inl (by repeat (first | exact List.Sublist.slnil | exact List.nil_sublist _ | exact List.Sublist.refl _ | refine List.Sublist.cons_cons _ ?_ | refine List.Sublist.cons _ ?_ | refine List.Sublist.trans ?_ (List.sublist_append_right _ _)))) ?_
      refine TX.step [5] (by kernel_rfl) (by decide) ⟨⟨_, rfl, ?_⟩, trivial⟩
      refine TL.callF (f := 69) (caps := []) (X := Unit) (fun _ => .agg (intsA (List.zipWith min (pad6 xs) (pad6 ys)))) (fun _ => True) (fun _ => [(b0, Obj.cells #[.slice p ls.length cap] 24 (0, 0))]) rfl rfl Tb.gofn_69 (fun a w hs => (both_ok w (pad6 xs) (pad6 ys) (pad_len (by omega)) (pad_len (by omega))).mono fun e w' ⟨x9, h1, h2, h3⟩ => ⟨x9, h1, h2, hs.new.trans h3⟩) rfl (by decide) (fun _ _ => ?_)
      refine TL.nil ?_
      refine TX.next (.inl (by repeat (first | exact List.Sublist.slnil | exact List.nil_sublist _ | exact List.Sublist.refl _ | refine List.Sublist.cons_cons _ ?_ | refine List.Sublist.cons _ ?_ | refine List.Sublist.trans ?_ (List.sublist_append_right _ _)))) ?_
      refine TX.step [7] (by kernel_rfl) (by decide) ⟨⟨_, rfl, ?_⟩, trivial⟩
      refine TL.call rfl Tb.gofn_85 (fun a w hs => in_ok w (List.zipWith min (pad6 xs) (pad6 ys)) (zip_len (pad_len (by omega)) (pad_len (by omega))) _ _ _ (hr.new hs.new) hn9) rfl (by decide) (fun h9 hh9 => ?_)
      refine TL.nil ?_
      refine TX.next (.inl (by repeat (first | exact List.Sublist.slnil | exact List.nil_sublist _ | exact List.Sublist.refl _ | refine List.Sublist.cons_cons _ ?_ | refine List.Sublist.cons _ ?_ | refine List.Sublist.trans ?_ (List.sublist_append_right _ _)))) ?_
      refine TX.step [8] (by kernel_rfl) (by decide) ⟨⟨_, rfl, ?_⟩, trivial⟩
      refine TL.pure (PV.assign rfl) rfl (by decide) ?_
      refine TL.nil ?_
      refine TX.next (.inr (by kernel_rfl)) ?_
      refine TX.step [9] (by kernel_rfl) (by decide) ⟨⟨_, rfl, ?_⟩, trivial⟩
      refine TL.pure (PV.assign rfl) rfl (by decide) ?_
      refine TL.nil ?_
      refine TX.next (.inr (by kernel_rfl)) ?_
      refine TX.done (by kernel_rfl) ?_
      refine TQ.thenC ?_
      refine TC.ret ?_
      refine TQ.retE2 rfl rfl rfl ?_
      exact ⟨h9, by rw [h0, ← h7], by rw [← h7]; exact hh9, by rw [← h7]; exact List.sublist_append_left _ _⟩

set_option maxRecDepth 100000 in
set_option maxHeartbeats 1000000 in
theorem joinTwoE_ok (w0 : World) (p : Option Addr) (cap : Nat) (ls : List (List Int)) (hr : LsAt w0 p ls) (pl : Option Addr) (cl : Nat) (xs : List Int) (hx : IntsAt w0 pl xs) (p2 : Option Addr) (c2 : Nat) (ys : List Int) (hy : IntsAt w0 p2 ys) :
    Calls Try.prog 74 #[bv p ls.length cap, .slice pl xs.length cl, .slice p2 ys.length c2, .func (.func 72) #[] #[]] w0 (Post (X := HD) (fun h => .tuple #[gval h (jnL max ls xs ys).length, .int .i64 (twoI ls xs ys)]) (fun h => goI (h, jnL max ls xs ys)) (fun h => gbI (h, jnL max ls xs ys)) w0) := by
  refine calls Try.func74 rfl (n := 32) rfl (by simp) ?_
  refine TC.seq ?_
  refine TC.region ?_
  refine TL.box rfl rfl (by decide) (fun b0 hb0 => ?_)
  refine TL.pure (PV.assign rfl) rfl (by decide) ?_
  refine TL.pure (PV.assign rfl) rfl (by decide) ?_
  refine TL.nil ?_
  refine TQ.thenC ?_
  refine TC.seq ?_
  refine TC.seq ?_
  refine TC.region ?_
  refine TL.pure (PV.loadBox rfl Tb.agg_24 (by repeat (first | exact List.Mem.head _ | refine List.Mem.tail _ ?_ | refine List.mem_append_right _ ?_)) rfl) rfl (by decide) ?_
  refine TL.pure (PV.move rfl) rfl (by decide) ?_
  refine TL.call rfl Tb.gofn_23 (fun a w hs => checkHollow_ok w _ _ _ (hr.new hs.new) _ _ _ (hx.new hs.new)) rfl (by decide) (fun _ _ => ?_)
  refine TL.pure (PV.assign rfl) rfl (by decide) ?_
  refine TL.nil ?_
  refine TQ.thenC ?_
  refine TC.seq ?_
  refine TC.region ?_
  refine TL.pure (PV.move rfl) rfl (by decide) ?_
  refine TL.pure (PV.neq rfl rfl) rfl (by decide) ?_
  refine TL.nil ?_
  refine TQ.thenC ?_
  first | refine TC.condD rfl (fun hbad => ?_) (fun hbad => ?_) | refine TC.cond rfl (fun hbad => ?_) (fun hbad => ?_)
  · skip
    refine TC.seq ?_
    refine TC.region ?_
    refine TL.pure (PV.move rfl) rfl (by decide) ?_
    refine TL.pure (PV.assign rfl) rfl (by decide) ?_
    refine TL.pure (PV.assign rfl) rfl (by decide) ?_
    refine TL.nil ?_
    refine TQ.thenC ?_
    refine TC.ret ?_
    refine TQ.thenR ?_
    refine TQ.retE2 rfl rfl rfl ?_
    exact ⟨none, by rw [jn_bad (by rw [two_x hbad]; exact hbad), two_x hbad]; rfl, by rw [jn_bad (by rw [two_x hbad]; exact hbad)]; exact goI_nil, by rw [jn_bad (by rw [two_x hbad]; exact hbad)]; exact List.nil_sublist _⟩
  · skip
    refine TC.skip ?_
    refine TQ.thenC ?_
    refine TC.seq ?_
    refine TC.seq ?_
    refine TC.region ?_
    refine TL.pure (PV.loadBox rfl Tb.agg_24 (by repeat (first | exact List.Mem.head _ | refine List.Mem.tail _ ?_ | refine List.mem_append_right _ ?_)) rfl) rfl (by decide) ?_
    refine TL.pure (PV.move rfl) rfl (by decide) ?_
    refine TL.call rfl Tb.gofn_23 (fun a w hs => checkHollow_ok w _ _ _ (hr.new hs.new) _ _ _ (hy.new hs.new)) rfl (by decide) (fun _ _ => ?_)
    refine TL.pure (PV.assign rfl) rfl (by decide) ?_
    refine TL.nil ?_
    refine TQ.thenC ?_
    refine TC.seq ?_
    refine TC.region ?_
    refine TL.pure (PV.move rfl) rfl (by decide) ?_
    refine TL.pure (PV.neq rfl rfl) rfl (by decide) ?_
    refine TL.nil ?_
    refine TQ.thenC ?_
    first | refine TC.condD rfl (fun hbad2 => ?_) (fun hbad2 => ?_) | refine TC.cond rfl (fun hbad2 => ?_) (fun hbad2 => ?_)
    · skip
      refine TC.seq ?_
      refine TC.region ?_
      refine TL.pure (PV.move rfl) rfl (by decide) ?_
      refine TL.pure (PV.assign rfl) rfl (by decide) ?_
      refine TL.pure (PV.assign rfl) rfl (by decide) ?_
      refine TL.nil ?_
      refine TQ.thenC ?_
      refine TC.ret ?_
      refine TQ.thenR ?_
      refine TQ.retE2 rfl rfl rfl ?_
      exact ⟨none, by rw [jn_bad (by rw [two_y hbad]; exact hbad2), two_y hbad]; rfl, by rw [jn_bad (by rw [two_y hbad]; exact hbad2)]; exact goI_nil, by rw [jn_bad (by rw [two_y hbad]; exact hbad2)]; exact List.nil_sublist _⟩
    · skip
      refine TC.skip ?_
      refine TQ.thenC ?_
      refine TC.seq ?_
      have hx9 := ho_of hbad
      have hy9 := ho_of hbad2
      have hn9 := hx9.vb.n
      have hxl := hx9.len
      have hyl := hy9.len
      have h0 : twoI ls xs ys = 0 := by rw [two_y hbad]; exact Decidable.of_not_not hbad2
      have h7 : (List.zipWith max (pad6 xs) (pad6 ys)).take ls.length = jnL max ls xs ys := by rw [jn_ok h0]; exact zip_pad hxl hyl
      refine TC.mix [true, true, false, true, false, false, true, false, false, false] _ 6 Tb.mixed rfl (by kernel_rfl) (by kernel_rfl) (by kernel_rfl) (by kernel_rfl) (List.Sublist.refl _) ?_
      refine TB.op (SOK.pure (PV.move rfl) rfl) (by decide) ?_
      refine TB.op (SOK.pure (PV.move rfl) rfl) (by decide) ?_
      refine TB.no ?_
      refine TB.op (SOK.pure (PV.move rfl) rfl) (by decide) ?_
      refine TB.no ?_
      refine TB.no ?_
      refine TB.op (SOK.pure (PV.loadBox rfl Tb.agg_24 (by repeat (first | exact List.Mem.head _ | refine List.Mem.tail _ ?_ | refine List.mem_append_right _ ?_)) rfl) rfl) (by decide) ?_
      refine TB.no ?_
      refine TB.no ?_
      refine TB.no ?_
      refine TB.fin ?_
      refine TX.step [2] (by kernel_rfl) (by decide) ⟨⟨_, rfl, ?_⟩, trivial⟩
      refine TL.call rfl Tb.gofn_84 (fun a w hs => hollowOf_ok w _ _ _ (hx.new hs.new) (by omega)) rfl (by decide) (fun _ _ => ?_)
      refine TL.nil ?_
      refine TX.next (.inl (by repeat (first | exact List.Sublist.slnil | exact List.nil_sublist _ | exact List.Sublist.refl _ | refine List.Sublist.cons_cons _ ?_ | refine List.Sublist.cons _ ?_ | refine List.Sublist.trans ?_ (List.sublist_append_right _ _)))) ?_
      refine TX.step [4] (by kernel_rfl) (by decide) ⟨⟨_, rfl, ?_⟩, trivial⟩
      refine TL.call rfl Tb.gofn_84 (fun a w hs => hollowOf_ok w _ _ _ (hy.new hs.new) (by omega)) rfl (by decide) (fun _ _ => ?_)
      refine TL.nil ?_
      refine TX.next (.inl (by repeat (first | exact List.Sublist.slnil | exact List.nil_sublist _ | exact List.Sublist.refl _ | refine List.Sublist.cons_cons _ ?_ | refine List.Sublist.cons _ ?_ | refine List.Sublist.trans ?_ (List.sublist_append_right _ _)))) ?_
      refine TX.step [5] (by kernel_rfl) (by decide) ⟨⟨_, rfl, ?_⟩, trivial⟩
      refine TL.callF (f := 72) (caps := []) (X := Unit) (fun _ => .agg (intsA (List.zipWith max (pad6 xs) (pad6 ys)))) (fun _ => True) (fun _ => [(b0, Obj.cells #[.slice p ls.length cap] 24 (0, 0))]) rfl rfl Tb.gofn_72 (fun a w hs => (either_ok w (pad6 xs) (pad6 ys) (pad_len (by omega)) (pad_len (by omega))).mono fun e w' ⟨x9, h1, h2, h3⟩ => ⟨x9, h1, h2, hs.new.trans h3⟩) rfl (by decide) (fun _ _ => ?_)
      refine TL.nil ?_
      refine TX.next (.inl (by repeat (first | exact List.Sublist.slnil | exact List.nil_sublist _ | exact List.Sublist.refl _ | refine List.Sublist.cons_cons _ ?_ | refine List.Sublist.cons _ ?_ | refine List.Sublist.trans ?_ (List.sublist_append_right _ _)))) ?_
      refine TX.step [7] (by kernel_rfl) (by decide) ⟨⟨_, rfl, ?_⟩, trivial⟩
      refine TL.call rfl Tb.gofn_85 (fun a w hs => in_ok w (List.zipWith max (pad6 xs) (pad6 ys)) (zip_len (pad_len (by omega)) (pad_len (by omega))) _ _ _ (hr.new hs.new) hn9) rfl (by decide) (fun h9 hh9 => ?_)
      refine TL.nil ?_
      refine TX.next (.inl (by repeat (first | exact List.Sublist.slnil | exact List.nil_sublist _ | exact List.Sublist.refl _ | refine List.Sublist.cons_cons _ ?_ | refine List.Sublist.cons _ ?_ | refine List.Sublist.trans ?_ (List.sublist_append_right _ _)))) ?_
      refine TX.step [8] (by kernel_rfl) (by decide) ⟨⟨_, rfl, ?_⟩, trivial⟩
      refine TL.pure (PV.assign rfl) rfl (by decide) ?_
      refine TL.nil ?_
      refine TX.next (.inr (by kernel_rfl)) ?_
      refine TX.step [9] (by kernel_rfl) (by decide) ⟨⟨_, rfl, ?_⟩, trivial⟩
      refine TL.pure (PV.assign rfl) rfl (by decide) ?_
      refine TL.nil ?_
      refine TX.next (.inr (by kernel_rfl)) ?_
      refine TX.done (by kernel_rfl) ?_
      refine TQ.thenC ?_
      refine TC.ret ?_
      refine TQ.retE2 rfl rfl rfl ?_
      exact ⟨h9, by rw [h0, ← h7], by rw [← h7]; exact hh9, by rw [← h7]; exact List.sublist_append_left _ _⟩

set_option maxRecDepth 100000 in
theorem Both_ok (w0 : World) (p : Option Addr) (cap : Nat) (ls : List (List Int)) (hr : LsAt w0 p ls) (pl : Option Addr) (cl : Nat) (xs : List Int) (hx : IntsAt w0 pl xs) (p2 : Option Addr) (c2 : Nat) (ys : List Int) (hy : IntsAt w0 p2 ys) :
    Calls Try.prog 31 #[bv p ls.length cap, .slice pl xs.length cl, .slice p2 ys.length c2] w0 (Post (X := HD) (fun h => .tuple #[gval h (jnL min ls xs ys).length, .int .i64 (twoI ls xs ys)]) (fun h => goI (h, jnL min ls xs ys)) (fun h => gbI (h, jnL min ls xs ys)) w0) := by
  refine calls Try.func31 rfl (n := 14) rfl (by simp) ?_
  refine TC.seq ?_
  refine TC.region ?_
  refine TL.box rfl rfl (by decide) (fun b0 hb0 => ?_)
  refine TL.pure (PV.assign rfl) rfl (by decide) ?_
  refine TL.pure (PV.assign rfl) rfl (by decide) ?_
  refine TL.nil ?_
  refine TQ.thenC ?_
  refine TC.seq ?_
  refine TC.region ?_
  refine TL.pure (PV.loadBox rfl Tb.agg_24 (by repeat (first | exact List.Mem.head _ | refine List.Mem.tail _ ?_ | refine List.mem_append_right _ ?_)) rfl) rfl (by decide) ?_
  refine TL.pure (PV.move rfl) rfl (by decide) ?_
  refine TL.pure (PV.move rfl) rfl (by decide) ?_
  refine TL.call rfl Tb.gofn_74 (fun a w hs => joinTwoB_ok w _ _ _ (hr.new hs.new) _ _ _ (hx.new hs.new) _ _ _ (hy.new hs.new)) rfl (by decide) (fun h9 hh9 => ?_)
  refine TL.pure (PV.extract rfl rfl) rfl (by decide) ?_
  refine TL.pure (PV.extract rfl rfl) rfl (by decide) ?_
  refine TL.pure (PV.assign rfl) rfl (by decide) ?_
  refine TL.pure (PV.assign rfl) rfl (by decide) ?_
  refine TL.nil ?_
  refine TQ.thenC ?_
  refine TC.ret ?_
  refine TQ.retE2 rfl rfl rfl ?_
  exact ⟨h9, rfl, hh9, List.sublist_append_left _ _⟩

set_option maxRecDepth 100000 in
theorem Either_ok (w0 : World) (p : Option Addr) (cap : Nat) (ls : List (List Int)) (hr : LsAt w0 p ls) (pl : Option Addr) (cl : Nat) (xs : List Int) (hx : IntsAt w0 pl xs) (p2 : Option Addr) (c2 : Nat) (ys : List Int) (hy : IntsAt w0 p2 ys) :
    Calls Try.prog 33 #[bv p ls.length cap, .slice pl xs.length cl, .slice p2 ys.length c2] w0 (Post (X := HD) (fun h => .tuple #[gval h (jnL max ls xs ys).length, .int .i64 (twoI ls xs ys)]) (fun h => goI (h, jnL max ls xs ys)) (fun h => gbI (h, jnL max ls xs ys)) w0) := by
  refine calls Try.func33 rfl (n := 14) rfl (by simp) ?_
  refine TC.seq ?_
  refine TC.region ?_
  refine TL.box rfl rfl (by decide) (fun b0 hb0 => ?_)
  refine TL.pure (PV.assign rfl) rfl (by decide) ?_
  refine TL.pure (PV.assign rfl) rfl (by decide) ?_
  refine TL.nil ?_
  refine TQ.thenC ?_
  refine TC.seq ?_
  refine TC.region ?_
  refine TL.pure (PV.loadBox rfl Tb.agg_24 (by repeat (first | exact List.Mem.head _ | refine List.Mem.tail _ ?_ | refine List.mem_append_right _ ?_)) rfl) rfl (by decide) ?_
  refine TL.pure (PV.move rfl) rfl (by decide) ?_
  refine TL.pure (PV.move rfl) rfl (by decide) ?_
  refine TL.call rfl Tb.gofn_74 (fun a w hs => joinTwoE_ok w _ _ _ (hr.new hs.new) _ _ _ (hx.new hs.new) _ _ _ (hy.new hs.new)) rfl (by decide) (fun h9 hh9 => ?_)
  refine TL.pure (PV.extract rfl rfl) rfl (by decide) ?_
  refine TL.pure (PV.extract rfl rfl) rfl (by decide) ?_
  refine TL.pure (PV.assign rfl) rfl (by decide) ?_
  refine TL.pure (PV.assign rfl) rfl (by decide) ?_
  refine TL.nil ?_
  refine TQ.thenC ?_
  refine TC.ret ?_
  refine TQ.retE2 rfl rfl rfl ?_
  exact ⟨h9, rfl, hh9, List.sublist_append_left _ _⟩

set_option maxRecDepth 100000 in
theorem rtwo_ok (w0 : World) (p : Option Addr) (cap : Nat) (ls : List (List Int)) (hr : LsAt w0 p ls) (pl : Option Addr) (cl : Nat) (xs : List Int) (hx : IntsAt w0 pl xs) (p2 : Option Addr) (c2 : Nat) (ys : List Int) (hy : IntsAt w0 p2 ys) :
    Calls Try.prog 75 #[bv p ls.length cap, .slice pl xs.length cl, .slice p2 ys.length c2] w0 (Post (X := Unit) (fun _ => .int .i64 (twoI ls xs ys)) (fun _ => True) (fun _ => []) w0) := by
  refine calls Try.func75 rfl (n := 17) rfl (by simp) ?_
  refine TC.seq ?_
  refine TC.region ?_
  refine TL.box rfl rfl (by decide) (fun b0 hb0 => ?_)
  refine TL.pure (PV.assign rfl) rfl (by decide) ?_
  refine TL.nil ?_
  refine TQ.thenC ?_
  refine TC.seq ?_
  refine TC.region ?_
  refine TL.pure (PV.loadBox rfl Tb.agg_24 (by repeat (first | exact List.Mem.head _ | refine List.Mem.tail _ ?_ | refine List.mem_append_right _ ?_)) rfl) rfl (by decide) ?_
  refine TL.pure (PV.move rfl) rfl (by decide) ?_
  refine TL.call rfl Tb.gofn_24 (fun a w hs => rcheckHollow_ok w _ _ _ (hr.new hs.new) _ _ _ (hx.new hs.new)) rfl (by decide) (fun _ _ => ?_)
  refine TL.pure (PV.assign rfl) rfl (by decide) ?_
  refine TL.nil ?_
  refine TQ.thenC ?_
  refine TC.seq ?_
  refine TC.seq ?_
  refine TC.region ?_
  refine TL.pure (PV.move rfl) rfl (by decide) ?_
  refine TL.pure (PV.neq rfl rfl) rfl (by decide) ?_
  refine TL.nil ?_
  refine TQ.thenC ?_
  first | refine TC.condD rfl (fun hbad => ?_) (fun hbad => ?_) | refine TC.cond rfl (fun hbad => ?_) (fun hbad => ?_)
  · skip
    refine TC.seq ?_
    refine TC.region ?_
    refine TL.pure (PV.move rfl) rfl (by decide) ?_
    refine TL.pure (PV.assign rfl) rfl (by decide) ?_
    refine TL.nil ?_
    refine TQ.thenC ?_
    refine TC.ret ?_
    refine TQ.thenR ?_
    refine TQ.retE1 rfl rfl ?_
    exact ⟨(), by rw [two_x hbad], trivial, List.nil_sublist _⟩
  · skip
    refine TC.skip ?_
    refine TQ.thenC ?_
    refine TC.seq ?_
    refine TC.region ?_
    refine TL.pure (PV.loadBox rfl Tb.agg_24 (by repeat (first | exact List.Mem.head _ | refine List.Mem.tail _ ?_ | refine List.mem_append_right _ ?_)) rfl) rfl (by decide) ?_
    refine TL.pure (PV.move rfl) rfl (by decide) ?_
    refine TL.call rfl Tb.gofn_24 (fun a w hs => rcheckHollow_ok w _ _ _ (hr.new hs.new) _ _ _ (hy.new hs.new)) rfl (by decide) (fun _ _ => ?_)
    refine TL.pure (PV.assign rfl) rfl (by decide) ?_
    refine TL.nil ?_
    refine TQ.thenC ?_
    refine TC.ret ?_
    refine TQ.retE1 rfl rfl ?_
    exact ⟨(), by rw [two_y hbad], trivial, List.nil_sublist _⟩

set_option maxRecDepth 100000 in
set_option maxHeartbeats 1000000 in
theorem rBoth_ok (w0 : World) (p : Option Addr) (cap : Nat) (ls : List (List Int)) (hr : LsAt w0 p ls) (pl : Option Addr) (cl : Nat) (xs : List Int) (hx : IntsAt w0 pl xs) (p2 : Option Addr) (c2 : Nat) (ys : List Int) (hy : IntsAt w0 p2 ys) :
    Calls Try.prog 32 #[bv p ls.length cap, .slice pl xs.length cl, .slice p2 ys.length c2] w0 (Post (X := HD) (fun h => .tuple #[gval h (jnL min ls xs ys).length, .int .i64 (twoI ls xs ys)]) (fun h => goI (h, jnL min ls xs ys)) (fun h => gbI (h, jnL min ls xs ys)) w0) := by
  refine calls Try.func32 rfl (n := 20) rfl (by simp) ?_
  refine TC.seq ?_
  refine TC.region ?_
  refine TL.box rfl rfl (by decide) (fun b0 hb0 => ?_)
  refine TL.pure (PV.assign rfl) rfl (by decide) ?_
  refine TL.pure (PV.assign rfl) rfl (by decide) ?_
  refine TL.nil ?_
  refine TQ.thenC ?_
  refine TC.seq ?_
  refine TC.region ?_
  refine TL.pure (PV.loadBox rfl Tb.agg_24 (by repeat (first | exact List.Mem.head _ | refine List.Mem.tail _ ?_ | refine List.mem_append_right _ ?_)) rfl) rfl (by decide) ?_
  refine TL.pure (PV.move rfl) rfl (by decide) ?_
  refine TL.pure (PV.move rfl) rfl (by decide) ?_
  refine TL.call rfl Tb.gofn_75 (fun a w hs => rtwo_ok w _ _ _ (hr.new hs.new) _ _ _ (hx.new hs.new) _ _ _ (hy.new hs.new)) rfl (by decide) (fun _ _ => ?_)
  refine TL.pure (PV.assign rfl) rfl (by decide) ?_
  refine TL.nil ?_
  refine TQ.thenC ?_
  refine TC.seq ?_
  refine TC.seq ?_
  refine TC.region ?_
  refine TL.pure (PV.move rfl) rfl (by decide) ?_
  refine TL.pure (PV.neq rfl rfl) rfl (by decide) ?_
  refine TL.nil ?_
  refine TQ.thenC ?_
  first | refine TC.condD rfl (fun hbad => ?_) (fun hbad => ?_) | refine TC.cond rfl (fun hbad => ?_) (fun hbad => ?_)
  · skip
    refine TC.seq ?_
    refine TC.region ?_
    refine TL.pure (PV.move rfl) rfl (by decide) ?_
    refine TL.pure (PV.assign rfl) rfl (by decide) ?_
    refine TL.pure (PV.assign rfl) rfl (by decide) ?_
    refine TL.nil ?_
    refine TQ.thenC ?_
    refine TC.ret ?_
    refine TQ.thenR ?_
    refine TQ.retE2 rfl rfl rfl ?_
    exact ⟨none, by rw [jn_bad hbad]; rfl, by rw [jn_bad hbad]; exact goI_nil, by rw [jn_bad hbad]; exact List.nil_sublist _⟩
  · skip
    refine TC.skip ?_
    refine TQ.thenC ?_
    refine TC.seq ?_
    obtain ⟨hx9, hy9⟩ := two_hol hbad
    have hn9 := hx9.vb.n
    have hxl := hx9.len
    have hyl := hy9.len
    have hrow : ∀ i, i < [xs, ys].length → ([xs, ys].getD i []).length = ls.length := fun i hi => by
      match i, hi with
      | 0, _ => exact hxl
      | 1, _ => exact hyl
    have h7 : fldJ min ([xs, ys].getD 0 []) [xs, ys] [xs, ys].length = jnL min ls xs ys := by rw [jn_ok (Decidable.of_not_not hbad)]; exact fld_two (fun a => Int.min_self a) hxl hyl
    have h8 : (jnL min ls xs ys).length = ls.length := by rw [jn_ok (Decidable.of_not_not hbad)]; exact zip_len hxl hyl
    refine TC.region ?_
    refine TL.pure (PV.move rfl) rfl (by decide) ?_
    refine TL.pure (PV.move rfl) rfl (by decide) ?_
    refine TL.buildSlice (cs := #[.slice pl xs.length cl, .slice p2 ys.length c2]) rfl Tb.sl_22 Tb.zi_25 (by decide) (fill_oo _ _ _ _ _ _) (by decide) rfl (by decide) (fun bS hbS => ?_)
    refine TL.call rfl Tb.gofn_71 (fun a w hs => least_ok w _ 2 [xs, ys] (LsAt.two hs.new (by repeat (first | exact List.Mem.head _ | refine List.Mem.tail _ ?_ | refine List.mem_append_right _ ?_)) (hx.new hs.new) (hy.new hs.new)) 2 rfl (by decide) (by decide) ls.length hrow (by omega)) rfl (by decide) (fun h9 hh9 => ?_)
    refine TL.pure (PV.assign rfl) rfl (by decide) ?_
    refine TL.pure (PV.assign rfl) rfl (by decide) ?_
    refine TL.nil ?_
    refine TQ.thenC ?_
    refine TC.ret ?_
    refine TQ.retE2 rfl rfl rfl ?_
    exact ⟨h9, by rw [Decidable.of_not_not hbad, h8], by rw [← h7]; rw [← h7] at h8; exact go_lenI hh9 h8, by rw [← h7]; exact List.sublist_append_left _ _⟩

set_option maxRecDepth 100000 in
set_option maxHeartbeats 1000000 in
theorem rEither_ok (w0 : World) (p : Option Addr) (cap : Nat) (ls : List (List Int)) (hr : LsAt w0 p ls) (pl : Option Addr) (cl : Nat) (xs : List Int) (hx : IntsAt w0 pl xs) (p2 : Option Addr) (c2 : Nat) (ys : List Int) (hy : IntsAt w0 p2 ys) :
    Calls Try.prog 34 #[bv p ls.length cap, .slice pl xs.length cl, .slice p2 ys.length c2] w0 (Post (X := HD) (fun h => .tuple #[gval h (jnL max ls xs ys).length, .int .i64 (twoI ls xs ys)]) (fun h => goI (h, jnL max ls xs ys)) (fun h => gbI (h, jnL max ls xs ys)) w0) := by
  refine calls Try.func34 rfl (n := 20) rfl (by simp) ?_
  refine TC.seq ?_
  refine TC.region ?_
  refine TL.box rfl rfl (by decide) (fun b0 hb0 => ?_)
  refine TL.pure (PV.assign rfl) rfl (by decide) ?_
  refine TL.pure (PV.assign rfl) rfl (by decide) ?_
  refine TL.nil ?_
  refine TQ.thenC ?_
  refine TC.seq ?_
  refine TC.region ?_
  refine TL.pure (PV.loadBox rfl Tb.agg_24 (by repeat (first | exact List.Mem.head _ | refine List.Mem.tail _ ?_ | refine List.mem_append_right _ ?_)) rfl) rfl (by decide) ?_
  refine TL.pure (PV.move rfl) rfl (by decide) ?_
  refine TL.pure (PV.move rfl) rfl (by decide) ?_
  refine TL.call rfl Tb.gofn_75 (fun a w hs => rtwo_ok w _ _ _ (hr.new hs.new) _ _ _ (hx.new hs.new) _ _ _ (hy.new hs.new)) rfl (by decide) (fun _ _ => ?_)
  refine TL.pure (PV.assign rfl) rfl (by decide) ?_
  refine TL.nil ?_
  refine TQ.thenC ?_
  refine TC.seq ?_
  refine TC.seq ?_
  refine TC.region ?_
  refine TL.pure (PV.move rfl) rfl (by decide) ?_
  refine TL.pure (PV.neq rfl rfl) rfl (by decide) ?_
  refine TL.nil ?_
  refine TQ.thenC ?_
  first | refine TC.condD rfl (fun hbad => ?_) (fun hbad => ?_) | refine TC.cond rfl (fun hbad => ?_) (fun hbad => ?_)
  · skip
    refine TC.seq ?_
    refine TC.region ?_
    refine TL.pure (PV.move rfl) rfl (by decide) ?_
    refine TL.pure (PV.assign rfl) rfl (by decide) ?_
    refine TL.pure (PV.assign rfl) rfl (by decide) ?_
    refine TL.nil ?_
    refine TQ.thenC ?_
    refine TC.ret ?_
    refine TQ.thenR ?_
    refine TQ.retE2 rfl rfl rfl ?_
    exact ⟨none, by rw [jn_bad hbad]; rfl, by rw [jn_bad hbad]; exact goI_nil, by rw [jn_bad hbad]; exact List.nil_sublist _⟩
  · skip
    refine TC.skip ?_
    refine TQ.thenC ?_
    refine TC.seq ?_
    obtain ⟨hx9, hy9⟩ := two_hol hbad
    have hn9 := hx9.vb.n
    have hxl := hx9.len
    have hyl := hy9.len
    have hrow : ∀ i, i < [xs, ys].length → ([xs, ys].getD i []).length = ls.length := fun i hi => by
      match i, hi with
      | 0, _ => exact hxl
      | 1, _ => exact hyl
    have h7 : fldJ max ([xs, ys].getD 0 []) [xs, ys] [xs, ys].length = jnL max ls xs ys := by rw [jn_ok (Decidable.of_not_not hbad)]; exact fld_two (fun a => Int.max_self a) hxl hyl
    have h8 : (jnL max ls xs ys).length = ls.length := by rw [jn_ok (Decidable.of_not_not hbad)]; exact zip_len hxl hyl
    refine TC.region ?_
    refine TL.pure (PV.move rfl) rfl (by decide) ?_
    refine TL.pure (PV.move rfl) rfl (by decide) ?_
    refine TL.buildSlice (cs := #[.slice pl xs.length cl, .slice p2 ys.length c2]) rfl Tb.sl_22 Tb.zi_25 (by decide) (fill_oo _ _ _ _ _ _) (by decide) rfl (by decide) (fun bS hbS => ?_)
    refine TL.call rfl Tb.gofn_73 (fun a w hs => most_ok w _ 2 [xs, ys] (LsAt.two hs.new (by repeat (first | exact List.Mem.head _ | refine List.Mem.tail _ ?_ | refine List.mem_append_right _ ?_)) (hx.new hs.new) (hy.new hs.new)) 2 rfl (by decide) (by decide) ls.length hrow (by omega)) rfl (by decide) (fun h9 hh9 => ?_)
    refine TL.pure (PV.assign rfl) rfl (by decide) ?_
    refine TL.pure (PV.assign rfl) rfl (by decide) ?_
    refine TL.nil ?_
    refine TQ.thenC ?_
    refine TC.ret ?_
    refine TQ.retE2 rfl rfl rfl ?_
    exact ⟨h9, by rw [Decidable.of_not_not hbad, h8], by rw [← h7]; rw [← h7] at h8; exact go_lenI hh9 h8, by rw [← h7]; exact List.sublist_append_left _ _⟩

set_option maxRecDepth 100000 in
set_option maxHeartbeats 2000000 in
theorem cutJoins_ok (w0 : World) (p : Option Addr) (cap : Nat) (ls : List (List Int)) (hr : LsAt w0 p ls) (hl2 : ls.length ≤ 9223372036854775807) (hcap : CapsAt w0 p ls) (pl : Option Addr) (cl : Nat) (xs : List Int) (hx : IntsAt w0 pl xs) (p2 : Option Addr) (c2 : Nat) (ys : List Int) (hy : IntsAt w0 p2 ys) :
    Calls Try.prog 5 #[bv p ls.length cap, .slice pl xs.length cl, .slice p2 ys.length c2] w0 (Post (X := Unit) (fun _ => .bool true) (fun _ => True) (fun _ => []) w0) := by
  refine calls Try.func5 rfl (n := 122) rfl (by simp) ?_
  refine TC.seq ?_
  refine TC.region ?_
  refine TL.box rfl rfl (by decide) (fun b0 hb0 => ?_)
  refine TL.pure (PV.assign rfl) rfl (by decide) ?_
  refine TL.nil ?_
  refine TQ.thenC ?_
  refine TC.seq ?_
  refine TC.seq ?_
  refine TC.region ?_
  refine TL.pure (PV.loadBox rfl Tb.agg_24 (by repeat (first | exact List.Mem.head _ | refine List.Mem.tail _ ?_ | refine List.mem_append_right _ ?_)) rfl) rfl (by decide) ?_
  refine TL.pure (PV.move rfl) rfl (by decide) ?_
  refine TL.pure (PV.move rfl) rfl (by decide) ?_
  refine TL.buildSlice (cs := #[.slice pl xs.length cl, .slice p2 ys.length c2]) rfl Tb.sl_22 Tb.zi_25 (by decide) (fill_oo _ _ _ _ _ _) (by decide) rfl (by decide) (fun bS hbS => ?_)
  refine TL.call rfl Tb.gofn_17 (fun a w hs => long_ok w _ _ _ (hr.new hs.new) _ 2 [xs, ys] (LsAt.two hs.new (by repeat (first | exact List.Mem.head _ | refine List.Mem.tail _ ?_ | refine List.mem_append_right _ ?_)) (hx.new hs.new) (hy.new hs.new)) (show 2 ≤ 1000 by decide) hl2) rfl (by decide) (fun _ _ => ?_)
  refine TL.nil ?_
  refine TQ.thenC ?_
  first | refine TC.condD rfl (fun hlong => ?_) (fun hlong => ?_) | refine TC.cond rfl (fun hlong => ?_) (fun hlong => ?_)
  · skip
    refine TC.seq ?_
    refine TC.region ?_
    refine TL.call rfl Tb.gofn_18 (fun a w hs => sane_ok w) rfl (by decide) (fun _ _ => ?_)
    refine TL.pure (PV.assign rfl) rfl (by decide) ?_
    refine TL.nil ?_
    refine TQ.thenC ?_
    refine TC.ret ?_
    refine TQ.thenR ?_
    refine TQ.retE1 rfl rfl ?_
    first | exact ⟨(), rfl, trivial, List.nil_sublist _⟩ | (exfalso; omega) | (exfalso; simp_all; done)
  · skip
    refine TC.skip ?_
    refine TQ.thenC ?_
    refine TC.seq ?_
    refine TC.region ?_
    refine TL.pure (PV.loadBox rfl Tb.agg_24 (by repeat (first | exact List.Mem.head _ | refine List.Mem.tail _ ?_ | refine List.mem_append_right _ ?_)) rfl) rfl (by decide) ?_
    refine TL.pure (PV.move rfl) rfl (by decide) ?_
    refine TL.pure (PV.move rfl) rfl (by decide) ?_
    refine TL.call rfl Tb.gofn_31 (fun a w hs => Both_ok w _ _ _ (hr.new hs.new) _ _ _ (hx.new hs.new) _ _ _ (hy.new hs.new)) rfl (by decide) (fun a9 ha9 => ?_)
    refine TL.pure (PV.move rfl) rfl (by decide) ?_
    refine TL.pure (PV.extract rfl rfl) rfl (by decide) ?_
    refine TL.pure (PV.extract rfl rfl) rfl (by decide) ?_
    refine TL.pure (PV.assign rfl) rfl (by decide) ?_
    refine TL.pure (PV.assign rfl) rfl (by decide) ?_
    refine TL.nil ?_
    refine TQ.thenC ?_
    refine TC.seq ?_
    refine TC.region ?_
    refine TL.pure (PV.loadBox rfl Tb.agg_24 (by repeat (first | exact List.Mem.head _ | refine List.Mem.tail _ ?_ | refine List.mem_append_right _ ?_)) rfl) rfl (by decide) ?_
    refine TL.pure (PV.move rfl) rfl (by decide) ?_
    refine TL.pure (PV.move rfl) rfl (by decide) ?_
    refine TL.call rfl Tb.gofn_32 (fun a w hs => rBoth_ok w _ _ _ (hr.new hs.new) _ _ _ (hx.new hs.new) _ _ _ (hy.new hs.new)) rfl (by decide) (fun b9 hb9 => ?_)
    refine TL.pure (PV.move rfl) rfl (by decide) ?_
    refine TL.pure (PV.extract rfl rfl) rfl (by decide) ?_
    refine TL.pure (PV.extract rfl rfl) rfl (by decide) ?_
    refine TL.pure (PV.assign rfl) rfl (by decide) ?_
    refine TL.pure (PV.assign rfl) rfl (by decide) ?_
    refine TL.nil ?_
    refine TQ.thenC ?_
    refine TC.seq ?_
    refine TC.region ?_
    refine TL.pure (PV.loadBox rfl Tb.agg_24 (by repeat (first | exact List.Mem.head _ | refine List.Mem.tail _ ?_ | refine List.mem_append_right _ ?_)) rfl) rfl (by decide) ?_
    refine TL.pure (PV.move rfl) rfl (by decide) ?_
    refine TL.pure (PV.move rfl) rfl (by decide) ?_
    refine TL.call rfl Tb.gofn_33 (fun a w hs => Either_ok w _ _ _ (hr.new hs.new) _ _ _ (hx.new hs.new) _ _ _ (hy.new hs.new)) rfl (by decide) (fun c9 hc9 => ?_)
    refine TL.pure (PV.move rfl) rfl (by decide) ?_
    refine TL.pure (PV.extract rfl rfl) rfl (by decide) ?_
    refine TL.pure (PV.extract rfl rfl) rfl (by decide) ?_
    refine TL.pure (PV.assign rfl) rfl (by decide) ?_
    refine TL.pure (PV.assign rfl) rfl (by decide) ?_
    refine TL.nil ?_
    refine TQ.thenC ?_
    refine TC.seq ?_
    refine TC.region ?_
    refine TL.pure (PV.loadBox rfl Tb.agg_24 (by repeat (first | exact List.Mem.head _ | refine List.Mem.tail _ ?_ | refine List.mem_append_right _ ?_)) rfl) rfl (by decide) ?_
    refine TL.pure (PV.move rfl) rfl (by decide) ?_
    refine TL.pure (PV.move rfl) rfl (by decide) ?_
    refine TL.call rfl Tb.gofn_34 (fun a w hs => rEither_ok w _ _ _ (hr.new hs.new) _ _ _ (hx.new hs.new) _ _ _ (hy.new hs.new)) rfl (by decide) (fun d9 hd9 => ?_)
    refine TL.pure (PV.move rfl) rfl (by decide) ?_
    refine TL.pure (PV.extract rfl rfl) rfl (by decide) ?_
    refine TL.pure (PV.extract rfl rfl) rfl (by decide) ?_
    refine TL.pure (PV.assign rfl) rfl (by decide) ?_
    refine TL.pure (PV.assign rfl) rfl (by decide) ?_
    refine TL.nil ?_
    refine TQ.thenC ?_
    refine TC.seq ?_
    refine TC.seq ?_
    refine TC.region ?_
    refine TL.pure (PV.move rfl) rfl (by decide) ?_
    refine TL.pure (PV.move rfl) rfl (by decide) ?_
    refine TL.call rfl Tb.gofn_29 (fun a w hs => sameGG w (a9) (jnL min ls xs ys) ha9 (IntsAt.g (x := (a9, jnL min ls xs ys)) hs.new (fun yy hyy => by repeat (first | exact List.mem_append_left _ hyy | exact List.mem_append_left _ (List.mem_append_right _ hyy) | exact List.mem_append_left _ (List.mem_append_left _ hyy) | refine List.mem_append_right _ ?_ | refine List.Mem.tail _ ?_)) ha9) (b9) (jnL min ls xs ys) hb9 (IntsAt.g (x := (b9, jnL min ls xs ys)) hs.new (fun yy hyy => by repeat (first | exact List.mem_append_left _ hyy | exact List.mem_append_left _ (List.mem_append_right _ hyy) | exact List.mem_append_left _ (List.mem_append_left _ hyy) | refine List.mem_append_right _ ?_ | refine List.Mem.tail _ ?_)) hb9) jn_len jn_len) rfl (by decide) (fun _ _ => ?_)
    refine TL.pure ((by first | exact PV.notD rfl | exact PV.not rfl)) rfl (by decide) ?_
    refine TL.pure (PV.move rfl) rfl (by decide) ?_
    first | refine TL.splitD 61 rfl (fun h1 => ?_) (fun h1 => ?_) | refine TL.split 61 rfl (fun h1 => ?_) (fun h1 => ?_)
    · skip
      refine TL.skip rfl (fun k hk => by cases hk; decide) ?_
      refine TL.skip rfl (fun k hk => by cases hk; decide) ?_
      refine TL.skip rfl (fun k hk => by cases hk; decide) ?_
      refine TL.pure (PV.pickT rfl rfl) rfl (by decide) ?_
      refine TL.pure (PV.move rfl) rfl (by decide) ?_
      refine TL.skip rfl (fun k hk => by cases hk; decide) ?_
      refine TL.skip rfl (fun k hk => by cases hk; decide) ?_
      refine TL.skip rfl (fun k hk => by cases hk; decide) ?_
      refine TL.skip rfl (fun k hk => by cases hk; decide) ?_
      refine TL.pure (PV.pickT rfl rfl) rfl (by decide) ?_
      refine TL.pure (PV.move rfl) rfl (by decide) ?_
      refine TL.skip rfl (fun k hk => by cases hk; decide) ?_
      refine TL.skip rfl (fun k hk => by cases hk; decide) ?_
      refine TL.skip rfl (fun k hk => by cases hk; decide) ?_
      refine TL.pure (PV.pickT rfl rfl) rfl (by decide) ?_
      refine TL.nil ?_
      refine TQ.thenC ?_
      refine TC.condT rfl ?_
      refine TC.seq ?_
      refine TC.region ?_
      refine TL.pure (PV.assign rfl) rfl (by decide) ?_
      refine TL.nil ?_
      refine TQ.thenC ?_
      refine TC.ret ?_
      refine TQ.thenR ?_
      refine TQ.retE1 rfl rfl ?_
      first | exact ⟨(), rfl, trivial, List.nil_sublist _⟩ | (exfalso; omega) | (exfalso; simp_all; done)
    · skip
      refine TL.pure (PV.move rfl) rfl (by decide) ?_
      refine TL.pure (PV.move rfl) rfl (by decide) ?_
      refine TL.pure (PV.neq rfl rfl) rfl (by decide) ?_
      refine TL.pure (PV.pickF rfl rfl) rfl (by decide) ?_
      refine TL.pure (PV.move rfl) rfl (by decide) ?_
      first | refine TL.splitD 66 rfl (fun h2 => ?_) (fun h2 => ?_) | refine TL.split 66 rfl (fun h2 => ?_) (fun h2 => ?_)
      · skip
        refine TL.skip rfl (fun k hk => by cases hk; decide) ?_
        refine TL.skip rfl (fun k hk => by cases hk; decide) ?_
        refine TL.skip rfl (fun k hk => by cases hk; decide) ?_
        refine TL.skip rfl (fun k hk => by cases hk; decide) ?_
        refine TL.pure (PV.pickT rfl rfl) rfl (by decide) ?_
        refine TL.pure (PV.move rfl) rfl (by decide) ?_
        refine TL.skip rfl (fun k hk => by cases hk; decide) ?_
        refine TL.skip rfl (fun k hk => by cases hk; decide) ?_
        refine TL.skip rfl (fun k hk => by cases hk; decide) ?_
        refine TL.pure (PV.pickT rfl rfl) rfl (by decide) ?_
        refine TL.nil ?_
        refine TQ.thenC ?_
        refine TC.condT rfl ?_
        refine TC.seq ?_
        refine TC.region ?_
        refine TL.pure (PV.assign rfl) rfl (by decide) ?_
        refine TL.nil ?_
        refine TQ.thenC ?_
        refine TC.ret ?_
        refine TQ.thenR ?_
        refine TQ.retE1 rfl rfl ?_
        first | exact ⟨(), rfl, trivial, List.nil_sublist _⟩ | (exfalso; omega) | (exfalso; simp_all; done)
      · skip
        refine TL.pure (PV.move rfl) rfl (by decide) ?_
        refine TL.pure (PV.move rfl) rfl (by decide) ?_
        refine TL.call rfl Tb.gofn_29 (fun a w hs => sameGG w (c9) (jnL max ls xs ys) hc9 (IntsAt.g (x := (c9, jnL max ls xs ys)) hs.new (fun yy hyy => by repeat (first | exact List.mem_append_left _ hyy | exact List.mem_append_left _ (List.mem_append_right _ hyy) | exact List.mem_append_left _ (List.mem_append_left _ hyy) | refine List.mem_append_right _ ?_ | refine List.Mem.tail _ ?_)) hc9) (d9) (jnL max ls xs ys) hd9 (IntsAt.g (x := (d9, jnL max ls xs ys)) hs.new (fun yy hyy => by repeat (first | exact List.mem_append_left _ hyy | exact List.mem_append_left _ (List.mem_append_right _ hyy) | exact List.mem_append_left _ (List.mem_append_left _ hyy) | refine List.mem_append_right _ ?_ | refine List.Mem.tail _ ?_)) hd9) jn_len jn_len) rfl (by decide) (fun _ _ => ?_)
        refine TL.pure ((by first | exact PV.notD rfl | exact PV.not rfl)) rfl (by decide) ?_
        refine TL.pure (PV.pickF rfl rfl) rfl (by decide) ?_
        refine TL.pure (PV.move rfl) rfl (by decide) ?_
        first | refine TL.splitD 72 rfl (fun h3 => ?_) (fun h3 => ?_) | refine TL.split 72 rfl (fun h3 => ?_) (fun h3 => ?_)
        · skip
          refine TL.skip rfl (fun k hk => by cases hk; decide) ?_
          refine TL.skip rfl (fun k hk => by cases hk; decide) ?_
          refine TL.skip rfl (fun k hk => by cases hk; decide) ?_
          refine TL.pure (PV.pickT rfl rfl) rfl (by decide) ?_
          refine TL.nil ?_
          refine TQ.thenC ?_
          refine TC.condT rfl ?_
          refine TC.seq ?_
          refine TC.region ?_
          refine TL.pure (PV.assign rfl) rfl (by decide) ?_
          refine TL.nil ?_
          refine TQ.thenC ?_
          refine TC.ret ?_
          refine TQ.thenR ?_
          refine TQ.retE1 rfl rfl ?_
          first | exact ⟨(), rfl, trivial, List.nil_sublist _⟩ | (exfalso; omega) | (exfalso; simp_all; done)
        · skip
          refine TL.pure (PV.move rfl) rfl (by decide) ?_
          refine TL.pure (PV.move rfl) rfl (by decide) ?_
          refine TL.pure (PV.neq rfl rfl) rfl (by decide) ?_
          refine TL.pure (PV.pickF rfl rfl) rfl (by decide) ?_
          refine TL.nil ?_
          refine TQ.thenC ?_
          first | refine TC.condD rfl (fun h4 => ?_) (fun h4 => ?_) | refine TC.cond rfl (fun h4 => ?_) (fun h4 => ?_)
          · skip
            refine TC.seq ?_
            refine TC.region ?_
            refine TL.pure (PV.assign rfl) rfl (by decide) ?_
            refine TL.nil ?_
            refine TQ.thenC ?_
            refine TC.ret ?_
            refine TQ.thenR ?_
            refine TQ.retE1 rfl rfl ?_
            first | exact ⟨(), rfl, trivial, List.nil_sublist _⟩ | (exfalso; omega) | (exfalso; simp_all; done)
          · skip
            refine TC.skip ?_
            refine TQ.thenC ?_
            refine TC.seq ?_
            refine TC.seq ?_
            refine TC.region ?_
            refine TL.pure (PV.move rfl) rfl (by decide) ?_
            refine TL.pure (PV.neq rfl rfl) rfl (by decide) ?_
            refine TL.nil ?_
            refine TQ.thenC ?_
            first | refine TC.condD rfl (fun g1 => ?_) (fun g1 => ?_) | refine TC.cond rfl (fun g1 => ?_) (fun g1 => ?_)
            · skip
              refine TC.seq ?_
              refine TC.region ?_
              refine TL.call rfl Tb.gofn_18 (fun a w hs => sane_ok w) rfl (by decide) (fun _ _ => ?_)
              refine TL.pure (PV.assign rfl) rfl (by decide) ?_
              refine TL.nil ?_
              refine TQ.thenC ?_
              refine TC.ret ?_
              refine TQ.thenR ?_
              refine TQ.retE1 rfl rfl ?_
              first | exact ⟨(), rfl, trivial, List.nil_sublist _⟩ | (exfalso; omega) | (exfalso; simp_all; done)
            · skip
              refine TC.skip ?_
              refine TQ.thenC ?_
              refine TC.seq ?_
              obtain ⟨e1, e2, e3, e4, e5⟩ := joins g1
              have w1 := wor_bd2 e1
              have w2 := wor_bd2 e2
              have w3 := wor_bd2 e3
              have w4 := wor_bd2 e4
              refine TC.region ?_
              refine TL.pure (PV.loadBox rfl Tb.agg_24 (by repeat (first | exact List.Mem.head _ | refine List.Mem.tail _ ?_ | refine List.mem_append_right _ ?_)) rfl) rfl (by decide) ?_
              refine TL.pure (PV.move rfl) rfl (by decide) ?_
              refine TL.call rfl Tb.gofn_19 (fun a w hs => (by rw [gval_eq ha9]; exact Worth_ok w _ _ _ (hr.new hs.new) _ _ (jnL min ls xs ys) (IntsAt.g (x := (a9, jnL min ls xs ys)) hs.new (fun yy hyy => by repeat (first | exact List.mem_append_left _ hyy | exact List.mem_append_left _ (List.mem_append_right _ hyy) | exact List.mem_append_left _ (List.mem_append_left _ hyy) | refine List.mem_append_right _ ?_ | refine List.Mem.tail _ ?_)) ha9) (hcap.new hr hs.new))) rfl (by decide) (fun _ _ => ?_)
              refine TL.pure (PV.move rfl) rfl (by decide) ?_
              refine TL.pure (PV.extract rfl rfl) rfl (by decide) ?_
              refine TL.pure (PV.extract rfl rfl) rfl (by decide) ?_
              refine TL.pure (PV.assign rfl) rfl (by decide) ?_
              refine TL.pure (PV.assign rfl) rfl (by decide) ?_
              refine TL.nil ?_
              refine TQ.thenC ?_
              refine TC.seq ?_
              refine TC.region ?_
              refine TL.pure (PV.loadBox rfl Tb.agg_24 (by repeat (first | exact List.Mem.head _ | refine List.Mem.tail _ ?_ | refine List.mem_append_right _ ?_)) rfl) rfl (by decide) ?_
              refine TL.pure (PV.move rfl) rfl (by decide) ?_
              refine TL.call rfl Tb.gofn_19 (fun a w hs => (by rw [gval_eq hc9]; exact Worth_ok w _ _ _ (hr.new hs.new) _ _ (jnL max ls xs ys) (IntsAt.g (x := (c9, jnL max ls xs ys)) hs.new (fun yy hyy => by repeat (first | exact List.mem_append_left _ hyy | exact List.mem_append_left _ (List.mem_append_right _ hyy) | exact List.mem_append_left _ (List.mem_append_left _ hyy) | refine List.mem_append_right _ ?_ | refine List.Mem.tail _ ?_)) hc9) (hcap.new hr hs.new))) rfl (by decide) (fun _ _ => ?_)
              refine TL.pure (PV.move rfl) rfl (by decide) ?_
              refine TL.pure (PV.extract rfl rfl) rfl (by decide) ?_
              refine TL.pure (PV.extract rfl rfl) rfl (by decide) ?_
              refine TL.pure (PV.assign rfl) rfl (by decide) ?_
              refine TL.pure (PV.assign rfl) rfl (by decide) ?_
              refine TL.nil ?_
              refine TQ.thenC ?_
              refine TC.seq ?_
              refine TC.region ?_
              refine TL.pure (PV.loadBox rfl Tb.agg_24 (by repeat (first | exact List.Mem.head _ | refine List.Mem.tail _ ?_ | refine List.mem_append_right _ ?_)) rfl) rfl (by decide) ?_
              refine TL.pure (PV.move rfl) rfl (by decide) ?_
              refine TL.call rfl Tb.gofn_19 (fun a w hs => Worth_ok w _ _ _ (hr.new hs.new) _ _ _ (hx.new hs.new) (hcap.new hr hs.new)) rfl (by decide) (fun _ _ => ?_)
              refine TL.pure (PV.move rfl) rfl (by decide) ?_
              refine TL.pure (PV.extract rfl rfl) rfl (by decide) ?_
              refine TL.pure (PV.extract rfl rfl) rfl (by decide) ?_
              refine TL.pure (PV.assign rfl) rfl (by decide) ?_
              refine TL.pure (PV.assign rfl) rfl (by decide) ?_
              refine TL.nil ?_
              refine TQ.thenC ?_
              refine TC.seq ?_
              refine TC.region ?_
              refine TL.pure (PV.loadBox rfl Tb.agg_24 (by repeat (first | exact List.Mem.head _ | refine List.Mem.tail _ ?_ | refine List.mem_append_right _ ?_)) rfl) rfl (by decide) ?_
              refine TL.pure (PV.move rfl) rfl (by decide) ?_
              refine TL.call rfl Tb.gofn_19 (fun a w hs => Worth_ok w _ _ _ (hr.new hs.new) _ _ _ (hy.new hs.new) (hcap.new hr hs.new)) rfl (by decide) (fun _ _ => ?_)
              refine TL.pure (PV.move rfl) rfl (by decide) ?_
              refine TL.pure (PV.extract rfl rfl) rfl (by decide) ?_
              refine TL.pure (PV.extract rfl rfl) rfl (by decide) ?_
              refine TL.pure (PV.assign rfl) rfl (by decide) ?_
              refine TL.pure (PV.assign rfl) rfl (by decide) ?_
              refine TL.nil ?_
              refine TQ.thenC ?_
              refine TC.seq ?_
              have i1 : (if holI ls (jnL min ls xs ys) = 0 then worH ls (jnL min ls xs ys) else 0) = worH ls (jnL min ls xs ys) := if_pos e1
              have i2 : (if holI ls (jnL max ls xs ys) = 0 then worH ls (jnL max ls xs ys) else 0) = worH ls (jnL max ls xs ys) := if_pos e2
              have i3 : (if holI ls xs = 0 then worH ls xs else 0) = worH ls xs := if_pos e3
              have i4 : (if holI ls ys = 0 then worH ls ys else 0) = worH ls ys := if_pos e4
              rw [i1, i2, i3, i4]
              refine TC.region ?_
              refine TL.pure (PV.move rfl) rfl (by decide) ?_
              refine TL.pure (PV.eql rfl rfl) rfl (by decide) ?_
              refine TL.pure (PV.move rfl) rfl (by decide) ?_
              first | refine TL.splitD 106 rfl (fun h6 => ?_) (fun h6 => ?_) | refine TL.split 106 rfl (fun h6 => ?_) (fun h6 => ?_)
              · skip
                refine TL.pure (PV.move rfl) rfl (by decide) ?_
                refine TL.pure (PV.eql rfl rfl) rfl (by decide) ?_
                refine TL.pure (PV.pickT rfl rfl) rfl (by decide) ?_
                refine TL.pure (PV.move rfl) rfl (by decide) ?_
                first | refine TL.splitD 110 rfl (fun h7 => ?_) (fun h7 => ?_) | refine TL.split 110 rfl (fun h7 => ?_) (fun h7 => ?_)
                · skip
                  refine TL.pure (PV.move rfl) rfl (by decide) ?_
                  refine TL.pure (PV.move rfl) rfl (by decide) ?_
                  refine TL.pure (PV.add rfl rfl (by omega)) rfl (by decide) ?_
                  refine TL.pure (PV.move rfl) rfl (by decide) ?_
                  refine TL.pure (PV.move rfl) rfl (by decide) ?_
                  refine TL.pure (PV.add rfl rfl (by omega)) rfl (by decide) ?_
                  refine TL.pure (PV.eql rfl rfl) rfl (by decide) ?_
                  refine TL.pure (PV.pickT rfl rfl) rfl (by decide) ?_
                  refine TL.pure (PV.move rfl) rfl (by decide) ?_
                  first | refine TL.splitD 119 rfl (fun h8 => ?_) (fun h8 => ?_) | refine TL.split 119 rfl (fun h8 => ?_) (fun h8 => ?_)
                  · skip
                    refine TL.call rfl Tb.gofn_18 (fun a w hs => sane_ok w) rfl (by decide) (fun _ _ => ?_)
                    refine TL.pure (PV.pickT rfl rfl) rfl (by decide) ?_
                    refine TL.pure (PV.assign rfl) rfl (by decide) ?_
                    refine TL.nil ?_
                    refine TQ.thenC ?_
                    refine TC.ret ?_
                    refine TQ.retE1 rfl rfl ?_
                    first | exact ⟨(), rfl, trivial, List.nil_sublist _⟩ | (exfalso; omega) | (exfalso; simp_all; done)
                  · skip
                    refine TL.skip rfl (fun k hk => by cases hk; decide) ?_
                    refine TL.pure (PV.pickF rfl rfl) rfl (by decide) ?_
                    refine TL.pure (PV.assign rfl) rfl (by decide) ?_
                    refine TL.nil ?_
                    refine TQ.thenC ?_
                    refine TC.ret ?_
                    refine TQ.retE1 rfl rfl ?_
                    first | exact ⟨(), rfl, trivial, List.nil_sublist _⟩ | (exfalso; omega) | (exfalso; simp_all; done)
                · skip
                  refine TL.skip rfl (fun k hk => by cases hk; decide) ?_
                  refine TL.skip rfl (fun k hk => by cases hk; decide) ?_
                  refine TL.skip rfl (fun k hk => by cases hk; decide) ?_
                  refine TL.skip rfl (fun k hk => by cases hk; decide) ?_
                  refine TL.skip rfl (fun k hk => by cases hk; decide) ?_
                  refine TL.skip rfl (fun k hk => by cases hk; decide) ?_
                  refine TL.skip rfl (fun k hk => by cases hk; decide) ?_
                  refine TL.pure (PV.pickF rfl rfl) rfl (by decide) ?_
                  refine TL.pure (PV.move rfl) rfl (by decide) ?_
                  refine TL.skip rfl (fun k hk => by cases hk; decide) ?_
                  refine TL.pure (PV.pickF rfl rfl) rfl (by decide) ?_
                  refine TL.pure (PV.assign rfl) rfl (by decide) ?_
                  refine TL.nil ?_
                  refine TQ.thenC ?_
                  refine TC.ret ?_
                  refine TQ.retE1 rfl rfl ?_
                  first | exact ⟨(), rfl, trivial, List.nil_sublist _⟩ | (exfalso; omega) | (exfalso; simp_all; done)
              · skip
                refine TL.skip rfl (fun k hk => by cases hk; decide) ?_
                refine TL.skip rfl (fun k hk => by cases hk; decide) ?_
                refine TL.pure (PV.pickF rfl rfl) rfl (by decide) ?_
                refine TL.pure (PV.move rfl) rfl (by decide) ?_
                refine TL.skip rfl (fun k hk => by cases hk; decide) ?_
                refine TL.skip rfl (fun k hk => by cases hk; decide) ?_
                refine TL.skip rfl (fun k hk => by cases hk; decide) ?_
                refine TL.skip rfl (fun k hk => by cases hk; decide) ?_
                refine TL.skip rfl (fun k hk => by cases hk; decide) ?_
                refine TL.skip rfl (fun k hk => by cases hk; decide) ?_
                refine TL.skip rfl (fun k hk => by cases hk; decide) ?_
                refine TL.pure (PV.pickF rfl rfl) rfl (by decide) ?_
                refine TL.pure (PV.move rfl) rfl (by decide) ?_
                refine TL.skip rfl (fun k hk => by cases hk; decide) ?_
                refine TL.pure (PV.pickF rfl rfl) rfl (by decide) ?_
                refine TL.pure (PV.assign rfl) rfl (by decide) ?_
                refine TL.nil ?_
                refine TQ.thenC ?_
                refine TC.ret ?_
                refine TQ.retE1 rfl rfl ?_
                first | exact ⟨(), rfl, trivial, List.nil_sublist _⟩ | (exfalso; omega) | (exfalso; simp_all; done)

end Go.Proofs.Ytfgjojoipbbacaa
