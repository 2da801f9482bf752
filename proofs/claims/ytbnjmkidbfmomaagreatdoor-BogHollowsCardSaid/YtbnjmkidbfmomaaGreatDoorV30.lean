/- Yd Ye Yf Yo -/
import Derived.Test.YtbnjmkidbfmomaaGreatDoorV06
import Derived.Test.YtbnjmkidbfmomaaGreatDoorV29
set_option linter.unusedVariables false
set_option linter.unusedSimpArgs false
set_option maxRecDepth 100000
namespace Go.Proofs.YtbnjmkidbfmomaaGreatDoor
open Go.Sx Go.RowKit Go.Bt Go.Lib Go.Sand
theorem prs_kd {t : List UInt8} {o : Od} (h : prsO t = some o) : kdF ((spl 32 t).getD 0 []) = some (o.k, o.ns.length) := by
  unfold prsO at h
  cases hk : kdF ((spl 32 t).getD 0 []) with
  | none => rw [hk] at h; cases h
  | some kc =>
    obtain ⟨k, c⟩ := kc
    rw [hk] at h
    simp only at h
    split at h
    · rename_i hc
      injection h with h
      subst h
      simp only [List.length_map, List.length_drop]
      congr 2
      omega
    · cases h
theorem kd_of {t : List UInt8} {o : Od} {w : List UInt8} {k c : Nat} (hp : prsO t = some o) (h : (wds t).getD 0 [] = w) (hk : kdF w = some (k, c)) : o.k = k ∧ o.ns.length = c := by
  have e := prs_kd hp
  rw [show (spl 32 t).getD 0 [] = w from h, hk] at e
  injection e with e
  injection e with e1 e2
  exact ⟨e1.symm, e2.symm⟩
theorem kd_day {t : List UInt8} {o : Od} (hp : prsO t = some o) (h : (wds t).getD 0 [] = [100, 97, 121]) : o = ⟨0, []⟩ := by
  have h1 := kd_of hp h (by decide : kdF [100, 97, 121] = some (0, 0))
  exact od_0 h1.1 h1.2
theorem kd_cut {t : List UInt8} {o : Od} (hp : prsO t = some o) (h : (wds t).getD 0 [] = [99, 117, 116]) : ∃ a, o = ⟨1, [a]⟩ := by
  have h1 := kd_of hp h (by decide : kdF [99, 117, 116] = some (1, 1))
  exact ⟨_, od_1 h1.1 h1.2⟩
theorem kd_load {t : List UInt8} {o : Od} (hp : prsO t = some o) (h : (wds t).getD 0 [] = [108, 111, 97, 100]) : ∃ a n, o = ⟨2, [a, n]⟩ := by
  have h1 := kd_of hp h (by decide : kdF [108, 111, 97, 100] = some (2, 2))
  exact ⟨_, _, od_2 h1.1 h1.2⟩
theorem kd_wet {t : List UInt8} {o : Od} (hp : prsO t = some o) (h : (wds t).getD 0 [] = [119, 101, 116]) : ∃ a n, o = ⟨3, [a, n]⟩ := by
  have h1 := kd_of hp h (by decide : kdF [119, 101, 116] = some (3, 2))
  exact ⟨_, _, od_2 h1.1 h1.2⟩
theorem kd_shut {t : List UInt8} {o : Od} (hp : prsO t = some o) (h1 : ¬ (wds t).getD 0 [] = [100, 97, 121]) (h2 : ¬ (wds t).getD 0 [] = [99, 117, 116]) (h3 : ¬ (wds t).getD 0 [] = [108, 111, 97, 100]) (h4 : ¬ (wds t).getD 0 [] = [119, 101, 116]) : o = ⟨4, []⟩ := by
  have e := prs_kd hp
  unfold kdF at e
  rw [if_neg (show ¬ (spl 32 t).getD 0 [] = dayB from h1), if_neg (show ¬ (spl 32 t).getD 0 [] = cutB from h2), if_neg (show ¬ (spl 32 t).getD 0 [] = loadB from h3), if_neg (show ¬ (spl 32 t).getD 0 [] = wetB from h4)] at e
  split at e
  · injection e with e
    injection e with e1 e2
    exact od_0 e1.symm e2.symm
  · cases e
theorem chg_ords {s : St} {c : Co} {o : Od} : (chgC s c o).ords = c.ords := by
  unfold chgC
  split
  · exact actC_ords s c o
  · rfl
theorem do_chg {s : St} {c : Co} {t : List UInt8} {o : Od} (hp : prsO t = some o) (h : ¬ 100 ≤ c.ords.length) (he : actI s c o = 0) : doC s c t = { chgC s c o with ords := (chgC s c o).ords ++ [t] } := by
  rw [do_af (by rw [do_some hp h, he]), af_some hp h, chg_ords]
theorem parse_n (w : World) (hW : WAt w) (t : List UInt8) (hp : prsO t = none) : Calls Tryz.prog 72 #[str t] w (Post (X := Unit) (fun _ => .tuple #[.agg #[str [], .slice none 0 0], .bool false]) (fun _ => True) (fun _ => []) w) := by
  have h := parse_ok w hW t
  rw [hp] at h
  exact h.mono fun _ _ ⟨_, e1, e2, e3⟩ => ⟨(), e1, e2, e3⟩
theorem parse_y (w : World) (hW : WAt w) (t : List UInt8) (o : Od) (hp : prsO t = some o) : Calls Tryz.prog 72 #[str t] w (Post (X := HD) (fun h => .tuple #[.agg #[str ((wds t).getD 0 []), gval h o.ns.length], .bool true]) (fun h => goI (h, o.ns)) (fun h => gbI (h, o.ns)) w) := by
  have h := parse_ok w hW t
  rw [hp] at h
  exact h
theorem rDo_n (w0 w : World) (hW : WAt w0) (s : St) (hv : SV s) (u : SU) (c : Co) (v : RV) (hi : Inv s c) (b : Nat) (ho : HD) (hgt : goI (v.ht, c.tur)) (hgo : goR stR ho c.ords) (Z : Heap) (hN : New w0 w (rcB b s u c v ho :: rcH c v :: (gbI (v.ht, c.tur) ++ (gbR stR 9 ho c.ords ++ Z)))) (Zf : Heap) (hZf : List.Sublist Zf Z) (hS : ∀ w9, New w0 w9 Zf → SiteAt w9 s u) (t : List UInt8) (hp : prsO t = none) :
    Calls Tryz.prog 37 #[.pointer (some ⟨b, 0, none⟩), str t] w (Post (X := HD × HD) (fun _ => .int .i64 (doI s c t)) (fun y => goI (y.1, (doC s c t).tur) ∧ goR stR y.2 (doC s c t).ords) (fun y => rcB b s u (doC s c t) { v with ht := y.1 } y.2 :: rcH (doC s c t) { v with ht := y.1 } :: (gbI (y.1, (doC s c t).tur) ++ (gbR stR 9 y.2 (doC s c t).ords ++ Z))) w0) := by
  refine callsM hN Tryz.func37 rfl (n := 79) rfl (by simp) ?_
  refine zr (za rfl (zk (zm rfl (TL.call rfl Tb.gofn_72 (fun a w hs => parse_n w (hW.new hs.new) t hp) rfl dc (fun _ _ => ?_)))))
  refine zm rfl (zq (PV.extract rfl rfl) rfl (zq (PV.extract rfl rfl) rfl (TL.alloc Tb.zero_118 rfl dc (fun b0 hb0 => ?_))))
  refine TL.storeAgg (vs := [str [], .slice none 0 0]) rfl rfl Tb.cells_118 u9z rfl rfl rfl rfl rfl ?_
  refine za rfl (zn (TC.seq (zr (zm rfl (zq (PV.not rfl) rfl (zn (TC.condT rfl (zr (za rfl (zt (TQ.thenR (TQ.retE1 rfl rfl ?_))))))))))))
  have he := do_none (s := s) (c := c) hp
  exact ⟨(v.ht, ho), by rw [he], by rw [doC_no (by rw [he]; decide)]; exact ⟨hgt, hgo⟩, by rw [doC_no (by rw [he]; decide)]; exact List.Sublist.cons _ (List.Sublist.refl _)⟩
set_option maxHeartbeats 2000000 in
theorem rDo_y (w0 w : World) (hW : WAt w0) (s : St) (hv : SV s) (u : SU) (c : Co) (v : RV) (hi : Inv s c) (b : Nat) (ho : HD) (hgt : goI (v.ht, c.tur)) (hgo : goR stR ho c.ords) (Z : Heap) (hN : New w0 w (rcB b s u c v ho :: rcH c v :: (gbI (v.ht, c.tur) ++ (gbR stR 9 ho c.ords ++ Z)))) (Zf : Heap) (hZf : List.Sublist Zf Z) (hS : ∀ w9, New w0 w9 Zf → SiteAt w9 s u) (t : List UInt8) (o : Od) (hp : prsO t = some o) :
    Calls Tryz.prog 37 #[.pointer (some ⟨b, 0, none⟩), str t] w (Post (X := HD × HD) (fun _ => .int .i64 (doI s c t)) (fun y => goI (y.1, (doC s c t).tur) ∧ goR stR y.2 (doC s c t).ords) (fun y => rcB b s u (doC s c t) { v with ht := y.1 } y.2 :: rcH (doC s c t) { v with ht := y.1 } :: (gbI (y.1, (doC s c t).tur) ++ (gbR stR 9 y.2 (doC s c t).ords ++ Z))) w0) := by
  have hol := hi.ol
  have hb := (prs_ns hp).2
  refine callsM hN Tryz.func37 rfl (n := 79) rfl (by simp) ?_
  refine zr (za rfl (zk (zm rfl (TL.call rfl Tb.gofn_72 (fun a w hs => parse_y w (hW.new hs.new) t o hp) rfl dc (fun ph hph => ?_)))))
  refine zm rfl (zq (PV.extract rfl rfl) rfl (zq (PV.extract rfl rfl) rfl (TL.alloc Tb.zero_118 rfl dc (fun b0 hb0 => ?_))))
  refine TL.storeAgg (vs := [str ((wds t).getD 0 []), gval ph o.ns.length]) rfl rfl Tb.cells_118 u9z rfl rfl (by show (true && (Value.oneCell' (gval _ _) && true)) = true; rw [gval_one]; rfl) rfl rfl ?_
  refine za rfl (zn (TC.seq (zr (zm rfl (zq (PV.not rfl) rfl (zn (TC.condF rfl (TC.skip (TQ.thenC (TC.seq (zr (zm rfl (zq (PV.nilCheck rfl) rfl (zq (PV.fieldAddr rfl Tb.fo_54_12) rfl (zq (PV.load rfl Tb.one_43 m9z rfl) rfl ?_)))))))))))))))
  refine zq (PV.lenO rfl hgo) rfl (zq (PV.geq rfl rfl) rfl (zn (TC.cd rfl (fun h100 => ?_) (fun h100 => ?_))))
  refine zr (za rfl (zt (TQ.thenR (TQ.retE1 rfl rfl ?_))))
  have he := do_full (s := s) (c := c) hp (by omega)
  exact ⟨(v.ht, ho), by rw [he], by rw [doC_no (by rw [he]; decide)]; exact ⟨hgt, hgo⟩, by rw [doC_no (by rw [he]; decide)]; exact List.Sublist.cons _ (List.sublist_append_right _ _)⟩
  refine TC.skip (TQ.thenC (zr (za rfl (zn (TC.seqK [0, 1, 4] (X := HD) (fun h => goI (h, (chgC s c o).tur)) (fun h => [(7, .int .i64 (actI s c o))]) (fun h => rcB b s u (chgC s c o) { v with ht := h } ho :: rcH (chgC s c o) { v with ht := h } :: (gbI (h, (chgC s c o).tur) ++ (gbR stR 9 ho (chgC s c o).ords ++ (Z ++ ((b0, Obj.cells #[str ((wds t).getD 0 []), gval ph o.ns.length] 118 (0, 0)) :: gbI (ph, o.ns)))))) ?_ ?_)))))
  refine TC.seq (TC.perm (G' := rcB b s u c v ho :: rcH c v :: (gbI (v.ht, c.tur) ++ (gbR stR 9 ho c.ords ++ (Z ++ ((b0, Obj.cells #[str ((wds t).getD 0 []), gval ph o.ns.length] 118 (0, 0)) :: gbI (ph, o.ns)))))) (perm_of fun c9 => by simp only [List.map_append, List.sum_append, List.map_cons, List.sum_cons]; omega) ?_)
  refine TC.region (zq (PV.fieldAddr rfl Tb.fo_118_0) rfl (zq (PV.load (v := str ((wds t).getD 0 [])) rfl Tb.one_9 m9z rfl) rfl ?_))
  refine zn (TC.block (zr (zq (PV.eqS rfl rfl) rfl (za rfl (zn (TC.cd rfl (fun h1 => ?_) (fun h1 => ?_)))))))
  obtain rfl := kd_day hp h1
  have hE0 := day_e (s := s) (c := c)
  refine TC.region (zm rfl (TL.callW (X := Unit) (fun _ => .tuple #[]) (fun h => goI (v.ht, (chgC s c ⟨0, []⟩).tur)) (fun h => rcB b s u (chgC s c ⟨0, []⟩) v ho :: rcH (chgC s c ⟨0, []⟩) v :: (gbI (v.ht, (chgC s c ⟨0, []⟩).tur) ++ (gbR stR 9 ho c.ords ++ (Z ++ ((b0, Obj.cells #[str ((wds t).getD 0 []), gval ph [].length] 118 (0, 0)) :: gbI (ph, [])))))) rfl Tb.gofn_73 (fun a w hs => rday_ok w0 w s hv u c v hi b ho hgt _ hs.new) rfl dc (fun _ hd9 => ?_)))
  refine TL.nil (TQ.blkN (TQ.thenN (TQ.midK (by first | exact hc9 | exact v.ht) (by first | exact ⟨rfl, trivial⟩ | (rw [hE0]; exact ⟨rfl, trivial⟩)) l9z (by first | (rw [hC4]; exact List.Sublist.refl _) | (rw [chg_ords]; exact List.Sublist.refl _)) hd9)))
  refine zr (zq (PV.eqS rfl rfl) rfl (za rfl (zn (TC.cd rfl (fun h2 => ?_) (fun h2 => ?_)))))
  obtain ⟨i9, rfl⟩ := kd_cut hp h2
  have hb0 : 0 ≤ i9 ∧ i9 ≤ 999 := hb 0
  refine TC.region (zm rfl (zq (PV.fieldAddr rfl Tb.fo_118_1) rfl (zq (PV.load (v := gval ph 1) rfl Tb.one_25 m9z rfl) rfl ?_)))
  refine zq (PV.indexG (h := ph) (len := 1) (ys := ival [i9]) (j := 0) rfl rfl hph Tb.elm_25 rfl dc) rfl ?_
  refine zq (PV.loadGI (y := (ph, [i9])) (j := 0) (v := i9) rfl Tb.one_3 r9z hph (show 0 < 1 by decide) rfl) rfl ?_
  refine TL.callW (X := HD) (fun _ => .int .i64 (actI s c ⟨1, [i9]⟩)) (fun h => goI (h, (chgC s c ⟨1, [i9]⟩).tur)) (fun h => rcB b s u (chgC s c ⟨1, [i9]⟩) { v with ht := h } ho :: rcH (chgC s c ⟨1, [i9]⟩) { v with ht := h } :: (gbI (h, (chgC s c ⟨1, [i9]⟩).tur) ++ (gbR stR 9 ho c.ords ++ (Z ++ ((b0, Obj.cells #[str ((wds t).getD 0 []), gval ph [i9].length] 118 (0, 0)) :: gbI (ph, [i9])))))) rfl Tb.gofn_74 (fun a w hs => rcut_ok w0 w s hv u c v hi b ho hgt _ hs.new Zf (hZf.trans ((List.sublist_append_left _ _).trans (List.sublist_append_right _ _))) hS i9 hb0) rfl dc (fun hc9 hd9 => ?_)
  refine za rfl (TL.nil (TQ.blkN (TQ.thenN (TQ.midK (by first | exact hc9 | exact v.ht) (by first | exact ⟨rfl, trivial⟩ | (rw [hE0]; exact ⟨rfl, trivial⟩)) l9z (by first | (rw [hC4]; exact List.Sublist.refl _) | (rw [chg_ords]; exact List.Sublist.refl _)) hd9))))
  refine zr (zq (PV.eqS rfl rfl) rfl (za rfl (zn (TC.cd rfl (fun h3 => ?_) (fun h3 => ?_)))))
  obtain ⟨i9, n9, rfl⟩ := kd_load hp h3
  have hb0 : 0 ≤ i9 ∧ i9 ≤ 999 := hb 0
  have hb1 : 0 ≤ n9 ∧ n9 ≤ 999 := hb 1
  refine TC.mixV [true, true, true, true, true, true, true, true, true, false, true] ((b0, Obj.cells #[str ((wds t).getD 0 []), gval ph [i9, n9].length] 118 (0, 0)) :: gbI (ph, [i9, n9])) 11 Tb.mixed rfl kr kr kr kr s9z ?_
  refine zv 0 rfl kr (PV.move rfl) rfl (zv 1 rfl kr (PV.fieldAddr rfl Tb.fo_118_1) rfl (zv 2 rfl kr (PV.load (v := gval ph 2) rfl Tb.one_25 m9z rfl) rfl ?_))
  refine zv 3 rfl kr (PV.indexG (h := ph) (len := 2) (ys := ival [i9, n9]) (j := 0) rfl rfl hph Tb.elm_25 rfl dc) rfl ?_
  refine zv 4 rfl kr (PV.loadGI (y := (ph, [i9, n9])) (j := 0) (v := i9) rfl Tb.one_3 r9z hph (show 0 < 2 by decide) rfl) rfl ?_
  refine zv 5 rfl kr (PV.fieldAddr rfl Tb.fo_118_1) rfl (zv 6 rfl kr (PV.load (v := gval ph 2) rfl Tb.one_25 m9z rfl) rfl ?_)
  refine zv 7 rfl kr (PV.indexG (h := ph) (len := 2) (ys := ival [i9, n9]) (j := 1) rfl rfl hph Tb.elm_25 rfl dc) rfl ?_
  refine zv 8 rfl kr (PV.loadGI (y := (ph, [i9, n9])) (j := 1) (v := n9) rfl Tb.one_3 r9z hph (show 1 < 2 by decide) rfl) rfl ?_
  refine TV.step [9] kr dc rfl ⟨⟨_, rfl, ?_⟩, trivial⟩
  refine TL.callW (X := Unit) (fun _ => .int .i64 (actI s c ⟨2, [i9, n9]⟩)) (fun h => goI (v.ht, (chgC s c ⟨2, [i9, n9]⟩).tur)) (fun h => rcB b s u (chgC s c ⟨2, [i9, n9]⟩) v ho :: rcH (chgC s c ⟨2, [i9, n9]⟩) v :: (gbI (v.ht, (chgC s c ⟨2, [i9, n9]⟩).tur) ++ (gbR stR 9 ho c.ords ++ (Z ++ ((b0, Obj.cells #[str ((wds t).getD 0 []), gval ph [i9, n9].length] 118 (0, 0)) :: gbI (ph, [i9, n9])))))) rfl Tb.gofn_75 (fun a w hs => rload_ok w0 w s hv u c v hi b ho hgt _ hs.new i9 n9 hb0 hb1) rfl dc (fun _ hd9 => ?_)
  refine TL.nil (TV.next (.inl s9z) ?_)
  refine zv 10 rfl kr (PV.assign rfl) rfl (TV.done kr ?_)
  refine TQ.blkN (TQ.thenN (TQ.midK (by first | exact hc9 | exact v.ht) (by first | exact ⟨rfl, trivial⟩ | (rw [hE0]; exact ⟨rfl, trivial⟩)) l9z (by first | (rw [hC4]; exact List.Sublist.refl _) | (rw [chg_ords]; exact List.Sublist.refl _)) hd9))
  refine zr (zq (PV.eqS rfl rfl) rfl (za rfl (zn (TC.cd rfl (fun h4 => ?_) (fun h4 => ?_)))))
  obtain ⟨i9, n9, rfl⟩ := kd_wet hp h4
  have hb0 : 0 ≤ i9 ∧ i9 ≤ 999 := hb 0
  have hb1 : 0 ≤ n9 ∧ n9 ≤ 999 := hb 1
  refine TC.mixV [true, true, true, true, true, true, true, true, true, false, true] ((b0, Obj.cells #[str ((wds t).getD 0 []), gval ph [i9, n9].length] 118 (0, 0)) :: gbI (ph, [i9, n9])) 11 Tb.mixed rfl kr kr kr kr s9z ?_
  refine zv 0 rfl kr (PV.move rfl) rfl (zv 1 rfl kr (PV.fieldAddr rfl Tb.fo_118_1) rfl (zv 2 rfl kr (PV.load (v := gval ph 2) rfl Tb.one_25 m9z rfl) rfl ?_))
  refine zv 3 rfl kr (PV.indexG (h := ph) (len := 2) (ys := ival [i9, n9]) (j := 0) rfl rfl hph Tb.elm_25 rfl dc) rfl ?_
  refine zv 4 rfl kr (PV.loadGI (y := (ph, [i9, n9])) (j := 0) (v := i9) rfl Tb.one_3 r9z hph (show 0 < 2 by decide) rfl) rfl ?_
  refine zv 5 rfl kr (PV.fieldAddr rfl Tb.fo_118_1) rfl (zv 6 rfl kr (PV.load (v := gval ph 2) rfl Tb.one_25 m9z rfl) rfl ?_)
  refine zv 7 rfl kr (PV.indexG (h := ph) (len := 2) (ys := ival [i9, n9]) (j := 1) rfl rfl hph Tb.elm_25 rfl dc) rfl ?_
  refine zv 8 rfl kr (PV.loadGI (y := (ph, [i9, n9])) (j := 1) (v := n9) rfl Tb.one_3 r9z hph (show 1 < 2 by decide) rfl) rfl ?_
  refine TV.step [9] kr dc rfl ⟨⟨_, rfl, ?_⟩, trivial⟩
  refine TL.callW (X := Unit) (fun _ => .int .i64 (actI s c ⟨3, [i9, n9]⟩)) (fun h => goI (v.ht, (chgC s c ⟨3, [i9, n9]⟩).tur)) (fun h => rcB b s u (chgC s c ⟨3, [i9, n9]⟩) v ho :: rcH (chgC s c ⟨3, [i9, n9]⟩) v :: (gbI (v.ht, (chgC s c ⟨3, [i9, n9]⟩).tur) ++ (gbR stR 9 ho c.ords ++ (Z ++ ((b0, Obj.cells #[str ((wds t).getD 0 []), gval ph [i9, n9].length] 118 (0, 0)) :: gbI (ph, [i9, n9])))))) rfl Tb.gofn_76 (fun a w hs => rwet_ok w0 w s hv u c v hi b ho hgt _ hs.new i9 n9 hb0 hb1) rfl dc (fun _ hd9 => ?_)
  refine TL.nil (TV.next (.inl s9z) ?_)
  refine zv 10 rfl kr (PV.assign rfl) rfl (TV.done kr ?_)
  refine TQ.blkN (TQ.thenN (TQ.midK (by first | exact hc9 | exact v.ht) (by first | exact ⟨rfl, trivial⟩ | (rw [hE0]; exact ⟨rfl, trivial⟩)) l9z (by first | (rw [hC4]; exact List.Sublist.refl _) | (rw [chg_ords]; exact List.Sublist.refl _)) hd9))
  obtain rfl := kd_shut hp h1 h2 h3 h4
  refine TC.seq (zr (zm rfl (zq (PV.nilCheck rfl) rfl (zq (PV.fieldAddr rfl Tb.fo_54_11) rfl (zq (PV.load rfl Tb.one_4 m9z rfl) rfl ?_)))))
  refine zn (TC.cd rfl (fun hsh => ?_) (fun hsh => ?_))
  refine zr (za rfl (zt (TQ.thenR (TQ.blkR (TQ.thenR (TQ.retE1 rfl rfl ?_))))))
  have he : doI s c t = 5 := by rw [do_some hp (by omega), shut_e, if_pos hsh]
  exact ⟨(v.ht, ho), by rw [he], by rw [doC_no (by rw [he]; decide)]; exact ⟨hgt, hgo⟩, by rw [doC_no (by rw [he]; decide)]; exact (List.Sublist.cons_cons _ (List.Sublist.cons_cons _ (List.Sublist.append_left (List.Sublist.append_left (List.sublist_append_left _ _) _) _)))⟩
  have hE0 : actI s c ⟨4, []⟩ = 0 := by rw [shut_e, if_neg (by rw [hsh]; decide)]
  have hC4 := (chg_yes (s := s) (c := c) (o := ⟨4, []⟩) hE0).trans shut_c
  have hd9 : goI (v.ht, (chgC s c ⟨4, []⟩).tur) := by rw [hC4]; exact hgt
  refine TC.skip (TQ.thenC (TC.region (zm rfl (zq (PV.nilCheck rfl) rfl (zq (PV.fieldAddr rfl Tb.fo_54_11) rfl (TL.store rfl rfl Tb.cells_4 rfl u9z d9z rfl rfl ?_))))))
  refine TL.nil (TQ.blkN (TQ.thenN (TQ.midK (by first | exact hc9 | exact v.ht) (by first | exact ⟨rfl, trivial⟩ | (rw [hE0]; exact ⟨rfl, trivial⟩)) l9z (by first | (rw [hC4]; exact List.Sublist.refl _) | (rw [chg_ords]; exact List.Sublist.refl _)) hd9)))
  intro h hh
  refine TC.seq (TC.seq ?_)
  have hgo2 : goR stR ho (chgC s c o).ords := by rw [chg_ords]; exact hgo
  have hol2 : (chgC s c o).ords.length ≤ 100 := by rw [chg_ords]; exact hol
  refine TC.region (zm rfl (zq (PV.eql rfl rfl) rfl (zn (TC.cd rfl (fun hz => ?_) (fun hz => ?_)))))
  refine TC.region (zm rfl (zm rfl (zq (PV.nilCheck rfl) rfl (zq (PV.fieldAddr rfl Tb.fo_54_12) rfl (zq (PV.load (v := gval ho (chgC s c o).ords.length) rfl Tb.one_43 m9z rfl) rfl ?_)))))
  refine zm rfl (TL.buildSlice (cs := #[str t]) rfl Tb.sl_43 Tb.zi_9 dc (fill_s t) dc rfl dc (fun bI hbI => ?_))
  refine TL.appendRec (R := stR) (h0 := ho) (ys := (chgC s c o).ords) (r := t) Tb.sl_43 Tb.zi_9 rfl rfl rfl m9z hgo2 h9z om om rfl dc (fun h9 ho9 => ?_)
  refine zq (PV.nilCheck rfl) rfl (zq (PV.fieldAddr rfl Tb.fo_54_12) rfl (TL.store rfl rfl Tb.cells_43 (gval_one _ _) u9z e9z rfl rfl ?_))
  refine zn (TC.seq ?_)
  first | refine TC.perm (G' := (b, Obj.cells (rcL s u (chgC s c o) { v with ht := h } (gval h9 ((chgC s c o).ords ++ [t]).length)).toArray 54 (0, 0)) :: rcH (chgC s c o) { v with ht := h } :: (gbI (h, (chgC s c o).tur) ++ (gbR stR 9 h9 ((chgC s c o).ords ++ [t]) ++ (Z ++ ((bI, Obj.cells #[str t] 9 (0, 0)) :: ((b0, Obj.cells #[str ((wds t).getD 0 []), gval ph o.ns.length] 118 (0, 0)) :: gbI (ph, o.ns))))))) (perm_of fun c9 => by rw [show (rcL s u (chgC s c o) { v with ht := h } (gval ho (chgC s c o).ords.length)).toArray.setIfInBounds (0 + 15) (gval h9 ((chgC s c o).ords ++ [t]).length) = (rcL s u (chgC s c o) { v with ht := h } (gval h9 ((chgC s c o).ords ++ [t]).length)).toArray from rfl]; simp only [List.map_append, List.sum_append, List.map_cons, List.sum_cons]; omega) ?_ | skip
  refine TC.region (zm rfl (za rfl (zt (TQ.retE1 rfl rfl ?_))))
  have he : doI s c t = 0 := by rw [do_some hp (by omega)]; exact hz
  have hD := do_chg (s := s) (c := c) hp (by omega) hz
  exact ⟨(h, h9), by rw [he]; exact congrArg (fun z => Value.int .i64 z) hz, by rw [hD]; exact ⟨hh, ho9⟩, by rw [hD]; exact (List.Sublist.cons_cons _ (List.Sublist.cons_cons _ (List.Sublist.append_left (List.Sublist.append_left (List.sublist_append_left _ _) _) _)))⟩
  refine TC.skip (TQ.thenC (TC.seq ?_))
  first | refine TC.perm (G' := (b, Obj.cells (rcL s u (chgC s c o) { v with ht := h } (gval h9 ((chgC s c o).ords ++ [t]).length)).toArray 54 (0, 0)) :: rcH (chgC s c o) { v with ht := h } :: (gbI (h, (chgC s c o).tur) ++ (gbR stR 9 h9 ((chgC s c o).ords ++ [t]) ++ (Z ++ ((bI, Obj.cells #[str t] 9 (0, 0)) :: ((b0, Obj.cells #[str ((wds t).getD 0 []), gval ph o.ns.length] 118 (0, 0)) :: gbI (ph, o.ns))))))) (perm_of fun c9 => by rw [show (rcL s u (chgC s c o) { v with ht := h } (gval ho (chgC s c o).ords.length)).toArray.setIfInBounds (0 + 15) (gval h9 ((chgC s c o).ords ++ [t]).length) = (rcL s u (chgC s c o) { v with ht := h } (gval h9 ((chgC s c o).ords ++ [t]).length)).toArray from rfl]; simp only [List.map_append, List.sum_append, List.map_cons, List.sum_cons]; omega) ?_ | skip
  refine TC.region (zm rfl (za rfl (zt (TQ.retE1 rfl rfl ?_))))
  have he : doI s c t = actI s c o := do_some hp (by omega)
  have hD : doC s c t = c := doC_no (by rw [he]; exact hz)
  have hC := chg_no (s := s) (c := c) (o := o) hz
  rw [hC] at hh
  exact ⟨(h, ho), by rw [he], by rw [hD]; exact ⟨hh, hgo⟩, by rw [hD, hC]; exact (List.Sublist.cons_cons _ (List.Sublist.cons_cons _ (List.Sublist.append_left (List.Sublist.append_left (List.sublist_append_left _ _) _) _)))⟩
end Go.Proofs.YtbnjmkidbfmomaaGreatDoor
namespace Go.Proofs.YtbnjmkidbfmomaaGreatDoor
open Go.Sx Go.RowKit Go.Bt Go.Lib Go.Sand
structure FV where
  p : Option Addr
  cp : Nat
  q : Option Addr
  cq : Nat
  r : Option Addr
  cr : Nat
abbrev fmL (s : St) (f : FV) : List Value := [.slice f.p s.W.length f.cp, .slice f.q s.K.length f.cq, .slice f.r s.g.length f.cr, .int .i64 s.need]
structure FmAt (w : World) (s : St) (f : FV) : Prop where
  lw : LsAt w f.p s.W
  lk : LsAt w f.q s.K
  lg : IntsAt w f.r s.g
  lc : C.CapsAt w f.p s.W
theorem caps_new {w0 w : World} {G : Heap} {p : Option Addr} {W : List (List Int)} (h : LsAt w0 p W) (hc : C.CapsAt w0 p W) (hn : New w0 w G) : C.CapsAt w p W := fun j hj q pj cj l hp hq => by
  obtain ⟨q', hq', pj', cj', h1, _⟩ := h j hj
  rw [hq'] at hp
  obtain rfl := Option.some.inj hp
  have h2 := hn.old h1
  rw [h2] at hq
  simp only [Option.some.injEq, Value.slice.injEq] at hq
  obtain ⟨rfl, rfl, rfl⟩ := hq
  exact hc j hj q' pj' cj' _ hq' h1
theorem FmAt.new {w0 w : World} {G : Heap} {s : St} {f : FV} (h : FmAt w0 s f) (hn : New w0 w G) : FmAt w s f := ⟨h.lw.new hn, h.lk.new hn, h.lg.new hn, caps_new h.lw h.lc hn⟩
noncomputable abbrev St.newI (s : St) : Int := Proofs.YtbnjmkidbfmomaaGreatDoor.newI s.W s.K s.g s.need
abbrev St.large (s : St) : Bool := largeB s.W s.K s.g
section
variable {w0 w : World} {s : St} {c : Co} {b b' : Nat} {p : CP} {R : Heap} {f : FV}
theorem lg_k (hl : s.large = false) (k : Nat) : (s.K.getD k []).length ≤ 1000000 := by have := (large_no hl).2.2.2.2 k; omega
theorem lg_g (hl : s.large = false) : s.g.length ≤ 1000000 := by have := (large_no hl).2.2.1; omega
theorem New_se (hf : FmAt w s f) (hl : s.large = false) (he : s.newI ≠ 0) :
    Calls Tryz.prog 59 #[.agg #[.slice f.p s.W.length f.cp], .agg #[.slice f.q s.K.length f.cq, .slice f.r s.g.length f.cr], .int .i64 s.need] w (Post (X := Unit) (fun _ => .tuple #[.pointer none, .int .i64 s.newI]) (fun _ => True) (fun _ => []) w) :=
  New_e w f.p f.cp s.W hf.lw f.q f.cq s.K hf.lk (lg_k hl) f.r f.cr s.g hf.lg (lg_g hl) s.need he
theorem rNew_se (hf : FmAt w s f) (hl : s.large = false) (he : s.newI ≠ 0) :
    Calls Tryz.prog 51 #[.agg #[.slice f.p s.W.length f.cp], .agg #[.slice f.q s.K.length f.cq, .slice f.r s.g.length f.cr], .int .i64 s.need] w (Post (X := Unit) (fun _ => .tuple #[.pointer none, .int .i64 s.newI]) (fun _ => True) (fun _ => []) w) :=
  rNew_e w f.p f.cp s.W hf.lw f.q f.cq s.K hf.lk (lg_k hl) f.r f.cr s.g hf.lg (lg_g hl) s.need he
theorem New_s (hN : New w0 w R) (hf : FmAt w s f) (hl : s.large = false) (he : s.newI = 0) :
    Calls Tryz.prog 59 #[.agg #[.slice f.p s.W.length f.cp], .agg #[.slice f.q s.K.length f.cq, .slice f.r s.g.length f.cr], .int .i64 s.need] w (Post (X := Nat × CP) (fun y => .tuple #[pt y.1, .int .i64 0]) (fun y => CPk w0 s (co0 s) y.2) (fun y => hp0 s (co0 s) y.1 y.2 ++ R) w0) :=
  New_p w0 w R hN f.p f.cp s.W hf.lw f.q f.cq s.K hf.lk (lg_k hl) f.r f.cr s.g hf.lg (lg_g hl) s.need he
structure RQ where
  u : SU
  v : RV
  ho : HD
  Z : Heap
def hq0 (s : St) (c : Co) (b : Nat) (q : RQ) : Heap := rcB b s q.u c q.v q.ho :: rcH c q.v :: (gbI (q.v.ht, c.tur) ++ (gbR stR 9 q.ho c.ords ++ q.Z))
structure RQk (w0 : World) (s : St) (c : Co) (q : RQ) : Prop where
  gt : goI (q.v.ht, c.tur)
  go : goR stR q.ho c.ords
  site : ∀ w9, New w0 w9 q.Z → SiteAt w9 s q.u
theorem hq0_r (s : St) (c : Co) (b : Nat) (q : RQ) (R : Heap) : hq0 s c b q ++ R = rcB b s q.u c q.v q.ho :: rcH c q.v :: (gbI (q.v.ht, c.tur) ++ (gbR stR 9 q.ho c.ords ++ (q.Z ++ R))) := by
  simp only [hq0, List.cons_append, List.append_assoc]
theorem rNew_s (hN : New w0 w R) (hf0 : FmAt w0 s f) (hl : s.large = false) (he : s.newI = 0) :
    Calls Tryz.prog 51 #[.agg #[.slice f.p s.W.length f.cp], .agg #[.slice f.q s.K.length f.cq, .slice f.r s.g.length f.cr], .int .i64 s.need] w (Post (X := Nat × RQ) (fun y => .tuple #[pt y.1, .int .i64 0]) (fun y => RQk w0 s (co0 s) y.2) (fun y => hq0 s (co0 s) y.1 y.2 ++ R) w0) :=
  have hf := hf0.new hN
  (rNew_y w f.p f.cp s.W hf.lw f.q f.cq s.K hf.lk (lg_k hl) f.r f.cr s.g hf.lg (lg_g hl) s.need he).mono fun _ _ ⟨y, e1, e2, e3⟩ => ⟨(y.1, ⟨y.2.1, y.2.2.1, none, y.2.2.2⟩), e1, ⟨e2.1, ⟨rfl, rfl⟩, fun w9 hn => e2.2 w0 w9 hn (hf0.lk.new hn) (hf0.lg.new hn)⟩, hN.trans e3⟩
variable {q : RQ}
theorem Do_q (hW : WAt w0) (hv : SV s) (hi : Inv s c) (hk : RQk w0 s c q) (hN : New w0 w (hq0 s c b q ++ R)) (t : List UInt8) :
    Calls Tryz.prog 37 #[pt b, str t] w (Post (X := RQ) (fun _ => .int .i64 (doI s c t)) (fun q' => RQk w0 s (doC s c t) q') (fun q' => hq0 s (doC s c t) b q' ++ R) w0) := by
  rw [hq0_r] at hN
  have h : Calls Tryz.prog 37 #[pt b, str t] w (Post (X := HD × HD) (fun _ => .int .i64 (doI s c t)) (fun y => goI (y.1, (doC s c t).tur) ∧ goR stR y.2 (doC s c t).ords) (fun y => rcB b s q.u (doC s c t) { q.v with ht := y.1 } y.2 :: rcH (doC s c t) { q.v with ht := y.1 } :: (gbI (y.1, (doC s c t).tur) ++ (gbR stR 9 y.2 (doC s c t).ords ++ (q.Z ++ R)))) w0) := by
    cases hp : prsO t with
    | none => exact rDo_n w0 w hW s hv q.u c q.v hi b q.ho hk.gt hk.go _ hN q.Z (List.sublist_append_left _ _) hk.site t hp
    | some o => exact rDo_y w0 w hW s hv q.u c q.v hi b q.ho hk.gt hk.go _ hN q.Z (List.sublist_append_left _ _) hk.site t o hp
  exact h.mono fun _ _ ⟨y, e1, e2, e3⟩ => ⟨⟨q.u, { q.v with ht := y.1 }, y.2, q.Z⟩, e1, ⟨e2.1, e2.2, hk.site⟩, by
    show New w0 _ (hq0 s (doC s c t) b ⟨q.u, { q.v with ht := y.1 }, y.2, q.Z⟩ ++ R); rw [hq0_r]; exact e3⟩
theorem Do_q2 {A : Heap} (hW : WAt w0) (hv : SV s) (hi : Inv s c) (hk : RQk w0 s c q) (hN : New w0 w (A ++ (hq0 s c b q ++ R))) (t : List UInt8) :
    Calls Tryz.prog 37 #[pt b, str t] w (Post (X := RQ) (fun _ => .int .i64 (doI s c t)) (fun q' => RQk w0 s (doC s c t) q') (fun q' => A ++ (hq0 s (doC s c t) b q' ++ R)) w0) :=
  calls_swap (Do_q hW hv hi hk (New.swap hN) t)
theorem same5_is (w : World) (p1 : Option Addr) (c1 : Nat) (xs : List Int) (hx : IntsAt w p1 xs) (p2 : Option Addr) (c2 : Nat) (hy : IntsAt w p2 xs) (hl : xs.length ≤ 1000000) :
    Calls Tryz.prog 60 #[.slice p1 xs.length c1, .slice p2 xs.length c2] w (Post (X := Unit) (fun _ => .bool true) (fun _ => True) (fun _ => []) w) := by
  have h := same5_ok w p1 c1 xs hx p2 c2 xs hy hl hl
  rw [decide_eq_true rfl] at h
  exact h
end
section
variable {n : Nat} {w0 : World} {E : Env} {G : Heap} {d : Option Nat} {ty : TypeId} {pos : String} {aft : Array Edge} {g : Option (Nat × Bool)}
theorem PV.neqPtr {x : Operand} {a : Option Addr} {t' : TypeId} (hx : evo E x = some (.pointer a)) : PV Tryz.prog n w0 E G ⟨d, .binOp .neq 30 x (.const (.pointer none)) t', ty, pos, aft, g⟩ (.bool a.isSome) :=
  PV.cmp hx rfl (fun w => by cases a <;> (cases x <;> rfl)) (fun w => by cases a <;> kernel_rfl)
end
theorem Begin_e (w0 : World) (hW : WAt w0) (s : St) (f : FV) (hf : FmAt w0 s f) (hlg : s.large = false) (he : s.newI ≠ 0) :
    Calls Tryz.prog 32 #[.agg (fmL s f).toArray] w0 (Post (X := Unit) (fun _ => .tuple #[.pointer none, .pointer none, .bool false]) (fun _ => True) (fun _ => []) w0) := by
  refine calls Tryz.func32 rfl (n := 41) rfl (by simp) ?_
  refine zr (TL.box rfl rfl dc (fun b0 hb0 => ?_))
  refine za rfl (za rfl (za rfl (zk (zq (PV.fieldAddr rfl Tb.fo_29_0) rfl (zq (PV.loadMid (cs := fmL s f) (off := 0) (k := 1) (vs := [.slice f.p s.W.length f.cp]) rfl Tb.agg_24 m9z rfl rfl) rfl ?_)))))
  refine zq (PV.fieldAddr rfl Tb.fo_29_1) rfl (zq (PV.loadMid (cs := fmL s f) (off := 1) (k := 2) (vs := [.slice f.q s.K.length f.cq, .slice f.r s.g.length f.cr]) rfl Tb.agg_27 m9z rfl rfl) rfl ?_)
  refine zq (PV.fieldAddr rfl Tb.fo_29_2) rfl (zq (PV.load (v := .int .i64 s.need) rfl Tb.one_3 m9z rfl) rfl ?_)
  refine TL.call rfl Tb.gofn_59 (fun a w hs => New_se (hf.new hs.new) hlg he) rfl dc (fun _ _ => ?_)
  refine zm rfl (zq (PV.extract rfl rfl) rfl (zq (PV.extract rfl rfl) rfl (za rfl (za rfl (zk (zq (PV.fieldAddr rfl Tb.fo_29_0) rfl (zq (PV.loadMid (cs := fmL s f) (off := 0) (k := 1) (vs := [.slice f.p s.W.length f.cp]) rfl Tb.agg_24 m9z rfl rfl) rfl ?_)))))))
  refine zq (PV.fieldAddr rfl Tb.fo_29_1) rfl (zq (PV.loadMid (cs := fmL s f) (off := 1) (k := 2) (vs := [.slice f.q s.K.length f.cq, .slice f.r s.g.length f.cr]) rfl Tb.agg_27 m9z rfl rfl) rfl ?_)
  refine zq (PV.fieldAddr rfl Tb.fo_29_2) rfl (zq (PV.load (v := .int .i64 s.need) rfl Tb.one_3 m9z rfl) rfl ?_)
  refine TL.call rfl Tb.gofn_51 (fun a w hs => rNew_se (hf.new hs.new) hlg he) rfl dc (fun _ _ => ?_)
  refine zm rfl (zq (PV.extract rfl rfl) rfl (zq (PV.extract rfl rfl) rfl (za rfl (za rfl (zk (zm rfl (zm rfl (zm rfl (zq (PV.no (PV.eql rfl rfl) he) rfl (zm rfl (zx rfl (zx rfl (zq (PV.pickF rfl rfl) rfl (zm rfl (zx rfl (zx rfl (zq (PV.pickF rfl rfl) rfl (za rfl (za rfl (za rfl (zt (TQ.retE3 rfl rfl rfl rfl ?_))))))))))))))))))))))
  exact ⟨(), rfl, trivial, nils⟩
theorem Begin_y (w0 w : World) (G0 : Heap) (hN : New w0 w G0) (hW : WAt w0) (s : St) (f : FV) (hf : FmAt w0 s f) (hlg : s.large = false) (he : s.newI = 0) :
    Calls Tryz.prog 32 #[.agg (fmL s f).toArray] w (Post (X := (Nat × CP) × Nat × RQ) (fun y => .tuple #[pt y.1.1, pt y.2.1, .bool true]) (fun y => CPk w0 s (co0 s) y.1.2 ∧ RQk w0 s (co0 s) y.2.2) (fun y => hp0 s (co0 s) y.1.1 y.1.2 ++ (hq0 s (co0 s) y.2.1 y.2.2 ++ G0)) w0) := by
  refine callsM hN Tryz.func32 rfl (n := 41) rfl (by simp) ?_
  refine zr (TL.box rfl rfl dc (fun b0 hb0 => ?_))
  refine za rfl (za rfl (za rfl (zk (zq (PV.fieldAddr rfl Tb.fo_29_0) rfl (zq (PV.loadMid (cs := fmL s f) (off := 0) (k := 1) (vs := [.slice f.p s.W.length f.cp]) rfl Tb.agg_24 m9z rfl rfl) rfl ?_)))))
  refine zq (PV.fieldAddr rfl Tb.fo_29_1) rfl (zq (PV.loadMid (cs := fmL s f) (off := 1) (k := 2) (vs := [.slice f.q s.K.length f.cq, .slice f.r s.g.length f.cr]) rfl Tb.agg_27 m9z rfl rfl) rfl ?_)
  refine zq (PV.fieldAddr rfl Tb.fo_29_2) rfl (zq (PV.load (v := .int .i64 s.need) rfl Tb.one_3 m9z rfl) rfl ?_)
  refine TL.callW (X := Nat × CP) (fun y => .tuple #[pt y.1, .int .i64 0]) (fun y => CPk w0 s (co0 s) y.2) (fun y => hp0 s (co0 s) y.1 y.2 ++ ((b0, Obj.cells (fmL s f).toArray 29 (0, 0)) :: G0)) rfl Tb.gofn_59 (fun a w hs => New_s hs.new (hf.new hs.new) hlg he) rfl dc (fun y hy => ?_)
  refine zm rfl (zq (PV.extract rfl rfl) rfl (zq (PV.extract rfl rfl) rfl (za rfl (za rfl (zk (zq (PV.fieldAddr rfl Tb.fo_29_0) rfl (zq (PV.loadMid (cs := fmL s f) (off := 0) (k := 1) (vs := [.slice f.p s.W.length f.cp]) rfl Tb.agg_24 m9z rfl rfl) rfl ?_)))))))
  refine zq (PV.fieldAddr rfl Tb.fo_29_1) rfl (zq (PV.loadMid (cs := fmL s f) (off := 1) (k := 2) (vs := [.slice f.q s.K.length f.cq, .slice f.r s.g.length f.cr]) rfl Tb.agg_27 m9z rfl rfl) rfl ?_)
  refine zq (PV.fieldAddr rfl Tb.fo_29_2) rfl (zq (PV.load (v := .int .i64 s.need) rfl Tb.one_3 m9z rfl) rfl ?_)
  refine TL.callW (X := Nat × RQ) (fun z => .tuple #[pt z.1, .int .i64 0]) (fun z => RQk w0 s (co0 s) z.2) (fun z => hq0 s (co0 s) z.1 z.2 ++ (hp0 s (co0 s) y.1 y.2 ++ ((b0, Obj.cells (fmL s f).toArray 29 (0, 0)) :: G0))) rfl Tb.gofn_51 (fun a w hs => rNew_s hs.new hf hlg he) rfl dc (fun z hz => ?_)
  refine zm rfl (zq (PV.extract rfl rfl) rfl (zq (PV.extract rfl rfl) rfl (za rfl (za rfl (zn (TC.seq (TC.perm (G' := hp0 s (co0 s) y.1 y.2 ++ (hq0 s (co0 s) z.1 z.2 ++ ((b0, Obj.cells (fmL s f).toArray 29 (0, 0)) :: G0))) (List.perm_append_comm_assoc _ _ _) ?_)))))))
  refine TC.region (zm rfl (zm rfl (zm rfl (zq (PV.yes (PV.eql rfl rfl) rfl) rfl (zm rfl (zm rfl (zq (PV.yes (PV.eql rfl rfl) rfl) rfl (zq (PV.pickT rfl rfl) rfl (zm rfl (zm rfl (zq (PV.neqPtr rfl) rfl (zq (PV.pickT rfl rfl) rfl (za rfl (za rfl (za rfl (zt (TQ.retE3 rfl rfl rfl rfl ?_)))))))))))))))))
  exact ⟨(y, z), rfl, ⟨hy, hz⟩, List.Sublist.append_left (List.Sublist.append_left (List.sublist_cons_self _ _) _) _⟩
theorem failed_ok (w0 : World) (hW : WAt w0) (s : St) (f : FV) (hf : FmAt w0 s f) (hlg : s.large = false) (he : s.newI ≠ 0) :
    Calls Tryz.prog 33 #[.agg (fmL s f).toArray] w0 (Post (X := Unit) (fun _ => .bool true) (fun _ => True) (fun _ => []) w0) := by
  refine calls Tryz.func33 rfl (n := 37) rfl (by simp) ?_
  refine zr (TL.box rfl rfl dc (fun b0 hb0 => ?_))
  refine za rfl (zk (zq (PV.fieldAddr rfl Tb.fo_29_0) rfl (zq (PV.loadMid (cs := fmL s f) (off := 0) (k := 1) (vs := [.slice f.p s.W.length f.cp]) rfl Tb.agg_24 m9z rfl rfl) rfl ?_)))
  refine zq (PV.fieldAddr rfl Tb.fo_29_1) rfl (zq (PV.loadMid (cs := fmL s f) (off := 1) (k := 2) (vs := [.slice f.q s.K.length f.cq, .slice f.r s.g.length f.cr]) rfl Tb.agg_27 m9z rfl rfl) rfl ?_)
  refine zq (PV.fieldAddr rfl Tb.fo_29_2) rfl (zq (PV.load (v := .int .i64 s.need) rfl Tb.one_3 m9z rfl) rfl ?_)
  refine TL.call rfl Tb.gofn_59 (fun a w hs => New_se (hf.new hs.new) hlg he) rfl dc (fun _ _ => ?_)
  refine zm rfl (zq (PV.extract rfl rfl) rfl (zq (PV.extract rfl rfl) rfl (za rfl (za rfl (zk (zq (PV.fieldAddr rfl Tb.fo_29_0) rfl (zq (PV.loadMid (cs := fmL s f) (off := 0) (k := 1) (vs := [.slice f.p s.W.length f.cp]) rfl Tb.agg_24 m9z rfl rfl) rfl ?_)))))))
  refine zq (PV.fieldAddr rfl Tb.fo_29_1) rfl (zq (PV.loadMid (cs := fmL s f) (off := 1) (k := 2) (vs := [.slice f.q s.K.length f.cq, .slice f.r s.g.length f.cr]) rfl Tb.agg_27 m9z rfl rfl) rfl ?_)
  refine zq (PV.fieldAddr rfl Tb.fo_29_2) rfl (zq (PV.load (v := .int .i64 s.need) rfl Tb.one_3 m9z rfl) rfl ?_)
  refine TL.call rfl Tb.gofn_51 (fun a w hs => rNew_se (hf.new hs.new) hlg he) rfl dc (fun _ _ => ?_)
  refine zm rfl (zq (PV.extract rfl rfl) rfl (zq (PV.extract rfl rfl) rfl (za rfl (za rfl (zk (zm rfl (zm rfl (zq (PV.yes (PV.eql rfl rfl) rfl) rfl (zm rfl (zm rfl (zq (PV.yes (PV.neq rfl rfl) he) rfl (zq (PV.pickT rfl rfl) rfl (zm rfl (TL.call rfl Tb.gofn_31 (fun a w hs => sane_ok w (hW.new hs.new)) rfl dc (fun _ _ => ?_)))))))))))))))
  refine zq (PV.pickT rfl rfl) rfl (za rfl (zt (TQ.retE1 rfl rfl ?_)))
  exact ⟨(), rfl, trivial, nils⟩
set_option maxHeartbeats 4000000 in
theorem Equal_ok {w0 w : World} (hW : WAt w0) {s : St} (hv : SV s) {c : Co} (hi : Inv s c) {p : CP} (hk : CPk w0 s c p) {q : RQ} (hq : RQk w0 s c q) {b b2 : Nat} {R : Heap} (hN : New w0 w (hp0 s c b p ++ (hq0 s c b2 q ++ R))) :
    Calls Tryz.prog 34 #[pt b, pt b2] w (Post (X := Unit) (fun _ => .bool true) (fun _ => True) (fun _ => hp0 s c b p ++ (hq0 s c b2 q ++ R)) w0) := by
  have h5 := hv.n5
  have hhl := hi.hl
  have htl := hi.tl' hv
  have hol := hi.ol
  refine callsM hN Tryz.func34 rfl (n := 94) rfl (by simp) ?_
  refine zr (za rfl (zn (TC.seq (TC.congrG (G' := hp0 s c b p ++ (rcB b2 s q.u c q.v q.ho :: rcH c q.v :: (gbI (q.v.ht, c.tur) ++ (gbR stR 9 q.ho c.ords ++ (q.Z ++ R))))) (by rw [hq0_r]) ?_))))
  refine TC.mixV [true, false, true, true, true, true, true, true, true, false, true, true, true, true, false, true, true, true, false, true, true, true, true, false, true, true, true, false, true, true, true, true, true, true, true, true, false, true, true, true, true, true, true, true, true, false, true, true, true, true, true, true, true, true, false, true, true, true, true, true, true, true, true, false, true, true, true, true, true, true, true, true, false, true, true, true, true, true, true, true, true, false, true, true, true, true, false, true, true, true] [rcB b2 s q.u c q.v q.ho] 90 Tb.mixed rfl kr kr kr kr s9z ?_
  refine zv 0 rfl kr (PV.move rfl) rfl (zv 2 rfl kr (PV.move rfl) rfl (zv 3 rfl kr (PV.nilCheck rfl) rfl (zv 4 rfl kr (PV.fieldAddr rfl Tb.fo_54_3) rfl (zv 5 rfl kr (PV.load (v := .int .i64 c.day) rfl Tb.one_3 m9z rfl) rfl ?_))))
  refine TV.step [1] kr dc rfl ⟨⟨_, rfl, ?_⟩, trivial⟩
  refine TL.callW (X := Unit) (fun _ => .int .i64 c.day) (fun _ => True) (fun _ => hp0 s c b p ++ (rcB b2 s q.u c q.v q.ho :: rcH c q.v :: (gbI (q.v.ht, c.tur) ++ (gbR stR 9 q.ho c.ords ++ (q.Z ++ R))))) rfl Tb.gofn_19 (fun a w hs => Day_p hv hs.new) rfl dc (fun _ _ => ?_)
  refine TL.nil (TV.next (.inl s9z) ?_)
  refine zv 6 rfl kr (PV.yes (PV.eql rfl rfl) rfl) rfl (zv 7 rfl kr (PV.move rfl) rfl (zv 8 rfl kr (PV.move rfl) rfl (zv 10 rfl kr (PV.move rfl) rfl (zv 11 rfl kr (PV.nilCheck rfl) rfl (zv 12 rfl kr (PV.fieldAddr rfl Tb.fo_54_9) rfl (zv 13 rfl kr (PV.load (v := .slice (some ⟨q.v.bh, 0, none⟩) c.hol.length c.hol.length) rfl Tb.one_25 m9z rfl) rfl ?_))))))
  refine TV.step [9] kr dc rfl ⟨⟨_, rfl, ?_⟩, trivial⟩
  refine TL.callW (X := HD) (fun h => .slice (gp h) c.hol.length (gc h)) (fun h => goI (h, c.hol)) (fun h => gbI (h, c.hol) ++ (hp0 s c b p ++ (rcB b2 s q.u c q.v q.ho :: rcH c q.v :: (gbI (q.v.ht, c.tur) ++ (gbR stR 9 q.ho c.ords ++ (q.Z ++ R)))))) rfl Tb.gofn_25 (fun a w hs => Hollow_p hv hi hk hs.new) rfl dc (fun h1 hh1 => ?_)
  refine TL.nil (TV.next (.inl s9z) ?_)
  refine TV.step [14] kr dc rfl ⟨⟨_, rfl, ?_⟩, trivial⟩
  refine TL.call rfl Tb.gofn_60 (fun a w hs => same5_is w _ _ c.hol (IntsAt.g (x := (h1, c.hol)) hs.new r9z hh1) _ _ (IntsAt.arr hs.new m9z) om) rfl dc (fun _ _ => ?_)
  refine TL.nil (TV.next (.inl s9z) ?_)
  refine zv 15 rfl kr (PV.pickT rfl rfl) rfl (zv 16 rfl kr (PV.move rfl) rfl (zv 17 rfl kr (PV.move rfl) rfl (zv 19 rfl kr (PV.move rfl) rfl (zv 20 rfl kr (PV.nilCheck rfl) rfl (zv 21 rfl kr (PV.fieldAddr rfl Tb.fo_54_10) rfl (zv 22 rfl kr (PV.load (v := .slice (gp q.v.ht) c.tur.length (gc q.v.ht)) rfl Tb.one_25 m9z rfl) rfl ?_))))))
  refine TV.step [18] kr dc rfl ⟨⟨_, rfl, ?_⟩, trivial⟩
  refine TL.callW (X := HD) (fun h => .slice (gp h) c.tur.length (gc h)) (fun h => goI (h, c.tur)) (fun h => gbI (h, c.tur) ++ (hp0 s c b p ++ (rcB b2 s q.u c q.v q.ho :: rcH c q.v :: (gbI (q.v.ht, c.tur) ++ (gbR stR 9 q.ho c.ords ++ (q.Z ++ R)))))) rfl Tb.gofn_26 (fun a w hs => Turves_p hv hi hk (hs.new.sub (List.sublist_append_right _ _))) rfl dc (fun h2 hh2 => ?_)
  refine TL.nil (TV.next (.inl s9z) ?_)
  refine TV.step [23] kr dc rfl ⟨⟨_, rfl, ?_⟩, trivial⟩
  refine TL.call rfl Tb.gofn_60 (fun a w hs => same5_is w _ _ c.tur (IntsAt.g (x := (h2, c.tur)) hs.new r9z hh2) _ _ (IntsAt.g (x := (q.v.ht, c.tur)) hs.new r9z hq.gt) om) rfl dc (fun _ _ => ?_)
  refine TL.nil (TV.next (.inl s9z) ?_)
  refine zv 24 rfl kr (PV.pickT rfl rfl) rfl (zv 25 rfl kr (PV.move rfl) rfl (zv 26 rfl kr (PV.move rfl) rfl (zv 28 rfl kr (PV.move rfl) rfl (zv 29 rfl kr (PV.nilCheck rfl) rfl (zv 30 rfl kr (PV.fieldAddr rfl Tb.fo_54_4) rfl (zv 31 rfl kr (PV.load (v := .int .i64 (c.wet : Nat)) rfl Tb.one_3 m9z rfl) rfl ?_))))))
  refine TV.step [27] kr dc rfl ⟨⟨_, rfl, ?_⟩, trivial⟩
  refine TL.callW (X := Unit) (fun _ => .int .i64 (c.wet : Nat)) (fun _ => True) (fun _ => hp0 s c b p ++ (rcB b2 s q.u c q.v q.ho :: rcH c q.v :: (gbI (q.v.ht, c.tur) ++ (gbR stR 9 q.ho c.ords ++ (q.Z ++ R))))) rfl Tb.gofn_20 (fun a w hs => Wet_p hv (hs.new.sub (List.sublist_append_right _ _))) rfl dc (fun _ _ => ?_)
  refine TL.nil (TV.next (.inl s9z) ?_)
  refine zv 32 rfl kr (PV.yes (PV.eql rfl rfl) rfl) rfl (zv 33 rfl kr (PV.pickT rfl rfl) rfl (zv 34 rfl kr (PV.move rfl) rfl (zv 35 rfl kr (PV.move rfl) rfl (zv 37 rfl kr (PV.move rfl) rfl (zv 38 rfl kr (PV.nilCheck rfl) rfl (zv 39 rfl kr (PV.fieldAddr rfl Tb.fo_54_5) rfl (zv 40 rfl kr (PV.load (v := .int .i64 c.money) rfl Tb.one_3 m9z rfl) rfl ?_)))))))
  refine TV.step [36] kr dc rfl ⟨⟨_, rfl, ?_⟩, trivial⟩
  refine TL.callW (X := Unit) (fun _ => .int .i64 c.money) (fun _ => True) (fun _ => hp0 s c b p ++ (rcB b2 s q.u c q.v q.ho :: rcH c q.v :: (gbI (q.v.ht, c.tur) ++ (gbR stR 9 q.ho c.ords ++ (q.Z ++ R))))) rfl Tb.gofn_21 (fun a w hs => Money_p hv hs.new) rfl dc (fun _ _ => ?_)
  refine TL.nil (TV.next (.inl s9z) ?_)
  refine zv 41 rfl kr (PV.yes (PV.eql rfl rfl) rfl) rfl (zv 42 rfl kr (PV.pickT rfl rfl) rfl (zv 43 rfl kr (PV.move rfl) rfl (zv 44 rfl kr (PV.move rfl) rfl (zv 46 rfl kr (PV.move rfl) rfl (zv 47 rfl kr (PV.nilCheck rfl) rfl (zv 48 rfl kr (PV.fieldAddr rfl Tb.fo_54_6) rfl (zv 49 rfl kr (PV.load (v := .int .i64 c.cut) rfl Tb.one_3 m9z rfl) rfl ?_)))))))
  refine TV.step [45] kr dc rfl ⟨⟨_, rfl, ?_⟩, trivial⟩
  refine TL.callW (X := Unit) (fun _ => .int .i64 c.cut) (fun _ => True) (fun _ => hp0 s c b p ++ (rcB b2 s q.u c q.v q.ho :: rcH c q.v :: (gbI (q.v.ht, c.tur) ++ (gbR stR 9 q.ho c.ords ++ (q.Z ++ R))))) rfl Tb.gofn_22 (fun a w hs => Cut_p hv hs.new) rfl dc (fun _ _ => ?_)
  refine TL.nil (TV.next (.inl s9z) ?_)
  refine zv 50 rfl kr (PV.yes (PV.eql rfl rfl) rfl) rfl (zv 51 rfl kr (PV.pickT rfl rfl) rfl (zv 52 rfl kr (PV.move rfl) rfl (zv 53 rfl kr (PV.move rfl) rfl (zv 55 rfl kr (PV.move rfl) rfl (zv 56 rfl kr (PV.nilCheck rfl) rfl (zv 57 rfl kr (PV.fieldAddr rfl Tb.fo_54_7) rfl (zv 58 rfl kr (PV.load (v := .int .i64 c.load) rfl Tb.one_3 m9z rfl) rfl ?_)))))))
  refine TV.step [54] kr dc rfl ⟨⟨_, rfl, ?_⟩, trivial⟩
  refine TL.callW (X := Unit) (fun _ => .int .i64 c.load) (fun _ => True) (fun _ => hp0 s c b p ++ (rcB b2 s q.u c q.v q.ho :: rcH c q.v :: (gbI (q.v.ht, c.tur) ++ (gbR stR 9 q.ho c.ords ++ (q.Z ++ R))))) rfl Tb.gofn_23 (fun a w hs => Loaded_p hv hs.new) rfl dc (fun _ _ => ?_)
  refine TL.nil (TV.next (.inl s9z) ?_)
  refine zv 59 rfl kr (PV.yes (PV.eql rfl rfl) rfl) rfl (zv 60 rfl kr (PV.pickT rfl rfl) rfl (zv 61 rfl kr (PV.move rfl) rfl (zv 62 rfl kr (PV.move rfl) rfl (zv 64 rfl kr (PV.move rfl) rfl (zv 65 rfl kr (PV.nilCheck rfl) rfl (zv 66 rfl kr (PV.fieldAddr rfl Tb.fo_54_8) rfl (zv 67 rfl kr (PV.load (v := .int .i64 c.grd) rfl Tb.one_3 m9z rfl) rfl ?_)))))))
  refine TV.step [63] kr dc rfl ⟨⟨_, rfl, ?_⟩, trivial⟩
  refine TL.callW (X := Unit) (fun _ => .int .i64 c.grd) (fun _ => True) (fun _ => hp0 s c b p ++ (rcB b2 s q.u c q.v q.ho :: rcH c q.v :: (gbI (q.v.ht, c.tur) ++ (gbR stR 9 q.ho c.ords ++ (q.Z ++ R))))) rfl Tb.gofn_24 (fun a w hs => Ground_p hv hs.new) rfl dc (fun _ _ => ?_)
  refine TL.nil (TV.next (.inl s9z) ?_)
  refine zv 68 rfl kr (PV.yes (PV.eql rfl rfl) rfl) rfl (zv 69 rfl kr (PV.pickT rfl rfl) rfl (zv 70 rfl kr (PV.move rfl) rfl (zv 71 rfl kr (PV.move rfl) rfl (zv 73 rfl kr (PV.move rfl) rfl (zv 74 rfl kr (PV.nilCheck rfl) rfl (zv 75 rfl kr (PV.fieldAddr rfl Tb.fo_54_11) rfl (zv 76 rfl kr (PV.load (v := .bool c.shut) rfl Tb.one_4 m9z rfl) rfl ?_)))))))
  refine TV.step [72] kr dc rfl ⟨⟨_, rfl, ?_⟩, trivial⟩
  refine TL.callW (X := Unit) (fun _ => .bool c.shut) (fun _ => True) (fun _ => hp0 s c b p ++ (rcB b2 s q.u c q.v q.ho :: rcH c q.v :: (gbI (q.v.ht, c.tur) ++ (gbR stR 9 q.ho c.ords ++ (q.Z ++ R))))) rfl Tb.gofn_27 (fun a w hs => Shut_p hv hs.new) rfl dc (fun _ _ => ?_)
  refine TL.nil (TV.next (.inl s9z) ?_)
  refine zv 77 rfl kr (PV.to (PV.eqlB rfl rfl Tb.bool_4) (by cases c.shut <;> rfl)) rfl ?_
  refine zv 78 rfl kr (PV.pickT rfl rfl) rfl (zv 79 rfl kr (PV.move rfl) rfl (zv 80 rfl kr (PV.move rfl) rfl (zv 82 rfl kr (PV.move rfl) rfl (zv 83 rfl kr (PV.nilCheck rfl) rfl (zv 84 rfl kr (PV.fieldAddr rfl Tb.fo_54_12) rfl (zv 85 rfl kr (PV.load (v := .slice (gp q.ho) c.ords.length (gc q.ho)) rfl Tb.one_43 m9z (by show some (gval q.ho c.ords.length) = _; rw [ords_len hq.go])) rfl ?_))))))
  refine TV.step [81] kr dc rfl ⟨⟨_, rfl, ?_⟩, trivial⟩
  refine TL.callW (X := Unit) (fun _ => str (bookL dI c.ords).2) (fun _ => True) (fun _ => hp0 s c b p ++ (rcB b2 s q.u c q.v q.ho :: rcH c q.v :: (gbI (q.v.ht, c.tur) ++ (gbR stR 9 q.ho c.ords ++ (q.Z ++ R))))) rfl Tb.gofn_28 (fun a w hs => Book_p hW hv hi hk hs.new) rfl dc (fun _ _ => ?_)
  refine TL.nil (TV.next (.inl s9z) ?_)
  refine TV.step [86] kr dc rfl ⟨⟨_, rfl, ?_⟩, trivial⟩
  refine TL.call rfl Tb.gofn_41 (fun a w hs => Text_ok w (hW.new hs.new) (gp q.ho) (gc q.ho) c.ords (ords_at hs.new r9z hq.go) om (fun j => by have := ords_40 hi j; omega)) rfl dc (fun _ _ => ?_)
  refine TL.nil (TV.next (.inl s9z) ?_)
  refine zv 87 rfl kr (PV.yes (PV.eqS rfl rfl) rfl) rfl (zv 88 rfl kr (PV.pickT rfl rfl) rfl (zv 89 rfl kr (PV.assign rfl) rfl (TV.done kr ?_)))
  refine zc (TQ.retE1 rfl rfl ?_)
  exact ⟨(), rfl, trivial, by rw [hq0_r]; exact List.Sublist.refl _⟩
end Go.Proofs.YtbnjmkidbfmomaaGreatDoor
namespace Go.Proofs.YtbnjmkidbfmomaaGreatDoor
open Go.Sx Go.RowKit Go.Bt Go.Lib Go.Sand
theorem rcs_str : ∀ L : List (List UInt8), rcs stR L = L.map str
  | [] => rfl
  | a :: L => by have ih := rcs_str L; show [str a] ++ rcs stR L = _; rw [ih]; rfl
theorem strs_src {P : Program} {t e : TypeId} (ht : P.underlying t = some (.slice e)) {w : World} {p : Option Addr} {L : List (List UInt8)} {c K : Nat} (hK : L.length = K) (h : StrsAt w p L) : Src P 1 t (.slice p K c) K (rcs stR L) w := by
  subst hK
  rw [rcs_str]
  cases p with
  | none =>
    have h0 : L = [] := by
      cases L with
      | nil => rfl
      | cons a l => obtain ⟨q, hq, _⟩ := h 0 (by simp); cases hq
    subst h0
    exact Src.ofNil w ht c
  | some q =>
    refine Src.ofSlice w ht q L.length c (L.map str) (by simp) (fun j u hu => ?_) (fun v hv => by obtain ⟨i, _, rfl⟩ := List.mem_map.1 hv; rfl)
    have hj : j < L.length := by have := (List.getElem?_eq_some_iff.1 hu).1; simpa using this
    obtain ⟨q', hq', hc⟩ := h j hj
    injection hq' with hq'
    subst hq'
    rw [Nat.mul_one] at hc
    rw [hc]
    have : u = str (L.getD j []) := by
      rw [List.getElem?_map, List.getElem?_eq_getElem hj] at hu
      simp only [Option.map_some, Option.some.injEq] at hu
      rw [← hu]; simp [List.getD, hj]
    rw [this]
theorem cutA_0 (p : Option Addr) (cap : Nat) : cutA p cap 0 1 = p := by
  unfold cutA
  split
  · rfl
  · cases p with
    | none => rfl
    | some a => cases a; simp [Addr.add]
theorem strs_now {w0 w : World} {Z : Heap} {p : Option Addr} {L : List (List UInt8)} (hT : ∀ w', New w0 w' Z → StrsAt w' p L) (hN : New w0 w Z) {k : Nat} (hk : k < L.length) : ∃ q, p = some q ∧ ∀ w', New w0 w' Z → w'.cell? (q.add (k * 1)) = some (str (L.getD k [])) := by
  obtain ⟨q, h1, _⟩ := hT w hN k hk
  refine ⟨q, h1, fun w' hn => ?_⟩
  obtain ⟨q', h2, h3⟩ := hT w' hn k hk
  rw [h1] at h2
  obtain rfl := Option.some.inj h2
  exact h3
theorem take_le {L : List (List UInt8)} {k : Nat} (h : ¬ k < L.length) : L.take k = L := List.take_of_length_le (by omega)
theorem few_ok (w0 : World) (p : Option Addr) (c : Nat) (L : List (List UInt8)) (hL : StrsAt w0 p L) (hc : L.length ≤ c) :
    Calls Tryz.prog 36 #[.slice p L.length c] w0 (Post (X := Option Addr × Nat × Heap) (fun y => .slice y.1 (L.take 30).length y.2.1) (fun y => ∀ w1 w9, StrsAt w1 p L → New w1 w9 y.2.2 → StrsAt w9 y.1 (L.take 30)) (fun y => y.2.2) w0) := by
  refine calls Tryz.func36 rfl (n := 11) rfl (by simp) ?_
  refine zr (za rfl (zn (TC.seq (zr (zm rfl (zq (PV.len rfl Tb.sl_43) rfl (zq (PV.gtr rfl rfl) rfl (zn (TC.cd rfl (fun h30 => ?_) (fun h30 => ?_))))))))))
  refine TC.seq ?_
  have hl30 : (L.take 30).length = 30 := by rw [List.length_take]; omega
  refine TC.region (TL.buildSlice0 Tb.sl_43 Tb.zi_9 rfl dc (fun bE hbE => ?_))
  refine zm rfl (zq (PV.sliceH (h := 30) rfl rfl Tb.elm_43 rfl om) rfl (TL.append0 (news := rcs stR (L.take 30)) rfl rfl Tb.sl_43 Tb.zi_9 rfl (Take.head _) (fun w' hN => strs_src Tb.sl_43 hl30 (by rw [cutA_0]; exact (hL.new hN).take 30)) om om rfl dc (fun h1 hh1 => ?_)))
  refine za rfl (zt (TQ.thenR (TQ.retE1 rfl rfl ?_)))
  have hg : goR stR h1 (L.take 30) := by show gok h1 (L.take 30).length 1 _; rw [hl30]; exact hh1
  exact ⟨(gp h1, gc h1, gbR stR 9 h1 (L.take 30)), by rw [← ords_len hg, hl30], fun w1 w9 _ hn => ords_at hn (fun y hy => hy) hg, List.sublist_append_left _ _⟩
  refine TC.skip (TQ.thenC (zr (zm rfl (za rfl (zt (TQ.retE1 rfl rfl ?_))))))
  exact ⟨(p, c, []), by rw [take_le (by omega : ¬ 30 < L.length)], fun w1 w9 h1 hn => by rw [take_le (by omega : ¬ 30 < L.length)]; exact h1.new hn, nils⟩
theorem few_w {w0 w : World} {A B R : Heap} (hN : New w0 w (A ++ (B ++ R))) (p : Option Addr) (c : Nat) (L : List (List UInt8)) (hL : StrsAt w0 p L) (hc : L.length ≤ c) :
    Calls Tryz.prog 36 #[.slice p L.length c] w (Post (X := Option Addr × Nat × Heap) (fun y => .slice y.1 (L.take 30).length y.2.1) (fun y => (∀ w9, New w0 w9 y.2.2 → StrsAt w9 y.1 (L.take 30)) ∧ ∀ k, k < (L.take 30).length → ∃ q, y.1 = some q ∧ ∀ w', New w0 w' y.2.2 → w'.cell? (q.add (k * 1)) = some (str ((L.take 30).getD k []))) (fun y => A ++ (B ++ (y.2.2 ++ R))) w0) :=
  (few_ok w p c L (hL.new hN) hc).mono fun _ w' ⟨y, e1, e2, e3⟩ => ⟨y, e1, ⟨fun w9 hn => e2 w0 w9 hL hn, fun k hk => strs_now (fun w9 hn => e2 w0 w9 hL hn) ((hN.trans e3).sub (List.sublist_append_left _ _)) hk⟩, (hN.trans e3).perm (perm_of fun c9 => by simp only [List.map_append, List.sum_append]; omega)⟩
end Go.Proofs.YtbnjmkidbfmomaaGreatDoor
namespace Go.Proofs.YtbnjmkidbfmomaaGreatDoor
open Go.Sx Go.RowKit Go.Bt Go.Lib Go.Sand
theorem Large_s {w : World} {s : St} {f : FV} (hf : FmAt w s f) (hw63 : s.W.length ≤ 9223372036854775807) (hk63 : s.K.length ≤ 9223372036854775807) :
    Calls Tryz.prog 30 #[.agg (fmL s f).toArray] w (Post (X := Unit) (fun _ => .bool s.large) (fun _ => True) (fun _ => []) w) :=
  Large_ok w f.p f.cp s.W hf.lw f.q f.cq s.K hf.lk f.r f.cr s.g s.need hw63 hk63
theorem few_400 {L : List (List UInt8)} (h : longB L = false) : (∀ j, ((L.take 30).getD j []).length ≤ 400) ∧ (L.take 30).length ≤ 30 ∧ L.length ≤ 300 ∧ ∀ j, (L.getD j []).length ≤ 400 := by
  obtain ⟨h1, h2⟩ := long_no (by rw [h]; decide)
  refine ⟨fun j => ?_, by rw [List.length_take]; omega, h1, h2⟩
  by_cases hj : j < 30
  · rw [getD_take hj]; exact h2 j
  · have e : (L.take 30).getD j [] = [] := by rw [List.getD_eq_getElem?_getD, List.getElem?_eq_none (by rw [List.length_take]; omega)]; rfl
    rw [e]; exact Nat.zero_le _
end Go.Proofs.YtbnjmkidbfmomaaGreatDoor
