/- Pw Pv Df Xa Xb -/
import Derived.Test.YtbnjmkidbfmomaaGreatDoorW04
import Derived.Test.YtbnjmkidbfmomaaGreatDoorW05
import Derived.Test.YtbnjmkidbfmomaaGreatDoorW06
import Derived.Test.YtbnjmkidbfmomaaGreatDoorW09
import Derived.Test.YtbnjmkidbfmomaaGreatDoorW10
import Derived.Test.YtbnjmkidbfmomaaGreatDoorW11
import Derived.Test.YtbnjmkidbfmomaaGreatDoorW13
import Derived.Test.YtbnjmkidbfmomaaGreatDoorW14
import Derived.Test.YtbnjmkidbfmomaaGreatDoorW15
import Derived.Recover
import Derived.Conc.MuLone
set_option linter.unusedVariables false
set_option linter.unusedSimpArgs false
set_option maxRecDepth 100000
namespace Go.Proofs.YtbnjmkidbfmomaaGreatDoor
open Go.Sx Go.RowKit Go.Bt Go.Lib Go.Sand
structure St where
  W : List (List Int)
  K : List (List Int)
  g : List Int
  need : Int
abbrev St.md (s : St) : Mo.Md := ⟨C.dep s.W, s.W.length, s.need.toNat⟩
structure SV (s : St) : Prop where
  vw : C.validI s.W = 0
  vh : H.validI s.K s.g = 0
  len : s.g.length = s.W.length
  mo : Mo.Ok s.md
  nd : s.need = (s.need.toNat : Int)
structure Co where
  day : Int
  wet : Nat
  money : Int
  cut : Int
  load : Int
  grd : Int
  shut : Bool
  hol : List Int
  tur : List Int
  ords : List (List UInt8)
def sL (xs : List Int) : Int := sm xs.length fun j => xs.getD j 0
theorem sm_set {xs : List Int} {c : Nat} {v : Int} (hc : c < xs.length) : ∀ n, sm n (fun j => (xs.set c v).getD j 0) = sm n (fun j => xs.getD j 0) + if c < n then v - xs.getD c 0 else 0
  | 0 => by simp [Sand.sm]
  | n + 1 => by
    have ih := sm_set (v := v) hc n
    show sm n _ + (xs.set c v).getD n 0 = sm n _ + xs.getD n 0 + _
    rw [ih, set_at hc]
    by_cases e : c = n
    · subst e; rw [if_pos rfl, if_neg (Nat.lt_irrefl _), if_pos (by omega)]; omega
    · rw [if_neg e]
      by_cases h : c < n
      · rw [if_pos h, if_pos (by omega)]; omega
      · rw [if_neg h, if_neg (by omega)]; omega
theorem sL_set {xs : List Int} {c : Nat} {v : Int} (hc : c < xs.length) : sL (xs.set c v) = sL xs + (v - xs.getD c 0) := by
  unfold sL
  rw [List.length_set, sm_set hc, if_pos hc]
theorem sL_zero (n : Nat) : sL (List.replicate n 0) = 0 := by
  unfold sL
  rw [sm_congr (h := fun _ => 0) fun i hi => by simp [List.getD, List.getElem?_replicate]; split <;> rfl, sm_zero]
theorem sL_bd {xs : List Int} {b : Int} (hb : 0 ≤ b) (h : ∀ k, 0 ≤ xs.getD k 0 ∧ xs.getD k 0 ≤ b) : ∀ n : Nat, 0 ≤ sm n (fun j => xs.getD j 0) ∧ sm n (fun j => xs.getD j 0) ≤ b * n
  | 0 => by simp [Sand.sm]
  | n + 1 => by
    have ih := sL_bd hb h n
    have := h n
    have e : sm (n + 1) (fun j => xs.getD j 0) = sm n (fun j => xs.getD j 0) + xs.getD n 0 := rfl
    have e2 : b * ((n + 1 : Nat) : Int) = b * n + b := by rw [Int.natCast_succ, Int.mul_add, Int.mul_one]
    omega
def bare (s : St) (hol : List Int) : Nat := Mo.msk s.md.N fun i => decide (((i / s.W.length : Nat) : Int) < hol.getD (i % s.W.length) 0)
noncomputable def drT (K : List (List Int)) (g xs : List Int) (i : Int) : List Int := Classical.epsilon fun c => ∃ n, H.DroP K g xs i c n
theorem drT_eq {K : List (List Int)} {g xs : List Int} {i : Int} {c : List Int} {n : Int} (h : H.DroP K g xs i c n) : drT K g xs i = c := by
  obtain ⟨k, hk⟩ := Classical.epsilon_spec (p := fun c => ∃ n, H.DroP K g xs i c n) ⟨c, n, h⟩
  exact (H.DroP.unique hk h).1
abbrev St.sq (s : St) (r c : Int) : Nat := (r * s.W.length + c).toNat
def actI (s : St) (c : Co) (o : Od) : Int :=
  if o.k = 0 then 0
  else if o.k = 1 then
    if (s.W.length : Int) ≤ o.ns.getD 0 0 then 4 else if c.shut = true then 8
    else if C.opB s.W (C.pad6 c.hol) (o.ns.getD 0 0).toNat = false ∨ (0 < c.hol.getD (o.ns.getD 0 0).toNat 0 ∧ c.wet.testBit (s.sq (c.hol.getD (o.ns.getD 0 0).toNat 0 - 1) (o.ns.getD 0 0)) = true) then 6 else 0
  else if o.k = 2 then
    if (s.W.length : Int) ≤ o.ns.getD 0 0 then 4 else if o.ns.getD 1 0 = 0 then 1 else if c.tur.getD (o.ns.getD 0 0).toNat 0 < o.ns.getD 1 0 then 11 else 0
  else if o.k = 3 then
    if (C.dep s.W : Int) ≤ o.ns.getD 0 0 ∨ (s.W.length : Int) ≤ o.ns.getD 1 0 then 4 else if c.hol.getD (o.ns.getD 1 0).toNat 0 ≤ o.ns.getD 0 0 then 8
    else if c.wet.testBit (s.sq (o.ns.getD 0 0) (o.ns.getD 1 0)) = true then 5 else 0
  else if c.shut = true then 5 else 0
noncomputable def actC (s : St) (c : Co) (o : Od) : Co :=
  if o.k = 0 then { c with wet := Mo.stp s.md c.wet &&& bare s c.hol, day := c.day + 1 }
  else if o.k = 1 then
    { c with
      tur := drT s.K s.g c.tur (o.ns.getD 0 0)
      grd := c.grd + (sL c.tur + 1 - sL (drT s.K s.g c.tur (o.ns.getD 0 0)))
      hol := c.hol.set (o.ns.getD 0 0).toNat (c.hol.getD (o.ns.getD 0 0).toNat 0 + 1)
      money := c.money + (s.W.getD (o.ns.getD 0 0).toNat []).getD (c.hol.getD (o.ns.getD 0 0).toNat 0).toNat 0
      cut := c.cut + 1 }
  else if o.k = 2 then
    { c with
      tur := c.tur.set (o.ns.getD 0 0).toNat (c.tur.getD (o.ns.getD 0 0).toNat 0 - o.ns.getD 1 0)
      load := c.load + o.ns.getD 1 0
      money := c.money + o.ns.getD 1 0 }
  else if o.k = 3 then { c with wet := c.wet ||| 2 ^ s.sq (o.ns.getD 0 0) (o.ns.getD 1 0) }
  else { c with shut := true }
noncomputable def chgC (s : St) (c : Co) (o : Od) : Co := if actI s c o = 0 then actC s c o else c
def doI (s : St) (c : Co) (t : List UInt8) : Int :=
  match prsO t with
  | none => 2
  | some o => if 100 ≤ c.ords.length then 3 else actI s c o
noncomputable def doC (s : St) (c : Co) (t : List UInt8) : Co :=
  match prsO t with
  | none => c
  | some o => if 100 ≤ c.ords.length then c else if actI s c o = 0 then { actC s c o with ords := c.ords ++ [t] } else c
def co0 (s : St) : Co := ⟨0, 0, 0, 0, 0, 0, false, List.replicate s.W.length 0, List.replicate s.W.length 0, []⟩
theorem doC_no {s : St} {c : Co} {t : List UInt8} (h : doI s c t ≠ 0) : doC s c t = c := by
  unfold doI at h
  unfold doC
  cases hp : prsO t with
  | none => rfl
  | some o =>
    rw [hp] at h
    simp only at h ⊢
    split
    · rfl
    · rename_i h9
      rw [if_neg h9] at h
      rw [if_neg h]
theorem doC_yes {s : St} {c : Co} {t : List UInt8} (h : doI s c t = 0) : ∃ o, prsO t = some o ∧ c.ords.length < 100 ∧ actI s c o = 0 ∧ doC s c t = { actC s c o with ords := c.ords ++ [t] } := by
  unfold doI at h
  unfold doC
  cases hp : prsO t with
  | none => rw [hp] at h; cases h
  | some o =>
    rw [hp] at h
    simp only at h ⊢
    split at h
    · cases h
    · rename_i h9
      exact ⟨o, rfl, by omega, h, by rw [if_neg h9, if_pos h]⟩
structure Inv (s : St) (c : Co) : Prop where
  ho : C.HO s.W c.hol
  tl : c.tur.length = s.g.length
  tn : ∀ k, 0 ≤ c.tur.getD k 0
  tc : ∀ k, k < s.g.length → c.tur.getD k 0 < H.limI s.K s.g k
  wb : ∀ i, c.wet.testBit i = true → (bare s c.hol).testBit i = true
  ct : c.cut = sL c.hol
  bal : c.cut = c.load + c.grd + sL c.tur
  mon : c.money = C.worH s.W c.hol + c.load
  l0 : 0 ≤ c.load
  dy : 0 ≤ c.day ∧ c.day ≤ c.ords.length
  gr : -151 * (c.ords.length : Int) ≤ c.grd ∧ c.grd ≤ 151 * (c.ords.length : Int)
  ol : c.ords.length ≤ 100
  rt : c.ords.all rightS = true
theorem bare_t (s : St) (hol : List Int) (i : Nat) : (bare s hol).testBit i = (decide (i < s.md.N) && decide (((i / s.W.length : Nat) : Int) < hol.getD (i % s.W.length) 0)) := Mo.msk_t _ _ _
theorem bare_lt (s : St) (hol : List Int) : bare s hol < 2 ^ s.md.N := Mo.msk_lt _ _
theorem Inv.wl {s : St} {c : Co} (h : Inv s c) : c.wet < 2 ^ s.md.N := Mo.lt_of_sub (bare_lt s c.hol) h.wb
end Go.Proofs.YtbnjmkidbfmomaaGreatDoor
namespace Go.Proofs.YtbnjmkidbfmomaaGreatDoor
open Go.Sx Go.RowKit Go.Bt Go.Lib Go.Sand
theorem dro_ex {K : List (List Int)} {g xs : List Int} {i : Int} (h : ¬ H.vhI K g xs i ≠ 0) : ∃ c n, H.DroP K g xs i c n := by
  obtain ⟨h1, h2, h3⟩ := H.vh_of h
  have hB := (H.giv_hb h1).1
  have hn := H.giv_ne h1
  have ht : ∀ j, j < g.length → 0 ≤ (fun k => (H.drL xs i.toNat).getD k 0) j := fun j _ => (H.drL_bd hn.2 j).1
  obtain ⟨c, m, hs⟩ := stb_ex hB.G (fun j hj => (hB.mu j j hj hj).2 rfl) ht
  refine ⟨mk g.length c, sm g.length (H.gd (mk g.length m)), fun h0 => absurd h0 h, fun _ => ⟨mk g.length m, ⟨mk_len _ _, mk_len _ _, ?_⟩, rfl⟩⟩
  exact hs.congr (fun j _ => rfl) (fun j hj => mk_at c hj) (fun j hj => mk_at m hj)
theorem SV.hb {s : St} (h : SV s) : H.HB s.K s.g := H.hb_of (by rw [h.vh]; decide)
theorem SV.vb {s : St} (h : SV s) : C.VB s.W := C.vb_of (by rw [h.vw]; decide)
theorem Inv.tb {s : St} {c : Co} (hv : SV s) (h : Inv s c) (k : Nat) : 0 ≤ c.tur.getD k 0 ∧ c.tur.getD k 0 ≤ 11 := by
  refine ⟨h.tn k, ?_⟩
  by_cases hk : k < s.g.length
  · have := h.tc k hk
    have := (hv.hb.lim hk).2
    omega
  · have e : c.tur.getD k 0 = 0 := by rw [List.getD_eq_getElem?_getD, List.getElem?_eq_none (by have := h.tl; omega)]; rfl
    omega
theorem Inv.giv {s : St} {c : Co} (hv : SV s) (h : Inv s c) : ¬ H.givI s.K s.g [c.tur] ≠ 0 := by
  rw [H.giv_0 (by rw [hv.vh]; decide) fun k hk => ?_]
  · decide
  · have : k = 0 := by simp at hk; omega
    subst this
    have h9 : [c.tur].getD 0 [] = c.tur := rfl
    rw [h9]
    unfold H.numB
    rw [h.tl, decide_eq_true rfl, Bool.true_and]
    refine List.all_eq_true.2 fun x hx => ?_
    obtain ⟨j, hj, rfl⟩ := List.getElem_of_mem hx
    have := h.tb hv j
    have e : c.tur.getD j 0 = c.tur[j] := by simp [List.getD, hj]
    rw [e] at this
    exact decide_eq_true (by omega)
theorem Inv.vh {s : St} {c : Co} (hv : SV s) (h : Inv s c) {i : Nat} (hi : i < s.W.length) : ¬ H.vhI s.K s.g c.tur (i : Int) ≠ 0 := by
  rw [H.vh_0 (h.giv hv) (by have := hv.len; omega)]; decide
structure DrF (s : St) (c : Co) (i : Nat) (xs : List Int) : Prop where
  len : xs.length = s.g.length
  n0 : ∀ k, 0 ≤ xs.getD k 0
  calm : ∀ k, k < s.g.length → xs.getD k 0 < H.limI s.K s.g k
theorem dr_facts {s : St} {c : Co} (hv : SV s) (h : Inv s c) {i : Nat} (hi : i < s.W.length) : DrF s c i (drT s.K s.g c.tur i) := by
  obtain ⟨d, n, hd⟩ := dro_ex (h.vh hv hi)
  rw [drT_eq hd]
  obtain ⟨m, ⟨h1, h2, h3⟩, _⟩ := hd.ok (h.vh hv hi)
  refine ⟨h1, fun k => ?_, fun k hk => h3.calm k hk⟩
  by_cases hk : k < s.g.length
  · exact h3.c0 k hk
  · have e : d.getD k 0 = 0 := by rw [List.getD_eq_getElem?_getD, List.getElem?_eq_none (by omega)]; rfl
    omega
theorem DrF.bd {s : St} {c : Co} {i : Nat} {xs : List Int} (hv : SV s) (h : DrF s c i xs) (k : Nat) : 0 ≤ xs.getD k 0 ∧ xs.getD k 0 ≤ 11 := by
  refine ⟨h.n0 k, ?_⟩
  by_cases hk : k < s.g.length
  · have := h.calm k hk
    have := (hv.hb.lim hk).2
    omega
  · have e : xs.getD k 0 = 0 := by rw [List.getD_eq_getElem?_getD, List.getElem?_eq_none (by have := h.len; omega)]; rfl
    omega
theorem sL_5 {xs : List Int} {n : Nat} (hl : xs.length = n) (hn : n ≤ 5) (h : ∀ k, 0 ≤ xs.getD k 0 ∧ xs.getD k 0 ≤ 11) : 0 ≤ sL xs ∧ sL xs ≤ 55 := by
  have h1 := sL_bd (by decide) h xs.length
  unfold sL
  rw [hl] at h1 ⊢
  omega
theorem sq_at {s : St} {r c : Nat} (hc : c < s.W.length) : s.sq r c = r * s.W.length + c ∧ s.sq r c / s.W.length = r ∧ s.sq r c % s.W.length = c := by
  have e : s.sq r c = r * s.W.length + c := by
    show ((r : Int) * (s.W.length : Int) + (c : Int)).toNat = _
    rw [show (r : Int) * (s.W.length : Int) + (c : Int) = ((r * s.W.length + c : Nat) : Int) by push_cast; rfl, Int.toNat_natCast]
  refine ⟨e, ?_, ?_⟩
  · rw [e, Nat.mul_comm, Nat.mul_add_div (by omega), Nat.div_eq_of_lt hc, Nat.add_zero]
  · rw [e, Nat.mul_comm, Nat.mul_add_mod, Nat.mod_eq_of_lt hc]
theorem sq_lt {s : St} {r c : Nat} (hc : c < s.W.length) (hr : r < C.dep s.W) : s.sq r c < s.md.N := by
  rw [(sq_at hc).1]
  show _ < C.dep s.W * s.W.length
  have : (r + 1) * s.W.length ≤ C.dep s.W * s.W.length := Nat.mul_le_mul_right _ hr
  rw [Nat.add_mul] at this; omega
theorem bare_sq {s : St} {hol : List Int} {r c : Nat} (hc : c < s.W.length) (hr : r < C.dep s.W) (h : (r : Int) < hol.getD c 0) : (bare s hol).testBit (s.sq r c) = true := by
  rw [bare_t, (sq_at hc).2.1, (sq_at hc).2.2, decide_eq_true (sq_lt hc hr), decide_eq_true h]; rfl
theorem set_ge {xs : List Int} {i : Nat} {v : Int} (h : xs.getD i 0 ≤ v) (k : Nat) : xs.getD k 0 ≤ (xs.set i v).getD k 0 := by
  by_cases hi : i < xs.length
  · rw [set_at hi]
    split
    · rename_i e; subst e; exact h
    · exact Int.le_refl _
  · rw [List.set_eq_of_length_le (by omega)]; exact Int.le_refl _
theorem Inv.step {s : St} {c : Co} {t : List UInt8} (hv : SV s) (h : Inv s c) (he : doI s c t = 0) : Inv s (doC s c t) := by
  obtain ⟨o, hp, hl, ha, e⟩ := doC_yes he
  rw [e]
  have hns := prs_ns hp
  have hrt := prs_right hp
  have hvb := hv.vb
  have hn5 := hv.hb.n
  have hlen := hv.len
  have hor : (c.ords ++ [t]).length = c.ords.length + 1 := by simp
  have hrl : (c.ords ++ [t]).all rightS = true := by simp [h.rt, hrt]
  have hgr := h.gr
  have hdy := h.dy
  have hNB := h.ho.toNB
  by_cases k0 : o.k = 0
  · unfold actC
    rw [if_pos k0]
    exact ⟨h.ho, h.tl, h.tn, h.tc, fun i hi => by
        simp only [Nat.testBit_and, Bool.and_eq_true] at hi
        exact hi.2, h.ct, h.bal, h.mon, h.l0, by simp only [hor]; omega, by simp only [hor]; omega, by simp only [hor]; omega, hrl⟩
  by_cases k1 : o.k = 1
  · unfold actI at ha
    unfold actC
    rw [if_neg k0, if_pos k1] at ha ⊢
    obtain ⟨u, hu⟩ := Int.eq_ofNat_of_zero_le (hns.2 0).1
    rw [hu] at ha ⊢
    simp only [Int.toNat_natCast] at ha ⊢
    split at ha
    · cases ha
    split at ha
    · cases ha
    split at ha
    · cases ha
    rename_i h1 h2 h3
    have huW : u < s.W.length := by omega
    have hop : C.opB s.W (C.pad6 c.hol) u = true := by
      cases h9 : C.opB s.W (C.pad6 c.hol) u with
      | true => rfl
      | false => exact absurd (Or.inl h9) h3
    have hD := dr_facts hv h huW
    have hbd := hD.bd hv
    have s1 := sL_5 h.tl hn5.2 (h.tb hv)
    have s2 := sL_5 hD.len hn5.2 hbd
    have hho : C.HO s.W (c.hol.set u (c.hol.getD u 0 + 1)) := C.HO.up h.ho huW hop
    have huh : u < c.hol.length := by rw [hNB.len]; exact huW
    have hsum := sL_set (v := c.hol.getD u 0 + 1) huh
    have hw : C.worH s.W (c.hol.set u (c.hol.getD u 0 + 1)) = C.worH s.W c.hol + (s.W.getD u []).getD (c.hol.getD u 0).toNat 0 := by
      unfold C.worH
      rw [List.length_set, C.worK_set huh (hNB.at_ u).1, if_pos huh]
    refine ⟨hho, hD.len, hD.n0, hD.calm, fun i hi => ?_, ?_, ?_, ?_, h.l0, ?_, ?_, by simp only [hor]; omega, hrl⟩
    · have := h.wb i hi
      rw [bare_t, Bool.and_eq_true] at this ⊢
      refine ⟨this.1, decide_eq_true ?_⟩
      have h8 := of_decide_eq_true this.2
      have h9 := set_ge (xs := c.hol) (i := u) (v := c.hol.getD u 0 + 1) (by omega) (i % s.W.length)
      simp only
      omega
    · simp only; have := h.ct; omega
    · simp only; have := h.bal; omega
    · simp only; rw [hw]; have := h.mon; omega
    · simp only [hor]; omega
    · simp only [hor]; omega
  by_cases k2 : o.k = 2
  · unfold actI at ha
    unfold actC
    rw [if_neg k0, if_neg k1, if_pos k2] at ha ⊢
    obtain ⟨u, hu⟩ := Int.eq_ofNat_of_zero_le (hns.2 0).1
    rw [hu] at ha ⊢
    simp only [Int.toNat_natCast] at ha ⊢
    split at ha
    · cases ha
    split at ha
    · cases ha
    split at ha
    · cases ha
    rename_i h1 h2 h3
    have hN := hns.2 1
    have huW : u < s.W.length := by omega
    have hut : u < c.tur.length := by have := h.tl; omega
    have hsum := sL_set (v := c.tur.getD u 0 - o.ns.getD 1 0) hut
    refine ⟨h.ho, by simp only [List.length_set]; exact h.tl, fun k => ?_, fun k hk => ?_, h.wb, h.ct, ?_, ?_, ?_, ?_, ?_, by simp only [hor]; omega, hrl⟩
    · simp only
      rw [set_at hut]
      have := h.tn k
      split <;> omega
    · simp only
      rw [set_at hut]
      have := h.tc k hk
      split
      · rename_i e9; subst e9; omega
      · omega
    · simp only; have := h.bal; omega
    · simp only; have := h.mon; omega
    · simp only; have := h.l0; omega
    · simp only [hor]; omega
    · simp only [hor]; omega
  by_cases k3 : o.k = 3
  · unfold actI at ha
    unfold actC
    rw [if_neg k0, if_neg k1, if_neg k2, if_pos k3] at ha ⊢
    obtain ⟨r, hr⟩ := Int.eq_ofNat_of_zero_le (hns.2 0).1
    obtain ⟨u, hu⟩ := Int.eq_ofNat_of_zero_le (hns.2 1).1
    rw [hu, hr] at ha ⊢
    simp only [Int.toNat_natCast] at ha ⊢
    split at ha
    · cases ha
    split at ha
    · cases ha
    split at ha
    · cases ha
    rename_i h1 h2 h3
    refine ⟨h.ho, h.tl, h.tn, h.tc, fun i hi => ?_, h.ct, h.bal, h.mon, h.l0, by simp only [hor]; omega, by simp only [hor]; omega, by simp only [hor]; omega, hrl⟩
    simp only [Nat.testBit_or, Nat.testBit_two_pow, Bool.or_eq_true, decide_eq_true_eq] at hi
    rcases hi with hi | hi
    · exact h.wb i hi
    · rw [← hi]
      show (bare s c.hol).testBit _ = true
      exact bare_sq (by omega) (by omega) (by omega)
  · unfold actI at ha
    unfold actC
    rw [if_neg k0, if_neg k1, if_neg k2, if_neg k3] at ha ⊢
    exact ⟨h.ho, h.tl, h.tn, h.tc, h.wb, h.ct, h.bal, h.mon, h.l0, by simp only [hor]; omega, by simp only [hor]; omega, by simp only [hor]; omega, hrl⟩
theorem Inv.any {s : St} {c : Co} (t : List UInt8) (hv : SV s) (h : Inv s c) : Inv s (doC s c t) := by
  by_cases he : doI s c t = 0
  · exact h.step hv he
  · rw [doC_no he]; exact h
theorem worK_zero (ls : List (List Int)) (m : Nat) : ∀ n : Nat, C.worK ls (List.replicate m 0) n = 0
  | 0 => rfl
  | n + 1 => by
    show C.worK ls (List.replicate m 0) n + C.sumN (ls.getD n []) ((List.replicate m (0 : Int)).getD n 0).toNat = 0
    rw [worK_zero ls m n, C.rep_at]; rfl
theorem Inv.zero {s : St} (hv : SV s) : Inv s (co0 s) := by
  refine ⟨C.ho_zero hv.vb, by show (List.replicate s.W.length (0 : Int)).length = _; rw [List.length_replicate, hv.len], fun k => ?_, fun k hk => ?_, fun i hi => ?_, ?_, ?_, ?_, Int.le_refl _, ⟨Int.le_refl _, by simp [co0]⟩, by simp [co0], by simp [co0], rfl⟩
  · show 0 ≤ (List.replicate s.W.length (0 : Int)).getD k 0
    rw [C.rep_at]; decide
  · show (List.replicate s.W.length (0 : Int)).getD k 0 < _
    rw [C.rep_at]
    have := (hv.hb.lim hk).1
    omega
  · exfalso
    have : (0 : Nat).testBit i = true := hi
    simp at this
  · show (0 : Int) = sL (List.replicate s.W.length 0)
    rw [sL_zero]
  · show (0 : Int) = 0 + 0 + sL (List.replicate s.W.length 0)
    rw [sL_zero]; rfl
  · show (0 : Int) = C.worH s.W (List.replicate s.W.length 0) + 0
    unfold C.worH
    rw [worK_zero]; rfl
end Go.Proofs.YtbnjmkidbfmomaaGreatDoor
namespace Go.Sx
open Go.RowKit
section
variable {P : Program} {ds : List Deferred} {n : Nat} {w0 : World} {E : Env} {G : Heap} {ops : Array Oper} {Q : Exit → Act → World → Prop} {c : Code} {K : Act → World → Prop}
variable {ty : TypeId} {pos : String} {aft : Array Edge} {g : Option (Nat × Bool)}
theorem callsDfM {f : FuncId} {fn : Func} {vs : List Value} {w : World} {R : Ending → World → Prop} (hN : New w0 w G) (hf : P.funcs[f]? = some fn) (hb : fn.body = some c) (hn : fn.ntmps = n) (hl : vs.length ≤ n)
    (h : TG none [] P n w0 c (bodyPostD P fn R) (args 0 vs) G) : Calls P f vs.toArray w R :=
  calls_of_wp_defers hf hb ((wpIn_wide (n := 9)).1 (h { tmps := vs.toArray ++ Array.replicate (fn.ntmps - vs.toArray.size) undef, defers := [] } w ⟨by simp; omega, rfl, fun k v hk => by
    have := (look_args vs 0 k v hk).2
    simp only [Nat.sub_zero] at this
    rw [Array.getElem?_append_left (by have := (List.getElem?_eq_some_iff.1 this).1; simpa using this)]
    simpa using this, hN⟩))
theorem TGL.defer {cl : Call} {d : Deferred} {l : List Oper} (hr : ∀ a w, S n w0 E G a w → (resolve a.eval cl ty).run P w = .ok d w) (h : TGL none (d :: ds) P n w0 ops Q l E G) :
    TGL none ds P n w0 ops Q (⟨none, .defer cl, ty, pos, aft, none⟩ :: l) E G := fun a w hs => by
  have hev : (dfs a ds).eval = a.eval := rfl
  have hw : Region.wanted (⟨none, .defer cl, ty, pos, aft, none⟩ : Oper) (yielded ops (dfs a ds).tmps) = true := rfl
  unfold wpListIn
  rw [if_pos hw]
  refine ⟨fun _ _ => trivial, ?_⟩
  have hx : (execOp (dfs a ds).eval ⟨none, .defer cl, ty, pos, aft, none⟩).run P w = .ok (.defer d) w := by
    rw [hev]
    simp only [execOp]
    simp [hr a w hs]
  show Oper.uponIn _ _ _ _ _ _ _ ((Oper.semAt none _ _).run P w)
  rw [Oper.semAt_none, hx, Oper.uponIn_defer]
  have h2 := h a w hs
  have e : ({ dfs a ds with defers := d :: (dfs a ds).defers } : Act).put none undef = dfs a (d :: ds) := by
    show ({ dfs a ds with defers := d :: (a.defers ++ ds) } : Act) = { a with defers := a.defers ++ (d :: ds) }
    rw [hs.defers]; rfl
  rw [e]
  exact h2
theorem resolve_fn {cl : Call} {a : Act} {w : World} {f : FuncId} {xs : List Operand} {vs : List Value} {ats : Array TypeId} (hc : cl = { callee := .value (.func f), args := xs.toArray, argTypes := ats }) (hs : S n w0 E G a w) (hx : evs E xs = some vs) :
    (resolve a.eval cl ty).run P w = .ok { target := .fn (.func f) #[], args := vs.toArray } w := by
  subst hc
  have hm := hs.evs hx
  have hk : a.eval (.func f) = .func (.func f) #[] #[] := rfl
  simp only [resolve, List.map_toArray, hm, hk]
  simp [Deferred.ofValue]
theorem invoke_fn {f : FuncId} {caps vs : List Value} {w : World} (h : goFn P f = true) : (invoke (.fn (.func f) caps.toArray) vs.toArray).run P w = .ok (.enter f (vs ++ caps).toArray) w := by
  show (callFunc f _).run P w = _
  rw [run_goFn h]
  simp
theorem TQ.retD {fn : Func} {R : Ending → World → Prop} {f : FuncId} {caps vs : List Value} {G' : Heap} (hg : goFn P f = true)
    (hc : ∀ w, New w0 w G → CallsD P f (vs ++ caps).toArray .returning w (fun e u' w' => u' = .returning ∧ (∃ v, e = .returned v) ∧ New w0 w' G')) (h : TQ n w0 (bodyPost P fn R .ret) E G') :
    TQ n w0 (QD [{ target := .fn (.func f) caps.toArray, args := vs.toArray }] (bodyPostD P fn R) .ret) E G := fun a w hs => by
  show Leaves P fn a.tmps R (a.defers ++ [_]) .returning w
  rw [hs.defers]
  refine leaves_cons (by simp) (invoke_fn hg) ((hc w hs.new).mono ?_)
  rintro e u' w' ⟨rfl, ⟨v, rfl⟩, hN⟩
  exact (h a w' (hs.world hN)).2
theorem bodyD_lo {P : Program} {fn : Func} {X : Type} {val : X → Value} {F : X → Prop} {D : X → Heap} {w0 : World} : ¬ LetsOut (bodyPostD P fn (Post val F D w0)) := fun ⟨_, _, x, h, _⟩ => by cases h
def PostP {X Y : Type} (val : X → Value) (F : X → Prop) (D : X → Heap) (pv : Y → Value) (Fp : Y → Prop) (Dp : Y → Heap) (w : World) (e : Ending) (w' : World) : Prop :=
  (∃ x, e = .returned (val x) ∧ F x ∧ New w w' (D x)) ∨ (∃ y, e = .panicked [{ v := pv y, recovered := false }] ∧ Fp y ∧ New w w' (Dp y))
end
end Go.Sx
namespace Go.Proofs.YtbnjmkidbfmomaaGreatDoor
open Go.Sx Go.RowKit Go.Bt Go.Lib Go.Sand
section
variable {P : Program} {n : Nat} {w0 : World} {E : Env} {G : Heap} {ty : TypeId} {pos : String} {aft : Array Edge} {g : Option (Nat × Bool)} {ops : Array Oper} {Q : Exit → Act → World → Prop} {l : List Oper}
theorem TL.storeMid {dd : Option Nat} {x y : Operand} {b k off : Nat} {t : Nat} {cs cs' vs : List Value} {e : TypeId} {G' : Heap} (hx : evo E x = some (.pointer (some ⟨b, off, none⟩))) (hy : evo E y = some (.agg vs.toArray))
    (hsz : cellsN P t = some k) (hu : Upd b (.cells cs.toArray e (0, 0)) (.cells cs'.toArray e (0, 0)) G G') (he : cs.take off ++ vs ++ cs.drop (off + k) = cs') (hk : vs.length = k) (hle : off + k ≤ cs.length) (hone' : vs.all Value.oneCell' = true)
    (hg : wants ops E g = some true) (hdd : dd = none) (h : TL P n w0 ops Q l E G') : TL P n w0 ops Q (⟨dd, .store t x y, ty, pos, aft, g⟩ :: l) E G := by
  refine TL.step hg fun a w hs => ?_
  subst hdd
  have hb : w.heap[b]? = some (.cells cs.toArray e (0, 0)) := hs.new.here _ hu.mem
  have hst := run_storeCells_at (P := P) b off e vs 0 cs.toArray w hb (by simp; omega) (fun v hv => List.all_eq_true.1 hone' v hv)
  unfold cellsN at hsz
  have hr : (execOp a.eval ⟨none, .store t x y, ty, pos, aft, g⟩).run P w = .ok .skip (w.setRow b cs'.toArray) := by
    cases hi : P.info? t with
    | none => simp [hi] at hsz
    | some i =>
      simp [hi] at hsz
      simp only [execOp, hs.ev hx, hs.ev hy]
      simp only [Nat.add_zero] at hst
      rw [hk] at hst
      try rw [show cs.toArray.toList = cs from rfl] at hst
      rw [he] at hst
      have e8 : vs.toArray.size = i.size := by rw [List.size_toArray, hk, hsz]
      simp [Instr.storeAt, Instr.sureAddr, storeVar, sizeOf, typeInfo, hi, hsz, Value.cells, hst, hk]
  unfold Oper.wp
  rw [hr]
  refine h _ _ (hs.world ?_)
  refine hs.new.turn hu ?_ ?_ rfl rfl rfl ?_ rfl
  · simp only [World.setRow, Array.getElem?_modify, if_true, hb, Option.map_some]
  · intro k hk
    simp only [World.setRow, Array.getElem?_modify]
    rw [if_neg (by omega)]
  · simp [World.setRow]
theorem PV.loadMid {d : Option Nat} {x : Operand} {b off k : Nat} {t : Nat} {cs vs : List Value} {e : TypeId} {fr : Nat × Nat} (hx : evo E x = some (.pointer (some ⟨b, off, none⟩))) (ht : aggSize P t = some k)
    (hm : (b, Obj.cells cs.toArray e fr) ∈ G) (he : (cs.drop off).take k = vs) (hk : vs.length = k) :
    PV P n w0 E G ⟨d, .load t x, ty, pos, aft, g⟩ (.agg vs.toArray) :=
  PV.loadAgg hx ht hm hk (fun j v h => by
    have hj : j < vs.length := (List.getElem?_eq_some_iff.1 h).1
    rw [← he, List.getElem?_take_of_lt (by omega), List.getElem?_drop] at h
    simpa using h)
end
structure SU where
  pw : Option Addr
  cw : Nat
  rw : List (Option Addr × Nat)
  pk : Option Addr
  ck : Nat
  pg : Option Addr
  cg : Nat
structure TV where
  ph : Option Addr
  ch : Nat
  pt : Option Addr
  ct : Nat
abbrev siL (s : St) (u : SU) : List Value := [.slice u.pw s.W.length u.cw, .slice u.pk s.K.length u.ck, .slice u.pg s.g.length u.cg, .int .i64 (C.dep s.W : Nat), .int .i64 (s.W.length : Nat), .int .i64 s.need]
abbrev tyL (c : Co) (v : TV) : List Value := [.int .i64 c.day, .int .i64 (c.wet : Nat), .int .i64 c.money, .int .i64 c.cut, .int .i64 c.load, .int .i64 c.grd, .bool c.shut, .slice v.ph c.hol.length v.ch, .slice v.pt c.tur.length v.ct]
abbrev coL (s : St) (u : SU) (lk : Int) (c : Co) (v : TV) (o : Value) : List Value :=
  [.slice u.pw s.W.length u.cw, .slice u.pk s.K.length u.ck, .slice u.pg s.g.length u.cg, .int .i64 (C.dep s.W : Nat), .int .i64 (s.W.length : Nat), .int .i64 s.need, .int .i32 lk, .int .u32 0,
    .int .i64 c.day, .int .i64 (c.wet : Nat), .int .i64 c.money, .int .i64 c.cut, .int .i64 c.load, .int .i64 c.grd, .bool c.shut, .slice v.ph c.hol.length v.ch, .slice v.pt c.tur.length v.ct, o]
structure SiteAt (w : World) (s : St) (u : SU) : Prop where
  aw : ∀ j, j < s.W.length → ∃ q, u.pw = some q ∧ w.cell? (q.add (j * 1)) = some (.slice (u.rw.getD j (none, 0)).1 (s.W.getD j []).length (u.rw.getD j (none, 0)).2) ∧ IntsAt w (u.rw.getD j (none, 0)).1 (s.W.getD j []) ∧ (s.W.getD j []).length ≤ (u.rw.getD j (none, 0)).2
  ak : LsAt w u.pk s.K
  ag : IntsAt w u.pg s.g
structure TurAt (w : World) (c : Co) (v : TV) : Prop where
  ah : IntsAt w v.ph c.hol
  at_ : IntsAt w v.pt c.tur
theorem SiteAt.ls {w : World} {s : St} {u : SU} (h : SiteAt w s u) : LsAt w u.pw s.W := fun j hj =>
  let ⟨q, h1, h2, h3, _⟩ := h.aw j hj
  ⟨q, h1, _, _, h2, h3⟩
theorem SiteAt.caps {w : World} {s : St} {u : SU} (h : SiteAt w s u) : C.CapsAt w u.pw s.W := fun j hj q pj cj l hq hc => by
  obtain ⟨q', h1, h2, _, h4⟩ := h.aw j hj
  rw [hq] at h1
  injection h1 with h1
  subst h1
  rw [h2] at hc
  injection hc with hc
  injection hc with e1 e2 e3
  omega
section
variable {w0 w : World} {Z : Heap}
theorem ints_now {p : Option Addr} {xs : List Int} (hT : ∀ w', New w0 w' Z → IntsAt w' p xs) (hN : New w0 w Z) {k : Nat} (hk : k < xs.length) : ∃ q, p = some q ∧ ∀ w', New w0 w' Z → w'.cell? (q.add (k * 1)) = some (.int .i64 (xs.getD k 0)) := by
  obtain ⟨q, h1, _⟩ := hT w hN k hk
  refine ⟨q, h1, fun w' hn => ?_⟩
  obtain ⟨q', h2, h3⟩ := hT w' hn k hk
  rw [h1] at h2
  injection h2 with h2
  subst h2
  exact h3
theorem rows_now {s : St} {u : SU} (hS : ∀ w', New w0 w' Z → SiteAt w' s u) (hN : New w0 w Z) {k : Nat} (hk : k < s.W.length) : ∃ q, u.pw = some q ∧ ∀ w', New w0 w' Z → w'.cell? (q.add (k * 1)) = some (.slice (u.rw.getD k (none, 0)).1 (s.W.getD k []).length (u.rw.getD k (none, 0)).2) := by
  obtain ⟨q, h1, _⟩ := (hS w hN).aw k hk
  refine ⟨q, h1, fun w' hn => ?_⟩
  obtain ⟨q', h2, h3, _⟩ := (hS w' hn).aw k hk
  rw [h1] at h2
  injection h2 with h2
  subst h2
  exact h3
theorem row_now {s : St} {u : SU} (hS : ∀ w', New w0 w' Z → SiteAt w' s u) {k : Nat} (hk : k < s.W.length) : ∀ w', New w0 w' Z → IntsAt w' (u.rw.getD k (none, 0)).1 (s.W.getD k []) := fun w' hn =>
  let ⟨_, _, _, h, _⟩ := (hS w' hn).aw k hk
  h
end
section
variable {P : Program} {n : Nat} {w0 : World} {E : Env} {G : Heap} {d : Option Nat} {ty : TypeId} {pos : String} {aft : Array Edge} {g : Option (Nat × Bool)} {Q : Exit → Act → World → Prop}
theorem TC.sub {c : Code} {G' : Heap} (hp : List.Sublist G' G) (h : TC P n w0 c Q E G') : TC P n w0 c Q E G := fun a w hs => h a w (hs.world (hs.new.sub hp))
theorem TQ.sub {K : Act → World → Prop} {G' : Heap} (hp : List.Sublist G' G) (h : TQ n w0 K E G') : TQ n w0 K E G := fun a w hs => h a w (hs.world (hs.new.sub hp))
theorem PV.nilCheck {x : Operand} {a : Addr} (hx : evo E x = some (.pointer (some a))) : PV P n w0 E G ⟨d, .nilCheck x, ty, pos, aft, g⟩ (.pointer (some a)) :=
  fun A w hs => by simp only [execOp, hs.ev hx]; simp
theorem PV.loadN {x : Operand} {p : Addr} {t : Nat} {v : Value} {Z : Heap} (hx : evo E x = some (.pointer (some p))) (ht : oneB P t = true) (hZ : List.Sublist Z G)
    (hv : ∀ w, New w0 w Z → w.cell? p = some v) : PV P n w0 E G ⟨d, .load t x, ty, pos, aft, g⟩ v := M.PV.loadW hx ht fun w hn => hv w (hn.sub hZ)
end
theorem SV.kl {s : St} (h : SV s) (k : Nat) : (s.K.getD k []).length ≤ 1000000 := by
  by_cases hk : k < s.K.length
  · have h1 := H.num_len (h.hb.row k hk)
    have := h.hb.n
    omega
  · have e : s.K.getD k [] = [] := by rw [List.getD_eq_getElem?_getD, List.getElem?_eq_none (by omega)]; rfl
    rw [e]; exact Nat.zero_le _
theorem Inv.hl {s : St} {c : Co} (h : Inv s c) : c.hol.length = s.W.length := h.ho.len
theorem Inv.tl' {s : St} {c : Co} (hv : SV s) (h : Inv s c) : c.tur.length = s.W.length := by have := h.tl; have := hv.len; omega
theorem SV.n5 {s : St} (h : SV s) : 1 ≤ s.W.length ∧ s.W.length ≤ 5 := by have := h.hb.n; have := h.len; omega
theorem SV.d4 {s : St} (h : SV s) : 1 ≤ C.dep s.W ∧ C.dep s.W ≤ 4 := h.vb.d
theorem SV.N36 {s : St} (h : SV s) : s.md.N ≤ 36 := h.mo.N36
theorem wet63 {s : St} (h : SV s) {x : Nat} (hx : x < 2 ^ s.md.N) : x < 9223372036854775808 := M.set63 h.mo hx
/-! The lock. -/
abbrev mu : Go.Conc.Locks.MuLink := { lock := 62, unlock := 63, ilock := 100, iunlock := 101, lockSlow := 143, unlockSlow := 146, disable := 139, enable := 141, acquire := 142, relMerge := 144, cas32 := 140, add32 := 145, tMutex := 97, tIMutex := 95, tPMutex := 141, tPIMutex := 181, tPI32 := 183, tUP := 149, tNoCopy := 92, tU32 := 93 }
theorem muL : Go.Conc.Locks.MuLib Tryz.prog mu := ⟨Tryz.func62, Tryz.func63, Tryz.func100, Tryz.func101, Tryz.func139, Tryz.func141, Tryz.func142, Tryz.func144, Tryz.func140, Tryz.func145, Tryz.underlying95, Tryz.runUnderlying95, Tryz.sizeOf95, Tryz.isAgg95, Tryz.zeroValue95, Tryz.underlying97, Tryz.runUnderlying97, Tryz.sizeOf97, Tryz.isAgg97, Tryz.zeroValue97, Tryz.underlying141, Tryz.runUnderlying141, Tryz.sizeOf141, Tryz.isAgg141, Tryz.zeroValue141, Tryz.underlying181, Tryz.runUnderlying181, Tryz.sizeOf181, Tryz.isAgg181, Tryz.zeroValue181, Tryz.underlying183, Tryz.runUnderlying183, Tryz.sizeOf183, Tryz.isAgg183, Tryz.zeroValue183, Tryz.underlying149, Tryz.runUnderlying149, Tryz.sizeOf149, Tryz.isAgg149, Tryz.zeroValue149, Tryz.underlying92, Tryz.runUnderlying92, Tryz.sizeOf92, Tryz.isAgg92, Tryz.zeroValue92, Tryz.underlying21, Tryz.runUnderlying21, Tryz.sizeOf21, Tryz.isAgg21, Tryz.zeroValue21, (by kernel_rfl)⟩
theorem lock_new {w0 w : World} {b : Nat} {cs : Array Value} {e : TypeId} {G G' : Heap} (hN : New w0 w G) (hu : Upd b (.cells cs e (0, 0)) (.cells (cs.setIfInBounds 6 (.int .i32 1)) e (0, 0)) G G') (hc : cs[6]? = some (.int .i32 0)) :
    Calls Tryz.prog 62 #[.pointer (some ⟨b, 6, none⟩)] w fun e w' => ∃ x : Unit, e = .returned (.tuple #[]) ∧ True ∧ New w0 w' G' :=
  (Go.MuLone.lock_free muL ⟨b, 6, none⟩ w (hN.cell hu.mem hc) (hN.frozen hu.mem)).mono fun _ _ ⟨h1, h2⟩ => ⟨(), h1, trivial, by rw [h2]; exact hN.setCell hu⟩
theorem unlock_new {w0 : World} {b : Nat} {cs : Array Value} {e : TypeId} {G G' : Heap} (hu : Upd b (.cells cs e (0, 0)) (.cells (cs.setIfInBounds 6 (.int .i32 0)) e (0, 0)) G G') (hc : cs[6]? = some (.int .i32 1)) :
    ∀ w, New w0 w G → CallsD Tryz.prog 63 ([Value.pointer (some ⟨b, 6, none⟩)] ++ []).toArray .returning w (fun e u' w' => u' = .returning ∧ (∃ v, e = .returned v) ∧ New w0 w' G') := fun w hN =>
  (Go.MuLone.unlock_deferred muL ⟨b, 6, none⟩ .returning w (hN.cell hu.mem hc) (hN.frozen hu.mem)).mono fun _ _ _ ⟨h0, h1, h2⟩ => ⟨h0, ⟨_, h1⟩, by rw [h2]; exact hN.setCell hu⟩
end Go.Proofs.YtbnjmkidbfmomaaGreatDoor
namespace Go.Proofs.YtbnjmkidbfmomaaGreatDoor
open Go.Sx Go.RowKit Go.Bt Go.Lib Go.Sand
theorem nil25_guard (x y : Operand) (a : Option Addr) (k c : Nat) (w : World) : (eqGuard .eql 25 x y (.slice a k c) (.slice none 0 0)).run Tryz.prog w = .ok () w := by simp [eqGuard]
theorem nil25 (a : Option Addr) (k c : Nat) (w : World) : (binOp .eql 25 (.slice a k c) (.slice none 0 0)).run Tryz.prog w = .ok (.bool a.isNone) w := Go.Lib.run_eql_slice_nil w 25 3 a k c 0 0 Tb.sl_25
abbrev sK (xs : List Int) (k : Nat) : Int := sm k fun j => xs.getD j 0
theorem sK_succ (xs : List Int) (k : Nat) : sK xs (k + 1) = sK xs k + xs.getD k 0 := rfl
theorem sK_bd {xs : List Int} (h : ∀ k, -1000000 ≤ xs.getD k 0 ∧ xs.getD k 0 ≤ 1000000) : ∀ k : Nat, -1000000 * (k : Int) ≤ sK xs k ∧ sK xs k ≤ 1000000 * (k : Int)
  | 0 => by simp [sK, Sand.sm]
  | k + 1 => by
    have h1 := sK_bd h k
    have h2 := h k
    rw [sK_succ]; omega
def bareK (s : St) (hol : List Int) (k j : Nat) : Nat := Mo.msk s.md.N fun i => (decide (i % s.W.length < k) && decide (((i / s.W.length : Nat) : Int) < hol.getD (i % s.W.length) 0)) || (decide (i % s.W.length = k) && decide (i / s.W.length < j))
theorem bareK_t (s : St) (hol : List Int) (k j i : Nat) : (bareK s hol k j).testBit i = (decide (i < s.md.N) && ((decide (i % s.W.length < k) && decide (((i / s.W.length : Nat) : Int) < hol.getD (i % s.W.length) 0)) || (decide (i % s.W.length = k) && decide (i / s.W.length < j)))) := Mo.msk_t _ _ _
theorem bareK_zero (s : St) (hol : List Int) : bareK s hol 0 0 = 0 := Nat.eq_of_testBit_eq fun i => by rw [bareK_t]; simp
theorem bareK_end {s : St} (hv : SV s) (hol : List Int) : bareK s hol s.W.length 0 = bare s hol := Nat.eq_of_testBit_eq fun i => by
  rw [bareK_t, bare_t, decide_eq_true (Nat.mod_lt i (by have := hv.n5; omega))]; simp
theorem bareK_col {s : St} {hol : List Int} {k j : Nat} (hj : ((j : Nat) : Int) = hol.getD k 0) : bareK s hol k j = bareK s hol (k + 1) 0 := Nat.eq_of_testBit_eq fun i => by
  rw [bareK_t, bareK_t]
  congr 1
  by_cases h1 : i % s.W.length < k
  · rw [decide_eq_true h1, decide_eq_true (show i % s.W.length < k + 1 by omega), decide_eq_false (show ¬ i % s.W.length = k by omega), decide_eq_false (show ¬ i % s.W.length = k + 1 by omega)]; simp
  · by_cases h2 : i % s.W.length = k
    · rw [decide_eq_false h1, decide_eq_true h2, decide_eq_true (show i % s.W.length < k + 1 by omega), decide_eq_false (show ¬ i % s.W.length = k + 1 by omega), h2, ← hj]
      simp only [Bool.true_and, Bool.false_and, Bool.or_false, Bool.false_or]
      exact decide_eq_decide.2 (by omega)
    · rw [decide_eq_false h1, decide_eq_false h2, decide_eq_false (show ¬ i % s.W.length < k + 1 by omega)]; simp
theorem bareK_row {s : St} {hol : List Int} {k j : Nat} (hk : k < s.W.length) (hj : j < C.dep s.W) : bareK s hol k (j + 1) = bareK s hol k j ||| 2 ^ (s.sq j k) := Nat.eq_of_testBit_eq fun i => by
  rw [Nat.testBit_or, bareK_t, bareK_t, Nat.testBit_two_pow]
  have h := sq_at (s := s) (r := j) (c := k) hk
  have hN := sq_lt (s := s) (r := j) (c := k) hk hj
  by_cases e : s.sq j k = i
  · subst e
    rw [decide_eq_true (rfl : s.sq j k = s.sq j k), h.2.1, h.2.2, decide_eq_true hN]; simp
  · rw [decide_eq_false e, Bool.or_false]
    by_cases hi : i < s.md.N
    · rw [decide_eq_true hi, Bool.true_and, Bool.true_and]
      congr 1
      by_cases h2 : i % s.W.length = k
      · rw [decide_eq_true h2, Bool.true_and, Bool.true_and]
        have h3 : i / s.W.length ≠ j := fun h4 => e (by rw [h.1, ← h2, ← h4, Nat.mul_comm]; exact Nat.div_add_mod i _)
        exact decide_eq_decide.2 (by omega)
      · rw [decide_eq_false h2]; rfl
    · rw [decide_eq_false hi]; rfl
theorem bareK_lt (s : St) (hol : List Int) (k j : Nat) : bareK s hol k j < 2 ^ s.md.N := Mo.msk_lt _ _
theorem sq_cast {s : St} {r k : Int} (hr : 0 ≤ r) (hk : 0 ≤ k) : r * (s.W.length : Int) + k = ((s.sq r k : Nat) : Int) := by
  have : 0 ≤ r * (s.W.length : Int) := Int.mul_nonneg hr (by omega)
  show _ = (((r * (s.W.length : Int) + k).toNat : Nat) : Int)
  omega
theorem sum_ok (w0 : World) (p : Option Addr) (n : Nat) (xs : List Int) (hx : IntsAt w0 p xs) (hl : xs.length ≤ 1000000) (hb : ∀ k, -1000000 ≤ xs.getD k 0 ∧ xs.getD k 0 ≤ 1000000) :
    Calls Tryz.prog 111 #[.slice p xs.length n] w0 (Post (X := Unit) (fun _ => .int .i64 (sL xs)) (fun _ => True) (fun _ => []) w0) := by
  refine calls Tryz.func111 rfl (n := 17) rfl (by simp) ?_
  refine zr (za rfl (zk (za rfl (zn (TC.seq (zr (zm rfl (zq (PV.len rfl Tb.sl_25) rfl (zm rfl (zn (TC.block (TC.loopK [2, 6, 7] (X := Nat) (fun k => k ≤ xs.length) (fun k => [(8, .int .i64 (k : Nat)), (3, .int .i64 (sK xs k))]) (fun k => []) (fun k => xs.length - k) 0 (Nat.zero_le _) l9z s9z ?_))))))))))))
  intro k hk
  refine zr (zq (PV.lss rfl rfl) rfl (zn (TC.seq (TC.cd rfl (fun hlt => ?_) (fun hlt => ?_)))))
  refine TC.skip (TQ.thenC (TC.seq (TC.block (TC.seq ?_))))
  obtain ⟨q, qp, qv⟩ := hx k (by omega)
  refine TC.region (zq (PV.indexA rfl qp rfl Tb.elm_25 rfl om) rfl (zq (PV.loadOld rfl Tb.one_3 qv) rfl (za rfl (zn ?_))))
  have h1 := sK_bd hb k
  have h2 := hb k
  refine TC.region (zm rfl (zm rfl (zq (PV.add rfl rfl om) rfl (za rfl (TL.nil (TQ.blkN (TQ.thenC (TC.region (zq (PV.add rfl rfl om) rfl (zm rfl (TL.nil (TQ.thenN (TQ.backK (k + 1) l9z l9z s9z om om)))))))))))))
  refine TC.exit (TQ.thenE (TQ.thenE (TQ.blkS (TQ.thenC (TC.seq ?_)))))
  have hke : k = xs.length := by omega
  refine TC.region (zm rfl (za rfl (zt (TQ.retE1 rfl rfl ?_))))
  exact ⟨(), by rw [hke]; rfl, trivial, nils⟩
theorem onHeaps_ok (w0 : World) (c : Co) (v : TV) (hx : IntsAt w0 v.pt c.tur) (hl : c.tur.length ≤ 1000000) (hb : ∀ k, -1000000 ≤ c.tur.getD k 0 ∧ c.tur.getD k 0 ≤ 1000000) :
    Calls Tryz.prog 112 #[.agg (tyL c v).toArray] w0 (Post (X := Unit) (fun _ => .int .i64 (sL c.tur)) (fun _ => True) (fun _ => []) w0) := by
  refine calls Tryz.func112 rfl (n := 6) rfl (by simp) ?_
  refine zr (TL.box rfl rfl dc (fun b0 hb0 => ?_))
  refine za rfl (zk (zq (PV.fieldAddr rfl Tb.fo_101_2) rfl (zq (PV.load rfl Tb.one_25 m9z rfl) rfl ?_)))
  refine TL.call rfl Tb.gofn_111 (fun a w hs => sum_ok w _ _ c.tur (hx.new hs.new) hl hb) rfl dc (fun _ _ => ?_)
  refine za rfl (zt (TQ.retE1 rfl rfl ?_))
  exact ⟨(), rfl, trivial, nils⟩
theorem square_ok (w0 : World) (s : St) (c : Co) (v : TV) (hl : c.hol.length = s.W.length) (h6 : s.W.length ≤ 6) (r k : Int) (hr : 0 ≤ r ∧ r ≤ 2000) (hk : 0 ≤ k ∧ k ≤ 2000) :
    Calls Tryz.prog 160 #[.agg (tyL c v).toArray, .int .i64 r, .int .i64 k] w0 (Post (X := Unit) (fun _ => .int .i64 (s.sq r k : Nat)) (fun _ => True) (fun _ => []) w0) := by
  have hm0 : 0 ≤ r * (c.hol.length : Int) := Int.mul_nonneg hr.1 (by omega)
  have hm1 : r * (c.hol.length : Int) ≤ 2000 * 6 := Int.mul_le_mul hr.2 (by omega) (by omega) (by omega)
  refine calls Tryz.func160 rfl (n := 14) rfl (by simp) ?_
  refine zr (TL.box rfl rfl dc (fun b0 hb0 => ?_))
  refine za rfl (zk (zm rfl (zq (PV.fieldAddr rfl Tb.fo_101_1) rfl (zq (PV.load rfl Tb.one_25 m9z rfl) rfl ?_))))
  refine zq (PV.len rfl Tb.sl_25) rfl (zq (PV.mul rfl rfl om) rfl (zm rfl (zq (PV.add rfl rfl om) rfl (za rfl (zt (TQ.retE1 rfl rfl ?_))))))
  exact ⟨(), by rw [hl, sq_cast hr.1 hk.1], trivial, nils⟩
theorem isWet_ok (w0 : World) (s : St) (c : Co) (v : TV) (hl : c.hol.length = s.W.length) (h6 : s.W.length ≤ 6) (hw : c.wet < 9223372036854775808) (r k : Int) (hr : 0 ≤ r ∧ r ≤ 2000) (hk : 0 ≤ k ∧ k ≤ 2000) (hq : s.sq r k ≤ 60) :
    Calls Tryz.prog 186 #[.agg (tyL c v).toArray, .int .i64 r, .int .i64 k] w0 (Post (X := Unit) (fun _ => .bool (c.wet.testBit (s.sq r k))) (fun _ => True) (fun _ => []) w0) := by
  refine calls Tryz.func186 rfl (n := 17) rfl (by simp) ?_
  refine zr (TL.box rfl rfl dc (fun b0 hb0 => ?_))
  refine za rfl (zn (TC.seq (TC.mixV [true, true, true, true, true, true, false, true, true, true, true] [(b0, Obj.cells (tyL c v).toArray 101 (0, 0))] 11 Tb.mixed rfl kr kr kr kr s9z ?_)))
  refine zv 0 rfl kr (PV.fieldAddr rfl Tb.fo_101_0) rfl (zv 1 rfl kr (PV.fieldAddr rfl Tb.fo_99_1) rfl (zv 2 rfl kr (PV.load rfl Tb.one_3 m9z rfl) rfl ?_))
  refine zv 3 rfl kr (PV.loadBox rfl Tb.agg_101 m9z rfl) rfl ?_
  refine zv 4 rfl kr (PV.move rfl) rfl (zv 5 rfl kr (PV.move rfl) rfl (TV.step [6] kr dc rfl ⟨⟨_, rfl, ?_⟩, trivial⟩))
  refine TL.call rfl Tb.gofn_160 (fun a w hs => square_ok w s c v hl h6 r k hr hk) rfl dc (fun _ _ => ?_)
  refine TL.nil (TV.next (.inl s9z) ?_)
  refine zv 7 rfl kr (M.PV.shrK rfl rfl om (by show ((s.sq r k : Nat) : Int) ≤ 64; omega) (M.nat_shr _ _)) rfl ?_
  refine zv 8 rfl kr (M.PV.andK rfl rfl rfl) rfl (zv 9 rfl kr (PV.eql rfl rfl) rfl (zv 10 rfl kr (PV.assign rfl) rfl (TV.done kr ?_)))
  refine zc (TQ.retE1 rfl rfl ?_)
  exact ⟨(), congrArg Value.bool (M.Has_eq hw), trivial, nils⟩
theorem bare_ok (w0 : World) (s : St) (hv : SV s) (c : Co) (v : TV) (ho : C.NB s.W c.hol) (hx : IntsAt w0 v.ph c.hol) :
    Calls Tryz.prog 110 #[.agg (tyL c v).toArray] w0 (Post (X := Unit) (fun _ => .int .i64 (bare s c.hol : Nat)) (fun _ => True) (fun _ => []) w0) := by
  have hl := ho.len
  have h5 := hv.n5
  have h4 := hv.d4
  refine calls Tryz.func110 rfl (n := 29) rfl (by simp) ?_
  refine zr (TL.box rfl rfl dc (fun b0 hb0 => ?_))
  refine za rfl (zk (za rfl (zn (TC.seq (zr (zq (PV.fieldAddr rfl Tb.fo_101_1) rfl (zq (PV.load rfl Tb.one_25 m9z rfl) rfl ?_)))))))
  refine zq (PV.len rfl Tb.sl_25) rfl (zm rfl (zn (TC.block (TC.lit [(1, _), (2, _), (3, _), (8, _), (9, _), (10, _)] l9z ?_))))
  refine TC.loopK [1, 2, 8, 9] (X := Nat) (fun k => k ≤ c.hol.length) (fun k => [(10, .int .i64 (k : Nat)), (3, .int .i64 (bareK s c.hol k 0 : Nat))]) (fun k => [(b0, Obj.cells (tyL c v).toArray 101 (0, 0))]) (fun k => c.hol.length - k) 0 (Nat.zero_le _) (by rw [bareK_zero]; exact ⟨rfl, rfl, trivial⟩) s9z ?_
  intro k hk
  refine TC.lit [(1, _), (2, _), (3, _), (8, _), (9, _), (10, _)] l9z ?_
  refine zr (zq (PV.lss rfl rfl) rfl (zn (TC.seq (TC.cd rfl (fun hlt => ?_) (fun hlt => ?_)))))
  refine TC.skip (TQ.thenC (TC.seq (TC.block (TC.seq ?_))))
  obtain ⟨q, qp, qv⟩ := hx k (by omega)
  refine TC.region (zm rfl (zq (PV.indexA rfl qp rfl Tb.elm_25 rfl om) rfl (zq (PV.loadOld rfl Tb.one_3 qv) rfl (za rfl (za rfl (zn (TC.seq ?_)))))))
  have hka := ho.at_ k
  obtain ⟨m9, hm9⟩ := Int.eq_ofNat_of_zero_le hka.1
  refine TC.region (zm rfl (zm rfl (zn (TC.block (TC.lit [(1, _), (2, _), (3, _), (4, _), (8, _), (9, _), (10, _), (15, _), (16, _)] l9z ?_)))))
  refine TC.loopK [1, 2, 4, 8, 9, 10, 15] (X := Nat) (fun j => (j : Int) ≤ c.hol.getD k 0) (fun j => [(16, .int .i64 (j : Nat)), (3, .int .i64 (bareK s c.hol k j : Nat))]) (fun j => [(b0, Obj.cells (tyL c v).toArray 101 (0, 0))]) (fun j => m9 - j) 0 om (by exact ⟨rfl, rfl, trivial⟩) s9z ?_
  intro j hj
  refine TC.lit [(1, _), (2, _), (3, _), (4, _), (8, _), (9, _), (10, _), (15, _), (16, _)] l9z ?_
  refine zr (zq (PV.lss rfl rfl) rfl (zn (TC.seq (TC.cd rfl (fun hlt2 => ?_) (fun hlt2 => ?_)))))
  refine TC.skip (TQ.thenC (TC.seq (TC.block (zr (zm rfl (za rfl (zn ?_)))))))
  have hq60 : s.sq (j : Int) (k : Int) ≤ 60 := by have := sq_lt (s := s) (r := j) (c := k) (by omega) (by omega); have := hv.N36; omega
  have hB := wet63 hv (bareK_lt s c.hol k j)
  have hrw := bareK_row (s := s) (hol := c.hol) (k := k) (j := j) (by omega) (by omega)
  refine TC.region (zm rfl (zq (PV.loadBox rfl Tb.agg_101 m9z rfl) rfl ?_))
  refine zm rfl (zm rfl (TL.call rfl Tb.gofn_160 (fun a w hs => square_ok w s c v hl om j k ⟨by omega, by omega⟩ ⟨by omega, by omega⟩) rfl dc (fun _ _ => ?_)))
  refine zq (M.PV.shlK rfl rfl om om (M.shl_nat hq60)) rfl (zq (M.PV.orK rfl rfl (M.or_nat hB (M.p63 om))) rfl (za rfl (TL.nil (TQ.blkN (TQ.thenC (TC.region (zq (PV.add rfl rfl om) rfl (zm rfl (TL.nil (TQ.thenN (TQ.backK (j + 1) (by rw [hrw]; exact ⟨rfl, rfl, trivial⟩) l9z s9z om om)))))))))))
  refine TC.exit (TQ.thenE (TQ.thenE (TQ.blkS (TQ.blkN (TQ.thenC ?_)))))
  have hcl := bareK_col (s := s) (hol := c.hol) (k := k) (j := j) (by omega)
  refine TC.region (zq (PV.add rfl rfl om) rfl (zm rfl (TL.nil (TQ.thenN (TQ.backK (k + 1) (by rw [← hcl]; exact ⟨rfl, rfl, trivial⟩) l9z s9z om om)))))
  refine TC.exit (TQ.thenE (TQ.thenE (TQ.blkS (TQ.thenC (TC.seq ?_)))))
  have hke : k = s.W.length := by omega
  refine TC.region (zm rfl (za rfl (zt (TQ.retE1 rfl rfl ?_))))
  exact ⟨(), by rw [← bareK_end hv, hke], trivial, nils⟩
set_option maxHeartbeats 1000000 in
theorem clone_ok (w0 : World) (pl : Option Addr) (cl : Nat) (xs : List Int) (hx : IntsAt w0 pl xs) (hl : xs.length ≤ 1000000) :
    Calls Tryz.prog 67 #[.slice pl xs.length cl] w0 (Post (X := HD) (fun h => gval h xs.length) (fun h => goI (h, xs)) (fun h => gbI (h, xs)) w0) := by
  refine calls Tryz.func67 rfl (n := 8) rfl (by simp) ?_
  refine zr (za rfl (zn (TC.seq (zr (zm rfl (zq (PV.cmp rfl rfl (nil25_guard _ _ _ _ _) (nil25 _ _ _)) rfl ?_))))))
  refine zn (TC.cd rfl (fun hnil => ?_) (fun hnil => ?_))
  refine zr (za rfl (zt (TQ.thenR (TQ.retE1 rfl rfl ?_))))
  have hp0 : pl = none := by simpa using hnil
  subst hp0
  have hx0 := ints_nil hx
  subst hx0
  exact ⟨none, rfl, ⟨rfl, rfl⟩, nils⟩
  refine TC.skip (TQ.thenC (zr (TL.buildSlice0 Tb.sl_25 Tb.zi_3 rfl dc (fun bE hbE => ?_))))
  refine zm rfl (TL.append0 (news := ival xs) rfl rfl Tb.sl_25 Tb.zi_3 rfl (Take.head _) (fun w' hN => ints_src Tb.sl_25 rfl (hx.new hN)) om om rfl dc (fun h1 hh1 => ?_))
  refine za rfl (zt (TQ.retE1 rfl rfl ?_))
  exact ⟨h1, rfl, by simpa [goI] using hh1, List.sublist_append_left _ _⟩
theorem plus_ok (w0 : World) (pl : Option Addr) (cl : Nat) (xs : List Int) (hx : IntsAt w0 pl xs) (hl : xs.length ≤ 1000000) (i : Nat) (hi : i < xs.length) (d : Int) (hd : -1000000 ≤ d ∧ d ≤ 1000000) (hb : -1000000 ≤ xs.getD i 0 ∧ xs.getD i 0 ≤ 1000000) :
    Calls Tryz.prog 188 #[.slice pl xs.length cl, .int .i64 i, .int .i64 d] w0 (Post (X := HD) (fun h => gval h xs.length) (fun h => goI (h, xs.set i (xs.getD i 0 + d))) (fun h => gbI (h, xs.set i (xs.getD i 0 + d))) w0) := by
  refine calls Tryz.func188 rfl (n := 18) rfl (by simp) ?_
  refine zr (za rfl (zk (zm rfl (TL.call rfl Tb.gofn_67 (fun a w hs => clone_ok w _ _ xs (hx.new hs.new) hl) rfl dc (fun h1 hh1 => ?_)))))
  refine za rfl (zk (zm rfl (zm rfl (zq (PV.indexG (len := xs.length) (ys := ival xs) (j := i) rfl rfl hh1 Tb.elm_25 rfl om) rfl (zq (PV.loadGI (y := (h1, xs)) (v := xs.getD i 0) rfl Tb.one_3 (fun y hy => List.mem_append_left _ hy) hh1 om rfl) rfl ?_)))))
  refine zm rfl (zq (PV.add rfl rfl om) rfl (zq (PV.indexG (len := xs.length) (ys := ival xs) (j := i) rfl rfl hh1 Tb.elm_25 rfl om) rfl (TL.putI (h := h1) (xs := xs) (xs' := xs.set i (xs.getD i 0 + d)) (j := i) rfl rfl Tb.cells_3 hh1 rfl p9z om rfl rfl ?_)))
  refine zk (zm rfl (za rfl (zt (TQ.retE1 rfl rfl ?_))))
  exact ⟨h1, rfl, C.go_lenI hh1 (by rw [List.length_set]), List.sublist_append_left _ _⟩
end Go.Proofs.YtbnjmkidbfmomaaGreatDoor
