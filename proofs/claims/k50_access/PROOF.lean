import PyProof.Rows.All
import Wide.All
import OpenK.AllK
import Wide.FinOn
import HandS.ForMost
import HandS.ForExc
import HandS.IsInst
import HandS.WideBits
import HandS.Walk
import HandS.EndBits
import HandS.Style
import HandS.TupAny
import HandS.Deep
import HandS.Text
import HandS.Codes
import PyProof.Rows.SeqMore
import HandS.Property
import HandS.RevTup
import HandS.Rev
import HandS.Iter
import PySem.Challenge.RW_mobileair_k50_access
set_option Elab.async false
set_option linter.all false
set_option maxRecDepth 100000
set_option maxHeartbeats 4000000
namespace En
open PySem PySem.Spec PyProof.Rows L2
/-! ## what a slot or a field holds -/
/-- the part of the heap that is data, the cells of the store, the classes -/
structure RR where
  h : Hp
  B : List Addr
  ct : List (Addr × List Str)
instance : CoeFun RR (fun _ => Addr → Option HO) := ⟨RR.h⟩
instance : Coe RR Hp := ⟨RR.h⟩
structure RR.Le (R R' : RR) : Prop where
  s : Same R.h R'.h
  b : ∃ l, R'.B = R.B ++ l
  c : R'.ct = R.ct
theorem RR.Le.refl (R : RR) : R.Le R := ⟨Same.refl _, ⟨[], by simp⟩, rfl⟩
theorem RR.Le.trans {R R' R'' : RR} (x : R.Le R') (y : R'.Le R'') : R.Le R'' := ⟨x.s.trans y.s, by
  obtain ⟨l, e⟩ := x.b
  obtain ⟨l', e'⟩ := y.b
  exact ⟨l ++ l', by rw [e', e, List.append_assoc]⟩, y.c.trans x.c⟩
theorem RR.Le.at {R R' : RR} (x : R.Le R') {n : Nat} {p : Addr} (h : R.B[n]? = some p) : R'.B[n]? = some p := by
  obtain ⟨l, e⟩ := x.b
  rw [e, List.getElem?_append_left (by exact (List.getElem?_eq_some_iff.mp h).1), h]
inductive T where
  | d (x : PyData)
  | l (ts : List T)
  | t (ts : List T)
  | o (C : Nat) (ts : List T)
  | k (ks : List Key) (ts : List T)
  | m (ks : List (List Key)) (ts : List T)
  | r (n : Nat)
  | z
inductive Stp where
  | f (j : Nat) | i (n : Nat) | k (j : Nat) | m (j : Nat)
theorem sqt_up {K : PySem.W.Frag} {R H : Hp} {a : Addr} {xs : List V} (e : Same R H) (h : SqT K R a xs) : SqT K H a xs := by
  rcases h with (h | ⟨o, h⟩) | h
  · exact .inl (.inl (e _ _ h))
  · exact .inl (.inr ⟨o, e _ _ h⟩)
  · exact .inr h
mutual
def Rp (K : PySem.W.Frag) (R : RR) (H : Hp) : T → V → List Addr → Prop
  | .d x, v, F => F = [] ∧ Dp K R v x
  | .l ts, v, F => ∃ p vs G, v = .ref p ∧ F.Perm (p :: G) ∧ H p = some (.lst vs) ∧ RpL K R H ts vs G
  | .t ts, v, F => ∃ p vs, v = .ref p ∧ SqT K R p vs ∧ RpL K R H ts vs F
  | .o C ts, v, F => ∃ p dx vs G ca N, R.ct[C]? = some (ca, N) ∧ v = .ref p ∧ F.Perm (p :: dx :: G) ∧ H p = some (.ins ca dx (N.zip vs)) ∧ H dx = some (.own p) ∧ ts.length ≤ N.length ∧ RpL K R H ts vs G
  | .k ks ts, v, F => ∃ p vs G, v = .ref p ∧ F.Perm (p :: G) ∧ H p = some (.dK (ks.zip vs)) ∧ ts.length = ks.length ∧ RpL K R H ts vs G
  | .m ks ts, v, F => ∃ p vs G, v = .ref p ∧ F.Perm (p :: G) ∧ H p = some (.dT (ks.zip vs)) ∧ ts.length = ks.length ∧ RpL K R H ts vs G
  | .r n, v, F => F = [] ∧ ∃ p, R.B[n]? = some p ∧ v = .ref p
  | .z, _, F => F = []
def RpL (K : PySem.W.Frag) (R : RR) (H : Hp) : List T → List V → List Addr → Prop
  | [], vs, F => vs = [] ∧ F = []
  | t :: ts, vs, F => ∃ v r F1 F2, vs = v :: r ∧ F.Perm (F1 ++ F2) ∧ Rp K R H t v F1 ∧ RpL K R H ts r F2
end
/-! ## data stands while the heap grows -/
mutual
theorem dp_up {K : PySem.W.Frag} {R R' : Hp} (s : Same R R') : ∀ (x : PyData) (v : V), Dp K R v x → Dp K R' v x
  | .none, _, h => by cases h; exact .non
  | .bool b, _, h => by cases h; exact .bl b
  | .int i, _, h => by cases h; exact .int i
  | .str x, _, h => by cases h; exact .str x
  | .list ds, _, h => by
    cases h with
    | lst hs ha => exact .lst (s.seq hs) (dpa_up s ds _ ha)
  | .tuple ds, _, h => by
    cases h with
    | tup hs ha =>
      refine .tup ?_ (dpa_up s ds _ ha)
      rcases hs with (h | ⟨o, h⟩) | h
      · exact .inl (.inl (s _ _ h))
      · exact .inl (.inr ⟨o, s _ _ h⟩)
      · exact .inr h
  | .dict _, _, h => by cases h
theorem dpa_up {K : PySem.W.Frag} {R R' : Hp} (s : Same R R') : ∀ (ds : List PyData) (vs : List V), DpAll K R vs ds → DpAll K R' vs ds
  | [], _, h => by cases h; exact .nil
  | d :: ds, _, h => by
    cases h with
    | cons h1 h2 => exact .cons (dp_up s d _ h1) (dpa_up s ds _ h2)
end
theorem dpa_len {K : PySem.W.Frag} {R : Hp} : ∀ {ds : List PyData} {vs : List V}, DpAll K R vs ds → vs.length = ds.length
  | [], _, h => by cases h; rfl
  | d :: ds, _, h => by
    cases h with
    | cons h1 h2 => simp [dpa_len h2]
theorem dpa_get {K : PySem.W.Frag} {R : Hp} : ∀ {ds : List PyData} {vs : List V} {i : Nat} {x : PyData}, DpAll K R vs ds → ds[i]? = some x → ∃ v, vs[i]? = some v ∧ Dp K R v x
  | [], _, _, _, _, e => by simp at e
  | d :: ds, _, 0, x, h, e => by
    cases h with
    | cons h1 h2 => simp at e; subst e; exact ⟨_, rfl, h1⟩
  | d :: ds, _, i + 1, x, h, e => by
    cases h with
    | cons h1 h2 =>
      obtain ⟨v, e1, e2⟩ := dpa_get (i := i) h2 (by simpa using e)
      exact ⟨v, by simpa using e1, e2⟩
theorem dpa_get' {K : PySem.W.Frag} {R : Hp} : ∀ {ds : List PyData} {vs : List V} {i : Nat} {v : V}, DpAll K R vs ds → vs[i]? = some v → ∃ x, ds[i]? = some x ∧ Dp K R v x
  | [], _, _, _, h, e => by cases h; simp at e
  | d :: ds, _, 0, x, h, e => by
    cases h with
    | cons h1 h2 => simp at e; subst e; exact ⟨_, rfl, h1⟩
  | d :: ds, _, i + 1, x, h, e => by
    cases h with
    | cons h1 h2 =>
      obtain ⟨v, e1, e2⟩ := dpa_get' (i := i) h2 (by simpa using e)
      exact ⟨v, by simpa using e1, e2⟩
theorem dpa_app {K : PySem.W.Frag} {R : Hp} : ∀ {ds es : List PyData} {vs us : List V}, DpAll K R vs ds → DpAll K R us es → DpAll K R (vs ++ us) (ds ++ es)
  | [], _, _, _, h, h' => by cases h; exact h'
  | d :: ds, _, _, _, h, h' => by
    cases h with
    | cons h1 h2 => exact .cons h1 (dpa_app h2 h')
theorem dpa_take {K : PySem.W.Frag} {R : Hp} : ∀ {ds : List PyData} {vs : List V} (n : Nat), DpAll K R vs ds → DpAll K R (vs.take n) (ds.take n)
  | _, _, 0, _ => by simpa using DpAll.nil
  | [], _, n + 1, h => by cases h; exact .nil
  | d :: ds, _, n + 1, h => by
    cases h with
    | cons h1 h2 => exact .cons h1 (dpa_take n h2)
theorem dpa_drop {K : PySem.W.Frag} {R : Hp} : ∀ {ds : List PyData} {vs : List V} (n : Nat), DpAll K R vs ds → DpAll K R (vs.drop n) (ds.drop n)
  | _, _, 0, h => h
  | [], _, n + 1, h => by cases h; exact .nil
  | d :: ds, _, n + 1, h => by
    cases h with
    | cons h1 h2 => exact dpa_drop n h2
theorem dpa_rev {K : PySem.W.Frag} {R : Hp} : ∀ {ds : List PyData} {vs : List V}, DpAll K R vs ds → DpAll K R vs.reverse ds.reverse
  | [], _, h => by cases h; exact .nil
  | d :: ds, _, h => by
    cases h with
    | cons h1 h2 =>
      rw [List.reverse_cons, List.reverse_cons]
      exact dpa_app (dpa_rev h2) (.cons h1 .nil)
mutual
theorem rp_up {K : PySem.W.Frag} {R R' : RR} {H H' : Hp} (s : R.Le R') : ∀ (t : T) (v : V) (F : List Addr), (∀ a ∈ F, ∀ o, H a = some o → H' a = some o) → Rp K R H t v F → Rp K R' H' t v F
  | .d x, v, F, _, h => ⟨h.1, dp_up s.s _ _ h.2⟩
  | .l ts, v, F, e, h => by
    obtain ⟨p, vs, G, e1, e2, e3, e4⟩ := h
    exact ⟨p, vs, G, e1, e2, e p (e2.mem_iff.mpr (by simp)) _ e3, rpl_up s ts vs G (fun a ha => e a (e2.mem_iff.mpr (by simp [ha]))) e4⟩
  | .t ts, v, F, e, h => by
    obtain ⟨p, vs, e1, e3, e4⟩ := h
    exact ⟨p, vs, e1, sqt_up s.s e3, rpl_up s ts vs F e e4⟩
  | .o C ts, v, F, e, h => by
    obtain ⟨p, dx, vs, G, ca, N, e0, e1, e2, e3, e3', e5, e4⟩ := h
    exact ⟨p, dx, vs, G, ca, N, by rw [s.c]; exact e0, e1, e2, e p (e2.mem_iff.mpr (by simp)) _ e3, e dx (e2.mem_iff.mpr (by simp)) _ e3', e5, rpl_up s ts vs G (fun a ha => e a (e2.mem_iff.mpr (by simp [ha]))) e4⟩
  | .k ks ts, v, F, e, h => by
    obtain ⟨p, vs, G, e1, e2, e3, e5, e4⟩ := h
    exact ⟨p, vs, G, e1, e2, e p (e2.mem_iff.mpr (by simp)) _ e3, e5, rpl_up s ts vs G (fun a ha => e a (e2.mem_iff.mpr (by simp [ha]))) e4⟩
  | .m ks ts, v, F, e, h => by
    obtain ⟨p, vs, G, e1, e2, e3, e5, e4⟩ := h
    exact ⟨p, vs, G, e1, e2, e p (e2.mem_iff.mpr (by simp)) _ e3, e5, rpl_up s ts vs G (fun a ha => e a (e2.mem_iff.mpr (by simp [ha]))) e4⟩
  | .r n, v, F, _, h => by
    obtain ⟨e1, p, e2, e3⟩ := h
    exact ⟨e1, p, s.at e2, e3⟩
  | .z, _, _, _, h => h
theorem rpl_up {K : PySem.W.Frag} {R R' : RR} {H H' : Hp} (s : R.Le R') : ∀ (ts : List T) (vs : List V) (F : List Addr), (∀ a ∈ F, ∀ o, H a = some o → H' a = some o) → RpL K R H ts vs F → RpL K R' H' ts vs F
  | [], _, _, _, h => h
  | t :: ts, vs, F, e, h => by
    obtain ⟨v, r, F1, F2, e1, e2, e3, e4⟩ := h
    exact ⟨v, r, F1, F2, e1, e2, rp_up s t v F1 (fun a ha => e a (e2.mem_iff.mpr (by simp [ha]))) e3, rpl_up s ts r F2 (fun a ha => e a (e2.mem_iff.mpr (by simp [ha]))) e4⟩
end
theorem rpl_perm {K : PySem.W.Frag} {R : RR} {H : Hp} {ts : List T} {vs : List V} {F F' : List Addr} (p : F.Perm F') (h : RpL K R H ts vs F) : RpL K R H ts vs F' := by
  cases ts with
  | nil => obtain ⟨h1, h2⟩ := h; refine ⟨h1, ?_⟩; rw [h2] at p; exact List.nil_perm.mp p
  | cons t ts => obtain ⟨v, r, F1, F2, e1, e2, e3⟩ := h; exact ⟨v, r, F1, F2, e1, p.symm.trans e2, e3⟩
theorem rp_perm {K : PySem.W.Frag} {R : RR} {H : Hp} {t : T} {v : V} {F F' : List Addr} (p : F.Perm F') (h : Rp K R H t v F) : Rp K R H t v F' := by
  cases t with
  | d x => exact ⟨by have := p; rw [h.1] at this; exact List.nil_perm.mp this, h.2⟩
  | l ts => obtain ⟨q, vs, G, e1, e2, r⟩ := h; exact ⟨q, vs, G, e1, p.symm.trans e2, r⟩
  | t ts => obtain ⟨q, vs, e1, e2, e3⟩ := h; exact ⟨q, vs, e1, e2, rpl_perm p e3⟩
  | o C ts => obtain ⟨q, dx, vs, G, ca, N, e0, e1, e2, r⟩ := h; exact ⟨q, dx, vs, G, ca, N, e0, e1, p.symm.trans e2, r⟩
  | k ks ts => obtain ⟨q, vs, G, e1, e2, r⟩ := h; exact ⟨q, vs, G, e1, p.symm.trans e2, r⟩
  | m ks ts => obtain ⟨q, vs, G, e1, e2, r⟩ := h; exact ⟨q, vs, G, e1, p.symm.trans e2, r⟩
  | r n => obtain ⟨e1, e2⟩ := h; exact ⟨by rw [e1] at p; exact List.nil_perm.mp p, e2⟩
  | z => have h' : F = [] := h; rw [h'] at p; exact List.nil_perm.mp p
theorem rpl_len {K : PySem.W.Frag} {R : RR} {H : Hp} : ∀ {ts : List T} {vs : List V} {F : List Addr}, RpL K R H ts vs F → vs.length = ts.length
  | [], _, _, h => by rw [h.1]; rfl
  | t :: ts, vs, F, h => by
    obtain ⟨v, r, F1, F2, e1, e2, e3, e4⟩ := h
    rw [e1, List.length_cons, List.length_cons, rpl_len e4]
mutual
theorem rp_dom {K : PySem.W.Frag} {R : RR} {H : Hp} : ∀ (t : T) (v : V) (F : List Addr), Rp K R H t v F → ∀ a ∈ F, H a ≠ none
  | .d x, v, F, h => by rw [h.1]; intro a ha; cases ha
  | .l ts, v, F, h => by
    obtain ⟨p, vs, G, e1, e2, e3, e4⟩ := h
    intro a ha
    rcases List.mem_cons.mp (e2.mem_iff.mp ha) with rfl | ha
    · rw [e3]; exact fun z => by cases z
    · exact rpl_dom ts vs G e4 a ha
  | .t ts, v, F, h => by
    obtain ⟨p, vs, e1, e3, e4⟩ := h
    exact rpl_dom ts vs F e4
  | .o C ts, v, F, h => by
    obtain ⟨p, dx, vs, G, ca, N, e0, e1, e2, e3, e3', e5, e4⟩ := h
    intro a ha
    rcases List.mem_cons.mp (e2.mem_iff.mp ha) with rfl | ha
    · rw [e3]; exact fun z => by cases z
    · rcases List.mem_cons.mp ha with rfl | ha
      · rw [e3']; exact fun z => by cases z
      · exact rpl_dom ts vs G e4 a ha
  | .k ks ts, v, F, h => by
    obtain ⟨p, vs, G, e1, e2, e3, e5, e4⟩ := h
    intro a ha
    rcases List.mem_cons.mp (e2.mem_iff.mp ha) with rfl | ha
    · rw [e3]; exact fun z => by cases z
    · exact rpl_dom ts vs G e4 a ha
  | .m ks ts, v, F, h => by
    obtain ⟨p, vs, G, e1, e2, e3, e5, e4⟩ := h
    intro a ha
    rcases List.mem_cons.mp (e2.mem_iff.mp ha) with rfl | ha
    · rw [e3]; exact fun z => by cases z
    · exact rpl_dom ts vs G e4 a ha
  | .r n, _, F, h => by rw [h.1]; intro a ha; cases ha
  | .z, _, F, h => by have h' : F = [] := h; rw [h']; intro a ha; cases ha
theorem rpl_dom {K : PySem.W.Frag} {R : RR} {H : Hp} : ∀ (ts : List T) (vs : List V) (F : List Addr), RpL K R H ts vs F → ∀ a ∈ F, H a ≠ none
  | [], _, _, h => by rw [h.2]; intro a ha; cases ha
  | t :: ts, vs, F, h => by
    obtain ⟨v, r, F1, F2, e1, e2, e3, e4⟩ := h
    intro a ha
    rcases List.mem_append.mp (e2.mem_iff.mp ha) with ha | ha
    · exact rp_dom t v F1 e3 a ha
    · exact rpl_dom ts r F2 e4 a ha
end
/-! ## a tree as data -/
mutual
def T.data : T → Option PyData
  | .d x => some x
  | .l ts => (dataL ts).map PyData.list
  | .t ts => (dataL ts).map PyData.tuple
  | _ => none
def dataL : List T → Option (List PyData)
  | [] => some []
  | t :: ts => match t.data, dataL ts with
    | some x, some xs => some (x :: xs)
    | _, _ => none
end
theorem dataL_d : ∀ ds : List PyData, dataL (ds.map T.d) = some ds
  | [] => rfl
  | d :: ds => by
    show (match T.data (.d d), dataL (ds.map T.d) with | some x, some xs => some (x :: xs) | _, _ => none) = _
    rw [dataL_d ds]; rfl
mutual
/-- a tree is let go: its cells are data from now on -/
theorem rp_frz {K : PySem.W.Frag} {R : RR} {H : Hp} {R' : RR} (s : R.Le R') : ∀ (t : T) (v : V) (F : List Addr) (x : PyData), (∀ a ∈ F, ∀ o, H a = some o → R' a = some o) → Rp K R H t v F → t.data = some x → Dp K R' v x
  | .d x, v, F, y, _, h, e => by
    have e' : some x = some y := e
    cases e'
    exact dp_up s.s _ _ h.2
  | .l ts, v, F, y, q, h, e => by
    obtain ⟨p, vs, G, rfl, e2, e3, e4⟩ := h
    have e' : (dataL ts).map PyData.list = some y := e
    cases e5 : dataL ts with
    | none => rw [e5] at e'; cases e'
    | some xs =>
      rw [e5] at e'
      cases e'
      exact .lst (.of (q p (e2.mem_iff.mpr (by simp)) _ e3)) (rpl_frz s ts vs G xs (fun a ha => q a (e2.mem_iff.mpr (by simp [ha]))) e4 e5)
  | .t ts, v, F, y, q, h, e => by
    obtain ⟨p, vs, rfl, e3, e4⟩ := h
    have e' : (dataL ts).map PyData.tuple = some y := e
    cases e5 : dataL ts with
    | none => rw [e5] at e'; cases e'
    | some xs =>
      rw [e5] at e'
      cases e'
      exact .tup (sqt_up s.s e3) (rpl_frz s ts vs F xs q e4 e5)
  | .o C ts, v, F, y, _, _, e => by cases (show none = some y from e)
  | .k ks ts, v, F, y, _, _, e => by cases (show none = some y from e)
  | .m ks ts, v, F, y, _, _, e => by cases (show none = some y from e)
  | .r n, _, _, y, _, _, e => by cases (show none = some y from e)
  | .z, _, _, y, _, _, e => by cases (show none = some y from e)
theorem rpl_frz {K : PySem.W.Frag} {R : RR} {H : Hp} {R' : RR} (s : R.Le R') : ∀ (ts : List T) (vs : List V) (F : List Addr) (xs : List PyData), (∀ a ∈ F, ∀ o, H a = some o → R' a = some o) → RpL K R H ts vs F → dataL ts = some xs → DpAll K R' vs xs
  | [], vs, F, xs, _, h, e => by
    have e' : some [] = some xs := e
    cases e'
    rw [h.1]
    exact .nil
  | t :: ts, vs, F, xs, q, h, e => by
    obtain ⟨v, r, F1, F2, rfl, e2, e3, e4⟩ := h
    have e' : (match T.data t, dataL ts with | some x, some xs => some (x :: xs) | _, _ => none) = some xs := e
    cases e5 : T.data t with
    | none => rw [e5] at e'; cases e'
    | some y =>
      cases e6 : dataL ts with
      | none => rw [e5, e6] at e'; cases e'
      | some ys =>
        rw [e5, e6] at e'
        cases e'
        exact .cons (rp_frz s t v F1 y (fun a ha => q a (e2.mem_iff.mpr (by simp [ha]))) e3 e5) (rpl_frz s ts r F2 ys (fun a ha => q a (e2.mem_iff.mpr (by simp [ha]))) e4 e6)
end
theorem rpl_d {K : PySem.W.Frag} {R : RR} {H : Hp} : ∀ {ds : List PyData} {vs : List V}, DpAll K R vs ds → RpL K R H (ds.map T.d) vs []
  | [], _, h => by cases h; exact ⟨rfl, rfl⟩
  | d :: ds, _, h => by
    cases h with
    | cons h1 h2 => exact ⟨_, _, [], [], rfl, .refl _, ⟨rfl, h1⟩, rpl_d h2⟩
/-- a list of data only -/
def allD : List T → Option (List PyData)
  | [] => some []
  | .d x :: ts => (allD ts).map (x :: ·)
  | _ :: _ => none
theorem allD_d : ∀ ds : List PyData, allD (ds.map T.d) = some ds
  | [] => rfl
  | d :: ds => by
    show (allD (ds.map T.d)).map (d :: ·) = _
    rw [allD_d ds]; rfl
theorem allD_of : ∀ {ts : List T} {xs : List PyData}, allD ts = some xs → ts = xs.map T.d
  | [], xs, e => by cases (show some [] = some xs from e); rfl
  | .d x :: ts, xs, e => by
    have e' : (allD ts).map (x :: ·) = some xs := e
    cases h : allD ts with
    | none => rw [h] at e'; cases e'
    | some ys => rw [h] at e'; cases e'; rw [allD_of h]; rfl
  | .l _ :: _, _, e => by cases e
  | .t _ :: _, _, e => by cases e
  | .r _ :: _, _, e => by cases e
  | .o _ _ :: _, _, e => by cases e
  | .k _ _ :: _, _, e => by cases e
  | .m _ _ :: _, _, e => by cases e
  | .z :: _, _, e => by cases e
theorem rpl_d' {K : PySem.W.Frag} {R : RR} {H : Hp} : ∀ {ds : List PyData} {vs : List V} {F : List Addr}, RpL K R H (ds.map T.d) vs F → DpAll K R vs ds ∧ F = []
  | [], vs, F, h => by rw [h.1, h.2]; exact ⟨.nil, rfl⟩
  | d :: ds, vs, F, h => by
    obtain ⟨v, r, F1, F2, rfl, e2, e3, e4⟩ := h
    obtain ⟨h1, h2⟩ := rpl_d' e4
    obtain ⟨h3, h4⟩ := e3
    rw [h2, h3] at e2
    exact ⟨.cons h4 h1, List.nil_perm.mp e2.symm⟩
/-! ## the slots -/
abbrev Sl := List (Option T)
def RpS (K : PySem.W.Frag) (R : RR) (H : Hp) : Sl → L2.St → List Addr → Prop
  | [], σ, F => σ = [] ∧ F = []
  | none :: e, σ, F => ∃ o r, σ = o :: r ∧ RpS K R H e r F
  | some t :: e, σ, F => ∃ v r F1 F2, σ = some v :: r ∧ F.Perm (F1 ++ F2) ∧ Rp K R H t v F1 ∧ RpS K R H e r F2
theorem rps_up {K : PySem.W.Frag} {R : RR} {H : Hp} {R' : RR} {H' : Hp} (s : R.Le R') : ∀ (e : Sl) (σ : L2.St) (F : List Addr), (∀ a ∈ F, ∀ o, H a = some o → H' a = some o) → RpS K R H e σ F → RpS K R' H' e σ F
  | [], _, _, _, h => h
  | none :: e, σ, F, q, h => by
    obtain ⟨o, r, e1, e2⟩ := h
    exact ⟨o, r, e1, rps_up s e r F q e2⟩
  | some t :: e, σ, F, q, h => by
    obtain ⟨v, r, F1, F2, e1, e2, e3, e4⟩ := h
    exact ⟨v, r, F1, F2, e1, e2, rp_up s t v F1 (fun a ha => q a (e2.mem_iff.mpr (by simp [ha]))) e3, rps_up s e r F2 (fun a ha => q a (e2.mem_iff.mpr (by simp [ha]))) e4⟩
theorem rps_perm {K : PySem.W.Frag} {R : RR} {H : Hp} : ∀ {e : Sl} {σ : L2.St} {F F' : List Addr}, F.Perm F' → RpS K R H e σ F → RpS K R H e σ F'
  | [], _, _, _, p, h => ⟨h.1, by rw [h.2] at p; exact List.nil_perm.mp p⟩
  | none :: e, _, _, _, p, h => by
    obtain ⟨o, r, e1, e2⟩ := h
    exact ⟨o, r, e1, rps_perm p e2⟩
  | some t :: e, _, _, _, p, h => by
    obtain ⟨v, r, F1, F2, e1, e2, e3⟩ := h
    exact ⟨v, r, F1, F2, e1, p.symm.trans e2, e3⟩
theorem rps_dom {K : PySem.W.Frag} {R : RR} {H : Hp} : ∀ (e : Sl) (σ : L2.St) (F : List Addr), RpS K R H e σ F → ∀ a ∈ F, H a ≠ none
  | [], _, _, h => by rw [h.2]; intro a ha; cases ha
  | none :: e, σ, F, h => by
    obtain ⟨o, r, e1, e2⟩ := h
    exact rps_dom e r F e2
  | some t :: e, σ, F, h => by
    obtain ⟨v, r, F1, F2, e1, e2, e3, e4⟩ := h
    intro a ha
    rcases List.mem_append.mp (e2.mem_iff.mp ha) with ha | ha
    · exact rp_dom t v F1 e3 a ha
    · exact rps_dom e r F2 e4 a ha
theorem rps_len {K : PySem.W.Frag} {R : RR} {H : Hp} : ∀ {e : Sl} {σ : L2.St} {F : List Addr}, RpS K R H e σ F → σ.length = e.length
  | [], _, _, h => by rw [h.1]; rfl
  | none :: e, σ, F, h => by
    obtain ⟨o, r, e1, e2⟩ := h
    rw [e1, List.length_cons, List.length_cons, rps_len e2]
  | some t :: e, σ, F, h => by
    obtain ⟨v, r, F1, F2, e1, e2, e3, e4⟩ := h
    rw [e1, List.length_cons, List.length_cons, rps_len e4]
/-- a slot's tree is taken out -/
theorem rps_take {K : PySem.W.Frag} {R : RR} {H : Hp} : ∀ {e : Sl} {σ : L2.St} {F : List Addr} {i : Nat} {t : T}, RpS K R H e σ F → e[i]? = some (some t) →
    ∃ v F1 F2, σ[i]? = some (some v) ∧ F.Perm (F1 ++ F2) ∧ Rp K R H t v F1 ∧ RpS K R H (e.set i (some .z)) σ F2
  | [], _, _, _, _, _, e => by simp at e
  | none :: e, _, _, 0, _, _, h => by simp at h
  | none :: e, σ, F, i + 1, t, h, q => by
    obtain ⟨o, r, rfl, e2⟩ := h
    obtain ⟨v, F1, F2, h1, h2, h3, h4⟩ := rps_take (i := i) e2 (by simpa using q)
    exact ⟨v, F1, F2, by simpa using h1, h2, h3, o, r, rfl, h4⟩
  | some t :: e, σ, F, 0, t', h, q => by
    obtain ⟨v, r, F1, F2, rfl, e2, e3, e4⟩ := h
    simp at q
    subst q
    exact ⟨v, F1, F2, by simp, e2, e3, v, r, [], F2, rfl, .refl _, rfl, e4⟩
  | some t :: e, σ, F, i + 1, t', h, q => by
    obtain ⟨v, r, F1, F2, rfl, e2, e3, e4⟩ := h
    obtain ⟨v', G1, G2, h1, h2, h3, h4⟩ := rps_take (i := i) e4 (by simpa using q)
    refine ⟨v', G1, F1 ++ G2, by simpa using h1, ?_, h3, v, r, F1, G2, rfl, .refl _, e3, h4⟩
    refine e2.trans ((List.Perm.append_left F1 h2).trans ?_)
    rw [← List.append_assoc, ← List.append_assoc]
    exact List.Perm.append_right G2 List.perm_append_comm
/-- a slot gets a value -/
theorem rps_put {K : PySem.W.Frag} {R : RR} {H : Hp} : ∀ {e : Sl} {σ : L2.St} {F : List Addr} {i : Nat} {t : T} {v : V} {G : List Addr}, RpS K R H e σ F → i < e.length → (∀ t', e[i]? = some (some t') → t' = .z) → Rp K R H t v G →
    RpS K R H (e.set i (some t)) (σ.set i (some v)) (G ++ F)
  | [], _, _, _, _, _, _, _, h, _, _ => by simp at h
  | none :: e, σ, F, 0, t, v, G, h, _, _, hr => by
    obtain ⟨o, r, rfl, e2⟩ := h
    exact ⟨v, r, G, F, rfl, .refl _, hr, e2⟩
  | none :: e, σ, F, i + 1, t, v, G, h, hi, hz, hr => by
    obtain ⟨o, r, rfl, e2⟩ := h
    exact ⟨o, _, rfl, rps_put (i := i) e2 (by simpa using hi) (fun t' q => hz t' (by simpa using q)) hr⟩
  | some t0 :: e, σ, F, 0, t, v, G, h, _, hz, hr => by
    obtain ⟨v0, r, F1, F2, rfl, e2, e3, e4⟩ := h
    have z := hz t0 (by simp)
    subst z
    have e3' : F1 = [] := e3
    subst e3'
    refine ⟨v, r, G, F2, rfl, ?_, hr, e4⟩
    exact List.Perm.append_left G (by simpa using e2)
  | some t0 :: e, σ, F, i + 1, t, v, G, h, hi, hz, hr => by
    obtain ⟨v0, r, F1, F2, rfl, e2, e3, e4⟩ := h
    refine ⟨v0, _, F1, G ++ F2, rfl, ?_, e3, rps_put (i := i) e4 (by simpa using hi) (fun t' q => hz t' (by simpa using q)) hr⟩
    refine (List.Perm.append_left G e2).trans ?_
    rw [← List.append_assoc, ← List.append_assoc]
    exact List.Perm.append_right F2 List.perm_append_comm
end En
namespace En
open PySem PySem.Spec PyProof.Rows L2
/-! ## the slots and the cells of the store -/
structure Env where
  s : Sl
  m : List T
inductive Rt where
  | s (i : Nat)
  | c (n : Nat)
/-! ## places -/
def getT : T → List Stp → Option T
  | t, [] => some t
  | .l ts, .i n :: q => match ts[n]? with
    | some t => getT t q
    | none => none
  | .o _ ts, .f j :: q => match ts[j]? with
    | some t => getT t q
    | none => none
  | .k _ ts, .k j :: q => match ts[j]? with
    | some t => getT t q
    | none => none
  | .m _ ts, .m j :: q => match ts[j]? with
    | some t => getT t q
    | none => none
  | _, _ => none
def getR (e : Env) : Rt → Option T
  | .s i => (e.s[i]?).join
  | .c n => e.m[n]?
def getE (e : Env) (i : Rt) (q : List Stp) : Option T := match getR e i with
  | some t => getT t q
  | none => none
def rootV (R : RR) (σ : L2.St) : Rt → Option V
  | .s i => (σ[i]?).join
  | .c n => (R.B[n]?).map V.ref
theorem rootV_up {R R' : RR} {σ : L2.St} {i : Rt} {u : V} (x : R.Le R') (h : rootV R σ i = some u) : rootV R' σ i = some u := by
  cases i with
  | s i => exact h
  | c n =>
    have h' : (R.B[n]?).map V.ref = some u := h
    show (R'.B[n]?).map V.ref = some u
    cases e : R.B[n]? with
    | none => rw [e] at h'; cases h'
    | some p => rw [e] at h'; rw [x.at e]; exact h'
/-- slots and cells together -/
def RpE (K : PySem.W.Frag) (R : RR) (H : Hp) (e : Env) (σ : L2.St) (F : List Addr) : Prop := ∃ F1 F2, F.Perm (F1 ++ F2) ∧ RpS K R H e.s σ F1 ∧ RpL K R H e.m (R.B.map V.ref) F2
/-- a cell's tree is taken out -/
theorem rpl_take {K : PySem.W.Frag} {R : RR} {H : Hp} : ∀ {ts : List T} {vs : List V} {F : List Addr} {i : Nat} {t : T}, RpL K R H ts vs F → ts[i]? = some t →
    ∃ v F1 F2, vs[i]? = some v ∧ F.Perm (F1 ++ F2) ∧ Rp K R H t v F1 ∧ RpL K R H (ts.set i .z) vs F2
  | [], _, _, _, _, _, e => by simp at e
  | t :: ts, vs, F, 0, t', h, q => by
    obtain ⟨v, r, F1, F2, rfl, e2, e3, e4⟩ := h
    simp at q
    subst q
    exact ⟨v, F1, F2, by simp, e2, e3, v, r, [], F2, rfl, .refl _, rfl, e4⟩
  | t :: ts, vs, F, i + 1, t', h, q => by
    obtain ⟨v, r, F1, F2, rfl, e2, e3, e4⟩ := h
    obtain ⟨v', G1, G2, h1, h2, h3, h4⟩ := rpl_take (i := i) e4 (by simpa using q)
    refine ⟨v', G1, F1 ++ G2, by simpa using h1, ?_, h3, v, r, F1, G2, rfl, .refl _, e3, h4⟩
    refine e2.trans ((List.Perm.append_left F1 h2).trans ?_)
    rw [← List.append_assoc, ← List.append_assoc]
    exact List.Perm.append_right G2 List.perm_append_comm
theorem rpe_perm {K : PySem.W.Frag} {R : RR} {H : Hp} {e : Env} {σ : L2.St} {F F' : List Addr} (p : F.Perm F') (h : RpE K R H e σ F) : RpE K R H e σ F' := by
  obtain ⟨F1, F2, q, h1, h2⟩ := h
  exact ⟨F1, F2, p.symm.trans q, h1, h2⟩
theorem rpe_dom {K : PySem.W.Frag} {R : RR} {H : Hp} {e : Env} {σ : L2.St} {F : List Addr} (h : RpE K R H e σ F) : ∀ a ∈ F, H a ≠ none := by
  obtain ⟨F1, F2, q, h1, h2⟩ := h
  intro a ha
  rcases List.mem_append.mp (q.mem_iff.mp ha) with ha | ha
  · exact rps_dom _ _ _ h1 a ha
  · exact rpl_dom _ _ _ h2 a ha
/-- .. while no cell is made -/
theorem rpe_up {K : PySem.W.Frag} {R R' : RR} {H H' : Hp} (s : R.Le R') (hB : R'.B = R.B) {e : Env} {σ : L2.St} {F : List Addr} (q : ∀ a ∈ F, ∀ o, H a = some o → H' a = some o) (h : RpE K R H e σ F) : RpE K R' H' e σ F := by
  obtain ⟨F1, F2, p, h1, h2⟩ := h
  refine ⟨F1, F2, p, rps_up s _ _ _ (fun a ha => q a (p.mem_iff.mpr (List.mem_append_left _ ha))) h1, ?_⟩
  rw [hB]
  exact rpl_up s _ _ _ (fun a ha => q a (p.mem_iff.mpr (List.mem_append_right _ ha))) h2
/-- one step in the heap -/
def StepH (H : Hp) (u : V) (s : Stp) (m : V) : Prop := match s with
  | .i n => ∃ p vs, u = .ref p ∧ H p = some (.lst vs) ∧ vs[n]? = some m
  | .f j => ∃ p C dx N vs, u = .ref p ∧ H p = some (.ins C dx (List.zip N vs)) ∧ vs.length ≤ N.length ∧ vs[j]? = some m
  | .k j => ∃ p ks vs, u = .ref p ∧ H p = some (.dK (List.zip ks vs)) ∧ vs.length = ks.length ∧ vs[j]? = some m
  | .m j => ∃ p ks vs, u = .ref p ∧ H p = some (.dT (List.zip ks vs)) ∧ vs.length = ks.length ∧ vs[j]? = some m
theorem rpl_key {K : PySem.W.Frag} {R : RR} {H : Hp} {t' : T} {m : V} : ∀ (ts : List T) (vs : List V) (F : List Addr) (n : Nat), RpL K R H ts vs F → ts[n]? = some t' → vs[n]? = some m → ∃ G, Rp K R H t' m G ∧ ∀ a ∈ G, a ∈ F := by
  intro ts
  induction ts with
  | nil => intro vs F n _ h; simp at h
  | cons t0 ts ih =>
    intro vs F n h h1 h2
    obtain ⟨v0, r, F1, F2, rfl, p1, p2, p3⟩ := h
    cases n with
    | zero =>
      simp at h1 h2
      subst h1 h2
      exact ⟨F1, p2, fun a z => p1.mem_iff.mpr (List.mem_append_left _ z)⟩
    | succ n =>
      obtain ⟨G, g1, g2⟩ := ih r F2 n p3 (by simpa using h1) (by simpa using h2)
      exact ⟨G, g1, fun a z => p1.mem_iff.mpr (List.mem_append_right _ (g2 a z))⟩
theorem zip_inj {α : Type} {N N' : List α} {vs vs' : List V} (h : List.zip N vs = List.zip N' vs') (l1 : vs.length ≤ N.length) (l2 : vs'.length ≤ N'.length) : vs = vs' := by
  have := congrArg (List.map (·.2)) h
  rw [List.map_snd_zip l1, List.map_snd_zip l2] at this
  exact this
def wk (H : Hp) : V → List Stp → V → Prop
  | u, [], v => u = v
  | u, s :: q, v => ∃ m, StepH H u s m ∧ wk H m q v
/-! ## the state -/
structure Ctx where
  K : PySem.W.Frag
  cl : Str → Addr
  pn : List (Option V)
  fx : Hp → Prop
  fxm : ∀ R R', Same R R' → fx R → fx R'
  ε : L2.St → XK
  ct : List (Addr × List Str)
def Pin (pn : List (Option V)) (σ : L2.St) : Prop := ∀ (i : Nat) (v : V), pn[i]? = some (some v) → σ[i]? = some (some v)
structure Sr (c : Ctx) (R : RR) (H : Hp) (e : Env) (σ : L2.St) (F : List Addr) : Prop where
  sl : RpE c.K R H e σ F
  nd : F.Nodup
  rh : Same R H
  rf : ∀ a ∈ F, R a = none
  pn : Pin c.pn σ
  fx : c.fx R
  ct : R.ct = c.ct
structure Ex (R : RR) (H : Hp) (F : List Addr) (R' : RR) (H' : Hp) (F' : List Addr) : Prop where
  rr : R.Le R'
  hh : ∀ a o, H a = some o → a ∉ F → H' a = some o
  rn : ∀ a, R' a ≠ none → R a ≠ none ∨ a ∈ F ∨ H a = none
  fn : ∀ a ∈ F', a ∈ F ∨ H a = none
theorem Ex.refl {R : RR} {H : Hp} {F : List Addr} : Ex R H F R H F := ⟨RR.Le.refl _, fun _ _ h _ => h, fun _ h => .inl h, fun _ h => .inl h⟩
theorem Ex.back {R : RR} {H : Hp} {R1 : RR} {H1 : Hp} {F F1 : List Addr} (x : Ex R H F R1 H1 F1) {a : Addr} (h : H1 a = none) : a ∈ F ∨ H a = none := by
  by_cases q : a ∈ F
  · exact .inl q
  · refine .inr ?_
    cases e : H a with
    | none => rfl
    | some o => rw [x.hh a o e q] at h; cases h
theorem Ex.trans {R : RR} {H : Hp} {R1 : RR} {H1 : Hp} {R2 : RR} {H2 : Hp} {F F1 F2 : List Addr} (x : Ex R H F R1 H1 F1) (y : Ex R1 H1 F1 R2 H2 F2) : Ex R H F R2 H2 F2 where
  rr := x.rr.trans y.rr
  hh := fun a o h q => y.hh a o (x.hh a o h q) fun z => by
    rcases x.fn a z with z | z
    · exact q z
    · rw [h] at z; cases z
  rn := fun a h => by
    rcases y.rn a h with z | z | z
    · exact x.rn a z
    · exact .inr (x.fn a z)
    · exact .inr (x.back z)
  fn := fun a h => by
    rcases y.fn a h with z | z
    · exact x.fn a z
    · exact x.back z
theorem Ex.mono {R : RR} {H : Hp} {R1 : RR} {H1 : Hp} {F F1 F2 : List Addr} (x : Ex R H F R1 H1 F1) (h : ∀ a ∈ F2, a ∈ F1) : Ex R H F R1 H1 F2 := ⟨x.rr, x.hh, x.rn, fun a z => x.fn a (h a z)⟩
/-- the heap has grown -/
theorem Ex.grow {R : RR} {H : Hp} {R1 : RR} {H1 : Hp} {F : List Addr} (s : Same H H1) (r : R.Le R1) (n : ∀ a, R1 a ≠ none → R a ≠ none ∨ H a = none) : Ex R H F R1 H1 F :=
  ⟨r, fun a o h _ => s a o h, fun a h => (n a h).elim .inl fun z => .inr (.inr z), fun _ h => .inl h⟩
theorem Sr.grow {c : Ctx} {R : RR} {H : Hp} {R1 : RR} {H1 : Hp} {e : Env} {σ : L2.St} {F : List Addr} (x : Sr c R H e σ F) (s : Same H H1) (r : R.Le R1) (hB : R1.B = R.B) (rh : Same R1 H1) (n : ∀ a, R1 a ≠ none → R a ≠ none ∨ H a = none) : Sr c R1 H1 e σ F where
  sl := rpe_up r hB (fun a _ o h => s a o h) x.sl
  nd := x.nd
  rh := rh
  rf := fun a h => by
    cases q : R1 a with
    | none => rfl
    | some o =>
      exfalso
      rcases n a (by rw [q]; exact fun z => by cases z) with z | z
      · exact z (x.rf a h)
      · exact rpe_dom x.sl a h z
  pn := x.pn
  fx := c.fxm _ _ r.s x.fx
  ct := r.c.trans x.ct
/-! ## the heap grows -/
structure Gr (R : RR) (H : Hp) (R' : RR) (H' : Hp) : Prop where
  hh : Same H H'
  rr : R.Le R'
  bb : R'.B = R.B
  rh : Same R' H'
  rn : ∀ a, R' a ≠ none → R a ≠ none ∨ H a = none
theorem Gr.refl {R : RR} {H : Hp} (rh : Same R H) : Gr R H R H := ⟨Same.refl _, RR.Le.refl _, rfl, rh, fun _ h => .inl h⟩
theorem Gr.trans {R : RR} {H : Hp} {R1 : RR} {H1 : Hp} {R2 : RR} {H2 : Hp} (x : Gr R H R1 H1) (y : Gr R1 H1 R2 H2) : Gr R H R2 H2 := ⟨x.hh.trans y.hh, x.rr.trans y.rr, y.bb.trans x.bb, y.rh, fun a h => by
  rcases y.rn a h with z | z
  · exact x.rn a z
  · exact .inr (x.hh.free z)⟩
/-! ## results -/
inductive W where
  | v (x : PyData)
  | t (t : T)
  | p (i : Rt) (q : List Stp)
  | b (ds : List PyData)
abbrev Xd := Option (List (Str × PyData))
inductive Res where
  | ok (r : W) (e : Env) (w : Bool)
  | er (C : Str) (fs : Xd) (e : Env)
  | no
inductive RV where
  | ok (x : PyData) (b : Bool) (e : Env) (w : Bool)
  | er (C : Str) (fs : Xd) (e : Env)
  | no
inductive Out where
  | nx (e : Env)
  | rt (r : W) (e : Env)
  | bk (e : Env)
  | ct (e : Env)
  | er (C : Str) (fs : Xd) (e : Env)
  | no
def Rw (K : PySem.W.Frag) (R : RR) (H : Hp) (σ : L2.St) : W → V → List Addr → Prop
  | .v x, v, G => G = [] ∧ Dp K R v x
  | .t t, v, G => Rp K R H t v G
  | .p i q, v, G => G = [] ∧ ∃ u, rootV R σ i = some u ∧ wk H u q v
  | .b ds, v, G => G = [] ∧ ∃ p vs, v = .ref p ∧ H p = some (.lst vs) ∧ DpAll K R vs ds
def Sd (K : PySem.W.Frag) (R : RR) (H : Hp) (v : V) (x : PyData) : Bool → Prop
  | false => Dp K R v x
  | true => ∃ p vs ds, v = .ref p ∧ x = .list ds ∧ H p = some (.lst vs) ∧ DpAll K R vs ds
def RX (K : PySem.W.Frag) (R : Hp) : Xd → Option Addr → Prop
  | none, d => d = none
  | some fs, d => ∃ dd vs, d = some dd ∧ R dd = some (.xd (List.zip (fs.map (·.1)) vs)) ∧ DpAll K R vs (fs.map (·.2))
def PostE (c : Ctx) (σ : L2.St) (R : RR) (H : Hp) (F : List Addr) (Q : VK) : Res → Prop
  | .ok r e w => ∀ R' H' F' G v, Sr c R' H' e σ F' → Rw c.K R' H' σ r v G → (F' ++ G).Nodup → (∀ a ∈ G, R' a = none) → Ex R H F R' H' (F' ++ G) → (w = false → Gr R H R' H' ∧ ∀ a ∈ G, H a = none) → Q v H'
  | .er C fs e => ∀ R' H' F' d, Sr c R' H' e σ F' → RX c.K R' fs d → Ex R H F R' H' F' → c.ε σ (.ref (c.cl C)) d H'
  | .no => False
def PostV (c : Ctx) (σ : L2.St) (R : RR) (H : Hp) (F : List Addr) (Q : VK) : RV → Prop
  | .ok x b e w => ∀ R' H' F' v, Sr c R' H' e σ F' → Sd c.K R' H' v x b → Ex R H F R' H' F' → (w = false → Gr R H R' H') → Q v H'
  | .er C fs e => ∀ R' H' F' d, Sr c R' H' e σ F' → RX c.K R' fs d → Ex R H F R' H' F' → c.ε σ (.ref (c.cl C)) d H'
  | .no => False
def PostS (c : Ctx) (R : RR) (H : Hp) (F : List Addr) (D : Ends) : Out → Prop
  | .nx e => ∀ σ' R' H' F', Sr c R' H' e σ' F' → Ex R H F R' H' F' → D.nx σ' H'
  | .rt r e => ∀ σ' R' H' F' G v, Sr c R' H' e σ' F' → Rw c.K R' H' σ' r v G → (F' ++ G).Nodup → (∀ a ∈ G, R' a = none) → Ex R H F R' H' (F' ++ G) → D.rt v H'
  | .bk e => ∀ σ' R' H' F', Sr c R' H' e σ' F' → Ex R H F R' H' F' → D.bk σ' H'
  | .ct e => ∀ σ' R' H' F', Sr c R' H' e σ' F' → Ex R H F R' H' F' → D.ct σ' H'
  | .er C fs e => ∀ σ' R' H' F' d, Sr c R' H' e σ' F' → RX c.K R' fs d → Ex R H F R' H' F' → c.ε σ' (.ref (c.cl C)) d H'
  | .no => False
def tD (c : Ctx) (d : Env → Res) : TE := fun σ H Q => ∃ e R F, Sr c R H e σ F ∧ PostE c σ R H F Q (d e)
def tV (c : Ctx) (d : Env → RV) : TE := fun σ H Q => ∃ e R F, Sr c R H e σ F ∧ PostV c σ R H F Q (d e)
def tS (c : Ctx) (d : Env → Out) : TS := fun D σ H => ∃ e R F, Sr c R H e σ F ∧ PostS c R H F D (d e)
/-! ## weaker readings -/
theorem PE.imp {X : Cx} {e : Expr} {t t' : TE} (h : PE X e t) (q : ∀ σ H Q, t' σ H Q → t σ H Q) : PE X e t' := ⟨fun pins s σ H Q I x => h.run pins s σ H Q I (q _ _ _ x)⟩
theorem PT.imp {X : Cx} {e : Expr} {t t' : TT} (h : PT X e t) (q : ∀ σ H Q, t' σ H Q → t σ H Q) : PT X e t' := ⟨fun pins s σ H Q I x => h.run pins s σ H Q I (q _ _ _ x)⟩
theorem PW.imp {X : Cx} {e : Expr} {t t' : TT} (h : PW X e t) (q : ∀ σ H Q, t' σ H Q → t σ H Q) : PW X e t' := ⟨fun wh pins s σ H Q I x => h.run wh pins s σ H Q I (q _ _ _ x)⟩
theorem PS.imp {X : Cx} {st : Stmt} {t t' : TS} (h : PS X st t) (q : ∀ D σ H, t' D σ H → t D σ H) : PS X st t' := ⟨fun pins s σ H D I x => h.run pins s σ H D I (q _ _ _ x)⟩
theorem PSs.imp {X : Cx} {st : List Stmt} {t t' : TS} (h : PSs X st t) (q : ∀ D σ H, t' D σ H → t D σ H) : PSs X st t' := ⟨fun pins s σ H D I x => h.run pins s σ H D I (q _ _ _ x)⟩
/-- posts follow one another -/
theorem PostV.mono {c : Ctx} {σ : L2.St} {R : RR} {H : Hp} {F : List Addr} {Q : VK} {R0 : RR} {H0 : Hp} {F0 : List Addr} {r : RV} (x : Ex R0 H0 F0 R H F) (sm : ∀ R' H', Gr R H R' H' → Gr R0 H0 R' H') (h : PostV c σ R0 H0 F0 Q r) : PostV c σ R H F Q r := by
  cases r with
  | ok y b e w => exact fun R' H' F' v s d ex hw => h R' H' F' v s d (x.trans ex) (fun z => sm _ _ (hw z))
  | er C fs e => exact fun R' H' F' d s rx ex => h R' H' F' d s rx (x.trans ex)
  | no => exact h
theorem PostS.mono {c : Ctx} {R : RR} {H : Hp} {F : List Addr} {D : Ends} {R0 : RR} {H0 : Hp} {F0 : List Addr} {r : Out} (x : Ex R0 H0 F0 R H F) (h : PostS c R0 H0 F0 D r) : PostS c R H F D r := by
  cases r with
  | nx e => exact fun σ' R' H' F' s ex => h σ' R' H' F' s (x.trans ex)
  | rt r e => exact fun σ' R' H' F' G v s d nd rf ex => h σ' R' H' F' G v s d nd rf (x.trans ex)
  | bk e => exact fun σ' R' H' F' s ex => h σ' R' H' F' s (x.trans ex)
  | ct e => exact fun σ' R' H' F' s ex => h σ' R' H' F' s (x.trans ex)
  | er C fs e => exact fun σ' R' H' F' d s rx ex => h σ' R' H' F' d s rx (x.trans ex)
  | no => exact h
/-! ## from trees to data and back -/
def rdT : T → Option (PyData × Bool)
  | .d x => some (x, false)
  | .l ts => (allD ts).map fun ds => (.list ds, true)
  | _ => none
def toV : Res → RV
  | .ok (.v x) e w => .ok x false e w
  | .ok (.t t) e w => match t.data with
    | some x => .ok x false e w
    | none => .no
  | .ok (.p i q) e w => match getE e i q with
    | some t => match rdT t with
      | some (x, b) => .ok x b e w
      | none => .no
    | none => .no
  | .ok (.b ds) e w => .ok (.list ds) true e w
  | .er C fs e => .er C fs e
  | .no => .no
def ofV : RV → Res
  | .ok x false e w => .ok (.v x) e w
  | .ok (.list ds) true e w => .ok (.b ds) e w
  | .ok _ true _ _ => .no
  | .er C fs e => .er C fs e
  | .no => .no
/-- the fragment of the heap that R and the cells at G are -/
def join (R : RR) (H : Hp) (G : List Addr) : RR := ⟨fun a => if a ∈ G then H a else R a, R.B, R.ct⟩
theorem join_in {R : RR} {H : Hp} {G : List Addr} {a : Addr} (h : a ∈ G) : join R H G a = H a := if_pos h
theorem join_out {R : RR} {H : Hp} {G : List Addr} {a : Addr} (h : a ∉ G) : join R H G a = R a := if_neg h
theorem join_same {R : RR} {H : Hp} {G : List Addr} (rf : ∀ a ∈ G, R a = none) : R.Le (join R H G) := ⟨fun a o h => by
  show join R H G a = some o
  rw [join_out fun z => by rw [rf a z] at h; cases h]; exact h, ⟨[], by simp [join]⟩, rfl⟩
theorem join_sub {R : RR} {H : Hp} {G : List Addr} (rh : Same R H) : Same (join R H G) H := fun a o h => by
  by_cases z : a ∈ G
  · rw [join_in z] at h; exact h
  · rw [join_out z] at h; exact rh a o h
/-- cells at G are let go -/
theorem Sr.join {c : Ctx} {R : RR} {H : Hp} {e : Env} {σ : L2.St} {F G : List Addr} (s : Sr c R H e σ F) (nd : (F ++ G).Nodup) (rf : ∀ a ∈ G, R a = none) : Sr c (join R H G) H e σ F where
  sl := rpe_up (join_same rf) rfl (fun _ _ _ h => h) s.sl
  nd := s.nd
  rh := join_sub s.rh
  rf := fun a h => by
    rw [join_out fun z => (List.nodup_append.mp nd).2.2 a h a z rfl]
    exact s.rf a h
  pn := s.pn
  fx := c.fxm _ _ (join_same rf).s s.fx
  ct := s.ct
theorem Ex.join {R : RR} {H : Hp} {R1 : RR} {H1 : Hp} {F F1 G : List Addr} (x : Ex R H F R1 H1 (F1 ++ G)) (rf : ∀ a ∈ G, R1 a = none) : Ex R H F (join R1 H1 G) H1 F1 where
  rr := x.rr.trans (join_same rf)
  hh := x.hh
  rn := fun a h => by
    by_cases z : a ∈ G
    · exact .inr (x.fn a (List.mem_append_right _ z))
    · rw [join_out z] at h; exact x.rn a h
  fn := fun a h => x.fn a (List.mem_append_left _ h)
theorem Gr.join {R : RR} {H : Hp} {R' : RR} {H' : Hp} {G : List Addr} (g : Gr R H R' H') (rf : ∀ a ∈ G, R' a = none) (fr : ∀ a ∈ G, H a = none) : Gr R H (En.join R' H' G) H' := ⟨g.hh, g.rr.trans (join_same rf), g.bb, join_sub g.rh, fun a h => by
  by_cases z : a ∈ G
  · exact .inr (fr a z)
  · rw [join_out z] at h; exact g.rn a h⟩
theorem wk_get {K : PySem.W.Frag} {R : RR} {H : Hp} : ∀ (q : List Stp) {t s : T} {u v : V} {F : List Addr}, Rp K R H t u F → getT t q = some s → wk H u q v → ∃ G, Rp K R H s v G ∧ ∀ a ∈ G, a ∈ F
  | [], t, s, u, v, F, h, e, w => by
    have e' : some t = some s := by cases t <;> exact e
    cases e'
    cases (show u = v from w)
    exact ⟨F, h, fun _ z => z⟩
  | st :: q, t, s, u, v, F, h, e, w => by
    obtain ⟨m, st', w⟩ := w
    have fin : ∀ {ts : List T} {vs : List V} {G : List Addr} {n : Nat}, RpL K R H ts vs G → (match ts[n]? with | some t => getT t q | none => none) = some s → vs[n]? = some m → (∀ a ∈ G, a ∈ F) → ∃ G, Rp K R H s v G ∧ ∀ a ∈ G, a ∈ F := by
      intro ts vs G n e4 e' e7 sub
      cases e8 : ts[n]? with
      | none => rw [e8] at e'; cases e'
      | some t' =>
        rw [e8] at e'
        obtain ⟨G1, g1, g2⟩ := rpl_key ts vs G n e4 e8 e7
        obtain ⟨G2, g3, g4⟩ := wk_get q g1 e' w
        exact ⟨G2, g3, fun a z => sub a (g2 a (g4 a z))⟩
    cases t with
    | l ts =>
      cases st with
      | i n =>
        obtain ⟨p, vs, G, rfl, e2, e3, e4⟩ := h
        obtain ⟨p', vs', e5, e6, e7⟩ := st'
        cases e5
        rw [e3] at e6
        cases e6
        exact fin e4 e e7 fun a z => e2.mem_iff.mpr (List.mem_cons_of_mem _ z)
      | f j => cases e
      | k j => cases e
      | m j => cases e
    | o C ts =>
      cases st with
      | f j =>
        obtain ⟨p, dx, vs, G, ca, N, _, rfl, e2, e3, e3', e0, e4⟩ := h
        obtain ⟨p', C', dx', N', vs', e5, e6, el, e7⟩ := st'
        cases e5
        rw [e3] at e6
        have l1 := rpl_len e4
        injection e6 with e6
        injection e6 with e61 e62 e63
        cases zip_inj e63 (by omega) el
        exact fin e4 e e7 fun a z => e2.mem_iff.mpr (List.mem_cons_of_mem _ (List.mem_cons_of_mem _ z))
      | i j => cases e
      | k j => cases e
      | m j => cases e
    | k ks ts =>
      cases st with
      | k j =>
        obtain ⟨p, vs, G, rfl, e2, e3, e0, e4⟩ := h
        obtain ⟨p', ks', vs', e5, e6, el, e7⟩ := st'
        cases e5
        rw [e3] at e6
        have l1 := rpl_len e4
        injection e6 with e6
        injection e6 with e6
        cases zip_inj e6 (by omega) (by omega)
        exact fin e4 e e7 fun a z => e2.mem_iff.mpr (List.mem_cons_of_mem _ z)
      | i j => cases e
      | f j => cases e
      | m j => cases e
    | m ks ts =>
      cases st with
      | m j =>
        obtain ⟨p, vs, G, rfl, e2, e3, e0, e4⟩ := h
        obtain ⟨p', ks', vs', e5, e6, el, e7⟩ := st'
        cases e5
        rw [e3] at e6
        have l1 := rpl_len e4
        injection e6 with e6
        injection e6 with e6
        cases zip_inj e6 (by omega) (by omega)
        exact fin e4 e e7 fun a z => e2.mem_iff.mpr (List.mem_cons_of_mem _ z)
      | i j => cases e
      | f j => cases e
      | k j => cases e
    | d x => cases st <;> cases e
    | t ts => cases st <;> cases e
    | r n => cases st <;> cases e
    | z => cases st <;> cases e
theorem rpe_take {K : PySem.W.Frag} {R : RR} {H : Hp} {e : Env} {σ : L2.St} {F : List Addr} (h : RpE K R H e σ F) {i : Rt} {t : T} {u : V} (g : getR e i = some t) (hu : rootV R σ i = some u) :
    ∃ F1 F2, F.Perm (F1 ++ F2) ∧ Rp K R H t u F1 := by
  obtain ⟨A1, A2, p, h1, h2⟩ := h
  cases i with
  | s i =>
    have g' : (e.s[i]?).join = some t := g
    have hu' : (σ[i]?).join = some u := hu
    cases e1 : e.s[i]? with
    | none => rw [e1] at g'; cases g'
    | some o =>
      rw [e1] at g'
      cases (show o = some t from g')
      obtain ⟨v0, F1, F2, q1, q2, q3, q4⟩ := rps_take h1 e1
      rw [q1] at hu'
      cases hu'
      exact ⟨F1, F2 ++ A2, p.trans (by rw [← List.append_assoc]; exact List.Perm.append_right _ q2), q3⟩
  | c n =>
    have g' : e.m[n]? = some t := g
    have hu' : (R.B[n]?).map V.ref = some u := hu
    obtain ⟨v0, F1, F2, q1, q2, q3, q4⟩ := rpl_take h2 g'
    rw [List.getElem?_map, hu'] at q1
    cases q1
    refine ⟨F1, A1 ++ F2, p.trans ((List.Perm.append_left A1 q2).trans ?_), q3⟩
    rw [← List.append_assoc, ← List.append_assoc]
    exact List.Perm.append_right F2 List.perm_append_comm
theorem rps_wk {c : Ctx} {R : RR} {H : Hp} {e : Env} {σ : L2.St} {F : List Addr} (h : Sr c R H e σ F) {i : Rt} {q : List Stp} {s : T} {u v : V} (g : getE e i q = some s) (hu : rootV R σ i = some u) (w : wk H u q v) :
    ∃ G, Rp c.K R H s v G ∧ ∀ a ∈ G, a ∈ F := by
  unfold getE at g
  cases e1 : getR e i with
  | none => rw [e1] at g; cases g
  | some t =>
    rw [e1] at g
    obtain ⟨F1, F2, h2, h3⟩ := rpe_take h.sl e1 hu
    obtain ⟨G, g1, g2⟩ := wk_get q h3 g w
    exact ⟨G, g1, fun a z => h2.mem_iff.mpr (List.mem_append_left _ (g2 a z))⟩
/-- a tree as it is read -/
theorem rdT_ok {K : PySem.W.Frag} {R : RR} {H : Hp} {t : T} {v : V} {G : List Addr} {x : PyData} {b : Bool} (h : Rp K R H t v G) (e : rdT t = some (x, b)) : Sd K R H v x b := by
  cases t with
  | d y => cases (show some (y, false) = some (x, b) from e); exact h.2
  | l ts =>
    have e' : (allD ts).map (fun ds => (PyData.list ds, true)) = some (x, b) := e
    cases e1 : allD ts with
    | none => rw [e1] at e'; cases e'
    | some ds =>
      rw [e1] at e'
      cases e'
      have := allD_of e1
      subst this
      obtain ⟨p, vs, F, h1, h2, h3, h4⟩ := h
      exact ⟨p, vs, ds, h1, rfl, h3, (rpl_d' h4).1⟩
  | t ts => cases e
  | o C ts => cases e
  | k ks ts => cases e
  | m ks ts => cases e
  | r n => cases e
  | z => cases e
def vD (d : Env → Res) : Env → RV := fun e => toV (d e)
def dV (d : Env → RV) : Env → Res := fun e => ofV (d e)
theorem toV_ok {c : Ctx} {d : Env → Res} {σ : L2.St} {H : Hp} {Q : VK} (hh : tV c (vD d) σ H Q) : tD c d σ H Q := by
  obtain ⟨e, R, F, s, p⟩ := hh
  refine ⟨e, R, F, s, ?_⟩
  replace p : PostV c σ R H F Q (toV (d e)) := p
  cases hd : d e with
  | no => rw [hd] at p; exact p
  | er C fs e1 => rw [hd] at p; exact p
  | ok r e1 w =>
    rw [hd] at p
    cases r with
    | v x =>
      intro R' H' F' G v s' rv nd rf ex hw
      obtain ⟨rfl, rv⟩ := rv
      exact p R' H' F' v s' rv (by simpa using ex) (fun z => (hw z).1)
    | b ds =>
      intro R' H' F' G v s' rv nd rf ex hw
      obtain ⟨rfl, q, vs, h1, h2, h3⟩ := rv
      exact p R' H' F' v s' ⟨q, vs, ds, h1, rfl, h2, h3⟩ (by simpa using ex) (fun z => (hw z).1)
    | t t =>
      intro R' H' F' G v s' rv nd rf ex hw
      have p' : PostV c σ R H F Q (match t.data with | some x => .ok x false e1 w | none => .no) := p
      cases e2 : t.data with
      | none => rw [e2] at p'; exact p'.elim
      | some x =>
        rw [e2] at p'
        exact p' (join R' H' G) H' F' v (s'.join nd rf) (rp_frz (join_same rf) t v G x (fun a ha o h => by rw [join_in ha]; exact h) rv e2) (ex.join rf) (fun z => (hw z).1.join rf (hw z).2)
    | p i q =>
      intro R' H' F' G v s' rv nd rf ex hw
      obtain ⟨rfl, u, hu, hv⟩ := rv
      have p' : PostV c σ R H F Q (match getE e1 i q with | some t => (match rdT t with | some (x, b) => .ok x b e1 w | none => .no) | none => .no) := p
      cases e2 : getE e1 i q with
      | none => rw [e2] at p'; exact p'.elim
      | some t =>
        obtain ⟨G, g1, g2⟩ := rps_wk s' e2 hu hv
        cases e3 : rdT t with
        | none => simp only [e2, e3] at p'; exact p'.elim
        | some xb =>
          obtain ⟨x, b⟩ := xb
          simp only [e2, e3] at p'
          exact p' R' H' F' v s' (rdT_ok g1 e3) (by simpa using ex) (fun z => (hw z).1)
theorem pe_toV {X : Cx} {c : Ctx} {ex : Expr} {d : Env → Res} (h : PE X ex (tD c d)) : PE X ex (tV c (vD d)) := PE.imp h fun σ H Q h => toV_ok h
theorem pe_ofV {X : Cx} {c : Ctx} {ex : Expr} {d : Env → RV} (h : PE X ex (tV c d)) : PE X ex (tD c (dV d)) := by
  refine PE.imp h fun σ H Q ⟨e, R, F, s, p⟩ => ⟨e, R, F, s, ?_⟩
  replace p : PostE c σ R H F Q (ofV (d e)) := p
  cases hd : d e with
  | no => rw [hd] at p; exact p
  | er C fs e1 => rw [hd] at p; exact p
  | ok x b e1 w =>
    rw [hd] at p
    intro R' H' F' v s' sd ex hw
    cases b with
    | false => exact p R' H' F' [] v s' ⟨rfl, sd⟩ (by simpa using s'.nd) (by simp) (by simpa using ex) (fun z => ⟨hw z, by simp⟩)
    | true =>
      obtain ⟨q, vs, ds, h1, rfl, h2, h3⟩ := sd
      exact p R' H' F' [] v s' ⟨rfl, q, vs, h1, h2, h3⟩ (by simpa using s'.nd) (by simp) (by simpa using ex) (fun z => ⟨hw z, by simp⟩)
end En
namespace En
open PySem PySem.Spec PyProof.Rows L2
/-! ## data operands by their values -/
section
variable {K : PySem.W.Frag} {R : RR} {H : Hp} {R' : RR} {H' : Hp} {v : V} {x : PyData} {b : Bool}
theorem Sd.up (h : Sd K R H v x b) (r : R.Le R') (s : b = true → Same H H') : Sd K R' H' v x b := by
  cases b with
  | false => exact dp_up r.s _ _ h
  | true =>
    obtain ⟨p, vs, ds, h1, h2, h3, h4⟩ := h
    exact ⟨p, vs, ds, h1, h2, s rfl _ _ h3, dpa_up r.s _ _ h4⟩
/-- as it is read in the whole heap -/
theorem Sd.dp (h : Sd K R H v x b) (rh : Same R H) : Dp K H v x := by
  cases b with
  | false => exact dp_up rh _ _ h
  | true =>
    obtain ⟨p, vs, ds, rfl, rfl, h3, h4⟩ := h
    exact .lst (.of h3) (dpa_up rh _ _ h4)
theorem sd_int {i : Int} (h : Sd K R H v (.int i) b) : v = .int i := by
  cases b with
  | false => cases h; rfl
  | true => obtain ⟨_, _, _, _, h, _⟩ := h; cases h
theorem sd_str {i : Str} (h : Sd K R H v (.str i) b) : v = .str i := by
  cases b with
  | false => cases h; rfl
  | true => obtain ⟨_, _, _, _, h, _⟩ := h; cases h
theorem sd_bool {i : Bool} (h : Sd K R H v (.bool i) b) : v = .bl i := by
  cases b with
  | false => cases h; rfl
  | true => obtain ⟨_, _, _, _, h, _⟩ := h; cases h
theorem sd_none (h : Sd K R H v .none b) : v = .non := by
  cases b with
  | false => cases h; rfl
  | true => obtain ⟨_, _, _, _, h, _⟩ := h; cases h
theorem sd_list {ds : List PyData} (h : Sd K R H v (.list ds) b) (rh : Same R H) : ∃ p vs, v = .ref p ∧ SqL K H p vs ∧ DpAll K R vs ds := by
  cases b with
  | false => cases h with
    | lst hs ha => exact ⟨_, _, rfl, rh.seq hs, ha⟩
  | true =>
    obtain ⟨p, vs, ds', h1, h2, h3, h4⟩ := h
    cases h2
    exact ⟨p, vs, h1, .of h3, h4⟩
theorem sd_tup {ds : List PyData} (h : Sd K R H v (.tuple ds) b) (rh : Same R H) : ∃ p vs, v = .ref p ∧ SqT K H p vs ∧ SqT K R p vs ∧ DpAll K R vs ds := by
  cases b with
  | false => cases h with
    | tup hs ha => exact ⟨_, _, rfl, sqt_up rh hs, hs, ha⟩
  | true => obtain ⟨_, _, _, _, h, _⟩ := h; cases h
theorem sd_dict {kvs} (h : Sd K R H v (.dict kvs) b) : False := by
  cases b with
  | false => cases h
  | true => obtain ⟨_, _, _, _, h, _⟩ := h; cases h
/-- None or not -/
def isNone : PyData → Bool
  | .none => true
  | _ => false
theorem sd_isNone (h : Sd K R H v x b) : decide (v = .non) = isNone x := by
  cases b with
  | false => cases h <;> rfl
  | true => obtain ⟨p, _, ds, rfl, rfl, _⟩ := h; rfl
end
theorem same_new {H : Hp} {p : Addr} {o : HO} (h : H p = none) : Same H (upd H p o) := fun b x e => by
  rw [upd_ne (ne_of_none e h)]; exact e
/-- data takes a new object -/
def RR.up (R : RR) (p : Addr) (o : HO) : RR := ⟨upd R.h p o, R.B, R.ct⟩
theorem RR.up_le {R : RR} {p : Addr} {o : HO} (h : R p = none) : R.Le (R.up p o) := ⟨same_new h, ⟨[], by simp [RR.up]⟩, rfl⟩
/-- a new object that is data from now on -/
theorem Gr.new {R : RR} {H : Hp} {p : Addr} {o : HO} (rh : Same R H) (h : H p = none) : Gr R H (R.up p o) (upd H p o) where
  hh := same_new h
  rr := RR.up_le (rh.free h)
  bb := rfl
  rh := fun a x e => by
    have e : upd R.h p o a = some x := e
    by_cases z : a = p
    · subst z; rw [upd_same] at e ⊢; exact e
    · rw [upd_ne z] at e ⊢; exact rh a x e
  rn := fun a q => by
    have q : upd R.h p o a ≠ none := q
    by_cases z : a = p
    · subst z; exact .inr h
    · rw [upd_ne z] at q; exact .inl q
theorem Gr.ex {R : RR} {H : Hp} {R' : RR} {H' : Hp} {F : List Addr} (g : Gr R H R' H') : Ex R H F R' H' F := Ex.grow g.hh g.rr g.rn
theorem Gr.sr {c : Ctx} {R : RR} {H : Hp} {R' : RR} {H' : Hp} {e : Env} {σ : L2.St} {F : List Addr} (g : Gr R H R' H') (s : Sr c R H e σ F) : Sr c R' H' e σ F := s.grow g.hh g.rr g.bb g.rh g.rn
/-! ## operations on data -/
def Sc1 (K : PySem.W.Frag) (r : V → Hp → VK → Prop) (f : PyData → Option PyData) : Prop := ∀ (R : RR) (H : Hp) v x b z (Q : VK), Same R H → Sd K R H v x b → f x = some z →
  (∀ (R' : RR) (H' : Hp) u, Gr R H R' H' → Dp K R' u z → Q u H') → r v H Q
def Sc2 (K : PySem.W.Frag) (r : R2) (f : PyData → PyData → Option PyData) : Prop := ∀ (R : RR) (H : Hp) v1 v2 x y b b' z (Q : VK), Same R H → Sd K R H v1 x b → Sd K R H v2 y b' → f x y = some z →
  (∀ (R' : RR) (H' : Hp) u, Gr R H R' H' → Dp K R' u z → Q u H') → r v1 v2 H Q
/-- .. that make a new list, which nothing else holds -/
def Sl1 (K : PySem.W.Frag) (r : V → Hp → VK → Prop) (f : PyData → Option (List PyData)) : Prop := ∀ (R : RR) (H : Hp) v x b z (Q : VK), Same R H → Sd K R H v x b → f x = some z →
  (∀ p vs, H p = none → DpAll K R vs z → Q (.ref p) (upd H p (.lst vs))) → r v H Q
def Sl2 (K : PySem.W.Frag) (r : R2) (f : PyData → PyData → Option (List PyData)) : Prop := ∀ (R : RR) (H : Hp) v1 v2 x y b b' z (Q : VK), Same R H → Sd K R H v1 x b → Sd K R H v2 y b' → f x y = some z →
  (∀ p vs, H p = none → DpAll K R vs z → Q (.ref p) (upd H p (.lst vs))) → r v1 v2 H Q
def v1 (f : PyData → Option PyData) (d : Env → RV) : Env → RV := fun e => match d e with
  | .ok x _ e1 w => match f x with
    | some z => .ok z false e1 w
    | none => .no
  | .er C fs e1 => .er C fs e1
  | .no => .no
def v2 (f : PyData → PyData → Option PyData) (d1 d2 : Env → RV) : Env → RV := fun e => match d1 e with
  | .ok x b e1 w1 => match d2 e1 with
    | .ok y _ e2 w2 => if b && w2 then .no else match f x y with
      | some z => .ok z false e2 (w1 || w2)
      | none => .no
    | .er C fs e2 => .er C fs e2
    | .no => .no
  | .er C fs e1 => .er C fs e1
  | .no => .no
def d1L (f : PyData → Option (List PyData)) (d : Env → RV) : Env → Res := fun e => match d e with
  | .ok x _ e1 w => match f x with
    | some z => .ok (.t (.l (z.map T.d))) e1 w
    | none => .no
  | .er C fs e1 => .er C fs e1
  | .no => .no
def d2L (f : PyData → PyData → Option (List PyData)) (d1 d2 : Env → RV) : Env → Res := fun e => match d1 e with
  | .ok x b e1 w1 => match d2 e1 with
    | .ok y _ e2 w2 => if b && w2 then .no else match f x y with
      | some z => .ok (.t (.l (z.map T.d))) e2 (w1 || w2)
      | none => .no
    | .er C fs e2 => .er C fs e2
    | .no => .no
  | .er C fs e1 => .er C fs e1
  | .no => .no
theorem or_ff {a b : Bool} (h : (a || b) = false) : a = false ∧ b = false := by cases a <;> cases b <;> simp at h <;> exact ⟨rfl, rfl⟩
section
variable {c : Ctx} {d d1 d2 : Env → RV} {σ : L2.St} {H : Hp} {Q : VK}
theorem v1_ok {r : V → Hp → VK → Prop} {f : PyData → Option PyData} (hs : Sc1 c.K r f) (h : tV c (v1 f d) σ H Q) : tV c d σ H fun x H1 => r x H1 Q := by
  obtain ⟨e, R, F, s, p⟩ := h
  refine ⟨e, R, F, s, ?_⟩
  unfold v1 at p
  cases h1 : d e with
  | no => simp only [h1] at p; exact p
  | er C fs e1 => simp only [h1] at p; exact p
  | ok x b e1 w =>
    simp only [h1] at p
    intro R1 H1 F1 u s1 sd ex hw
    cases h2 : f x with
    | none => simp only [h2] at p; exact p.elim
    | some z =>
      simp only [h2] at p
      exact hs R1 H1 u x b z Q s1.rh sd h2 fun R2 H2 u2 g dp => p R2 H2 F1 u2 (g.sr s1) dp (ex.trans g.ex) (fun q => (hw q).trans g)
theorem v2_ok {r : R2} {f : PyData → PyData → Option PyData} (hs : Sc2 c.K r f) (h : tV c (v2 f d1 d2) σ H Q) : tV c d1 σ H fun x H1 => tV c d2 σ H1 fun y H2 => r x y H2 Q := by
  obtain ⟨e, R, F, s, p⟩ := h
  refine ⟨e, R, F, s, ?_⟩
  unfold v2 at p
  cases h1 : d1 e with
  | no => simp only [h1] at p; exact p
  | er C fs e1 => simp only [h1] at p; exact p
  | ok x b e1 w1 =>
    intro R1 H1 F1 u s1 sd ex hw
    refine ⟨e1, R1, F1, s1, ?_⟩
    cases h2 : d2 e1 with
    | no => simp only [h1, h2] at p; exact p.elim
    | er C fs e2 =>
      simp only [h1, h2] at p
      exact fun R2 H2 F2 dd s2 rx ex2 => p R2 H2 F2 dd s2 rx (ex.trans ex2)
    | ok y b' e2 w2 =>
      simp only [h1, h2] at p
      intro R2 H2 F2 u2 s2 sd2 ex2 hw2
      by_cases hb : (b && w2) = true
      · rw [if_pos hb] at p; exact p.elim
      · rw [if_neg hb] at p
        have bw : b = true → w2 = false := fun z => by
          cases w2 with
          | false => rfl
          | true => rw [z] at hb; exact absurd rfl hb
        cases h3 : f x y with
        | none => simp only [h3] at p; exact p.elim
        | some z =>
          simp only [h3] at p
          refine hs R2 H2 u u2 x y b b' z Q s2.rh (sd.up ex2.rr fun q => (hw2 (bw q)).hh) sd2 h3 fun R3 H3 u3 g dp => ?_
          exact p R3 H3 F2 u3 (g.sr s2) dp ((ex.trans ex2).trans g.ex) (fun q => ((hw (or_ff q).1).trans (hw2 (or_ff q).2)).trans g)
theorem new_own {R : RR} {H : Hp} {e : Env} {σ : L2.St} {F : List Addr} {p : Addr} {o : HO} (s : Sr c R H e σ F) (hp : H p = none) : Sr c R (upd H p o) e σ F ∧ (F ++ [p]).Nodup ∧ (∀ a ∈ [p], R a = none) ∧ Ex R H F R (upd H p o) (F ++ [p]) ∧ Gr R H R (upd H p o) := by
  have np : p ∉ F := fun z => rpe_dom s.sl p z hp
  refine ⟨s.grow (same_new hp) (RR.Le.refl _) rfl (s.rh.trans (same_new hp)) (fun _ h => .inl h), ?_, ?_, ⟨RR.Le.refl _, fun a x h _ => same_new hp a x h, fun _ h => .inl h, ?_⟩, same_new hp, RR.Le.refl _, rfl, s.rh.trans (same_new hp), fun _ h => .inl h⟩
  · exact List.nodup_append.mpr ⟨s.nd, by simp, fun a ha b hb z => by simp at hb; subst hb; subst z; exact np ha⟩
  · intro a ha
    simp at ha
    subst ha
    exact s.rh.free hp
  · intro a ha
    rcases List.mem_append.mp ha with ha | ha
    · exact .inl ha
    · simp at ha; subst ha; exact .inr hp
theorem d1L_ok {r : V → Hp → VK → Prop} {f : PyData → Option (List PyData)} (hs : Sl1 c.K r f) (h : tD c (d1L f d) σ H Q) : tV c d σ H fun x H1 => r x H1 Q := by
  obtain ⟨e, R, F, s, p⟩ := h
  refine ⟨e, R, F, s, ?_⟩
  unfold d1L at p
  cases h1 : d e with
  | no => simp only [h1] at p; exact p
  | er C fs e1 => simp only [h1] at p; exact p
  | ok x b e1 w =>
    simp only [h1] at p
    intro R1 H1 F1 u s1 sd ex hw
    cases h2 : f x with
    | none => simp only [h2] at p; exact p.elim
    | some z =>
      simp only [h2] at p
      refine hs R1 H1 u x b z Q s1.rh sd h2 fun q vs hq dp => ?_
      obtain ⟨n1, n2, n3, n4, n5⟩ := new_own (o := .lst vs) s1 hq
      exact p R1 _ F1 [q] _ n1 ⟨q, vs, [], rfl, .refl _, upd_same, rpl_d dp⟩ n2 n3 (ex.trans n4) (fun z => ⟨(hw z).trans n5, fun a ha => by simp at ha; subst ha; exact (hw z).hh.free hq⟩)
theorem d2L_ok {r : R2} {f : PyData → PyData → Option (List PyData)} (hs : Sl2 c.K r f) (h : tD c (d2L f d1 d2) σ H Q) : tV c d1 σ H fun x H1 => tV c d2 σ H1 fun y H2 => r x y H2 Q := by
  obtain ⟨e, R, F, s, p⟩ := h
  refine ⟨e, R, F, s, ?_⟩
  unfold d2L at p
  cases h1 : d1 e with
  | no => simp only [h1] at p; exact p
  | er C fs e1 => simp only [h1] at p; exact p
  | ok x b e1 w1 =>
    intro R1 H1 F1 u s1 sd ex hw
    refine ⟨e1, R1, F1, s1, ?_⟩
    cases h2 : d2 e1 with
    | no => simp only [h1, h2] at p; exact p.elim
    | er C fs e2 =>
      simp only [h1, h2] at p
      exact fun R2 H2 F2 dd s2 rx ex2 => p R2 H2 F2 dd s2 rx (ex.trans ex2)
    | ok y b' e2 w2 =>
      simp only [h1, h2] at p
      intro R2 H2 F2 u2 s2 sd2 ex2 hw2
      by_cases hb : (b && w2) = true
      · rw [if_pos hb] at p; exact p.elim
      · rw [if_neg hb] at p
        have bw : b = true → w2 = false := fun z => by
          cases w2 with
          | false => rfl
          | true => rw [z] at hb; exact absurd rfl hb
        cases h3 : f x y with
        | none => simp only [h3] at p; exact p.elim
        | some z =>
          simp only [h3] at p
          refine hs R2 H2 u u2 x y b b' z Q s2.rh (sd.up ex2.rr fun q => (hw2 (bw q)).hh) sd2 h3 fun q vs hq dp => ?_
          obtain ⟨n1, n2, n3, n4, n5⟩ := new_own (o := .lst vs) s2 hq
          exact p R2 _ F2 [q] _ n1 ⟨q, vs, [], rfl, .refl _, upd_same, rpl_d dp⟩ n2 n3 ((ex.trans ex2).trans n4) (fun z => ⟨((hw (or_ff z).1).trans (hw2 (or_ff z).2)).trans n5, fun a ha => by simp at ha; subst ha; exact ((hw (or_ff z).1).trans (hw2 (or_ff z).2)).hh.free hq⟩)
end
end En
namespace En
open PySem PySem.Spec PyProof.Rows L2
/-! ## constants, names -/
def vC (x : PyData) : Env → RV := fun e => .ok x false e false
def vVar (i : Nat) : Env → RV := fun e => match e.s[i]? with
  | some (some t) => match rdT t with
    | some (x, b) => .ok x b e false
    | none => .no
  | _ => .no
mutual
/-- trees that hold no object of their own -/
def cpT : T → Bool
  | .d _ => true
  | .r _ => true
  | .t ts => cpL ts
  | _ => false
def cpL : List T → Bool
  | [] => true
  | t :: ts => cpT t && cpL ts
end
mutual
theorem cp_up {K : PySem.W.Frag} {R R' : RR} {H H' : Hp} (s : R.Le R') : ∀ (t : T) (v : V) (F : List Addr), cpT t = true → Rp K R H t v F → F = [] ∧ Rp K R' H' t v []
  | .d x, v, F, _, h => ⟨h.1, rfl, dp_up s.s _ _ h.2⟩
  | .r n, v, F, _, h => ⟨h.1, rfl, by obtain ⟨_, p, e2, e3⟩ := h; exact ⟨p, s.at e2, e3⟩⟩
  | .t ts, v, F, c, h => by
    obtain ⟨p, vs, e1, e3, e4⟩ := h
    obtain ⟨h1, h2⟩ := cpl_up s ts vs F c e4
    exact ⟨h1, p, vs, e1, sqt_up s.s e3, h2⟩
  | .l _, _, _, c, _ => by cases (show false = true from c)
  | .o _ _, _, _, c, _ => by cases (show false = true from c)
  | .k _ _, _, _, c, _ => by cases (show false = true from c)
  | .m _ _, _, _, c, _ => by cases (show false = true from c)
  | .z, _, _, c, _ => by cases (show false = true from c)
theorem cpl_up {K : PySem.W.Frag} {R R' : RR} {H H' : Hp} (s : R.Le R') : ∀ (ts : List T) (vs : List V) (F : List Addr), cpL ts = true → RpL K R H ts vs F → F = [] ∧ RpL K R' H' ts vs []
  | [], _, _, _, h => ⟨h.2, h.1, rfl⟩
  | t :: ts, vs, F, c, h => by
    obtain ⟨v, r, F1, F2, e1, e2, e3, e4⟩ := h
    have c' : (cpT t && cpL ts) = true := c
    rw [Bool.and_eq_true] at c'
    obtain ⟨h1, h2⟩ := cp_up s t v F1 c'.1 e3
    obtain ⟨h3, h4⟩ := cpl_up s ts r F2 c'.2 e4
    refine ⟨by rw [h1, h3] at e2; exact List.nil_perm.mp e2.symm, v, r, [], [], e1, .refl _, h2, h4⟩
end
/-- what is read at a place -/
def rdP (t : T) (i : Rt) (q : List Stp) : W := match t with
  | .d x => .v x
  | .r n => .t (.r n)
  | .t ts => if cpL ts = true then .t (.t ts) else .p i q
  | _ => .p i q
theorem rdP_ok {K : PySem.W.Frag} {R : RR} {H : Hp} {σ : L2.St} {t : T} {i : Rt} {q : List Stp} {u v : V} {G : List Addr} (hu : rootV R σ i = some u) (w : wk H u q v) (h : Rp K R H t v G) : Rw K R H σ (rdP t i q) v [] := by
  have hp : Rw K R H σ (.p i q) v [] := ⟨rfl, u, hu, w⟩
  cases t with
  | d x => exact ⟨rfl, h.2⟩
  | r n => exact (cp_up (H' := H) (RR.Le.refl R) (.r n) v G rfl h).2
  | t ts =>
    by_cases c : cpL ts = true
    · rw [show rdP (.t ts) i q = .t (.t ts) from if_pos c]
      exact (cp_up (H' := H) (RR.Le.refl R) (.t ts) v G c h).2
    · rw [show rdP (.t ts) i q = .p i q from if_neg c]
      exact hp
  | _ => exact hp
def dVar (i : Nat) : Env → Res := fun e => match e.s[i]? with
  | some (some t) => .ok (rdP t (.s i) []) e false
  | _ => .no
section
variable {X : Cx} {c : Ctx} {d d1 d2 d3 : Env → RV} {a b e1 e2 ex : Expr} {pos p1 p2 : Pos} {k j : Nat}
theorem tC_ok {x : PyData} {v : V} (h : ∀ R : RR, Dp c.K R v x) : ∀ σ H Q, tV c (vC x) σ H Q → tC v σ H Q := fun σ H Q ⟨e, R, F, s, p⟩ => p R H F v s (h R) .refl (fun _ => .refl s.rh)
theorem ve_int {i : Int} : PE X (.Constant (.int i) k pos) (tV c (vC (.int i))) := PE.imp pe_int (tC_ok fun _ => .int i)
theorem ve_bl {i : Bool} : PE X (.Constant (.bool i) k pos) (tV c (vC (.bool i))) := PE.imp pe_bl (tC_ok fun _ => .bl i)
theorem ve_non : PE X (.Constant .none k pos) (tV c (vC .none)) := PE.imp pe_non (tC_ok fun _ => .non)
theorem ve_str {i : Str} : PE X (.Constant (.str i) k pos) (tV c (vC (.str i))) := PE.imp pe_str (tC_ok fun _ => .str i)
theorem ve_globI {x : Str} {n : Int} (hg : Gl X x) (hm : ∃ t, X.mg x = some (.int n t)) (hd : (x == ("__debug__" : Str)) = false := by decide) : PE X (.Name x pos) (tV c (vC (.int n))) := by
  obtain ⟨t, h⟩ := hm
  exact PE.imp (pe_glob (v := .int n) hg h ⟨t, rfl⟩ hd) (tC_ok fun _ => .int n)
theorem ve_globS {x : Str} {n : Str} (hg : Gl X x) (hm : ∃ t, X.mg x = some (.str n t)) (hd : (x == ("__debug__" : Str)) = false := by decide) : PE X (.Name x pos) (tV c (vC (.str n))) := by
  obtain ⟨t, h⟩ := hm
  exact PE.imp (pe_glob (v := .str n) hg h ⟨t, rfl⟩ hd) (tC_ok fun _ => .str n)
theorem ve_globT {x : Str} {A : Addr} {vs : List V} {ds : List PyData} (hg : Gl X x) (h : X.mg x = some (.ref A)) (hs : ∀ H : Hp, SqT c.K H A vs) (hv : ∀ H : Hp, DpAll c.K H vs ds) (hd : (x == ("__debug__" : Str)) = false := by decide) : PE X (.Name x pos) (tV c (vC (.tuple ds))) :=
  PE.imp (pe_glob (v := .ref A) hg h rfl hd) (tC_ok fun R => .tup (hs R) (hv R))
theorem de_var (i : Nat) {x : Str} (hN : X.N[i]? = some x := by rfl) (hv : Vis X.env.scope x := by first | exact Or.inl rfl | exact Or.inr (Or.inl rfl) | exact Or.inr (Or.inr rfl)) (hd : (x == ("__debug__" : Str)) = false := by decide)
    (hcd : (x == ("__classdict__" : Str)) = false := by decide) : PE X (.Name x pos) (tD c (dVar i)) := by
  refine PE.imp (pe_var hN hv hd hcd) fun σ H Q ⟨e, R, F, s, p⟩ => ?_
  replace p : PostE c σ R H F Q (match e.s[i]? with | some (some t) => .ok (rdP t (.s i) []) e false | _ => .no) := p
  cases h : e.s[i]? with
  | none => simp only [h] at p; exact p.elim
  | some o =>
    cases o with
    | none => simp only [h] at p; exact p.elim
    | some t =>
      simp only [h] at p
      obtain ⟨A1, A2, _, h1, _⟩ := s.sl
      obtain ⟨v, F1, F2, h1, _, h3, _⟩ := rps_take h1 h
      exact ⟨v, h1, p R H F [] v s (rdP_ok (i := .s i) (q := []) (by show (σ[i]?).join = some v; rw [h1]; rfl) rfl h3) (by simpa using s.nd) (by simp) (by simpa using Ex.refl) (fun _ => ⟨.refl s.rh, by simp⟩)⟩
theorem vVar_eq (i : Nat) (e : Env) : vVar i e = .no ∨ vD (dVar i) e = vVar i e := by
  unfold vD dVar vVar
  cases h : e.s[i]? with
  | none => exact .inl rfl
  | some o =>
    cases o with
    | none => exact .inl rfl
    | some t =>
      cases t with
      | d x => exact .inr rfl
      | l ts =>
        refine .inr ?_
        show toV (.ok (.p (.s i) []) e false) = _
        simp only [toV, getE, getR, h]
        rfl
      | t ts => exact .inl rfl
      | o C ts => exact .inl rfl
      | k ks ts => exact .inl rfl
      | m ks ts => exact .inl rfl
      | r n => exact .inl rfl
      | z => exact .inl rfl
theorem tV_le {c : Ctx} {d d' : Env → RV} (h : ∀ e, d' e = .no ∨ d e = d' e) {σ : L2.St} {H : Hp} {Q : VK} (q : tV c d' σ H Q) : tV c d σ H Q := by
  obtain ⟨e, R, F, s, p⟩ := q
  refine ⟨e, R, F, s, ?_⟩
  rcases h e with z | z
  · rw [z] at p; exact p.elim
  · rw [z]; exact p
theorem ve_var (i : Nat) {x : Str} (hN : X.N[i]? = some x := by rfl) (hv : Vis X.env.scope x := by first | exact Or.inl rfl | exact Or.inr (Or.inl rfl) | exact Or.inr (Or.inr rfl)) (hd : (x == ("__debug__" : Str)) = false := by decide)
    (hcd : (x == ("__classdict__" : Str)) = false := by decide) : PE X (.Name x pos) (tV c (vVar i)) := by
  exact PE.imp (pe_toV (de_var i hN hv hd hcd)) fun _ _ _ q => tV_le (vVar_eq i) q
/-! ## operators in general -/
theorem ve_bin {op : Operator} {r : R2} {f : PyData → PyData → Option PyData} (ho : OpR X (binaryOp op) r) (hs : Sc2 c.K r f) (ha : PE X a (tV c d1)) (hb : PE X b (tV c d2)) : PE X (.BinOp a op b pos) (tV c (v2 f d1 d2)) := PE.imp (pe_op ho ha hb) fun _ _ _ h => v2_ok hs h
theorem de_bin {op : Operator} {r : R2} {f : PyData → PyData → Option (List PyData)} (ho : OpR X (binaryOp op) r) (hs : Sl2 c.K r f) (ha : PE X a (tV c d1)) (hb : PE X b (tV c d2)) : PE X (.BinOp a op b pos) (tD c (d2L f d1 d2)) := PE.imp (pe_op ho ha hb) fun _ _ _ h => d2L_ok hs h
theorem ve_cmp {op : CmpOp} {r : R2} {f : PyData → PyData → Option PyData} (ho : OpR X (compareOp op) r) (hs : Sc2 c.K r f) (ha : PE X a (tV c d1)) (hb : PE X b (tV c d2)) (hm : behindInMarks op b = false) : PE X (.Compare a [op] [b] pos) (tV c (v2 f d1 d2)) := PE.imp (pe_cmpR ho ha hb hm) fun _ _ _ h => v2_ok hs h
theorem te_cmp {op : CmpOp} {r : R2} {f : PyData → PyData → Option PyData} (ho : OpR X (compareOp op) r) (hs : Sc2 c.K r f) (ha : PE X a (tV c d1)) (hb : PE X b (tV c d2)) (hm : behindInMarks op b = false) : PT X (.Compare a [op] [b] pos) (tTest (tV c (v2 f d1 d2))) := PT.imp (pt_cmpR ho ha hb hm) fun _ _ _ h => v2_ok hs h
theorem ve_ix {r : R2} {f : PyData → PyData → Option PyData} (ho : IxR X r) (hs : Sc2 c.K r f) (ha : PE X a (tV c d1)) (hb : PE X b (tV c d2)) (hp : PlainIx b) : PE X (.Subscript a b pos) (tV c (v2 f d1 d2)) := PE.imp (pe_ix ho ha hb hp) fun _ _ _ h => v2_ok hs h
theorem ve_un {op : UnaryOp} {r : V → Hp → VK → Prop} {f : PyData → Option PyData} (ho : UnR X (unaryOp op) r) (hs : Sc1 c.K r f) (ha : PE X a (tV c d)) : PE X (.UnaryOp op a pos) (tV c (v1 f d)) := PE.imp (pe_un ho ha) fun _ _ _ h => v1_ok hs h
section
variable {x : Str} {p : Pos} {id T : String} {r : List V → Hp → VK → Prop}
theorem ve_b1 {f : PyData → Option PyData} (hc : CallR X (.builtin id) r) (hs : Sc1 c.K (fun v => r [v]) f) (hg : Gl X x) (hm : X.mg x = none) (hv : bootBuiltins x = some (.builtin id)) (ha : PA X [a] (tCons (tV c d) tNil)) (hn : x ≠ "__name__" := by decide) (hdb : (x == ("__debug__" : Str)) = false := by decide)
    (he : starEach [a] X.env = (false, eval a X.env) :: starEach [] X.env := by rfl) (hpl : (backTo pos (starEach [] X.env)).any (·.1) = false := by rfl) : PE X (.Call (.Name x p) [a] [] pos) (tV c (v1 f d)) :=
  PE.imp (pe_callB hc hg hm hv ha hn hdb he hpl) fun _ _ _ h => v1_ok hs h
theorem ve_t1 {f : PyData → Option PyData} (hc : CallR X (.type T) r) (hs : Sc1 c.K (fun v => r [v]) f) (hg : Gl X x) (hm : X.mg x = none) (hv : bootBuiltins x = some (.type T)) (ha : PA X [a] (tCons (tV c d) tNil)) (hn : x ≠ "__name__" := by decide) (hdb : (x == ("__debug__" : Str)) = false := by decide)
    (he : starEach [a] X.env = (false, eval a X.env) :: starEach [] X.env := by rfl) (hpl : (backTo pos (starEach [] X.env)).any (·.1) = false := by rfl) : PE X (.Call (.Name x p) [a] [] pos) (tV c (v1 f d)) :=
  PE.imp (pe_callTy hc hg hm hv ha hn hdb he hpl) fun _ _ _ h => v1_ok hs h
theorem de_t1 {f : PyData → Option (List PyData)} (hc : CallR X (.type T) r) (hs : Sl1 c.K (fun v => r [v]) f) (hg : Gl X x) (hm : X.mg x = none) (hv : bootBuiltins x = some (.type T)) (ha : PA X [a] (tCons (tV c d) tNil)) (hn : x ≠ "__name__" := by decide) (hdb : (x == ("__debug__" : Str)) = false := by decide)
    (he : starEach [a] X.env = (false, eval a X.env) :: starEach [] X.env := by rfl) (hpl : (backTo pos (starEach [] X.env)).any (·.1) = false := by rfl) : PE X (.Call (.Name x p) [a] [] pos) (tD c (d1L f d)) :=
  PE.imp (pe_callTy hc hg hm hv ha hn hdb he hpl) fun _ _ _ h => d1L_ok hs h
theorem de_b1 {f : PyData → Option (List PyData)} (hc : CallR X (.builtin id) r) (hs : Sl1 c.K (fun v => r [v]) f) (hg : Gl X x) (hm : X.mg x = none) (hv : bootBuiltins x = some (.builtin id)) (ha : PA X [a] (tCons (tV c d) tNil)) (hn : x ≠ "__name__" := by decide) (hdb : (x == ("__debug__" : Str)) = false := by decide)
    (he : starEach [a] X.env = (false, eval a X.env) :: starEach [] X.env := by rfl) (hpl : (backTo pos (starEach [] X.env)).any (·.1) = false := by rfl) : PE X (.Call (.Name x p) [a] [] pos) (tD c (d1L f d)) :=
  PE.imp (pe_callB hc hg hm hv ha hn hdb he hpl) fun _ _ _ h => d1L_ok hs h
theorem ve_b2 {f : PyData → PyData → Option PyData} (hc : CallR X (.builtin id) r) (hs : Sc2 c.K (fun v u => r [v, u]) f) (hg : Gl X x) (hm : X.mg x = none) (hv : bootBuiltins x = some (.builtin id)) (ha : PA X [a, b] (tCons (tV c d1) (tCons (tV c d2) tNil))) (hn : x ≠ "__name__" := by decide) (hdb : (x == ("__debug__" : Str)) = false := by decide)
    (he : starEach [a, b] X.env = (false, eval a X.env) :: starEach [b] X.env := by rfl) (hpl : (backTo pos (starEach [b] X.env)).any (·.1) = false := by rfl) : PE X (.Call (.Name x p) [a, b] [] pos) (tV c (v2 f d1 d2)) :=
  PE.imp (pe_callB hc hg hm hv ha hn hdb he hpl) fun _ _ _ h => v2_ok hs h
end
end
/-! ## the operators -/
theorem opr_or {X : Cx} {f : Value → Value → Sem Value} {r r' : R2} (h : OpR X f r) (h' : OpR X f r') : OpR X f (fun x y H Q => r x y H Q ∨ r' x y H Q) := fun pins s σ H x y v u Q I rx ry q => by
  rcases q with q | q
  · exact h pins s σ H x y v u Q I rx ry q
  · exact h' pins s σ H x y v u Q I rx ry q
theorem callr_or {X : Cx} {f : Value} {r r' : List V → Hp → VK → Prop} (h : CallR X f r) (h' : CallR X f r') : CallR X f (fun xs H Q => r xs H Q ∨ r' xs H Q) := fun pins s σ H xs us Q I rx q => by
  rcases q with q | q
  · exact h pins s σ H xs us Q I rx q
  · exact h' pins s σ H xs us Q I rx q
def SZ : Nat := 16777216
theorem sz_eq : SZ = sizeLine := by rw [sizeLine_eq]; rfl
/-- scalars: the heap stays -/
theorem sc_here {K : PySem.W.Frag} {R : RR} {H : Hp} {Q : VK} {z : PyData} {u : V} (rh : Same R H) (k : ∀ (R' : RR) (H' : Hp) u, Gr R H R' H' → Dp K R' u z → Q u H') (d : Dp K R u z) : Q u H := k R H u (.refl rh) d
def fAddI : PyData → PyData → Option PyData
  | .int i, .int j => some (.int (i + j))
  | .str a, .str b => if a.length + b.length ≤ SZ then some (.str (a ++ b)) else none
  | .tuple xs, .tuple ys => if xs.length + ys.length ≤ SZ then some (.tuple (xs ++ ys)) else none
  | _, _ => none
def rAddI (K : PySem.W.Frag) : R2 := fun x y H Q => rI0 (fun i j => .int (i + j)) x y H Q ∨ ((∃ i j, x = .str i ∧ y = .str j ∧ i.length + j.length ≤ sizeLine ∧ Q (.str (i ++ j)) H) ∨ rCatA K x y H Q)
theorem op_addI {X : Cx} : OpR X (binaryOp .Add) (rAddI X.K) := opr_or op_add (opr_or op_add_str op_catA)
theorem sc_add {K : PySem.W.Frag} : Sc2 K (rAddI K) fAddI := by
  intro R H v1 v2 x y b b' z Q rh s1 s2 e k
  unfold fAddI at e
  split at e
  · cases e
    exact .inl ⟨_, _, sd_int s1, sd_int s2, sc_here rh k (.int _)⟩
  · split at e
    · rename_i hl
      cases e
      exact .inr (.inl ⟨_, _, sd_str s1, sd_str s2, by rw [← sz_eq]; exact hl, sc_here rh k (.str _)⟩)
    · cases e
  · split at e
    · rename_i xs ys hl
      cases e
      obtain ⟨p, vs, rfl, q1, q1', a1⟩ := sd_tup s1 rh
      obtain ⟨q, us, rfl, q2, q2', a2⟩ := sd_tup s2 rh
      have l1 := dpa_len a1
      have l2 := dpa_len a2
      refine .inr (.inr ⟨p, q, vs, us, rfl, rfl, q1, q2, by rw [← sz_eq, l1, l2]; exact hl, fun h0 => ?_, fun h0 h1 => ?_, fun h0 h1 t ht => ?_⟩)
      · subst h0
        cases a1
        exact sc_here rh k (.tup q2' (by simpa using a2))
      · subst h1
        cases a2
        exact sc_here rh k (.tup q1' (by simpa using a1))
      · exact k _ _ _ (Gr.new rh ht) (.tup (.of upd_same) (dpa_up (same_new (rh.free ht)) _ _ (dpa_app a1 a2)))
    · cases e
  · cases e
/-- list + list -/
def fCat : PyData → PyData → Option (List PyData)
  | .list xs, .list ys => if xs.length + ys.length ≤ SZ then some (xs ++ ys) else none
  | _, _ => none
def rCatL (K : PySem.W.Frag) : R2 := fun x y H Q => ∃ a b xs ys, x = .ref a ∧ y = .ref b ∧ SqL K H a xs ∧ SqL K H b ys ∧ xs.length + ys.length ≤ sizeLine ∧ ∀ p, H p = none → Q (.ref p) (upd H p (.lst (xs ++ ys)))
theorem op_catL {X : Cx} : OpR X (binaryOp .Add) (rCatL X.K) := by
  intro pins s σ H x y v u Q I rx ry h
  obtain ⟨a, b, xs, ys, rfl, rfl, ha, hb, hz, q⟩ := h
  cases rx
  cases ry
  obtain ⟨its, r1, ⟨o1, n1, ho1, hc1, hd1, hda1⟩, _⟩ := I.list ha
  obtain ⟨its2, r2, ⟨o2, n2, ho2, hc2, hd2, hda2⟩, _⟩ := I.list hb
  obtain ⟨cls, dd, data, sl⟩ := o1
  obtain ⟨cls2, dd2, data2, sl2⟩ := o2
  simp only at hc1 hda1 hc2 hda2
  subst hc1 hda1 hc2 hda2
  have hz' : its.toArray.size + its2.toArray.size ≤ sizeLine := by rw [List.size_toArray, List.size_toArray, ← r1.length, ← r2.length]; exact hz
  have e : its.toArray ++ its2.toArray = (its ++ its2).toArray := by simp
  refine concat_meets ⟨_, ho1, rfl⟩ ⟨_, ho2, rfl⟩ noFill_list_add seq_list_add PySem.F.slot_list_add PySem.F.entry_list_add (PySem.F.args_list_add_2 _ _) (list_addW a b its.toArray its2.toArray n1 n2 dd dd2 sl sl2 hz') ⟨ho1, ho2, ?_⟩
  rw [e]
  refine ⟨.ref s.heap.objs.size, _, I.laid (t' := s.toks) (o := .lst (xs ++ ys)) (fun b ob q => Heap.get?_push_of_some _ q) (Nat.le_refl _) ?_, rfl, q _ (I.hok.fresh (Nat.le_refl _))⟩
  exact ⟨by rw [List.length_append]; exact hz, _, 0, r1.append r2, Heap.get?_push_size _ rfl⟩
theorem sl_cat {K : PySem.W.Frag} : Sl2 K (rCatL K) fCat := by
  intro R H v1 v2 x y b b' z Q rh s1 s2 e k
  unfold fCat at e
  split at e
  · split at e
    · rename_i hl
      cases e
      obtain ⟨p, vs, rfl, q1, a1⟩ := sd_list s1 rh
      obtain ⟨q, us, rfl, q2, a2⟩ := sd_list s2 rh
      exact ⟨p, q, vs, us, rfl, rfl, q1, q2, by rw [← sz_eq, dpa_len a1, dpa_len a2]; exact hl, fun t ht => k t _ ht (dpa_app a1 a2)⟩
    · cases e
  · cases e
def fI2 (C : Int → Int → Bool) (g : Int → Int → Int) : PyData → PyData → Option PyData
  | .int i, .int j => if C i j then some (.int (g i j)) else none
  | _, _ => none
theorem sc_I2 {K : PySem.W.Frag} {C : Int → Int → Prop} {C' : Int → Int → Bool} {g : Int → Int → Int} (h : ∀ i j, C' i j = true → C i j) : Sc2 K (rI C fun i j => .int (g i j)) (fI2 C' g) := by
  intro R H v1 v2 x y b b' z Q rh s1 s2 e k
  unfold fI2 at e
  split at e
  · split at e
    · rename_i hc
      cases e
      exact ⟨_, _, sd_int s1, sd_int s2, h _ _ hc, sc_here rh k (.int _)⟩
    · cases e
  · cases e
theorem sc_I20 {K : PySem.W.Frag} {g : Int → Int → Int} : Sc2 K (rI0 fun i j => .int (g i j)) (fI2 (fun _ _ => true) g) := by
  intro R H v1 v2 x y b b' z Q rh s1 s2 e k
  unfold fI2 at e
  split at e
  · cases e
    exact ⟨_, _, sd_int s1, sd_int s2, sc_here rh k (.int _)⟩
  · cases e
abbrev fSub := fI2 (fun _ _ => true) fun i j => i - j
abbrev fAnd := fI2 (fun _ _ => true) fun i j => Builtin.bitAnd i j
abbrev fXor := fI2 (fun _ _ => true) fun i j => Builtin.bitXor i j
abbrev fOr := fI2 (fun _ _ => true) fun i j => Builtin.bitOr i j
abbrev fMul := fI2 (fun i j => (decide (-18446744073709551616 < i) && decide (i < 18446744073709551616)) || (decide (-18446744073709551616 < j) && decide (j < 18446744073709551616))) fun i j => i * j
abbrev fDiv := fI2 (fun _ j => decide (0 < j) && decide (j < 1073741824)) fun i j => i / j
abbrev fMod := fI2 (fun _ j => decide (0 < j)) fun i j => i % j
abbrev fPow := fI2 (fun i j => decide (0 ≤ j) && decide (j ≤ 1000000) && decide (i.natAbs < 18446744073709551616)) fun i j => i ^ j.toNat
abbrev fShr := fI2 (fun _ j => decide (0 ≤ j)) fun i j => i / 2 ^ j.toNat
theorem c_mul {i j : Int} (h : ((decide (-18446744073709551616 < i) && decide (i < 18446744073709551616)) || (decide (-18446744073709551616 < j) && decide (j < 18446744073709551616))) = true) : CMul i j := by
  simp only [Bool.or_eq_true, Bool.and_eq_true, decide_eq_true_eq] at h
  unfold CMul
  simpa using h
theorem c_div {i j : Int} (h : (decide (0 < j) && decide (j < 1073741824)) = true) : CDiv i j := by
  simp only [Bool.and_eq_true, decide_eq_true_eq] at h
  exact h
theorem c_pow {i j : Int} (h : (decide (0 ≤ j) && decide (j ≤ 1000000) && decide (i.natAbs < 18446744073709551616)) = true) : CPow i j := by
  simp only [Bool.and_eq_true, decide_eq_true_eq] at h
  exact ⟨h.1.1, h.1.2, by simpa using h.2⟩
def fB2 (g : Int → Int → Bool) : PyData → PyData → Option PyData
  | .int i, .int j => some (.bool (g i j))
  | _, _ => none
theorem sc_B2 {K : PySem.W.Frag} {g : Int → Int → Bool} : Sc2 K (rI0 fun i j => .bl (g i j)) (fB2 g) := by
  intro R H v1 v2 x y b b' z Q rh s1 s2 e k
  unfold fB2 at e
  split at e
  · cases e
    exact ⟨_, _, sd_int s1, sd_int s2, sc_here rh k (.bl _)⟩
  · cases e
abbrev fLt := fB2 fun i j => decide (i < j)
abbrev fLe := fB2 fun i j => decide (i ≤ j)
abbrev fGt := fB2 fun i j => decide (j < i)
abbrev fGe := fB2 fun i j => decide (j ≤ i)
def fEq : PyData → PyData → Option PyData := fun x y => if SeqAt.shaped x && SeqAt.shaped y then some (.bool (PyData.eqv x y)) else none
def fNe : PyData → PyData → Option PyData := fun x y => if SeqAt.shaped x && SeqAt.shaped y then some (.bool (!PyData.eqv x y)) else none
theorem sc_eq {K : PySem.W.Frag} : Sc2 K (rEqD K) fEq := by
  intro R H v1 v2 x y b b' z Q rh s1 s2 e k
  unfold fEq at e
  split at e
  · rename_i h
    cases e
    rw [Bool.and_eq_true] at h
    exact ⟨x, y, s1.dp rh, s2.dp rh, h.1, h.2, sc_here rh k (.bl _)⟩
  · cases e
theorem sc_ne {K : PySem.W.Frag} : Sc2 K (rNeD K) fNe := by
  intro R H v1 v2 x y b b' z Q rh s1 s2 e k
  unfold fNe at e
  split at e
  · rename_i h
    cases e
    rw [Bool.and_eq_true] at h
    exact ⟨x, y, s1.dp rh, s2.dp rh, h.1, h.2, sc_here rh k (.bl _)⟩
  · cases e
def fIsN : PyData → PyData → Option PyData
  | x, .none => some (.bool (isNone x))
  | _, _ => none
def fNotN : PyData → PyData → Option PyData
  | x, .none => some (.bool (!isNone x))
  | _, _ => none
theorem sc_isN {K : PySem.W.Frag} : Sc2 K (fun x y H Q => y = .non ∧ Q (.bl (decide (x = .non))) H) fIsN := by
  intro R H v1 v2 x y b b' z Q rh s1 s2 e k
  unfold fIsN at e
  split at e
  · cases e
    refine ⟨sd_none s2, ?_⟩
    rw [sd_isNone s1]
    exact sc_here rh k (.bl _)
  · cases e
theorem sc_notN {K : PySem.W.Frag} : Sc2 K (fun x y H Q => y = .non ∧ Q (.bl (!decide (x = .non))) H) fNotN := by
  intro R H v1 v2 x y b b' z Q rh s1 s2 e k
  unfold fNotN at e
  split at e
  · cases e
    refine ⟨sd_none s2, ?_⟩
    rw [sd_isNone s1]
    exact sc_here rh k (.bl _)
  · cases e
/-! ### in -/
def flatD : PyData → Bool
  | .none => true | .bool _ => true | .int _ => true | .str _ => true
  | _ => false
theorem flat_dp {K : PySem.W.Frag} {R : Hp} {v : V} {x : PyData} (h : Dp K R v x) (f : flatD x = true) : flatV v = true := by
  cases h with
  | non => rfl
  | bl => rfl
  | int => rfl
  | str => rfl
  | lst => cases f
  | tup => cases f
def sv : PyData → V
  | .none => .non | .bool b => .bl b | .int i => .int i | .str s => .str s
  | _ => .non
theorem sv_dp {K : PySem.W.Frag} {R : Hp} {v : V} {x : PyData} (h : Dp K R v x) (f : flatD x = true) : v = sv x := by
  cases h with
  | non => rfl
  | bl => rfl
  | int => rfl
  | str => rfl
  | lst => cases f
  | tup => cases f
theorem sv_dpa {K : PySem.W.Frag} {R : Hp} : ∀ {vs : List V} {ds : List PyData}, DpAll K R vs ds → ds.all flatD = true → vs = ds.map sv ∧ vs.all flatV = true
  | _, [], h, _ => by cases h; exact ⟨rfl, rfl⟩
  | _, d :: ds, h, f => by
    cases h with
    | cons h1 h2 =>
      rw [List.all_cons, Bool.and_eq_true] at f
      obtain ⟨e1, e2⟩ := sv_dpa h2 f.2
      rw [e1, sv_dp h1 f.1]
      refine ⟨rfl, ?_⟩
      rw [List.all_cons, ← e1, e2, Bool.and_true, ← sv_dp h1 f.1]
      exact flat_dp h1 f.1
def inD (x : PyData) (ds : List PyData) : Bool := ds.any fun y => eqV (sv y) (sv x)
theorem inV_map (x : PyData) (ds : List PyData) : inV (sv x) (ds.map sv) = inD x ds := by
  unfold inV inD
  rw [List.any_map]
  rfl
def fIn (neg : Bool) : PyData → PyData → Option PyData
  | x, .list ds => if flatD x && ds.all flatD then some (.bool (neg ^^ inD x ds)) else none
  | x, .tuple ds => if flatD x && ds.all flatD then some (.bool (neg ^^ inD x ds)) else none
  | .str x, .str z => match x.cps.toList with
    | [n] => some (.bool (neg ^^ decide (n ∈ z.cps.toList)))
    | _ => none
  | _, _ => none
def rInA (K : PySem.W.Frag) (neg : Bool) : R2 := fun x y H Q => rIn K neg x y H Q ∨ (∃ (n : Nat) (z : Str), x = .str ⟨#[n]⟩ ∧ y = .str z ∧ Q (.bl (neg ^^ decide (n ∈ z.cps.toList))) H)
theorem op_inA {X : Cx} : OpR X (compareOp .In) (rInA X.K false) := fun pins s σ H x y v u Q I rx ry q => by
  rcases q with q | ⟨n, z, h1, h2, q⟩
  · exact op_in_seq pins s σ H x y v u Q I rx ry q
  · exact op_in_sign pins s σ H x y v u Q I rx ry ⟨n, z, h1, h2, by simpa using q⟩
theorem op_notInA {X : Cx} : OpR X (compareOp .NotIn) (rInA X.K true) := fun pins s σ H x y v u Q I rx ry q => by
  rcases q with q | ⟨n, z, h1, h2, q⟩
  · exact op_notIn_seq pins s σ H x y v u Q I rx ry q
  · exact op_notIn_sign pins s σ H x y v u Q I rx ry ⟨n, z, h1, h2, by simpa using q⟩
theorem sd_flat {K : PySem.W.Frag} {R : RR} {H : Hp} {v : V} {x : PyData} {b : Bool} (h : Sd K R H v x b) (rh : Same R H) (f : flatD x = true) : v = sv x := sv_dp (h.dp rh) f
theorem sc_in {K : PySem.W.Frag} {neg : Bool} : Sc2 K (rInA K neg) (fIn neg) := by
  intro R H v1 v2 x y b b' z Q rh s1 s2 e k
  have fin : ∀ (p : Addr) (vs : List V) (ds : List PyData), v2 = .ref p → (SqL K H p vs ∨ SqT K H p vs) → DpAll K R vs ds → (flatD x && ds.all flatD) = true → z = .bool (neg ^^ inD x ds) → rInA K neg v1 v2 H Q := by
    intro p vs ds hv hq da hf hz
    rw [Bool.and_eq_true] at hf
    obtain ⟨e1, e2⟩ := sv_dpa da hf.2
    have e3 := sd_flat s1 rh hf.1
    refine .inl ⟨p, vs, hv, hq, by rw [e3]; exact flat_dp (sd_flat s1 rh hf.1 ▸ s1.dp rh) hf.1, e2, ?_⟩
    have e4 : (if neg = true then !inV v1 vs else inV v1 vs) = (neg ^^ inD x ds) := by
      rw [e3, e1, inV_map]
      cases neg <;> simp
    rw [e4]
    subst hz
    exact sc_here rh k (.bl _)
  unfold fIn at e
  split at e
  · split at e
    · rename_i hf
      cases e
      obtain ⟨p, vs, h1, h2, h3⟩ := sd_list s2 rh
      exact fin p vs _ h1 (.inl h2) h3 hf rfl
    · cases e
  · split at e
    · rename_i hf
      cases e
      obtain ⟨p, vs, h1, h2, _, h3⟩ := sd_tup s2 rh
      exact fin p vs _ h1 (.inr h2) h3 hf rfl
    · cases e
  · split at e
    · rename_i sx sz sl n hn
      cases e
      have hx : sx = ⟨#[n]⟩ := by
        cases sx with
        | mk cps => exact congrArg Str.mk (Array.ext' hn)
      refine .inr ⟨n, _, by rw [sd_str s1, hx], sd_str s2, sc_here rh k (.bl _)⟩
    · cases e
  · cases e
/-! ### len, items -/
def fLen : PyData → Option PyData
  | .list ds => some (.int ds.length)
  | .tuple ds => some (.int ds.length)
  | .str z => if z.length ≤ SZ then some (.int z.length) else none
  | _ => none
def rLenD (K : PySem.W.Frag) : List V → Hp → VK → Prop := fun xs H Q => (∃ p ys, xs = [.ref p] ∧ (SqL K H p ys ∨ SqT K H p ys) ∧ Q (.int ys.length) H) ∨ (∃ z, xs = [.str z] ∧ z.length ≤ sizeLine ∧ Q (.int z.length) H)
theorem call_lenA {X : Cx} : CallR X (.builtin "len") (rLenD X.K) := callr_or call_len_seq call_len_str
theorem sc_len {K : PySem.W.Frag} : Sc1 K (fun v => rLenD K [v]) fLen := by
  intro R H v x b z Q rh s e k
  unfold fLen at e
  split at e
  · cases e
    obtain ⟨p, vs, rfl, h2, h3⟩ := sd_list s rh
    refine .inl ⟨p, vs, rfl, .inl h2, ?_⟩
    rw [dpa_len h3]
    exact sc_here rh k (.int _)
  · cases e
    obtain ⟨p, vs, rfl, h2, _, h3⟩ := sd_tup s rh
    refine .inl ⟨p, vs, rfl, .inr h2, ?_⟩
    rw [dpa_len h3]
    exact sc_here rh k (.int _)
  · split at e
    · rename_i h
      cases e
      refine .inr ⟨_, by rw [sd_str s], by rw [← sz_eq]; exact h, sc_here rh k (.int _)⟩
    · cases e
  · cases e
def fIx : PyData → PyData → Option PyData
  | .list ds, .int i => atI ds i
  | .tuple ds, .int i => atI ds i
  | .str z, .int i => if z.length ≤ SZ then (atI z.cps.toList i).map fun n => .str ⟨#[n]⟩ else none
  | _, _ => none
def rIxD (K : PySem.W.Frag) : R2 := rIx K
theorem dpa_atI {K : PySem.W.Frag} {R : RR} {vs : List V} {ds : List PyData} {i : Int} {x : PyData} (h : DpAll K R vs ds) (e : atI ds i = some x) : ∃ v, atI vs i = some v ∧ Dp K R v x := by
  unfold atI at e ⊢
  rw [dpa_len h]
  cases hi : ixN ds.length i with
  | none => rw [hi] at e; cases e
  | some j =>
    rw [hi] at e
    exact dpa_get h e
theorem sc_ix {K : PySem.W.Frag} : Sc2 K (rIx K) fIx := by
  intro R H v1 v2 x y b b' z Q rh s1 s2 e k
  unfold fIx at e
  split at e
  · obtain ⟨p, vs, rfl, h2, h3⟩ := sd_list s1 rh
    obtain ⟨u, e1, e2⟩ := dpa_atI h3 e
    exact .inl ⟨p, vs, _, u, rfl, sd_int s2, h2, e1, sc_here rh k e2⟩
  · obtain ⟨p, vs, rfl, h2, _, h3⟩ := sd_tup s1 rh
    obtain ⟨u, e1, e2⟩ := dpa_atI h3 e
    exact .inr (.inl ⟨p, vs, _, u, rfl, sd_int s2, h2, e1, sc_here rh k e2⟩)
  · split at e
    · rename_i zz i h
      cases e1 : atI zz.cps.toList i with
      | none => rw [e1] at e; cases e
      | some n =>
        rw [e1] at e
        cases e
        exact .inr (.inr ⟨_, _, n, sd_str s1, sd_int s2, by rw [← sz_eq]; exact h, e1, sc_here rh k (.str _)⟩)
    · cases e
  · cases e
end En
namespace En
open PySem PySem.Spec PyProof.Rows L2
/-! ## and, or, not, if: by a bool -/
def orw (w : Bool) : RV → RV
  | .ok x b e w2 => .ok x b e (w || w2)
  | .er C fs e => .er C fs e
  | .no => .no
def vBool (d : Env → RV) (k : Bool → Env → RV) : Env → RV := fun e => match d e with
  | .ok (.bool b) _ e1 w => orw w (k b e1)
  | .ok _ _ _ _ => .no
  | .er C fs e1 => .er C fs e1
  | .no => .no
def vAnd (d1 d2 : Env → RV) : Env → RV := vBool d1 fun b => match b with
  | true => d2
  | false => vC (.bool false)
def vOr (d1 d2 : Env → RV) : Env → RV := vBool d1 fun b => match b with
  | true => vC (.bool true)
  | false => d2
def vNot (d : Env → RV) : Env → RV := vBool d fun b => vC (.bool (!b))
def vIf (t d1 d2 : Env → RV) : Env → RV := vBool t fun b => match b with
  | true => d1
  | false => d2
/-- a bool, for sure -/
def vIsB (d : Env → RV) : Env → RV := vBool d fun b => vC (.bool b)
section
variable {c : Ctx} {d d1 d2 d3 : Env → RV} {σ : L2.St} {H : Hp} {Q : VK}
theorem postV_orw {R0 : RR} {H0 : Hp} {R : RR} {H : Hp} {F0 F : List Addr} {r : RV} {w : Bool} (x : Ex R0 H0 F0 R H F) (sm : w = false → Gr R0 H0 R H) (h : PostV c σ R0 H0 F0 Q (orw w r)) : PostV c σ R H F Q r := by
  cases r with
  | ok y b e w2 => exact fun R' H' F' v s sd ex hw => h R' H' F' v s sd (x.trans ex) (fun z => (sm (or_ff z).1).trans (hw (or_ff z).2))
  | er C fs e => exact fun R' H' F' dd s rx ex => h R' H' F' dd s rx (x.trans ex)
  | no => exact h
theorem vBool_ok {k : Bool → Env → RV} (h : tV c (vBool d k) σ H Q) : tV c d σ H fun v H1 => ∃ b, v = .bl b ∧ tV c (k b) σ H1 Q := by
  obtain ⟨e, R, F, s, p⟩ := h
  refine ⟨e, R, F, s, ?_⟩
  unfold vBool at p
  cases h1 : d e with
  | no => simp only [h1] at p; exact p
  | er C fs e1 => simp only [h1] at p; exact p
  | ok x b e1 w =>
    intro R1 H1 F1 u s1 sd ex hw
    cases x with
    | bool y =>
      simp only [h1] at p
      exact ⟨y, sd_bool sd, e1, R1, F1, s1, postV_orw ex hw p⟩
    | _ => simp only [h1] at p; exact p.elim
theorem vC_ok {x : PyData} {v : V} (h : ∀ R : RR, Dp c.K R v x) (q : tV c (vC x) σ H Q) : Q v H := tC_ok h σ H Q q
end
section
variable {X : Cx} {c : Ctx} {d d1 d2 d3 : Env → RV} {a b a1 a2 a3 ex : Expr} {es : List Expr} {pos p1 p2 : Pos} {k j : Nat} {op : BoolOp}
abbrev tT (c : Ctx) (d : Env → RV) : TT := tTest (tV c d)
theorem te_val (h : PE X a (tV c d)) (he : ∀ whole, isTrue a X.env whole = (do let v ← whole; standAt a.pos; holding [v] (truthy v)) := by intro _; rfl) : PT X a (tT c d) := pt_val h he
theorem tw_and1 (h : PT X a (tT c d)) : PW X (.BoolOp .And [a] pos) (tT c d) := pw_and1 h
theorem tw_or1 (h : PT X a (tT c d)) : PW X (.BoolOp .Or [a] pos) (tT c d) := pw_or1 h
theorem tw_and (ha : PT X a (tT c d1)) (hb : PW X (.BoolOp .And (b :: es) pos) (tT c d2)) : PW X (.BoolOp .And (a :: b :: es) pos) (tT c (vAnd d1 d2)) := by
  refine PW.imp (pw_and ha hb) fun σ H Q h => ?_
  have q := vBool_ok h
  obtain ⟨e, R, F, s, p⟩ := q
  refine ⟨e, R, F, s, ?_⟩
  cases h1 : d1 e with
  | no => rw [h1] at p; exact p
  | er C fs e1 => rw [h1] at p; exact p
  | ok x b e1 w =>
    rw [h1] at p
    intro R1 H1 F1 u s1 sd ex hw
    obtain ⟨y, rfl, q⟩ := p R1 H1 F1 u s1 sd ex hw
    refine ⟨y, rfl, ?_⟩
    cases y with
    | true => exact q
    | false =>
      obtain ⟨k, e1, e2⟩ := vC_ok (v := .bl false) (fun _ => .bl _) q
      cases e1
      exact e2
theorem tw_or (ha : PT X a (tT c d1)) (hb : PW X (.BoolOp .Or (b :: es) pos) (tT c d2)) : PW X (.BoolOp .Or (a :: b :: es) pos) (tT c (vOr d1 d2)) := by
  refine PW.imp (pw_or ha hb) fun σ H Q h => ?_
  have q := vBool_ok h
  obtain ⟨e, R, F, s, p⟩ := q
  refine ⟨e, R, F, s, ?_⟩
  cases h1 : d1 e with
  | no => rw [h1] at p; exact p
  | er C fs e1 => rw [h1] at p; exact p
  | ok x b e1 w =>
    rw [h1] at p
    intro R1 H1 F1 u s1 sd ex hw
    obtain ⟨y, rfl, q⟩ := p R1 H1 F1 u s1 sd ex hw
    refine ⟨y, rfl, ?_⟩
    cases y with
    | false => exact q
    | true =>
      obtain ⟨k, e1, e2⟩ := vC_ok (v := .bl true) (fun _ => .bl _) q
      cases e1
      exact e2
/-- what stands behind a bool -/
theorem tV_mono {σ : L2.St} {H : Hp} {Q Q' : VK} (h : tV c d σ H Q) (q : ∀ v H, Q v H → Q' v H) : tV c d σ H Q' := by
  obtain ⟨e, R, F, s, p⟩ := h
  refine ⟨e, R, F, s, ?_⟩
  cases h1 : d e with
  | no => rw [h1] at p; exact p
  | er C fs e1 => rw [h1] at p; exact p
  | ok x b e1 w =>
    rw [h1] at p
    exact fun R1 H1 F1 u s1 sd ex hw => q _ _ (p R1 H1 F1 u s1 sd ex hw)
theorem te_not (h : PT X a (tT c d)) : PT X (.UnaryOp .Not a pos) (tT c (vNot d)) := by
  refine PT.imp (pt_not h) fun σ H Q h => ?_
  refine tV_mono (vBool_ok h) fun v H1 ⟨y, e, q⟩ => ⟨y, e, ?_⟩
  obtain ⟨k, e1, e2⟩ := vC_ok (v := .bl (!y)) (fun _ => .bl _) q
  cases e1
  exact e2
theorem ve_not (h : PE X a (tV c d)) : PE X (.UnaryOp .Not a pos) (tV c (vNot d)) := by
  refine PE.imp (pe_not h) fun σ H Q h => ?_
  exact tV_mono (vBool_ok h) fun v H1 ⟨y, e, q⟩ => ⟨y, e, vC_ok (v := .bl (!y)) (fun _ => .bl _) q⟩
theorem ve_one (h : PE X a (tV c d)) : PE X (.BoolOp op [a] pos) (tV c d) := pe_one h
theorem ve_and (ha : PE X a (tV c d1)) (hb : PE X (.BoolOp .And (b :: es) pos) (tV c d2)) : PE X (.BoolOp .And (a :: b :: es) pos) (tV c (vAnd d1 d2)) := by
  refine PE.imp (pe_and ha hb) fun σ H Q h => ?_
  refine tV_mono (vBool_ok h) fun v H1 ⟨y, e, q⟩ => ⟨y, e, ?_⟩
  cases y with
  | true => exact q
  | false => exact vC_ok (v := .bl false) (fun _ => .bl _) q
theorem ve_or (ha : PE X a (tV c d1)) (hb : PE X (.BoolOp .Or (b :: es) pos) (tV c d2)) : PE X (.BoolOp .Or (a :: b :: es) pos) (tV c (vOr d1 d2)) := by
  refine PE.imp (pe_or ha hb) fun σ H Q h => ?_
  refine tV_mono (vBool_ok h) fun v H1 ⟨y, e, q⟩ => ⟨y, e, ?_⟩
  cases y with
  | false => exact q
  | true => exact vC_ok (v := .bl true) (fun _ => .bl _) q
theorem ve_if (ht : PT X a (tT c d)) (h1 : PE X a1 (tV c d1)) (h2 : PE X a2 (tV c d2)) : PE X (.IfExp a a1 a2 pos) (tV c (vIf d d1 d2)) := by
  refine PE.imp (pe_ifExp ht h1 h2) fun σ H Q h => ?_
  refine tV_mono (vBool_ok h) fun v H1 ⟨y, e, q⟩ => ⟨y, e, ?_⟩
  cases y with
  | true => exact q
  | false => exact q
/-! ## a < b < c -/
end
def vCh (f f' : PyData → PyData → Option PyData) (d1 d2 d3 : Env → RV) : Env → RV := fun e => match d1 e with
  | .ok x b e1 w1 => match d2 e1 with
    | .ok y b' e2 w2 => if b && w2 then .no else match f x y with
      | some (.bool true) => match d3 e2 with
        | .ok z _ e3 w3 => if b' && w3 then .no else match f' y z with
          | some r => .ok r false e3 ((w1 || w2) || w3)
          | none => .no
        | .er C fs e3 => .er C fs e3
        | .no => .no
      | some (.bool false) => .ok (.bool false) false e2 (w1 || w2)
      | _ => .no
    | .er C fs e2 => .er C fs e2
    | .no => .no
  | .er C fs e1 => .er C fs e1
  | .no => .no
section
variable {X : Cx} {c : Ctx} {d d1 d2 d3 : Env → RV} {a b a1 a2 a3 ex : Expr} {es : List Expr} {pos p1 p2 : Pos} {k j : Nat}
theorem vCh_ok {r r' : R2} {f f' : PyData → PyData → Option PyData} (hs : Sc2 c.K r f) (hs' : Sc2 c.K r' f') {σ : L2.St} {H : Hp} {Q : VK} (h : tV c (vCh f f' d1 d2 d3) σ H Q) : tChain r r' (tV c d1) (tV c d2) (tV c d3) σ H Q := by
  obtain ⟨e, R, F, s, p⟩ := h
  refine ⟨e, R, F, s, ?_⟩
  unfold vCh at p
  cases h1 : d1 e with
  | no => simp only [h1] at p; exact p
  | er C fs e1 => simp only [h1] at p; exact p
  | ok x b e1 w1 =>
    intro R1 H1 F1 u s1 sd ex hw
    refine ⟨e1, R1, F1, s1, ?_⟩
    cases h2 : d2 e1 with
    | no => simp only [h1, h2] at p; exact p.elim
    | er C fs e2 =>
      simp only [h1, h2] at p
      exact fun R2 H2 F2 dd s2 rx ex2 => p R2 H2 F2 dd s2 rx (ex.trans ex2)
    | ok y b' e2 w2 =>
      simp only [h1, h2] at p
      intro R2 H2 F2 u2 s2 sd2 ex2 hw2
      by_cases hb : (b && w2) = true
      · rw [if_pos hb] at p; exact p.elim
      · rw [if_neg hb] at p
        have bw : b = true → w2 = false := fun z => by
          cases w2 with
          | false => rfl
          | true => rw [z] at hb; exact absurd rfl hb
        have sm : (w1 || w2) = false → Gr R H R2 H2 := fun q => (hw (or_ff q).1).trans (hw2 (or_ff q).2)
        cases h3 : f x y with
        | none => simp only [h3] at p; exact p.elim
        | some z =>
          refine hs R2 H2 u u2 x y b b' z _ s2.rh (sd.up ex2.rr fun q => (hw2 (bw q)).hh) sd2 h3 fun R3 H3 u3 g dp => ?_
          cases z with
          | bool q =>
            cases dp
            refine ⟨q, rfl, ?_⟩
            cases q with
            | false =>
              simp only [h3] at p
              exact iteF (p R3 H3 F2 _ (g.sr s2) (.bl false) ((ex.trans ex2).trans g.ex) (fun q => (sm q).trans g))
            | true =>
              simp only [h3] at p
              refine iteT ⟨e2, R3, F2, g.sr s2, ?_⟩
              cases h4 : d3 e2 with
              | no => simp only [h4] at p; exact p.elim
              | er C fs e3 =>
                simp only [h4] at p
                exact fun R4 H4 F4 dd s4 rx ex4 => p R4 H4 F4 dd s4 rx (((ex.trans ex2).trans g.ex).trans ex4)
              | ok zz b3 e3 w3 =>
                simp only [h4] at p
                intro R4 H4 F4 u4 s4 sd4 ex4 hw4
                by_cases hb' : (b' && w3) = true
                · rw [if_pos hb'] at p; exact p.elim
                · rw [if_neg hb'] at p
                  have bw' : b' = true → w3 = false := fun z => by
                    cases w3 with
                    | false => rfl
                    | true => rw [z] at hb'; exact absurd rfl hb'
                  cases h5 : f' y zz with
                  | none => simp only [h5] at p; exact p.elim
                  | some r5 =>
                    simp only [h5] at p
                    refine hs' R4 H4 u2 u4 y zz b' b3 r5 Q s4.rh (sd2.up (g.rr.trans ex4.rr) fun q => g.hh.trans (hw4 (bw' q)).hh) sd4 h5 fun R5 H5 u5 g5 dp5 => ?_
                    exact p R5 H5 F4 u5 (g5.sr s4) dp5 ((((ex.trans ex2).trans g.ex).trans ex4).trans g5.ex) (fun q => ((((sm (or_ff q).1).trans g).trans (hw4 (or_ff q).2)).trans g5))
          | _ => simp only [h3] at p; exact p.elim
theorem ve_chain {op op' : CmpOp} {r r' : R2} {f f' : PyData → PyData → Option PyData} (ho : OpR X (compareOp op) r) (ho' : OpR X (compareOp op') r') (hs : Sc2 c.K r f) (hs' : Sc2 c.K r' f') (ha : PE X a1 (tV c d1)) (hb : PE X a2 (tV c d2)) (hc : PE X a3 (tV c d3))
    (hm : lastMarks [op, op'] [a2, a3] = false := by with_unfolding_all rfl) : PE X (.Compare a1 [op, op'] [a2, a3] pos) (tV c (vCh f f' d1 d2 d3)) := PE.imp (pe_chain ho ho' ha hb hc hm) fun _ _ _ h => vCh_ok hs hs' h
theorem te_chain {op op' : CmpOp} {r r' : R2} {f f' : PyData → PyData → Option PyData} (ho : OpR X (compareOp op) r) (ho' : OpR X (compareOp op') r') (hs : Sc2 c.K r f) (hs' : Sc2 c.K r' f') (ha : PE X a1 (tV c d1)) (hb : PE X a2 (tV c d2)) (hc : PE X a3 (tV c d3))
    (hm : lastMarks [op, op'] [a2, a3] = false := by with_unfolding_all rfl) : PT X (.Compare a1 [op, op'] [a2, a3] pos) (tT c (vCh f f' d1 d2 d3)) := PT.imp (pt_chain ho ho' ha hb hc hm) fun _ _ _ h => vCh_ok hs hs' h
end
/-! ## argument lists, displays -/
inductive RA where
  | ok (xs : List PyData) (e : Env) (w : Bool)
  | er (C : Str) (fs : Xd) (e : Env)
  | no
def vArgs : List (Env → RV) → Env → RA
  | [], e => .ok [] e false
  | d :: ds, e => match d e with
    | .ok x false e1 w1 => match vArgs ds e1 with
      | .ok xs e2 w2 => .ok (x :: xs) e2 (w1 || w2)
      | .er C fs e2 => .er C fs e2
      | .no => .no
    | .ok _ true _ _ => .no
    | .er C fs e1 => .er C fs e1
    | .no => .no
def PostA (c : Ctx) (σ : L2.St) (R : RR) (H : Hp) (F : List Addr) (Q : List V → Hp → Prop) : RA → Prop
  | .ok xs e w => ∀ (R' : RR) (H' : Hp) F' vs, Sr c R' H' e σ F' → DpAll c.K R' vs xs → Ex R H F R' H' F' → (w = false → Gr R H R' H') → Q vs H'
  | .er C fs e => ∀ (R' : RR) (H' : Hp) F' d, Sr c R' H' e σ F' → RX c.K R' fs d → Ex R H F R' H' F' → c.ε σ (.ref (c.cl C)) d H'
  | .no => False
def tA (c : Ctx) (ds : List (Env → RV)) : TA := fun σ H Q => ∃ e R F, Sr c R H e σ F ∧ PostA c σ R H F Q (vArgs ds e)
theorem PA.imp {X : Cx} {es : List Expr} {t t' : TA} (h : PA X es t) (q : ∀ σ H Q, t' σ H Q → t σ H Q) : PA X es t' := ⟨fun pos pins s σ H Q I x => h.run pos pins s σ H Q I (q _ _ _ x)⟩
section
variable {X : Cx} {c : Ctx} {d d1 d2 d3 : Env → RV} {ds : List (Env → RV)} {a b a1 a2 a3 ex : Expr} {es : List Expr} {pos p1 p2 : Pos} {k j : Nat}
theorem ae_nil : PA X [] (tA c []) := PA.imp pa_nil fun σ H Q ⟨e, R, F, s, p⟩ => p R H F [] s .nil .refl (fun _ => .refl s.rh)
theorem ae_cons (ha : PE X a (tV c d)) (hr : PA X es (tA c ds)) (hs : starEach (a :: es) X.env = (false, eval a X.env) :: starEach es X.env := by rfl) : PA X (a :: es) (tA c (d :: ds)) := by
  refine PA.imp (pa_cons ha hr hs) fun σ H Q ⟨e, R, F, s, p⟩ => ⟨e, R, F, s, ?_⟩
  unfold vArgs at p
  cases h1 : d e with
  | no => simp only [h1] at p; exact p
  | er C fs e1 => simp only [h1] at p; exact p
  | ok x b e1 w1 =>
    cases b with
    | true => simp only [h1] at p; exact p.elim
    | false =>
      intro R1 H1 F1 u s1 sd ex hw
      refine ⟨e1, R1, F1, s1, ?_⟩
      cases h2 : vArgs ds e1 with
      | no => simp only [h1, h2] at p; exact p.elim
      | er C fs e2 =>
        simp only [h1, h2] at p
        exact fun R2 H2 F2 dd s2 rx ex2 => p R2 H2 F2 dd s2 rx (ex.trans ex2)
      | ok xs e2 w2 =>
        simp only [h1, h2] at p
        exact fun R2 H2 F2 vs s2 dp ex2 hw2 => p R2 H2 F2 (u :: vs) s2 (.cons (dp_up ex2.rr.s _ _ sd) dp) (ex.trans ex2) (fun q => (hw (or_ff q).1).trans (hw2 (or_ff q).2))
end
def vTup (ds : List (Env → RV)) : Env → RV := fun e => match vArgs ds e with
  | .ok xs e1 w => if xs.length ≤ SZ then .ok (.tuple xs) false e1 w else .no
  | .er C fs e1 => .er C fs e1
  | .no => .no
def dLst (ds : List (Env → RV)) : Env → Res := fun e => match vArgs ds e with
  | .ok xs e1 w => if xs.length ≤ SZ then .ok (.t (.l (xs.map T.d))) e1 w else .no
  | .er C fs e1 => .er C fs e1
  | .no => .no
section
variable {X : Cx} {c : Ctx} {ds : List (Env → RV)} {es : List Expr} {pos : Pos} {k : Nat}
theorem ve_tup (h : PA X es (tA c ds)) : PE X (.Tuple es k pos) (tV c (vTup ds)) := by
  refine PE.imp (pe_tup h) fun σ H Q ⟨e, R, F, s, p⟩ => ⟨e, R, F, s, ?_⟩
  unfold vTup at p
  cases h1 : vArgs ds e with
  | no => simp only [h1] at p; exact p
  | er C fs e1 => simp only [h1] at p; exact p
  | ok xs e1 w =>
    simp only [h1] at p
    intro R1 H1 F1 vs s1 dp ex hw
    by_cases hl : xs.length ≤ SZ
    · rw [if_pos hl] at p
      refine ⟨by rw [dpa_len dp, ← sz_eq]; exact hl, fun q hq => ?_⟩
      have g := Gr.new (o := .tup vs) s1.rh hq
      exact p _ _ F1 _ (g.sr s1) (.tup (.of upd_same) (dpa_up g.rr.s _ _ dp)) (ex.trans g.ex) (fun z => (hw z).trans g)
    · rw [if_neg hl] at p; exact p.elim
theorem de_lst (h : PA X es (tA c ds)) : PE X (.List es pos) (tD c (dLst ds)) := by
  refine PE.imp (pe_lst h) fun σ H Q ⟨e, R, F, s, p⟩ => ⟨e, R, F, s, ?_⟩
  unfold dLst at p
  cases h1 : vArgs ds e with
  | no => simp only [h1] at p; exact p
  | er C fs e1 => simp only [h1] at p; exact p
  | ok xs e1 w =>
    simp only [h1] at p
    intro R1 H1 F1 vs s1 dp ex hw
    by_cases hl : xs.length ≤ SZ
    · rw [if_pos hl] at p
      refine ⟨by rw [dpa_len dp, ← sz_eq]; exact hl, fun q hq => ?_⟩
      obtain ⟨n1, n2, n3, n4, n5⟩ := new_own (o := .lst vs) s1 hq
      exact p R1 _ F1 [q] _ n1 ⟨q, vs, [], rfl, .refl _, upd_same, rpl_d dp⟩ n2 n3 (ex.trans n4) (fun z => ⟨(hw z).trans n5, fun a ha => by simp at ha; subst ha; exact (hw z).hh.free hq⟩)
    · rw [if_neg hl] at p; exact p.elim
end
/-! ## slices -/
def vOpt (o : Option (Env → RV)) (e : Env) : Option (Option Int × Env) := match o with
  | none => some (none, e)
  | some d => match d e with
    | .ok (.int i) _ e1 false => some (some i, e1)
    | _ => none
def tO (c : Ctx) : Option (Env → RV) → TO
  | none => tNoPart
  | some d => tPart (tV c d)
def cutD (xs : List PyData) (lo hi : Option Int) : List PyData := (xs.drop (HT.sIx xs.length 0 lo)).take (HT.sIx xs.length xs.length hi - HT.sIx xs.length 0 lo)
theorem dpa_cut {K : PySem.W.Frag} {R : RR} {vs : List V} {ds : List PyData} {lo hi : Option Int} (h : DpAll K R vs ds) : DpAll K R (cutV vs lo hi) (cutD ds lo hi) := by
  unfold cutV cutD
  rw [dpa_len h]
  exact dpa_take _ (dpa_drop _ h)
def fSl : PyData → Option Int → Option Int → Option PyData
  | .tuple ds, lo, hi => some (.tuple (cutD ds lo hi))
  | .str z, lo, hi => if z.length ≤ SZ then some (.str (cutS z lo hi)) else none
  | _, _, _ => none
def fSlL : PyData → Option Int → Option Int → Option (List PyData)
  | .list ds, lo, hi => some (cutD ds lo hi)
  | _, _, _ => none
def vSl (d : Env → RV) (lo hi : Option (Env → RV)) : Env → RV := fun e => match d e with
  | .ok x _ e1 w => match vOpt lo e1 with
    | some (l, e2) => match vOpt hi e2 with
      | some (h, e3) => match fSl x l h with
        | some z => .ok z false e3 w
        | none => .no
      | none => .no
    | none => .no
  | .er C fs e1 => .er C fs e1
  | .no => .no
def dSl (d : Env → RV) (lo hi : Option (Env → RV)) : Env → Res := fun e => match d e with
  | .ok x _ e1 w => match vOpt lo e1 with
    | some (l, e2) => match vOpt hi e2 with
      | some (h, e3) => match fSlL x l h with
        | some z => .ok (.t (.l (z.map T.d))) e3 w
        | none => .no
      | none => .no
    | none => .no
  | .er C fs e1 => .er C fs e1
  | .no => .no
section
variable {X : Cx} {c : Ctx} {d : Env → RV} {lo hi : Option (Env → RV)} {a : Expr} {l h : Option Expr} {p2 pos : Pos}
theorem vOpt_ok {o : Option (Env → RV)} {R : RR} {H : Hp} {e e1 : Env} {σ : L2.St} {F : List Addr} {x : Option Int} {Q : Option Int → Hp → Prop} (s : Sr c R H e σ F) (he : vOpt o e = some (x, e1)) (q : ∀ (R' : RR) (H' : Hp) F', Sr c R' H' e1 σ F' → Ex R H F R' H' F' → Gr R H R' H' → Q x H') : tO c o σ H Q := by
  cases o with
  | none =>
    cases (show some (none, e) = some (x, e1) from he)
    exact q R H F s .refl (.refl s.rh)
  | some d =>
    have he' : (match d e with | .ok (.int i) _ e1 false => some (some i, e1) | _ => none) = some (x, e1) := he
    refine ⟨e, R, F, s, ?_⟩
    cases h1 : d e with
    | no => simp only [h1] at he'; cases he'
    | er C fs e1 => simp only [h1] at he'; cases he'
    | ok y b e2 w =>
      cases y with
      | int i =>
        cases w with
        | false =>
          simp only [h1] at he'
          cases he'
          exact fun R1 H1 F1 u s1 sd ex hw => ⟨i, sd_int sd, q R1 H1 F1 s1 ex (hw rfl)⟩
        | true => simp only [h1] at he'; cases he'
      | _ => simp only [h1] at he'; cases he'
theorem ve_sl (he : PE X a (tV c d)) (hl : PO X l (tO c lo)) (hh : PO X h (tO c hi)) (hK : X.K = c.K := by rfl) : PE X (.Subscript a (.Slice l h none p2) pos) (tV c (vSl d lo hi)) := by
  have or1 : SlR X (fun x lo hi H Q => rSlA X.K x lo hi H Q ∨ rSlS x lo hi H Q) := sl_tupA.or sl_str
  refine PE.imp (pe_slice or1 he hl hh) fun σ H Q ⟨e, R, F, s, p⟩ => ⟨e, R, F, s, ?_⟩
  rw [hK]
  unfold vSl at p
  cases h1 : d e with
  | no => simp only [h1] at p; exact p
  | er C fs e1 => simp only [h1] at p; exact p
  | ok x b e1 w =>
    simp only [h1] at p
    intro R1 H1 F1 u s1 sd ex hw
    cases h2 : vOpt lo e1 with
    | none => simp only [h2] at p; exact p.elim
    | some le =>
      obtain ⟨l', e2⟩ := le
      simp only [h2] at p
      refine vOpt_ok s1 h2 fun R2 H2 F2 s2 ex2 sm2 => ?_
      cases h3 : vOpt hi e2 with
      | none => simp only [h3] at p; exact p.elim
      | some he' =>
        obtain ⟨h', e3⟩ := he'
        simp only [h3] at p
        refine vOpt_ok s2 h3 fun R3 H3 F3 s3 ex3 sm3 => ?_
        cases h4 : fSl x l' h' with
        | none => simp only [h4] at p; exact p.elim
        | some z =>
          simp only [h4] at p
          have sd' := sd.up (ex2.rr.trans ex3.rr) (fun _ => sm2.hh.trans sm3.hh)
          have fin : ∀ (R' : RR) (H' : Hp) u, Gr R3 H3 R' H' → Dp c.K R' u z → Q u H' := fun R' H' u g dp => p R' H' F3 u (g.sr s3) dp (((ex.trans ex2).trans ex3).trans g.ex) (fun q => (((hw q).trans sm2).trans sm3).trans g)
          unfold fSl at h4
          split at h4
          · cases h4
            obtain ⟨q, vs, rfl, q1, q1', a1⟩ := sd_tup sd' s3.rh
            refine .inl ⟨q, vs, rfl, q1, fun hw => ?_, fun hw t ht => ?_⟩
            · refine fin R3 H3 _ (.refl s3.rh) ?_
              have e0 : ∀ ds, DpAll c.K R3 vs ds → cutD ds l' h' = ds := by
                intro ds a1
                unfold cutD
                rw [← dpa_len a1, hw.1, hw.2, List.drop_zero, Nat.sub_zero, List.take_of_length_le (by rw [dpa_len a1]; exact Nat.le_refl _)]
              rw [e0 _ a1]
              exact .tup q1' a1
            · exact fin _ _ _ (Gr.new s3.rh ht) (.tup (.of upd_same) (dpa_up (same_new (s3.rh.free ht)) _ _ (dpa_cut a1)))
          · split at h4
            · rename_i hz
              cases h4
              exact .inr ⟨_, sd_str sd', by rw [← sz_eq]; exact hz, fin R3 H3 _ (.refl s3.rh) (.str _)⟩
            · cases h4
          · cases h4
theorem de_sl (he : PE X a (tV c d)) (hl : PO X l (tO c lo)) (hh : PO X h (tO c hi)) (hK : X.K = c.K := by rfl) : PE X (.Subscript a (.Slice l h none p2) pos) (tD c (dSl d lo hi)) := by
  refine PE.imp (pe_slice sl_list he hl hh) fun σ H Q ⟨e, R, F, s, p⟩ => ⟨e, R, F, s, ?_⟩
  rw [hK]
  unfold dSl at p
  cases h1 : d e with
  | no => simp only [h1] at p; exact p
  | er C fs e1 => simp only [h1] at p; exact p
  | ok x b e1 w =>
    simp only [h1] at p
    intro R1 H1 F1 u s1 sd ex hw
    cases h2 : vOpt lo e1 with
    | none => simp only [h2] at p; exact p.elim
    | some le =>
      obtain ⟨l', e2⟩ := le
      simp only [h2] at p
      refine vOpt_ok s1 h2 fun R2 H2 F2 s2 ex2 sm2 => ?_
      cases h3 : vOpt hi e2 with
      | none => simp only [h3] at p; exact p.elim
      | some he' =>
        obtain ⟨h', e3⟩ := he'
        simp only [h3] at p
        refine vOpt_ok s2 h3 fun R3 H3 F3 s3 ex3 sm3 => ?_
        cases h4 : fSlL x l' h' with
        | none => simp only [h4] at p; exact p.elim
        | some z =>
          simp only [h4] at p
          have sd' := sd.up (ex2.rr.trans ex3.rr) (fun _ => sm2.hh.trans sm3.hh)
          unfold fSlL at h4
          split at h4
          · cases h4
            obtain ⟨q, vs, rfl, q1, a1⟩ := sd_list sd' s3.rh
            refine ⟨q, vs, rfl, q1, fun t ht => ?_⟩
            obtain ⟨n1, n2, n3, n4, n5⟩ := new_own (o := .lst (cutV vs l' h')) s3 ht
            exact p R3 _ F3 [t] _ n1 ⟨t, _, [], rfl, .refl _, upd_same, rpl_d (dpa_cut a1)⟩ n2 n3 (((ex.trans ex2).trans ex3).trans n4) (fun q => ⟨(((hw q).trans sm2).trans sm3).trans n5, fun a ha => by simp at ha; subst ha; exact (((hw q).trans sm2).trans sm3).hh.free ht⟩)
          · cases h4
theorem oe_none : PO X none (tO c none) := po_none
theorem oe_some (h : PE X a (tV c d)) : PO X (some a) (tO c (some d)) := po_some h
end
end En
namespace En
open PySem PySem.Spec PyProof.Rows L2
/-! ## slots -/
section
variable {K : PySem.W.Frag} {R : RR} {H : Hp} {c : Ctx}
theorem rps_del {o : Option V} : ∀ {e : Sl} {σ : L2.St} {F : List Addr} (i : Nat), RpS K R H e σ F → ∃ F1 F2, F.Perm (F1 ++ F2) ∧ RpS K R H (e.set i none) (σ.set i o) F2
  | [], σ, F, i, h => by
    obtain ⟨h1, h2⟩ := h
    subst h1 h2
    exact ⟨[], [], .refl _, rfl, rfl⟩
  | none :: e, σ, F, 0, h => by
    obtain ⟨o', r, rfl, h⟩ := h
    exact ⟨[], F, .refl _, o, r, rfl, h⟩
  | none :: e, σ, F, i + 1, h => by
    obtain ⟨o', r, rfl, h⟩ := h
    obtain ⟨F1, F2, p, q⟩ := rps_del i h
    exact ⟨F1, F2, p, o', _, rfl, q⟩
  | some t :: e, σ, F, 0, h => by
    obtain ⟨v, r, F1, F2, rfl, p, h1, h2⟩ := h
    exact ⟨F1, F2, p, o, r, rfl, h2⟩
  | some t :: e, σ, F, i + 1, h => by
    obtain ⟨v, r, F1, F2, rfl, p, h1, h2⟩ := h
    obtain ⟨G1, G2, p', q⟩ := rps_del i h2
    refine ⟨G1, F1 ++ G2, ?_, v, _, F1, G2, rfl, .refl _, h1, q⟩
    refine p.trans ((List.Perm.append_left F1 p').trans ?_)
    rw [← List.append_assoc, ← List.append_assoc]
    exact List.Perm.append_right G2 List.perm_append_comm
theorem rps_set {e : Sl} {σ : L2.St} {F : List Addr} {i : Nat} {t : T} {v : V} {G : List Addr} (h : RpS K R H e σ F) (hr : Rp K R H t v G) (hi : i < e.length) : ∃ F1 F2, F.Perm (F1 ++ F2) ∧ RpS K R H (e.set i (some t)) (σ.set i (some v)) (G ++ F2) := by
  obtain ⟨F1, F2, p, q⟩ := rps_del (o := some v) i h
  refine ⟨F1, F2, p, ?_⟩
  have q' := rps_put (i := i) (t := t) (v := v) (G := G) q (by simpa using hi) (fun t' z => by simp [hi] at z) hr
  rw [List.set_set, List.set_set] at q'
  exact q'
def NoPin (pn : List (Option V)) (i : Nat) : Prop := (pn[i]?).join = none
def Env.set (e : Env) (i : Nat) (o : Option T) : Env := ⟨e.s.set i o, e.m⟩
theorem pin_set {pn : List (Option V)} {σ : L2.St} {i : Nat} {o : Option V} (h : Pin pn σ) (hp : NoPin pn i) : Pin pn (σ.set i o) := fun j u hj => by
  have ne : i ≠ j := fun z => by
    subst z
    unfold NoPin at hp
    rw [hj] at hp
    cases hp
  rw [List.getElem?_set_ne ne]
  exact h j u hj
theorem sr_set {e : Env} {σ : L2.St} {F : List Addr} {i : Nat} {t : T} {v : V} {G : List Addr} (s : Sr c R H e σ F) (hr : Rp c.K R H t v G) (nd : (F ++ G).Nodup) (rf : ∀ a ∈ G, R a = none) (hp : NoPin c.pn i) :
    ∃ F', Sr c R H (e.set i (some t)) (σ.set i (some v)) F' ∧ ∀ a ∈ F', a ∈ F ++ G := by
  have pin := pin_set (o := some v) s.pn hp
  obtain ⟨A1, A2, pa, h1, h2⟩ := s.sl
  by_cases hi : i < e.s.length
  · obtain ⟨F1, F2, p, q⟩ := rps_set h1 hr hi
    have pp : (F ++ G).Perm (F1 ++ ((G ++ F2) ++ A2)) := by
      refine ((pa.trans (List.Perm.append_right A2 p)).append_right G).trans ?_
      refine List.perm_append_comm.trans ?_
      simp only [List.append_assoc]
      refine (List.perm_append_comm (l₁ := G)).trans ?_
      simp only [List.append_assoc]
      refine List.Perm.append_left F1 ?_
      exact (List.perm_append_comm (l₁ := F2 ++ A2) (l₂ := G) |>.symm.symm).trans (by simp) |> fun z => by simpa using z
    refine ⟨(G ++ F2) ++ A2, ⟨⟨G ++ F2, A2, .refl _, q, h2⟩, ?_, s.rh, ?_, pin, s.fx, s.ct⟩, ?_⟩
    · exact (List.nodup_append.mp (pp.nodup_iff.mp nd)).2.1
    · intro a ha
      rcases List.mem_append.mp (pp.mem_iff.mpr (List.mem_append_right _ ha)) with ha | ha
      · exact s.rf a ha
      · exact rf a ha
    · intro a ha
      exact pp.mem_iff.mpr (List.mem_append_right _ ha)
  · have hl := rps_len h1
    have e1 : e.set i (some t) = e := by
      show (⟨e.s.set i (some t), e.m⟩ : Env) = e
      rw [List.set_eq_of_length_le (by omega)]
    rw [e1, List.set_eq_of_length_le (by omega)]
    exact ⟨F, s, fun a ha => List.mem_append_left _ ha⟩
theorem sr_none {e : Env} {σ : L2.St} {F : List Addr} {i : Nat} {o : Option V} (s : Sr c R H e σ F) (hp : NoPin c.pn i) : ∃ F', Sr c R H (e.set i none) (σ.set i o) F' ∧ ∀ a ∈ F', a ∈ F := by
  have pin := pin_set (o := o) s.pn hp
  obtain ⟨A1, A2, pa, h1, h2⟩ := s.sl
  obtain ⟨F1, F2, p, q⟩ := rps_del (o := o) i h1
  have pp : F.Perm (F1 ++ (F2 ++ A2)) := (pa.trans (List.Perm.append_right A2 p)).trans (by rw [List.append_assoc])
  exact ⟨F2 ++ A2, ⟨⟨F2, A2, .refl _, q, h2⟩, (List.nodup_append.mp (pp.nodup_iff.mp s.nd)).2.1, s.rh, fun a ha => s.rf a (pp.mem_iff.mpr (List.mem_append_right _ ha)), pin, s.fx, s.ct⟩, fun a ha => pp.mem_iff.mpr (List.mem_append_right _ ha)⟩
end
/-! ## targets -/
structure TgR (σ σ' : L2.St) (is : List Nat) : Prop where
  len : σ'.length = σ.length
  out : ∀ i, i ∉ is → σ'[i]? = σ[i]?
def TgOk (c : Ctx) (is : List Nat) (g : TG) (tg : T → Env → Option Env) : Prop := ∀ (R : RR) (H : Hp) e σ F v x e' (Q : L2.St → Hp → Prop), Sr c R H e σ F → Rp c.K R H x v [] → tg x e = some e' →
  (∀ σ' F', Sr c R H e' σ' F' → (∀ a ∈ F', a ∈ F) → TgR σ σ' is → Q σ' H) → g v σ H Q
def tgN (i : Nat) : T → Env → Option Env := fun x e => some (e.set i (some x))
theorem tg_name {c : Ctx} {i : Nat} (hp : NoPin c.pn i) : TgOk c [i] (gName i) (tgN i) := by
  intro R H e σ F v x e' Q s d he q
  cases he
  obtain ⟨F', s', h⟩ := sr_set (i := i) s d (by simpa using s.nd) (by simp) hp
  exact q _ F' s' (fun a ha => by simpa using h a ha) ⟨by simp, fun j hj => by simp at hj; rw [List.getElem?_set_ne (fun z => hj z.symm)]⟩
def tgS : List Nat → List T → Env → Env
  | i :: is, x :: xs, e => tgS is xs (e.set i (some x))
  | _, _, e => e
def gNames : List Nat → TGs
  | [] => gNil
  | i :: is => gCons (gName i) (gNames is)
def tgT (is : List Nat) : T → Env → Option Env := fun x e => match x with
  | .d (.tuple ds) => if ds.length = is.length then some (tgS is (ds.map T.d) e) else none
  | .t ts => if ts.length = is.length then some (tgS is ts e) else none
  | _ => none
theorem tg_names {c : Ctx} : ∀ (is : List Nat), (∀ i ∈ is, NoPin c.pn i) → ∀ (R : RR) (H : Hp) e σ F vs ts (Q : L2.St → Hp → Prop), Sr c R H e σ F → RpL c.K R H ts vs [] → ts.length = is.length →
    (∀ σ' F', Sr c R H (tgS is ts e) σ' F' → (∀ a ∈ F', a ∈ F) → TgR σ σ' is → Q σ' H) → gNames is vs σ H Q
  | [], _, R, H, e, σ, F, vs, ds, Q, s, d, hl, q => by
    cases ds with
    | nil => obtain ⟨rfl, _⟩ := d; exact ⟨rfl, q σ F s (fun _ h => h) ⟨rfl, fun _ _ => rfl⟩⟩
    | cons x xs => cases hl
  | i :: is, hp, R, H, e, σ, F, vs, ds, Q, s, d, hl, q => by
    cases ds with
    | nil => cases hl
    | cons x xs =>
      obtain ⟨v, r, F1, F2, rfl, pm, d1, d2⟩ := d
      obtain ⟨rfl, rfl⟩ := List.append_eq_nil_iff.mp (List.nil_perm.mp pm)
      refine ⟨_, _, rfl, ?_⟩
      refine tg_name (hp i (by simp)) R H e σ F _ x _ _ s d1 rfl fun σ1 F1 s1 f1 t1 => ?_
      refine tg_names is (fun j hj => hp j (by simp [hj])) R H _ σ1 F1 _ xs Q s1 d2 (by simpa using hl) fun σ2 F2 s2 f2 t2 => ?_
      exact q σ2 F2 s2 (fun a ha => f1 a (f2 a ha)) ⟨t2.len.trans t1.len, fun j hj => by
        rw [t2.out j (fun z => hj (by simp [z])), t1.out j (fun z => hj (by simp at z; simp [z]))]⟩
theorem tg_tup {c : Ctx} {is : List Nat} (hp : ∀ i ∈ is, NoPin c.pn i) {K : PySem.W.Frag} (hK : K = c.K) {n : Nat} (hn : n = is.length) : TgOk c is (gTup K n (gNames is)) (tgT is) := by
  subst hK hn
  intro R H e σ F v x e' Q s d he q
  unfold tgT at he
  split at he
  · split at he
    · rename_i hl
      cases he
      obtain ⟨_, d⟩ := d
      cases d with
      | tup hs ha =>
        exact ⟨_, _, rfl, sqt_up s.rh hs, by rw [dpa_len ha, hl], tg_names is hp R H e σ F _ _ Q s (rpl_d ha) (by simpa using hl) q⟩
    · cases he
  · split at he
    · rename_i hl
      cases he
      obtain ⟨p, vs, rfl, hs, ha⟩ := d
      exact ⟨_, _, rfl, sqt_up s.rh hs, by rw [rpl_len ha, hl], tg_names is hp R H e σ F _ _ Q s ha hl q⟩
    · cases he
  · cases he
/-! ## what is walked -/
inductive RI where
  | ok (xs : List T) (e : Env) (w : Bool)
  | er (C : Str) (fs : Xd) (e : Env)
  | no
def WalkD (K : PySem.W.Frag) (R : RR) (J : It) (xs : List T) : Prop := ∃ (G : Hp → Prop) (Y : Nat → Hp → V → Hp → Prop), Walk J xs.length G Y ∧ (∀ (R' : RR) (H' : Hp), R.Le R' → Same R' H' → G H') ∧
  ∀ i (R' : RR) (H' : Hp) v (H2 : Hp), R.Le R' → Same R' H' → i < xs.length → Y i H' v H2 → ∃ R2 x, xs[i]? = some x ∧ Gr R' H' R2 H2 ∧ Rp K R2 H2 x v []
def PostI (c : Ctx) (σ : L2.St) (R : RR) (H : Hp) (F : List Addr) (Q : It → Hp → Prop) : RI → Prop
  | .ok xs e w => ∀ (R' : RR) (H' : Hp) F' J, Sr c R' H' e σ F' → WalkD c.K R' J xs → Ex R H F R' H' F' → (w = false → Gr R H R' H') → Q J H'
  | .er C fs e => ∀ (R' : RR) (H' : Hp) F' d, Sr c R' H' e σ F' → RX c.K R' fs d → Ex R H F R' H' F' → c.ε σ (.ref (c.cl C)) d H'
  | .no => False
def tI (c : Ctx) (d : Env → RI) : TI := fun σ H Q => ∃ e R F, Sr c R H e σ F ∧ PostI c σ R H F Q (d e)
theorem PI.imp {X : Cx} {tg iter : Expr} {t t' : TI} (h : PI X tg iter t) (q : ∀ σ H Q, t' σ H Q → t σ H Q) : PI X tg iter t' := ⟨fun pins s σ H Q I x => h.run pins s σ H Q I (q _ _ _ x)⟩
theorem rpl_get {K : PySem.W.Frag} {R : RR} {H : Hp} : ∀ {ts : List T} {vs : List V} {i : Nat} {v : V}, RpL K R H ts vs [] → vs[i]? = some v → ∃ x, ts[i]? = some x ∧ Rp K R H x v []
  | [], _, _, _, h, e => by rw [h.1] at e; simp at e
  | t :: ts, _, 0, v, h, e => by
    obtain ⟨u, r, F1, F2, rfl, pm, d1, d2⟩ := h
    obtain ⟨rfl, rfl⟩ := List.append_eq_nil_iff.mp (List.nil_perm.mp pm)
    simp at e; subst e; exact ⟨_, rfl, d1⟩
  | t :: ts, _, i + 1, v, h, e => by
    obtain ⟨u, r, F1, F2, rfl, pm, d1, d2⟩ := h
    obtain ⟨rfl, rfl⟩ := List.append_eq_nil_iff.mp (List.nil_perm.mp pm)
    obtain ⟨x, e1, e2⟩ := rpl_get (i := i) d2 (by simpa using e)
    exact ⟨x, by simpa using e1, e2⟩
theorem cpL_d : ∀ ds : List PyData, cpL (ds.map T.d) = true
  | [] => rfl
  | d :: ds => by
    show (true && cpL (ds.map T.d)) = true
    rw [cpL_d ds]; rfl
theorem walkT_at {K : PySem.W.Frag} {R : RR} {H : Hp} {J : It} {vs : List V} {ts : List T} {G : Hp → Prop} (w : Walk J vs.length G (YAt vs)) (hG : ∀ (R' : RR) (H' : Hp), R.Le R' → Same R' H' → G H') (cp : cpL ts = true) (da : RpL K R H ts vs []) : WalkD K R J ts := by
  refine ⟨G, YAt vs, by rw [← rpl_len da]; exact w, hG, fun i R' H' v H2 s1 s2 hi y => ?_⟩
  obtain ⟨rfl, hv⟩ := y
  obtain ⟨x, h1, h2⟩ := rpl_get (cpl_up (H' := H2) s1 _ _ _ cp da).2 hv
  exact ⟨R', x, h1, .refl s2, h2⟩
/-- .. of data -/
theorem walkD_of {K : PySem.W.Frag} {R : RR} {J : It} {xs : List PyData} (h : ∃ (G : Hp → Prop) (Y : Nat → Hp → V → Hp → Prop), Walk J xs.length G Y ∧ (∀ (R' : RR) (H' : Hp), R.Le R' → Same R' H' → G H') ∧
  ∀ i (R' : RR) (H' : Hp) v (H2 : Hp), R.Le R' → Same R' H' → i < xs.length → Y i H' v H2 → ∃ (R2 : RR) (x : PyData), xs[i]? = some x ∧ Gr R' H' R2 H2 ∧ Dp K R2 v x) : WalkD K R J (xs.map T.d) := by
  obtain ⟨G, Y, w, g, q⟩ := h
  refine ⟨G, Y, by rw [List.length_map]; exact w, g, fun i R' H' v H2 s1 s2 hi y => ?_⟩
  obtain ⟨R2, x, e1, e2, e3⟩ := q i R' H' v H2 s1 s2 (by simpa using hi) y
  exact ⟨R2, .d x, by rw [List.getElem?_map, e1]; rfl, e2, rfl, e3⟩
theorem walkD_at {K : PySem.W.Frag} {R : RR} {J : It} {vs : List V} {ds : List PyData} {G : Hp → Prop} (w : Walk J vs.length G (YAt vs)) (hG : ∀ (R' : RR) (H' : Hp), R.Le R' → Same R' H' → G H') (da : DpAll K R vs ds) : WalkD K R J (ds.map T.d) :=
  walkT_at (H := R.h) w hG (cpL_d ds) (rpl_d da)
def iSeq (K : PySem.W.Frag) (tl : TE) : TI := fun σ H R => tl σ H fun x H1 => ∃ a, x = .ref a ∧ (((∃ xs, SqL K H1 a xs) ∧ R (Itl K a) H1) ∨ ((∃ xs, SqT K H1 a xs) ∧ R (Itt K a) H1))
theorem pi_seq {X : Cx} {tg l : Expr} {tl : TE} (hl : PE X l tl) : PI X tg l (iSeq X.K tl) := by
  refine ⟨fun pins s σ H R I h => ?_⟩
  refine thn (hl.run pins s σ H _ I h) fun v s1 ⟨x, H1, I1, r1, q1⟩ => ?_
  obtain ⟨a, e, ⟨⟨xs, hq⟩, q⟩ | ⟨⟨xs, hq⟩, q⟩⟩ := q1
  · subst e
    cases r1
    obtain ⟨its, rv, p, hz⟩ := I1.list hq
    refine wpAny_pyIter_list p.isList ?_
    refine ⟨s1.heap.objs.size, [s1.heap.objs.size], _, _, H1, rfl, I1.kept (t' := s1.toks) fun b o e => Heap.get?_push_of_some _ e, turn_list a _, ⟨_, Heap.get?_push_size _ rfl, rfl, rfl⟩, fun b hb => ?_, q⟩
    have e : b = s1.heap.objs.size := by simpa using hb
    subst e
    exact I1.fpOk (Nat.le_refl _) (I1.hok.fresh (Nat.le_refl _))
  · subst e
    cases r1
    obtain ⟨its, rv, p, hz⟩ := I1.tuple hq
    refine wpAny_pyIter_tuple (show s1.heap.IsTuple a its.toArray from p) ?_
    refine ⟨s1.heap.objs.size, [s1.heap.objs.size], _, _, H1, rfl, I1.kept (t' := s1.toks) fun b o e => Heap.get?_push_of_some _ e, turn_tuple a _, ⟨_, Heap.get?_push_size _ rfl, rfl, rfl⟩, fun b hb => ?_, q⟩
    have e : b = s1.heap.objs.size := by simpa using hb
    subst e
    exact I1.fpOk (Nat.le_refl _) (I1.hok.fresh (Nat.le_refl _))
/-- list, tuple -/
def iD (d : Env → RV) : Env → RI := fun e => match d e with
  | .ok (.list xs) false e1 w => .ok (xs.map T.d) e1 w
  | .ok (.tuple xs) false e1 w => .ok (xs.map T.d) e1 w
  | .ok _ _ _ _ => .no
  | .er C fs e1 => .er C fs e1
  | .no => .no
theorem ie_seq {X : Cx} {c : Ctx} {tg l : Expr} {d : Env → RV} (h : PE X l (tV c d)) (hK : X.K = c.K := by rfl) : PI X tg l (tI c (iD d)) := by
  refine PI.imp (pi_seq h) fun σ H Q ⟨e, R, F, s, p⟩ => ⟨e, R, F, s, ?_⟩
  rw [hK]
  unfold iD at p
  cases h1 : d e with
  | no => simp only [h1] at p; exact p
  | er C fs e1 => simp only [h1] at p; exact p
  | ok x b e1 w =>
    intro R1 H1 F1 v s1 sd ex hw
    cases b with
    | true => cases x <;> (simp only [h1] at p; exact p.elim)
    | false =>
      cases x with
      | list ds =>
        simp only [h1] at p
        cases sd with
        | lst hs ha => exact ⟨_, rfl, .inl ⟨⟨_, s1.rh.seq hs⟩, p R1 H1 F1 _ s1 (walkD_at walk_list (fun R' H' q1 q2 => (q1.s.trans q2).seq hs) ha) ex hw⟩⟩
      | tuple ds =>
        simp only [h1] at p
        cases sd with
        | tup hs ha => exact ⟨_, rfl, .inr ⟨⟨_, sqt_up s1.rh hs⟩, p R1 H1 F1 _ s1 (walkD_at walk_tup (fun R' H' q1 q2 => sqt_up (q1.s.trans q2) hs) ha) ex hw⟩⟩
      | _ => simp only [h1] at p; exact p.elim
/-- a text -/
def iStrD (d : Env → RV) : Env → RI := fun e => match d e with
  | .ok (.str z) _ e1 w => .ok ((z.cps.toList.map fun n => PyData.str ⟨#[n]⟩).map T.d) e1 w
  | .ok _ _ _ _ => .no
  | .er C fs e1 => .er C fs e1
  | .no => .no
theorem ie_str {X : Cx} {c : Ctx} {tg l : Expr} {d : Env → RV} (h : PE X l (tV c d)) : PI X tg l (tI c (iStrD d)) := by
  refine PI.imp (pi_str h) fun σ H Q ⟨e, R, F, s, p⟩ => ⟨e, R, F, s, ?_⟩
  unfold iStrD at p
  cases h1 : d e with
  | no => simp only [h1] at p; exact p
  | er C fs e1 => simp only [h1] at p; exact p
  | ok x b e1 w =>
    intro R1 H1 F1 v s1 sd ex hw
    cases x with
    | str z =>
      simp only [h1] at p
      refine ⟨z, sd_str sd, p R1 H1 F1 _ s1 (walkD_of ⟨_, _, by rw [List.length_map, Array.length_toList]; exact walk_str, fun _ _ _ _ => trivial, fun i R' H' v H2 q1 q2 hi y => ?_⟩) ex hw⟩
      obtain ⟨rfl, n, hn, rfl⟩ := y
      refine ⟨R', .str ⟨#[n]⟩, ?_, .refl q2, .str _⟩
      rw [List.getElem?_map, Array.getElem?_toList, hn]
      rfl
    | _ => simp only [h1] at p; exact p.elim
/-- ranges -/
def rngD (lo : Int) (n : Nat) : List PyData := (List.range n).map fun i => .int (lo + (i : Nat))
def rngC (lo st : Int) (n : Nat) : List PyData := (List.range n).map fun i => .int (lo + (i : Nat) * st)
def in62 (i : Int) : Bool := decide (-4611686018427387904 ≤ i) && decide (i < 4611686018427387904)
theorem in62_of {i : Int} (h : in62 i = true) : -(2 ^ 62) ≤ i ∧ i < 2 ^ 62 := by
  unfold in62 at h
  simp only [Bool.and_eq_true, decide_eq_true_eq] at h
  omega
def iRg1 (d : Env → RV) : Env → RI := fun e => match vArgs [d] e with
  | .ok [.int j] e1 w => if in62 j then .ok ((rngD 0 j.toNat).map T.d) e1 w else .no
  | .ok _ _ _ => .no
  | .er C fs e1 => .er C fs e1
  | .no => .no
def iRg2 (d1 d2 : Env → RV) : Env → RI := fun e => match vArgs [d1, d2] e with
  | .ok [.int i, .int j] e1 w => if in62 i && in62 j then .ok ((rngD i (j - i).toNat).map T.d) e1 w else .no
  | .ok _ _ _ => .no
  | .er C fs e1 => .er C fs e1
  | .no => .no
def iRg3 (d1 d2 d3 : Env → RV) : Env → RI := fun e => match vArgs [d1, d2, d3] e with
  | .ok [.int i, .int j, .int st] e1 w => if decide (st ≠ 0) && decide (st.natAbs < 1073741824) && Builtin.Range.small i j st && decide (0 ≤ Builtin.Range.rangeSize i j st) then .ok ((rngC i st (Builtin.Range.rangeSize i j st).toNat).map T.d) e1 w else .no
  | .ok _ _ _ => .no
  | .er C fs e1 => .er C fs e1
  | .no => .no
theorem walkD_fn {K : PySem.W.Frag} {R : RR} {J : It} {n : Nat} {f : Nat → Int} (w : Walk J n (fun _ => True) (YFn fun i => .int (f i))) : WalkD K R J (((List.range n).map fun i => PyData.int (f i)).map T.d) := by
  refine walkD_of ⟨_, _, by rw [List.length_map, List.length_range]; exact w, fun _ _ _ _ => trivial, fun i R' H' v H2 s1 s2 hi y => ?_⟩
  obtain ⟨rfl, rfl⟩ := y
  refine ⟨R', .int (f i), ?_, .refl s2, .int _⟩
  rw [List.length_map, List.length_range] at hi
  rw [List.getElem?_map, List.getElem?_range hi]
  rfl
section
variable {X : Cx} {c : Ctx} {tg a b a3 : Expr} {d d1 d2 d3 : Env → RV} {p pos : Pos}
theorem dpa_one {K : PySem.W.Frag} {R : RR} {vs : List V} {i : Int} (h : DpAll K R vs [.int i]) : vs = [.int i] := by
  cases h with
  | cons h1 h2 => cases h1; cases h2; rfl
theorem dpa_ints : ∀ {K : PySem.W.Frag} {R : RR} {vs : List V} {ns : List Int}, DpAll K R vs (ns.map PyData.int) → vs = ns.map V.int
  | _, _, _, [], h => by cases h; rfl
  | _, _, _, n :: ns, h => by
    cases h with
    | cons h1 h2 =>
      cases h1
      rw [dpa_ints h2]
      rfl
theorem ie_rg1 (hg : Gl X "range") (hm : X.mg "range" = none) (ha : PA X [a] (tA c [d])) (hs : starEach [a] X.env = [(false, eval a X.env)] := by rfl) : PI X tg (.Call (.Name "range" p) [a] [] pos) (tI c (iRg1 d)) := by
  refine PI.imp (pi_range1 hg hm ha hs) fun σ H Q ⟨e, R, F, s, p⟩ => ⟨e, R, F, s, ?_⟩
  unfold iRg1 at p
  generalize vArgs [d] e = r at p ⊢
  split at p
  · intro R1 H1 F1 vs s1 dp ex hw
    split at p
    · rename_i h
      have l := in62_of h
      exact ⟨_, dpa_ints (ns := [_]) dp, l.1, l.2, p R1 H1 F1 _ s1 (walkD_fn (f := fun i => (0 : Int) + i) walk_range) ex hw⟩
    · exact p.elim
  · exact p.elim
  · exact p
  · exact p
theorem ie_rg2 (hg : Gl X "range") (hm : X.mg "range" = none) (ha : PA X [a, b] (tA c [d1, d2])) (hs : starEach [a, b] X.env = [(false, eval a X.env), (false, eval b X.env)] := by rfl) (hs2 : starEach [b] X.env = [(false, eval b X.env)] := by rfl) :
    PI X tg (.Call (.Name "range" p) [a, b] [] pos) (tI c (iRg2 d1 d2)) := by
  refine PI.imp (pi_range2 hg hm ha hs hs2) fun σ H Q ⟨e, R, F, s, p⟩ => ⟨e, R, F, s, ?_⟩
  unfold iRg2 at p
  generalize vArgs [d1, d2] e = r at p ⊢
  split at p
  · intro R1 H1 F1 vs s1 dp ex hw
    split at p
    · rename_i i j _ _ h
      rw [Bool.and_eq_true] at h
      have l1 := in62_of h.1
      have l2 := in62_of h.2
      exact ⟨_, _, dpa_ints (ns := [_, _]) dp, ⟨l1.1, l1.2, l2.1, l2.2⟩, p R1 H1 F1 _ s1 (walkD_fn walk_range) ex hw⟩
    · exact p.elim
  · exact p.elim
  · exact p
  · exact p
theorem ie_rg3 (hg : Gl X "range") (hm : X.mg "range" = none) (ha : PA X [a, b, a3] (tA c [d1, d2, d3])) (hs : starEach [a, b, a3] X.env = (false, eval a X.env) :: starEach [b, a3] X.env := by rfl) (hpl : (backTo pos (starEach [b, a3] X.env)).any (·.1) = false := by rfl) :
    PI X tg (.Call (.Name "range" p) [a, b, a3] [] pos) (tI c (iRg3 d1 d2 d3)) := by
  refine PI.imp (pi_range3 hg hm ha hs hpl) fun σ H Q ⟨e, R, F, s, p⟩ => ⟨e, R, F, s, ?_⟩
  unfold iRg3 at p
  generalize vArgs [d1, d2, d3] e = r at p ⊢
  split at p
  · intro R1 H1 F1 vs s1 dp ex hw
    split at p
    · rename_i h
      simp only [Bool.and_eq_true, decide_eq_true_eq] at h
      exact ⟨_, _, _, _, dpa_ints (ns := [_, _, _]) dp, ⟨h.1.1.1, h.1.1.2, h.1.2, (Int.toNat_of_nonneg h.2).symm⟩, p R1 H1 F1 _ s1 (walkD_fn walk_rangeC) ex hw⟩
    · exact p.elim
  · exact p.elim
  · exact p
  · exact p
/-- enumerate, zip, reversed of lists -/
def enumD : Nat → List PyData → List PyData
  | _, [] => []
  | k, x :: r => .tuple [.int (k : Nat), x] :: enumD (k + 1) r
theorem enumD_len : ∀ (k : Nat) (xs : List PyData), (enumD k xs).length = xs.length
  | _, [] => rfl
  | k, x :: r => by rw [enumD, List.length_cons, List.length_cons, enumD_len]
theorem enumD_get : ∀ (k : Nat) (xs : List PyData) (i : Nat) (x : PyData), xs[i]? = some x → (enumD k xs)[i]? = some (.tuple [.int ((k + i : Nat) : Int), x])
  | _, [], _, _, h => by simp at h
  | k, y :: r, 0, x, h => by simp at h; subst h; rfl
  | k, y :: r, i + 1, x, h => by
    rw [enumD, List.getElem?_cons_succ, enumD_get (k + 1) r i x (by simpa using h), show k + 1 + i = k + (i + 1) by omega]
def iEn (d : Env → RV) : Env → RI := fun e => match d e with
  | .ok (.list xs) false e1 w => .ok ((enumD 0 xs).map T.d) e1 w
  | .ok _ _ _ _ => .no
  | .er C fs e1 => .er C fs e1
  | .no => .no
theorem ie_enum {tpos : Pos} {elts : List Expr} {kk : Nat} (hg : Gl X "enumerate") (hm : X.mg "enumerate" = none) (ha : PA X [a] (tCons (tV c d) tNil)) (hK : X.K = c.K := by rfl) (hs : starEach [a] X.env = [(false, eval a X.env)] := by rfl) :
    PI X (.Tuple elts kk tpos) (.Call (.Name "enumerate" p) [a] [] pos) (tI c (iEn d)) := by
  refine PI.imp (pi_enum hg hm ha hs) fun σ H Q ⟨e, R, F, s, p⟩ => ⟨e, R, F, s, ?_⟩
  rw [hK]
  unfold iEn at p
  cases h1 : d e with
  | no => simp only [h1] at p; exact p
  | er C fs e1 => simp only [h1] at p; exact p
  | ok x b e1 w =>
    intro R1 H1 F1 v s1 sd ex hw
    cases b with
    | true => cases x <;> (simp only [h1] at p; exact p.elim)
    | false =>
      cases x with
      | list ds =>
        simp only [h1] at p
        cases sd with
        | lst hs ha =>
          refine ⟨_, _, rfl, s1.rh.seq hs, p R1 H1 F1 _ s1 (walkD_of ⟨_, _, by rw [enumD_len, ← dpa_len ha]; exact walk_enum, fun R' H' q1 q2 => (q1.s.trans q2).seq hs, fun i R' H' v H2 q1 q2 hi y => ?_⟩) ex hw⟩
          obtain ⟨T, x, z, rfl, hT, rfl, h2, h3⟩ := y
          cases h2
          obtain ⟨dz, h4, h5⟩ := dpa_get' ha h3
          have g := Gr.new (R := R') (o := .tup [.int (i : Nat), z]) q2 hT
          refine ⟨_, _, enumD_get 0 ds i dz h4, g, .tup (.of upd_same) ?_⟩
          rw [Nat.zero_add]
          exact .cons (.int _) (.cons (dp_up (q1.trans g.rr).s _ _ h5) .nil)
      | _ => simp only [h1] at p; exact p.elim
def zipD : List PyData → List PyData → List PyData
  | x :: xs, y :: ys => .tuple [x, y] :: zipD xs ys
  | _, _ => []
theorem zipD_len : ∀ (xs ys : List PyData), (zipD xs ys).length = min xs.length ys.length
  | x :: xs, y :: ys => by rw [zipD, List.length_cons, zipD_len, List.length_cons, List.length_cons]; omega
  | [], _ => by simp [zipD]
  | _ :: _, [] => by simp [zipD]
theorem zipD_get : ∀ (xs ys : List PyData) (i : Nat) (x y : PyData), xs[i]? = some x → ys[i]? = some y → (zipD xs ys)[i]? = some (.tuple [x, y])
  | [], _, _, _, _, h, _ => by simp at h
  | _ :: _, [], _, _, _, _, h => by simp at h
  | x0 :: xs, y0 :: ys, 0, x, y, h, h' => by simp at h h'; subst h h'; rfl
  | x0 :: xs, y0 :: ys, i + 1, x, y, h, h' => by
    rw [zipD, List.getElem?_cons_succ, zipD_get xs ys i x y (by simpa using h) (by simpa using h')]
def iZp (d1 d2 : Env → RV) : Env → RI := fun e => match vArgs [d1, d2] e with
  | .ok [.list xs, .list ys] e1 w => .ok ((zipD xs ys).map T.d) e1 w
  | .ok _ _ _ => .no
  | .er C fs e1 => .er C fs e1
  | .no => .no
theorem ie_zip {tpos : Pos} {elts : List Expr} {kk : Nat} (hg : Gl X "zip") (hm : X.mg "zip" = none) (ha : PA X [a, b] (tA c [d1, d2])) (hK : X.K = c.K := by rfl) (hs : starEach [a, b] X.env = (false, eval a X.env) :: starEach [b] X.env := by rfl) (hpl : (backTo pos (starEach [b] X.env)).any (·.1) = false := by rfl) :
    PI X (.Tuple elts kk tpos) (.Call (.Name "zip" p) [a, b] [] pos) (tI c (iZp d1 d2)) := by
  refine PI.imp (pi_zip hg hm ha hs hpl) fun σ H Q ⟨e, R, F, s, p⟩ => ⟨e, R, F, s, ?_⟩
  rw [hK]
  unfold iZp at p
  generalize vArgs [d1, d2] e = r at p ⊢
  split at p
  · intro R1 H1 F1 vs s1 dp ex hw
    cases dp with
    | cons dx dr =>
      cases dr with
      | cons dy dn =>
        cases dn
        cases dx with
        | lst hs ha =>
          cases dy with
          | lst hs' ha' =>
            refine ⟨_, _, _, _, rfl, s1.rh.seq hs, s1.rh.seq hs', p R1 H1 F1 _ s1 (walkD_of ⟨_, _, walk_zip (by rw [zipD_len, dpa_len ha, dpa_len ha']), fun R' H' q1 q2 => ⟨(q1.s.trans q2).seq hs, (q1.s.trans q2).seq hs'⟩, fun i R' H' v H2 q1 q2 hi y => ?_⟩) ex hw⟩
            obtain ⟨T, x, z, rfl, hT, rfl, h2, h3⟩ := y
            obtain ⟨dx', h4, h5⟩ := dpa_get' ha h2
            obtain ⟨dz', h6, h7⟩ := dpa_get' ha' h3
            have g := Gr.new (R := R') (o := .tup [x, z]) q2 hT
            exact ⟨_, _, zipD_get _ _ i dx' dz' h4 h6, g, .tup (.of upd_same) (.cons (dp_up (q1.trans g.rr).s _ _ h5) (.cons (dp_up (q1.trans g.rr).s _ _ h7) .nil))⟩
  · exact p.elim
  · exact p
  · exact p
def iRv (d : Env → RV) : Env → RI := fun e => match d e with
  | .ok (.list xs) false e1 w => .ok (xs.reverse.map T.d) e1 w
  | .ok _ _ _ _ => .no
  | .er C fs e1 => .er C fs e1
  | .no => .no
theorem ie_rev (hg : Gl X "reversed") (hm : X.mg "reversed" = none) (ha : PA X [a] (tCons (tV c d) tNil)) (hK : X.K = c.K := by rfl) (hs : starEach [a] X.env = [(false, eval a X.env)] := by rfl) : PI X tg (.Call (.Name "reversed" p) [a] [] pos) (tI c (iRv d)) := by
  refine PI.imp (pi_reversed hg hm ha hs) fun σ H Q ⟨e, R, F, s, p⟩ => ⟨e, R, F, s, ?_⟩
  rw [hK]
  unfold iRv at p
  cases h1 : d e with
  | no => simp only [h1] at p; exact p
  | er C fs e1 => simp only [h1] at p; exact p
  | ok x b e1 w =>
    intro R1 H1 F1 v s1 sd ex hw
    cases b with
    | true => cases x <;> (simp only [h1] at p; exact p.elim)
    | false =>
      cases x with
      | list ds =>
        simp only [h1] at p
        cases sd with
        | lst hs ha =>
          refine ⟨_, _, rfl, s1.rh.seq hs, p R1 H1 F1 _ s1 (walkD_of ⟨_, _, by rw [List.length_reverse, ← dpa_len ha]; exact walk_rev, fun R' H' q1 q2 => (q1.s.trans q2).seq hs, fun i R' H' v H2 q1 q2 hi y => ?_⟩) ex hw⟩
          obtain ⟨rfl, hv⟩ := y
          obtain ⟨dx', h4, h5⟩ := dpa_get' ha hv
          rw [List.length_reverse] at hi
          refine ⟨R', dx', ?_, .refl q2, dp_up q1.s _ _ h5⟩
          rw [List.getElem?_reverse hi, ← dpa_len ha]
          exact h4
      | _ => simp only [h1] at p; exact p.elim
end
end En
namespace En
open PySem PySem.Spec PyProof.Rows L2
/-! ## statements -/
def sNil : Env → Out := fun e => .nx e
def sSeq (d1 d2 : Env → Out) : Env → Out := fun e => match d1 e with
  | .nx e1 => d2 e1
  | o => o
/-- name = e -/
def sSet (i : Nat) (d : Env → Res) : Env → Out := fun e => match d e with
  | .ok (.v x) e1 _ => .nx (e1.set i (some (.d x)))
  | .ok (.t t) e1 _ => .nx (e1.set i (some t))
  | .ok _ _ _ => .no
  | .er C fs e1 => .er C fs e1
  | .no => .no
/-- name = e, data -/
def sSetV (i : Nat) (d : Env → RV) : Env → Out := fun e => match d e with
  | .ok x false e1 _ => .nx (e1.set i (some (.d x)))
  | .ok _ true _ _ => .no
  | .er C fs e1 => .er C fs e1
  | .no => .no
/-- target = e, data -/
def sAsg (tg : T → Env → Option Env) (d : Env → RV) : Env → Out := fun e => match d e with
  | .ok x false e1 _ => match tg (.d x) e1 with
    | some e2 => .nx e2
    | none => .no
  | .ok _ true _ _ => .no
  | .er C fs e1 => .er C fs e1
  | .no => .no
def sExp (d : Env → RV) : Env → Out := fun e => match d e with
  | .ok _ _ e1 _ => .nx e1
  | .er C fs e1 => .er C fs e1
  | .no => .no
def sExpD (d : Env → Res) : Env → Out := fun e => match d e with
  | .ok _ e1 _ => .nx e1
  | .er C fs e1 => .er C fs e1
  | .no => .no
def sRet (d : Env → Res) : Env → Out := fun e => match d e with
  | .ok r e1 _ => .rt r e1
  | .er C fs e1 => .er C fs e1
  | .no => .no
def sRetV (d : Env → RV) : Env → Out := fun e => match d e with
  | .ok x false e1 _ => .rt (.v x) e1
  | .ok _ true _ _ => .no
  | .er C fs e1 => .er C fs e1
  | .no => .no
def sRetN : Env → Out := fun e => .rt (.v .none) e
def sIf (t : Env → RV) (d1 d2 : Env → Out) : Env → Out := fun e => match t e with
  | .ok (.bool true) _ e1 _ => d1 e1
  | .ok (.bool false) _ e1 _ => d2 e1
  | .ok _ _ _ _ => .no
  | .er C fs e1 => .er C fs e1
  | .no => .no
def sBrk : Env → Out := fun e => .bk e
def sCnt : Env → Out := fun e => .ct e
section
variable {X : Cx} {c : Ctx} {d d1 d2 : Env → Out} {dv t : Env → RV} {dd : Env → Res} {st : Stmt} {sts : List Stmt} {a : Expr} {pos pos' : Pos}
theorem ss_nil : PSs X [] (tS c sNil) := PSs.imp pss_nil fun D σ H ⟨e, R, F, s, p⟩ => p σ R H F s .refl
theorem sSeq_ok {D : Ends} {σ : L2.St} {H : Hp} (h : tS c (sSeq d1 d2) D σ H) : tS c d1 { D with nx := tS c d2 D } σ H := by
  obtain ⟨e, R, F, s, p⟩ := h
  refine ⟨e, R, F, s, ?_⟩
  unfold sSeq at p
  cases h1 : d1 e with
  | nx e1 =>
    simp only [h1] at p
    exact fun σ' R' H' F' s' ex => ⟨e1, R', F', s', PostS.mono ex p⟩
  | rt r e1 => simp only [h1] at p; exact p
  | bk e1 => simp only [h1] at p; exact p
  | ct e1 => simp only [h1] at p; exact p
  | er C fs e1 => simp only [h1] at p; exact p
  | no => simp only [h1] at p; exact p
theorem ss_cons (h1 : PS X st (tS c d1)) (h2 : PSs X sts (tS c d2)) : PSs X (st :: sts) (tS c (sSeq d1 d2)) := PSs.imp (pss_cons h1 h2) fun D σ H h => sSeq_ok h
theorem ss_one (h1 : PS X st (tS c d1)) : PSs X [st] (tS c d1) := pss_one h1
theorem se_pass : PS X (.Pass pos) (tS c sNil) := PS.imp ps_pass fun D σ H ⟨e, R, F, s, p⟩ => p σ R H F s .refl
theorem se_break : PS X (.Break pos) (tS c sBrk) := PS.imp ps_break fun D σ H ⟨e, R, F, s, p⟩ => p σ R H F s .refl
theorem se_cont : PS X (.Continue pos) (tS c sCnt) := PS.imp ps_continue fun D σ H ⟨e, R, F, s, p⟩ => p σ R H F s .refl
theorem se_retN : PS X (.Return none pos) (tS c sRetN) := PS.imp ps_retN fun D σ H ⟨e, R, F, s, p⟩ => p σ R H F [] .non s ⟨rfl, .non⟩ (by simpa using s.nd) (by simp) (by simpa using Ex.refl)
theorem se_ret (h : PE X a (tD c dd)) : PS X (.Return (some a) pos) (tS c (sRet dd)) := by
  refine PS.imp (ps_ret h) fun D σ H ⟨e, R, F, s, p⟩ => ⟨e, R, F, s, ?_⟩
  unfold sRet at p
  cases h1 : dd e with
  | no => simp only [h1] at p; exact p
  | er C fs e1 =>
    simp only [h1] at p
    exact fun R' H' F' x s' rx ex => p σ R' H' F' x s' rx ex
  | ok r e1 w =>
    simp only [h1] at p
    exact fun R' H' F' G v s' rw nd rf ex _ => p σ R' H' F' G v s' rw nd rf ex
theorem se_retV (h : PE X a (tV c dv)) : PS X (.Return (some a) pos) (tS c (sRetV dv)) := by
  refine PS.imp (ps_ret h) fun D σ H ⟨e, R, F, s, p⟩ => ⟨e, R, F, s, ?_⟩
  unfold sRetV at p
  cases h1 : dv e with
  | no => simp only [h1] at p; exact p
  | er C fs e1 =>
    simp only [h1] at p
    exact fun R' H' F' x s' rx ex => p σ R' H' F' x s' rx ex
  | ok x b e1 w =>
    cases b with
    | true => simp only [h1] at p; exact p.elim
    | false =>
      simp only [h1] at p
      exact fun R' H' F' v s' sd ex _ => p σ R' H' F' [] v s' ⟨rfl, sd⟩ (by simpa using s'.nd) (by simp) (by simpa using ex)
theorem se_exp (h : PE X a (tV c dv)) (hs : swapsWith a none pos.line X.env = pure false := by rfl) : PS X (.Expr a pos) (tS c (sExp dv)) := by
  refine PS.imp (ps_expr h hs) fun D σ H ⟨e, R, F, s, p⟩ => ⟨e, R, F, s, ?_⟩
  unfold sExp at p
  cases h1 : dv e with
  | no => simp only [h1] at p; exact p
  | er C fs e1 =>
    simp only [h1] at p
    exact fun R' H' F' x s' rx ex => p σ R' H' F' x s' rx ex
  | ok x b e1 w =>
    simp only [h1] at p
    exact fun R' H' F' v s' sd ex _ => p σ R' H' F' s' ex
theorem se_expD (h : PE X a (tD c dd)) (hs : swapsWith a none pos.line X.env = pure false := by rfl) : PS X (.Expr a pos) (tS c (sExpD dd)) := by
  refine PS.imp (ps_expr h hs) fun D σ H ⟨e, R, F, s, p⟩ => ⟨e, R, F, s, ?_⟩
  unfold sExpD at p
  cases h1 : dd e with
  | no => simp only [h1] at p; exact p
  | er C fs e1 =>
    simp only [h1] at p
    exact fun R' H' F' x s' rx ex => p σ R' H' F' x s' rx ex
  | ok x e1 w =>
    simp only [h1] at p
    exact fun R' H' F' G v s' rw nd rf ex _ => p σ R' H' F' s' (ex.mono fun a ha => List.mem_append_left _ ha)
theorem se_if {b1 b2 : List Stmt} (ht : PT X a (tT c t)) (h1 : PSs X b1 (tS c d1)) (h2 : PSs X b2 (tS c d2)) : PS X (.If a b1 b2 pos) (tS c (sIf t d1 d2)) := by
  refine PS.imp (ps_if ht h1 h2) fun D σ H ⟨e, R, F, s, p⟩ => ⟨e, R, F, s, ?_⟩
  unfold sIf at p
  cases h1 : t e with
  | no => simp only [h1] at p; exact p
  | er C fs e1 =>
    simp only [h1] at p
    exact fun R' H' F' x s' rx ex => p σ R' H' F' x s' rx ex
  | ok x b e1 w =>
    intro R' H' F' v s' sd ex _
    cases x with
    | bool y =>
      refine ⟨y, sd_bool sd, ?_⟩
      cases y with
      | true =>
        simp only [h1] at p
        exact iteT ⟨e1, R', F', s', PostS.mono ex p⟩
      | false =>
        simp only [h1] at p
        exact iteF ⟨e1, R', F', s', PostS.mono ex p⟩
    | _ => simp only [h1] at p; exact p.elim
theorem sSet_ok {i : Nat} (hp : NoPin c.pn i) {D : Ends} {σ : L2.St} {H : Hp} (h : tS c (sSet i dd) D σ H) : tAsg (tD c dd) (gName i) D σ H := by
  obtain ⟨e, R, F, s, p⟩ := h
  refine ⟨e, R, F, s, ?_⟩
  unfold sSet at p
  cases h1 : dd e with
  | no => simp only [h1] at p; exact p
  | er C fs e1 =>
    simp only [h1] at p
    exact fun R' H' F' x s' rx ex => p σ R' H' F' x s' rx ex
  | ok r e1 w =>
    intro R' H' F' G v s' rw nd rf ex _
    cases r with
    | v x =>
      simp only [h1] at p
      obtain ⟨rfl, rw⟩ := rw
      obtain ⟨F2, s2, f2⟩ := sr_set (i := i) s' (show Rp c.K R' H' (.d x) v [] from ⟨rfl, rw⟩) nd rf hp
      exact p _ R' H' F2 s2 (ex.mono f2)
    | t t =>
      simp only [h1] at p
      obtain ⟨F2, s2, f2⟩ := sr_set (i := i) s' rw nd rf hp
      exact p _ R' H' F2 s2 (ex.mono f2)
    | p j q => simp only [h1] at p; exact p.elim
    | b ds => simp only [h1] at p; exact p.elim
theorem se_set {i : Nat} {x : Str} (hN : X.N.Nodup) (hi : X.N[i]? = some x) (hx : Loc X.env.scope x) (h : PE X a (tD c dd)) (hp : NoPin c.pn i := by rfl) (hs : swapsWith a (some (.Name x pos')) pos.line X.env = pure false := by rfl) (hf : X.fn x = true ∨ X.env.scope.names.lookup x = some .local := by first | exact .inl rfl | exact .inr rfl | assumption) :
    PS X (.Assign [.Name x pos'] a pos) (tS c (sSet i dd)) := PS.imp (ps_set hN hi hx h hs hf) fun D σ H h => sSet_ok hp h
theorem sSetV_ok {i : Nat} (hp : NoPin c.pn i) {D : Ends} {σ : L2.St} {H : Hp} (h : tS c (sSetV i dv) D σ H) : tAsg (tV c dv) (gName i) D σ H := by
  obtain ⟨e, R, F, s, p⟩ := h
  refine ⟨e, R, F, s, ?_⟩
  unfold sSetV at p
  cases h1 : dv e with
  | no => simp only [h1] at p; exact p
  | er C fs e1 =>
    simp only [h1] at p
    exact fun R' H' F' x s' rx ex => p σ R' H' F' x s' rx ex
  | ok x b e1 w =>
    cases b with
    | true => simp only [h1] at p; exact p.elim
    | false =>
      simp only [h1] at p
      intro R' H' F' v s' sd ex _
      obtain ⟨F2, s2, f2⟩ := sr_set (i := i) s' (show Rp c.K R' H' (.d x) v [] from ⟨rfl, sd⟩) (by simpa using s'.nd) (by simp) hp
      exact p _ R' H' F2 s2 (ex.mono fun a ha => by simpa using f2 a ha)
theorem se_setV {i : Nat} {x : Str} (hN : X.N.Nodup) (hi : X.N[i]? = some x) (hx : Loc X.env.scope x) (h : PE X a (tV c dv)) (hp : NoPin c.pn i := by rfl) (hs : swapsWith a (some (.Name x pos')) pos.line X.env = pure false := by rfl) (hf : X.fn x = true ∨ X.env.scope.names.lookup x = some .local := by first | exact .inl rfl | exact .inr rfl | assumption) :
    PS X (.Assign [.Name x pos'] a pos) (tS c (sSetV i dv)) := PS.imp (ps_set hN hi hx h hs hf) fun D σ H h => sSetV_ok hp h
theorem sAsg_ok {is : List Nat} {g : TG} {tg : T → Env → Option Env} (hg : TgOk c is g tg) {D : Ends} {σ : L2.St} {H : Hp} (h : tS c (sAsg tg dv) D σ H) : tAsg (tV c dv) g D σ H := by
  obtain ⟨e, R, F, s, p⟩ := h
  refine ⟨e, R, F, s, ?_⟩
  unfold sAsg at p
  cases h1 : dv e with
  | no => simp only [h1] at p; exact p
  | er C fs e1 =>
    simp only [h1] at p
    exact fun R' H' F' x s' rx ex => p σ R' H' F' x s' rx ex
  | ok x b e1 w =>
    cases b with
    | true => simp only [h1] at p; exact p.elim
    | false =>
      simp only [h1] at p
      intro R' H' F' v s' sd ex _
      cases h2 : tg (.d x) e1 with
      | none => simp only [h2] at p; exact p.elim
      | some e2 =>
        simp only [h2] at p
        exact hg R' H' e1 σ F' v (.d x) e2 _ s' ⟨rfl, sd⟩ h2 fun σ2 F2 s2 f2 _ => p σ2 R' H' F2 s2 (ex.mono f2)
theorem se_asg {is : List Nat} {g : TG} {tg : T → Env → Option Env} {tgt : Expr} (h : PE X a (tV c dv)) (hg : PG X tgt g) (ht : TgOk c is g tg) (hs : swapsWithSole [tgt] a pos.line X.env = pure false := by rfl) (hw : swappedStores [tgt] a X.env = pure none := by rfl)
    (h1 : (assignEach [tgt] X.env).map (·.2) = [assign tgt X.env] := by rfl) : PS X (.Assign [tgt] a pos) (tS c (sAsg tg dv)) := PS.imp (ps_asg h hg hs hw h1) fun D σ H h => sAsg_ok ht h
end
/-! ## for -/
def forL (bd : T → Env → Out) : List T → Env → Out
  | [], e => .nx e
  | x :: r, e => match bd x e with
    | .nx e1 => forL bd r e1
    | .ct e1 => forL bd r e1
    | .bk e1 => .nx e1
    | o => o
def bdy (tg : T → Env → Option Env) (b : Env → Out) : T → Env → Out := fun x e => match tg x e with
  | some e1 => b e1
  | none => .no
def sFor (di : Env → RI) (tg : T → Env → Option Env) (b : Env → Out) : Env → Out := fun e => match di e with
  | .ok xs e1 _ => forL (bdy tg b) xs e1
  | .er C fs e1 => .er C fs e1
  | .no => .no
theorem se_for {X : Cx} {c : Ctx} {iter tgt : Expr} {body : List Stmt} {pos : Pos} {is : List Nat} {g : TG} {tg : T → Env → Option Env} {di : Env → RI} {b : Env → Out} (hp : PassesOwn (model X.prog X.w) X.A X.env X.xe) (hc : X.calm = true) (hi : PI X tgt iter (tI c di))
    (hg : PG X tgt g) (ht : TgOk c is g tg) (hb : PSs X body (tS c b)) (hs : ∀ x, foldedSetIterable iter X.env x = pure x := by intro _; rfl) : PS X (.For tgt iter body [] pos) (tS c (sFor di tg b)) := by
  refine PS.imp (ps_for hp hc hi hg hb hs) fun D σ H ⟨e, R, F, s, p⟩ => ⟨e, R, F, s, ?_⟩
  unfold sFor at p
  cases h1 : di e with
  | no => simp only [h1] at p; exact p
  | er C fs e1 =>
    simp only [h1] at p
    exact fun R' H' F' x s' rx ex => p σ R' H' F' x s' rx ex
  | ok xs e1 w =>
    simp only [h1] at p
    intro R1 H1 F1 J s1 ⟨G, Y, wk, hG, hY⟩ ex hw
    refine for_it wk (fun i σ H => ∃ (R' : RR) (F' : List Addr) (e' : Env), Sr c R' H e' σ F' ∧ R1.Le R' ∧ PostS c R' H F' D (forL (bdy tg b) (xs.drop i) e')) ⟨R1, F1, e1, s1, RR.Le.refl _, by rw [List.drop_zero]; exact PostS.mono ex p⟩ (fun i σ H _ ⟨R', F', e', s', sm, _⟩ => hG R' H sm s'.rh) ?_ ?_
    · rintro i v σ2 H2 H3 hi ⟨R', F', e', s', sm, p'⟩ y
      obtain ⟨R3, x, hx, gr, dp⟩ := hY i R' H2 v H3 sm s'.rh hi y
      have hd : xs.drop i = x :: xs.drop (i + 1) := by
        obtain ⟨hl, hx'⟩ := List.getElem?_eq_some_iff.mp hx
        rw [List.drop_eq_getElem_cons hl, hx']
      rw [hd] at p'
      unfold forL bdy at p'
      cases h2 : tg x e' with
      | none => simp only [h2] at p'; exact p'.elim
      | some e2 =>
        simp only [h2] at p'
        refine ht R3 H3 e' σ2 F' v x e2 _ (gr.sr s') dp h2 fun σ3 F3 s3 f3 _ => ⟨e2, R3, F3, s3, ?_⟩
        have ex3 : Ex R' H2 F' R3 H3 F3 := gr.ex.mono f3
        have go : ∀ {e3 : Env}, PostS c R' H2 F' D (forL (bdy tg b) (xs.drop (i + 1)) e3) → ∀ σ' R4 H4 F4, Sr c R4 H4 e3 σ' F4 → Ex R3 H3 F3 R4 H4 F4 → ∃ (R' : RR) (F' : List Addr) (e' : Env), Sr c R' H4 e' σ' F' ∧ R1.Le R' ∧ PostS c R' H4 F' D (forL (bdy tg b) (xs.drop (i + 1)) e') :=
          fun {e3} q σ' R4 H4 F4 s4 ex4 => ⟨R4, F4, e3, s4, (sm.trans gr.rr).trans ex4.rr, PostS.mono (ex3.trans ex4) q⟩
        cases h3 : b e2 with
        | nx e3 => simp only [h3] at p'; exact go p'
        | ct e3 => simp only [h3] at p'; exact go p'
        | bk e3 => simp only [h3] at p'; exact fun σ' R4 H4 F4 s4 ex4 => p' σ' R4 H4 F4 s4 (ex3.trans ex4)
        | rt r e3 => simp only [h3] at p'; exact fun σ' R4 H4 F4 G4 v4 s4 rw4 nd4 rf4 ex4 => p' σ' R4 H4 F4 G4 v4 s4 rw4 nd4 rf4 (ex3.trans ex4)
        | er C fs e3 => simp only [h3] at p'; exact fun σ' R4 H4 F4 d4 s4 rx4 ex4 => p' σ' R4 H4 F4 d4 s4 rx4 (ex3.trans ex4)
        | no => simp only [h3] at p'; exact p'
    · rintro σ2 H2 ⟨R', F', e', s', sm, p'⟩
      rw [List.drop_length] at p'
      exact p' σ2 R' H2 F' s' .refl
/-! ## while -/
def sWh : Nat → (Env → RV) → (Env → Out) → Env → Out
  | 0, _, _, _ => .no
  | n + 1, t, b, e => match t e with
    | .ok (.bool true) _ e1 _ => match b e1 with
      | .nx e2 => sWh n t b e2
      | .ct e2 => sWh n t b e2
      | .bk e2 => .nx e2
      | o => o
    | .ok (.bool false) _ e1 _ => .nx e1
    | .ok _ _ _ _ => .no
    | .er C fs e1 => .er C fs e1
    | .no => .no
/-- some number of turns -/
def sWhile (n : Env → Nat) (t : Env → RV) (b : Env → Out) : Env → Out := fun e => sWh (n e) t b e
theorem se_while {X : Cx} {c : Ctx} {a : Expr} {body : List Stmt} {pos : Pos} {t : Env → RV} {b : Env → Out} {n : Env → Nat} (hp : PassesOwn (model X.prog X.w) X.A X.env X.xe) (ht : PT X a (tT c t)) (hb : PSs X body (tS c b)) : PS X (.While a body [] pos) (tS c (sWhile n t b)) := by
  refine PS.imp (ps_while hp ht hb) fun D σ H ⟨e, R, F, s, p⟩ => ?_
  refine ⟨fun m σ H => tS c (sWh m t b) D σ H, ⟨n e, e, R, F, s, p⟩, ?_⟩
  rintro m σ H ⟨e, R, F, s, p⟩
  cases m with
  | zero => exact p.elim
  | succ m =>
    refine ⟨e, R, F, s, ?_⟩
    unfold sWh at p
    cases h1 : t e with
    | no => simp only [h1] at p; exact p
    | er C fs e1 =>
      simp only [h1] at p
      exact fun R' H' F' x s' rx ex => p σ R' H' F' x s' rx ex
    | ok x w0 e1 w =>
      intro R1 H1 F1 v s1 sd ex hw
      cases x with
      | bool y =>
        refine ⟨y, sd_bool sd, ?_⟩
        cases y with
        | false =>
          simp only [h1] at p
          exact iteF (p σ R1 H1 F1 s1 ex)
        | true =>
          simp only [h1] at p
          refine iteT ⟨fun σ H => tS c (sWh m t b) D σ H, fun σ' H' q => ⟨m, Nat.lt_succ_self _, q⟩, e1, R1, F1, s1, ?_⟩
          cases h3 : b e1 with
          | nx e3 => simp only [h3] at p; exact fun σ' R4 H4 F4 s4 ex4 => ⟨e3, R4, F4, s4, PostS.mono (ex.trans ex4) p⟩
          | ct e3 => simp only [h3] at p; exact fun σ' R4 H4 F4 s4 ex4 => ⟨e3, R4, F4, s4, PostS.mono (ex.trans ex4) p⟩
          | bk e3 => simp only [h3] at p; exact fun σ' R4 H4 F4 s4 ex4 => p σ' R4 H4 F4 s4 (ex.trans ex4)
          | rt r e3 => simp only [h3] at p; exact fun σ' R4 H4 F4 G4 v4 s4 rw4 nd4 rf4 ex4 => p σ' R4 H4 F4 G4 v4 s4 rw4 nd4 rf4 (ex.trans ex4)
          | er C fs e3 => simp only [h3] at p; exact fun σ' R4 H4 F4 d4 s4 rx4 ex4 => p σ' R4 H4 F4 d4 s4 rx4 (ex.trans ex4)
          | no => simp only [h3] at p; exact p.elim
      | _ => simp only [h1] at p; exact p.elim
/-! ## list comprehensions -/
def lcG (tg : T → Env → Option Env) (tt : Env → RV) (el : Env → RV) (e0 : Env) : List T → Option (List PyData)
  | [] => some []
  | x :: r => match tg x e0 with
    | some e1 => match tt e1 with
      | .ok (.bool true) _ e2 false => match el e2 with
        | .ok y false _ false => (lcG tg tt el e0 r).map (y :: ·)
        | _ => none
      | .ok (.bool false) _ _ false => lcG tg tt el e0 r
      | _ => none
    | none => none
def wipeS (e : Sl) : List Nat → Sl
  | [] => e
  | v :: vs => (wipeS e vs).set v none
def wipeE (e : Env) (vs : List Nat) : Env := ⟨wipeS e.s vs, e.m⟩
def dLc (di : Env → RI) (vs : List Nat) (tg : T → Env → Option Env) (tt : Env → RV) (el : Env → RV) : Env → Res := fun e => match di e with
  | .ok xs e1 w => if xs.length < SZ then match lcG tg tt el (wipeE e1 vs) xs with
      | some ys => .ok (.t (.l (ys.map T.d))) e1 w
      | none => .no
    else .no
  | .er C fs e1 => .er C fs e1
  | .no => .no
theorem rps_wipe {K : PySem.W.Frag} {R : RR} {H : Hp} {e : Sl} {σ : L2.St} : ∀ (vs : List Nat) {F : List Addr}, RpS K R H e σ F → ∃ F1 F2, F.Perm (F1 ++ F2) ∧ RpS K R H (wipeS e vs) (wipe σ vs) F2
  | [], F, h => ⟨[], F, .refl _, h⟩
  | v :: vs, F, h => by
    obtain ⟨F1, F2, p, q⟩ := rps_wipe vs h
    obtain ⟨G1, G2, p', q'⟩ := rps_del (o := none) v q
    refine ⟨F1 ++ G1, G2, p.trans ?_, q'⟩
    rw [List.append_assoc]
    exact List.Perm.append_left F1 p'
theorem rpe_wipe {K : PySem.W.Frag} {R : RR} {H : Hp} {e : Env} {σ : L2.St} (vs : List Nat) {F : List Addr} (h : RpE K R H e σ F) : ∃ F1 F2, F.Perm (F1 ++ F2) ∧ RpE K R H (wipeE e vs) (wipe σ vs) F2 := by
  obtain ⟨A1, A2, p, h1, h2⟩ := h
  obtain ⟨F1, F2, q, h3⟩ := rps_wipe vs h1
  exact ⟨F1, F2 ++ A2, p.trans (by rw [← List.append_assoc]; exact List.Perm.append_right A2 q), F2, A2, .refl _, h3, h2⟩
theorem wipe_get {σ : L2.St} : ∀ (vs : List Nat) (i : Nat), (wipe σ vs)[i]? = if i ∈ vs then (σ[i]?).map (fun _ => none) else σ[i]?
  | [], i => by simp [wipe]
  | v :: vs, i => by
    unfold wipe
    rw [List.getElem?_set]
    by_cases h : v = i
    · subst h
      rw [if_pos rfl, if_pos List.mem_cons_self, wipe_length]
      by_cases hl : v < σ.length
      · rw [if_pos hl, List.getElem?_eq_getElem hl]; rfl
      · rw [if_neg hl, List.getElem?_eq_none (by omega)]; rfl
    · rw [if_neg h, wipe_get vs i]
      by_cases h2 : i ∈ vs
      · rw [if_pos h2, if_pos (List.mem_cons_of_mem _ h2)]
      · rw [if_neg h2, if_neg (fun z => (List.mem_cons.mp z).elim (fun q => h q.symm) h2)]
theorem wipe_of {σ σ' : L2.St} {vs : List Nat} (h : TgR (wipe σ vs) σ' vs) : wipe σ' vs = wipe σ vs := by
  apply List.ext_getElem?
  intro i
  rw [wipe_get, wipe_get]
  by_cases hi : i ∈ vs
  · rw [if_pos hi, if_pos hi]
    have hl := h.len
    rw [wipe_length] at hl
    by_cases h2 : i < σ.length
    · rw [List.getElem?_eq_getElem h2, List.getElem?_eq_getElem (by omega)]; rfl
    · rw [List.getElem?_eq_none (by omega), List.getElem?_eq_none (by omega)]
  · rw [if_neg hi, if_neg hi, h.out i hi, wipe_get, if_neg hi]
def c0 (c : Ctx) : Ctx := ⟨c.K, c.cl, [], fun _ => True, fun _ _ _ _ => trivial, fun _ _ _ _ => False, c.ct⟩
theorem noPin0 {c : Ctx} {i : Nat} : NoPin (c0 c).pn i := rfl
theorem lcG_len {tg : T → Env → Option Env} {tt el : Env → RV} {e0 : Env} : ∀ {xs : List T} {ys : List PyData}, lcG tg tt el e0 xs = some ys → ys.length ≤ xs.length
  | [], ys, h => by cases (show some [] = some ys from h); exact Nat.le_refl _
  | x :: r, ys, h => by
    unfold lcG at h
    split at h
    · split at h
      · split at h
        · cases h2 : lcG tg tt el e0 r with
          | none => rw [h2] at h; cases h
          | some zs => rw [h2] at h; cases h; have := lcG_len h2; simp; omega
        · cases h
      · have := lcG_len h; simp; omega
      · cases h
    · cases h
theorem dLc_ok {c : Ctx} {vs : List Nat} {di : Env → RI} {g : TG} {tg : T → Env → Option Env} {tt el : Env → RV} {ttt : TT} (htg : TgOk (c0 c) vs g tg) (htt : ∀ σ H Q, tT (c0 c) tt σ H Q → ttt σ H Q) {σ : L2.St} {H : Hp} {Q : VK} (hh : tD c (dLc di vs tg tt el) σ H Q) : tLc (tI c di) g ttt (tV (c0 c) el) vs σ H Q := by
  obtain ⟨e, R, F, s, p⟩ := hh
  refine ⟨e, R, F, s, ?_⟩
  unfold dLc at p
  cases h1 : di e with
  | no => simp only [h1] at p; exact p
  | er C fs e1 => simp only [h1] at p; exact p
  | ok xs e1 w =>
    simp only [h1] at p
    intro R1 H1 F1 J s1 ⟨G, Y, wk, hG, hY⟩ ex hw D hD
    by_cases hl : xs.length < SZ
    · rw [if_pos hl] at p
      cases h2 : lcG tg tt el (wipeE e1 vs) xs with
      | none => simp only [h2] at p; exact p.elim
      | some ys =>
        simp only [h2] at p
        -- the state within the block
        obtain ⟨F0, F2, pm, sl2⟩ := rpe_wipe vs s1.sl
        have sub2 : ∀ a ∈ F2, a ∈ F1 := fun a ha => pm.mem_iff.mpr (List.mem_append_right _ ha)
        have nd2 : F2.Nodup := (List.nodup_append.mp (pm.nodup_iff.mp s1.nd)).2.1
        refine lc_it wk (fun i H => ∃ (R' : RR) (acc : List V) (done : List PyData), Gr R1 H1 R' (fun a => if a = D then none else H a) ∧ H D = some (.lst acc) ∧ DpAll c.K R' acc done ∧ done.length ≤ i ∧ ∃ rest, lcG tg tt el (wipeE e1 vs) (xs.drop i) = some rest ∧ ys = done ++ rest) ?_ ?_ ?_ ?_
        · refine ⟨R1, [], [], ?_, upd_same, .nil, Nat.le_refl _, ys, by rw [List.drop_zero]; exact h2, rfl⟩
          have e0 : (fun a => if a = D then none else upd H1 D (.lst []) a) = H1 := by
            funext a
            by_cases z : a = D
            · subst z; rw [if_pos rfl, hD]
            · rw [if_neg z, upd_ne z]
          rw [e0]
          exact .refl s1.rh
        · rintro i H' _ ⟨R', acc, done, gr, _⟩
          refine hG R' H' gr.rr fun a o h => ?_
          have := gr.rh a o h
          by_cases z : a = D
          · rw [if_pos z] at this; cases this
          · rw [if_neg z] at this; exact this
        · rintro i v H' H2 hi ⟨R', acc, done, gr, hacc, dacc, hdl, rest, hrest, hys⟩ y
          have rh' : Same R' H' := fun a o h => by
            have := gr.rh a o h
            by_cases z : a = D
            · rw [if_pos z] at this; cases this
            · rw [if_neg z] at this; exact this
          have hh' : Same H1 H' := fun a o h => by
            have := gr.hh a o h
            by_cases z : a = D
            · rw [if_pos z] at this; cases this
            · rw [if_neg z] at this; exact this
          have rD : R' D = none := by
            cases q : R' D with
            | none => rfl
            | some o => have := gr.rh D o q; rw [if_pos rfl] at this; cases this
          obtain ⟨R3, x, hx, gr3, dp⟩ := hY i R' H' v H2 gr.rr rh' hi y
          have hd : xs.drop i = x :: xs.drop (i + 1) := by
            obtain ⟨hl, hx'⟩ := List.getElem?_eq_some_iff.mp hx
            rw [List.drop_eq_getElem_cons hl, hx']
          rw [hd] at hrest
          unfold lcG at hrest
          have rD3 : R3 D = none := by
            cases q : R3 D with
            | none => rfl
            | some o =>
              rcases gr3.rn D (by rw [q]; exact fun z => by cases z) with z | z
              · exact absurd rD z
              · rw [hacc] at z; cases z
          have nF : ∀ a ∈ F2, R3 a = none := fun a ha => by
            have h1n := s1.rf a (sub2 a ha)
            cases q : R3 a with
            | none => rfl
            | some o =>
              exfalso
              have hdom := rpe_dom sl2 a ha
              rcases gr3.rn a (by rw [q]; exact fun z => by cases z) with z | z
              · rcases gr.rn a z with z | z
                · exact z h1n
                · exact hdom z
              · cases q1 : H1 a with
                | none => exact hdom q1
                | some o1 => rw [hh' a o1 q1] at z; cases z
          have sB : Sr (c0 c) R3 H2 (wipeE e1 vs) (wipe σ vs) F2 := ⟨rpe_up (gr.rr.trans gr3.rr) (gr3.bb.trans gr.bb) (fun a _ o h => gr3.hh a o (hh' a o h)) sl2, nd2, gr3.rh, nF, fun i v z => by simp [c0] at z, trivial, gr3.rr.c.trans (gr.rr.c.trans s1.ct)⟩
          cases h3 : tg x (wipeE e1 vs) with
          | none => simp only [h3] at hrest; cases hrest
          | some e2 =>
            simp only [h3] at hrest
            refine htg R3 H2 _ _ F2 v x e2 _ sB dp h3 fun σ3 F3 s3 f3 t3 => ⟨wipe_of t3, htt _ _ _ ⟨e2, R3, F3, s3, ?_⟩⟩
            -- the state of the list so far, over a heap that has grown
            have keep : ∀ {R4 : RR} {H4 : Hp}, Gr R3 H2 R4 H4 → Gr R1 H1 R4 (fun a => if a = D then none else H4 a) ∧ R4 D = none := fun {R4 H4} q => by
              have n4 : R4 D = none := by
                cases z : R4 D with
                | none => rfl
                | some o =>
                  rcases q.rn D (by rw [z]; exact fun z => by cases z) with z | z
                  · exact absurd rD3 z
                  · rw [gr3.hh D _ hacc] at z; cases z
              refine ⟨⟨fun a o h => ?_, (gr.rr.trans gr3.rr).trans q.rr, q.bb.trans (gr3.bb.trans gr.bb), fun a o h => ?_, fun a h => ?_⟩, n4⟩
              · have ne : a ≠ D := fun z => by rw [z, hD] at h; cases h
                show (if a = D then none else H4 a) = some o
                rw [if_neg ne]
                exact q.hh a o (gr3.hh a o (hh' a o h))
              · have ne : a ≠ D := fun z => by rw [z, n4] at h; cases h
                show (if a = D then none else H4 a) = some o
                rw [if_neg ne]
                exact q.rh a o h
              · rcases q.rn a h with z | z
                · rcases gr3.rn a z with z | z
                  · exact gr.rn a z
                  · exact .inr (hh'.free z)
                · exact .inr ((hh'.trans gr3.hh).free z)
            cases h4 : tt e2 with
            | no => simp only [h4] at hrest; cases hrest
            | er C fs e3 => simp only [h4] at hrest; cases hrest
            | ok tb bb e3 w3 =>
              intro R4 H4 F4 u4 s4 sd4 ex4 hw4
              cases tb with
              | bool bv =>
                refine ⟨bv, sd_bool sd4, ?_⟩
                cases w3 with
                | true => cases bv <;> (simp only [h4] at hrest; cases hrest)
                | false =>
                  have g4 := hw4 rfl
                  cases bv with
                  | false =>
                    simp only [h4] at hrest
                    refine iteF ⟨R4, acc, done, (keep g4).1, g4.hh D _ (gr3.hh D _ hacc), dpa_up (gr3.rr.trans g4.rr).s _ _ dacc, by omega, rest, hrest, hys⟩
                  | true =>
                    simp only [h4] at hrest
                    refine iteT ⟨e3, R4, F4, s4, ?_⟩
                    cases h5 : el e3 with
                    | no => simp only [h5] at hrest; cases hrest
                    | er C fs e4 => simp only [h5] at hrest; cases hrest
                    | ok yv b5 e4 w5 =>
                      intro R5 H5 F5 u5 s5 sd5 ex5 hw5
                      cases b5 with
                      | true => simp only [h5] at hrest; cases hrest
                      | false =>
                        cases w5 with
                        | true => simp only [h5] at hrest; cases hrest
                        | false =>
                          simp only [h5] at hrest
                          have g5 := g4.trans (hw5 rfl)
                          have e5 : H5 D = some (.lst acc) := g5.hh D _ (gr3.hh D _ hacc)
                          have la := dpa_len dacc
                          refine ⟨acc, e5, by rw [la, ← sz_eq]; omega, R5, acc ++ [u5], done ++ [yv], ?_, upd_same, dpa_app (dpa_up (gr3.rr.trans g5.rr).s _ _ dacc) (.cons sd5 .nil), by simp; omega, ?_⟩
                          · have e0 : (fun a => if a = D then none else upd H5 D (.lst (acc ++ [u5])) a) = (fun a => if a = D then none else H5 a) := by
                              funext a
                              by_cases z : a = D
                              · rw [if_pos z, if_pos z]
                              · rw [if_neg z, if_neg z, upd_ne z]
                            rw [e0]
                            exact (keep g5).1
                          · cases h6 : lcG tg tt el (wipeE e1 vs) (xs.drop (i + 1)) with
                            | none => rw [h6] at hrest; cases hrest
                            | some zs =>
                              rw [h6] at hrest
                              cases hrest
                              exact ⟨zs, rfl, by rw [hys, List.append_assoc]; rfl⟩
              | _ => simp only [h4] at hrest; cases hrest
        · rintro H' ⟨R', acc, done, gr, hacc, dacc, hdl, rest, hrest, hys⟩
          rw [List.drop_length] at hrest
          have hr : some ([] : List PyData) = some rest := hrest
          cases hr
          rw [List.append_nil] at hys
          subst hys
          have g1 : Gr R1 H1 R' H' := ⟨fun a o h => by
            have := gr.hh a o h
            by_cases z : a = D
            · rw [if_pos z] at this; cases this
            · rw [if_neg z] at this; exact this, gr.rr, gr.bb, fun a o h => by
            have := gr.rh a o h
            by_cases z : a = D
            · rw [if_pos z] at this; cases this
            · rw [if_neg z] at this; exact this, gr.rn⟩
          have rD : R' D = none := by
            cases q : R' D with
            | none => rfl
            | some o => have := gr.rh D o q; rw [if_pos rfl] at this; cases this
          have nD : D ∉ F1 := fun z => rpe_dom s1.sl D z hD
          refine p R' H' F1 [D] _ (g1.sr s1) ⟨D, acc, [], rfl, .refl _, hacc, rpl_d dacc⟩ ?_ (by simpa using rD) ?_ (fun z => ⟨(hw z).trans g1, fun a ha => by simp at ha; subst ha; exact (hw z).hh.free hD⟩)
          · exact List.nodup_append.mpr ⟨s1.nd, by simp, fun a ha b hb z => by simp at hb; subst hb; subst z; exact nD ha⟩
          · refine ex.trans ⟨g1.rr, fun a o h _ => g1.hh a o h, fun a h => (g1.rn a h).elim .inl fun z => .inr (.inr z), fun a ha => ?_⟩
            rcases List.mem_append.mp ha with ha | ha
            · exact .inl ha
            · simp at ha; subst ha; exact .inr hD
    · rw [if_neg hl] at p; exact p.elim
/-- a list comprehension -/
theorem de_lc {X : Cx} {c : Ctx} {elt tgt iter : Expr} {ifs : List Expr} {scope : Scope} {own : List (Str × Nat)} {pos : Pos} {di : Env → RI} {g : TG} {tg : T → Env → Option Env} {tt el : Env → RV} {ttt : TT} (hc : X.calm = true) (hN : X.N.Nodup) (hi : PI X tgt iter (tI c di)) (ok : BlkOk X.N X.env.scope scope own)
    (hg : ∀ (s : Shared) (H : Hp) (C : Addr) (cl : List (Str × Addr)) (fp : List Addr), PG (X.blk s H scope (compEnvC scope cl C X.env) fp) tgt g) (htg : TgOk (c0 c) (own.map (·.2)) g tg)
    (ht : ∀ (s : Shared) (H : Hp) (C : Addr) (cl : List (Str × Addr)) (fp : List Addr), PTs (X.blk s H scope (compEnvC scope cl C X.env) fp) ifs ttt) (htt : ∀ σ H Q, tT (c0 c) tt σ H Q → ttt σ H Q)
    (he : ∀ (s : Shared) (H : Hp) (C : Addr) (cl : List (Str × Addr)) (fp : List Addr), PE (X.blk s H scope (compEnvC scope cl C X.env) fp) elt (tV (c0 c) el)) (hs : ∀ x, foldedSetIterable iter X.env x = pure x := by intro _; rfl) :
    PE X (.ListComp elt [⟨tgt, iter, ifs, 0⟩] scope pos) (tD c (dLc di (own.map (·.2)) tg tt el)) := PE.imp (pe_lc hc hN hi ok hg ht he hs) fun σ H Q h => dLc_ok htg htt h
end En
namespace En
open PySem PySem.Spec PyProof.Rows L2
/-! ## a def -/
inductive FO where
  | rt (r : T) (m : List T)
  | er (C : Str) (fs : Xd) (m : List T)
  | no
def FPost (K : PySem.W.Frag) (cl : Str → Addr) (R : RR) (H : Hp) (F : List Addr) (Q : VK) (E : XK) : FO → Prop
  | .rt r m => ∀ (R' : RR) (H' : Hp) F' G v, RpL K R' H' m (R'.B.map V.ref) F' → Rp K R' H' r v G → (F' ++ G).Nodup → (∀ a ∈ F' ++ G, R' a = none) → Same R' H' → Ex R H F R' H' (F' ++ G) → Q v H'
  | .er C fs m => ∀ (R' : RR) (H' : Hp) F' d, RpL K R' H' m (R'.B.map V.ref) F' → F'.Nodup → (∀ a ∈ F', R' a = none) → Same R' H' → RX K R' fs d → Ex R H F R' H' F' → E (.ref (cl C)) d H'
  | .no => False
abbrev CT := List (Addr × List Str)
def spD (K : PySem.W.Frag) (cl : Str → Addr) (ct : CT) (n : Nat) (fn : List T → List T → FO) : Sp := fun vs H Q E => vs.length = n ∧ ∃ ts m R F, R.ct = ct ∧ RpL K R H ts vs [] ∧ RpL K R H m (R.B.map V.ref) F ∧ F.Nodup ∧ Same R.h H ∧ (∀ a ∈ F, R a = none) ∧ FPost K cl R H F Q E (fn ts m)
def finW : Out → FO
  | .nx e => .rt (.d .none) e.m
  | .rt (.v x) e => .rt (.d x) e.m
  | .rt (.t t) e => .rt t e.m
  | .rt (.p (.s i) []) e => match e.s[i]? with
    | some (some t) => .rt t e.m
    | _ => .no
  | .rt _ _ => .no
  | .er C fs e => .er C fs e.m
  | _ => .no
/-- a def, from its body -/
def fnD (n : Nat) (b : Env → Out) : List T → List T → FO := fun ts m => finW (b ⟨ts.map some ++ List.replicate (n - ts.length) none, m⟩)
theorem rps_none {K : PySem.W.Frag} {R : RR} {H : Hp} : ∀ n : Nat, RpS K R H (List.replicate n none) (List.replicate n none) []
  | 0 => ⟨rfl, rfl⟩
  | n + 1 => ⟨none, List.replicate n none, rfl, rps_none n⟩
theorem rps_start {K : PySem.W.Frag} {R : RR} {H : Hp} {n : Nat} : ∀ {ts : List T} {vs : List V} {F : List Addr}, RpL K R H ts vs F → RpS K R H (ts.map some ++ List.replicate n none) (vs.map some ++ List.replicate n none) F
  | [], vs, F, h => by rw [h.1, h.2]; exact rps_none n
  | t :: ts, vs, F, h => by
    obtain ⟨v, r, F1, F2, rfl, pm, h1, h2⟩ := h
    exact ⟨v, _, F1, F2, rfl, pm, h1, rps_start h2⟩
/-- what a body is proved in -/
abbrev cD (K : PySem.W.Frag) (cl : Str → Addr) (ct : CT) (E : XK) : Ctx := ⟨K, cl, [], fun _ => True, fun _ _ _ _ => trivial, WE fun cls d _ H => E cls d H, ct⟩
theorem body_ok {K : PySem.W.Frag} {cl : Str → Addr} {ct : CT} {N : List Str} {b : Env → Out} {vs : List V} {H : Hp} {Q : VK} {E : XK} {n : Nat} (h : spD K cl ct n (fnD N.length b) vs H Q E) :
    tS (cD K cl ct E) b { nx := fun _ H' => Q .non H', rt := Q } (L2.start N vs) H := by
  obtain ⟨_, ts, m, R, F, hct, hr, hm, nd, rh, rf, p⟩ := h
  have hl := rpl_len hr
  have e0 : L2.start N vs = vs.map some ++ List.replicate (N.length - ts.length) none := by unfold L2.start; rw [hl]
  refine ⟨⟨ts.map some ++ List.replicate (N.length - ts.length) none, m⟩, R, F, ⟨⟨[], F, .refl _, by rw [e0]; exact rps_start hr, hm⟩, nd, rh, rf, fun i v z => by simp at z, trivial, hct⟩, ?_⟩
  unfold fnD at p
  generalize b ⟨ts.map some ++ List.replicate (N.length - ts.length) none, m⟩ = out at p ⊢
  cases out with
  | no => exact p
  | bk e => exact p.elim
  | ct e => exact p.elim
  | nx e =>
    intro σ' R' H' F' s ex
    obtain ⟨A1, A2, pm, h1, h2⟩ := s.sl
    have in2 : ∀ a ∈ A2, a ∈ F' := fun a ha => pm.mem_iff.mpr (List.mem_append_right _ ha)
    exact p R' H' A2 [] .non h2 ⟨rfl, .non⟩ (by simpa using (List.nodup_append.mp (pm.nodup_iff.mp s.nd)).2.1) (fun a ha => s.rf a (in2 a (by simpa using ha))) s.rh (ex.mono fun a ha => in2 a (by simpa using ha))
  | er C fs e =>
    intro σ' R' H' F' d s rx ex
    obtain ⟨A1, A2, pm, h1, h2⟩ := s.sl
    have in2 : ∀ a ∈ A2, a ∈ F' := fun a ha => pm.mem_iff.mpr (List.mem_append_right _ ha)
    exact p R' H' A2 d h2 (List.nodup_append.mp (pm.nodup_iff.mp s.nd)).2.1 (fun a ha => s.rf a (in2 a ha)) s.rh rx (ex.mono fun a ha => in2 a ha)
  | rt r e =>
    intro σ' R' H' F' G v s rw' nd' rf' ex
    obtain ⟨A1, A2, pm, h1, h2⟩ := s.sl
    have in2 : ∀ a ∈ A2, a ∈ F' := fun a ha => pm.mem_iff.mpr (List.mem_append_right _ ha)
    have ndd : (A2 ++ G).Nodup := by
      have z := (List.Perm.append_right G pm).nodup_iff.mp nd'
      rw [List.append_assoc] at z
      exact (List.nodup_append.mp z).2.1
    have rfd : ∀ a ∈ A2 ++ G, R' a = none := fun a ha => (List.mem_append.mp ha).elim (fun z => s.rf a (in2 a z)) (rf' a)
    have exd : Ex R H F R' H' (A2 ++ G) := ex.mono fun a ha => (List.mem_append.mp ha).elim (fun z => List.mem_append_left _ (in2 a z)) (List.mem_append_right _)
    cases r with
    | v x => exact p R' H' A2 G v h2 rw' ndd rfd s.rh exd
    | t t => exact p R' H' A2 G v h2 rw' ndd rfd s.rh exd
    | b ds => exact p.elim
    | p i q =>
      cases i with
      | c n => exact p.elim
      | s i =>
        cases q with
        | cons st q => exact p.elim
        | nil =>
          have p' : FPost K cl R H F Q E (match e.s[i]? with | some (some t) => .rt t e.m | _ => .no) := p
          cases hi : e.s[i]? with
          | none => simp only [hi] at p'; exact p'.elim
          | some t0 =>
            cases t0 with
            | none => simp only [hi] at p'; exact p'.elim
            | some t =>
              simp only [hi] at p'
              obtain ⟨u, G1, G2, g1, g2, g3, g4⟩ := rps_take h1 hi
              obtain ⟨rfl, u', g5, g6⟩ := rw'
              have g7 : u' = v := g6
              subst g7
              have g5' : (σ'[i]?).join = some u' := g5
              rw [g1] at g5'
              cases g5'
              have pm2 : F'.Perm ((A2 ++ G1) ++ G2) := by
                refine pm.trans ((List.Perm.append_right A2 g2).trans ?_)
                rw [List.append_assoc, List.append_assoc]
                refine (List.Perm.append_left G1 List.perm_append_comm).trans ?_
                rw [← List.append_assoc, ← List.append_assoc]
                exact List.Perm.append_right G2 List.perm_append_comm
              have sb : ∀ a ∈ A2 ++ G1, a ∈ F' := fun a ha => pm2.mem_iff.mpr (List.mem_append_left _ ha)
              exact p' R' H' A2 G1 _ h2 g3 (List.nodup_append.mp (pm2.nodup_iff.mp s.nd)).1 (fun a ha => s.rf a (sb a ha)) s.rh (ex.mono fun a ha => by simpa using sb a ha)
section
variable {P : Program} {w : World} {K : PySem.W.Frag} {mg : Str → Option Value} {base : Heap} {cl : Str → Addr} {ct : CT}
/-- THE RULE for a def -/
theorem fn_ok {x qual : Str} {st : Stmt} {f : Addr} {fd : FuncData} {N ps : List Str} {k : Nat} {b : Env → Out} (F : Fun K x qual st f fd) (S : FnScope N ps (defScope st))
    (hb : ∀ (cdv : Value) (A : Around) (outer : List PySem.Env) (s : Shared) (H : Hp) (vs : List V) (E : XK), Room k (A.deeper (envOfC qual (defScope st) s.heap.objs.size f cdv)) → PSs (cxOf (L2.CX P w) P w K mg base N qual (defScope st) f cdv A outer s H E) (defBody st) (tS (cD K cl ct E) b)) :
    FnOk P w K mg base (L2.CX P w) (k + 1) f fd ps (spD K cl ct ps.length (fnD N.length b)) :=
  F.okX S (fun vs H Q E h => h.1) fun cdv A outer s H vs Q E hr h => ⟨_, hb cdv A outer s H vs E hr, body_ok h⟩
/-- .. for the law's own, that lets no exception out -/
theorem fn_ok0 {x qual : Str} {st : Stmt} {f : Addr} {fd : FuncData} {N ps : List Str} {k : Nat} {b : Env → Out} (F : Fun K x qual st f fd) (S : FnScope N ps (defScope st))
    (hb : ∀ (cdv : Value) (A : Around) (outer : List PySem.Env) (s : Shared) (H : Hp) (vs : List V) (E : XK), Room k (A.deeper (envOfC qual (defScope st) s.heap.objs.size f cdv)) → PSs (cxOf CX0 P w K mg base N qual (defScope st) f cdv A outer s H E).nox (defBody st) (tS (cD K cl ct E0) b)) :
    FnOk P w K mg base CX0 (k + 1) f fd ps (fun vs H Q _ => spD K cl ct ps.length (fnD N.length b) vs H Q E0) :=
  F.ok S (fun vs H Q E h => h.1) fun cdv A outer s H vs Q E hr h => ⟨_, hb cdv A outer s H vs E hr, body_ok h⟩
end
/-! ## several values, of any kind -/
inductive RD where
  | ok (ts : List T) (e : Env) (w : Bool)
  | er (C : Str) (fs : Xd) (e : Env)
  | no
def tOf : W → Option T
  | .v x => some (.d x)
  | .t t => some t
  | _ => none
theorem tOf_ok {K : PySem.W.Frag} {R : RR} {H : Hp} {σ : L2.St} {r : W} {t : T} {v : V} {G : List Addr} (h : Rw K R H σ r v G) (e : tOf r = some t) : Rp K R H t v G := by
  cases r with
  | v x => cases (show some (T.d x) = some t from e); exact h
  | t t' => cases (show some t' = some t from e); exact h
  | p i q => cases e
  | b ds => cases e
def dArgs : List (Env → Res) → Env → RD
  | [], e => .ok [] e false
  | d :: ds, e => match d e with
    | .ok r e1 w1 => match tOf r with
      | some t => match dArgs ds e1 with
        | .ok ts e2 w2 => .ok (t :: ts) e2 (w1 || w2)
        | .er C fs e2 => .er C fs e2
        | .no => .no
      | none => .no
    | .er C fs e1 => .er C fs e1
    | .no => .no
def PostD (c : Ctx) (σ : L2.St) (R : RR) (H : Hp) (F : List Addr) (Q : List V → Hp → Prop) : RD → Prop
  | .ok ts e w => ∀ (R' : RR) (H' : Hp) F' G vs, Sr c R' H' e σ F' → RpL c.K R' H' ts vs G → (F' ++ G).Nodup → (∀ a ∈ G, R' a = none) → Ex R H F R' H' (F' ++ G) → (w = false → Gr R H R' H' ∧ ∀ a ∈ G, H a = none) → Q vs H'
  | .er C fs e => ∀ (R' : RR) (H' : Hp) F' d, Sr c R' H' e σ F' → RX c.K R' fs d → Ex R H F R' H' F' → c.ε σ (.ref (c.cl C)) d H'
  | .no => False
def tAD (c : Ctx) (ds : List (Env → Res)) : TA := fun σ H Q => ∃ e R F, Sr c R H e σ F ∧ PostD c σ R H F Q (dArgs ds e)
/-- what is held beside stays while something else is done -/
theorem frame {K : PySem.W.Frag} {R R' : RR} {H H' : Hp} {F F' G : List Addr} {ex : Ex R H F R' H' F'} (nd : (F ++ G).Nodup) (rf : ∀ a ∈ G, R a = none) (hd : ∀ a ∈ G, H a ≠ none) :
    (∀ a ∈ G, ∀ o, H a = some o → H' a = some o) ∧ (∀ a ∈ G, R' a = none) ∧ (∀ a ∈ F', a ∉ G) := by
  have dis : ∀ a ∈ G, a ∉ F := fun a ha z => (List.nodup_append.mp nd).2.2 a z a ha rfl
  refine ⟨fun a ha o h => ex.hh a o h (dis a ha), fun a ha => ?_, fun a ha z => ?_⟩
  · cases q : R' a with
    | none => rfl
    | some o =>
      rcases ex.rn a (by rw [q]; exact fun z => by cases z) with z | z | z
      · exact absurd (rf a ha) z
      · exact absurd z (dis a ha)
      · exact absurd z (hd a ha)
  · rcases ex.fn a ha with q | q
    · exact dis a z q
    · exact hd a z q
section
variable {X : Cx} {c : Ctx} {d : Env → Res} {ds : List (Env → Res)} {a : Expr} {es : List Expr}
theorem ad_nil : PA X [] (tAD c []) := PA.imp pa_nil fun σ H Q ⟨e, R, F, s, p⟩ => p R H F [] [] s ⟨rfl, rfl⟩ (by simpa using s.nd) (by simp) (by simpa using Ex.refl) (fun _ => ⟨.refl s.rh, by simp⟩)
theorem ad_cons (ha : PE X a (tD c d)) (hr : PA X es (tAD c ds)) (hs : starEach (a :: es) X.env = (false, eval a X.env) :: starEach es X.env := by rfl) : PA X (a :: es) (tAD c (d :: ds)) := by
  refine PA.imp (pa_cons ha hr hs) fun σ H Q ⟨e, R, F, s, p⟩ => ⟨e, R, F, s, ?_⟩
  unfold dArgs at p
  cases h1 : d e with
  | no => simp only [h1] at p; exact p
  | er C fs e1 => simp only [h1] at p; exact p
  | ok r e1 w1 =>
    cases ht : tOf r with
    | none => simp only [h1, ht] at p; exact p.elim
    | some t =>
      intro R1 H1 F1 G1 u s1 rw1 nd1 rf1 ex hw
      have r1 := tOf_ok rw1 ht
      refine ⟨e1, R1, F1, s1, ?_⟩
      have dom1 : ∀ a ∈ G1, H1 a ≠ none := rp_dom _ _ _ r1
      cases h2 : dArgs ds e1 with
      | no => simp only [h1, ht, h2] at p; exact p.elim
      | er C fs e2 =>
        simp only [h1, ht, h2] at p
        exact fun R2 H2 F2 dd s2 rx ex2 => p R2 H2 F2 dd s2 rx ((ex.mono fun a ha => List.mem_append_left _ ha).trans ex2)
      | ok ts e2 w2 =>
        simp only [h1, ht, h2] at p
        intro R2 H2 F2 G2 vs s2 r2 nd2 rf2 ex2 hw2
        obtain ⟨k1, k2, k3⟩ := frame (K := c.K) (ex := ex2) nd1 rf1 dom1
        have exA : Ex R1 H1 (F1 ++ G1) R2 H2 (F2 ++ (G1 ++ G2)) := ⟨ex2.rr, fun a o h z => ex2.hh a o h fun q => z (List.mem_append_left _ q), fun a h => (ex2.rn a h).elim .inl fun z => .inr (z.elim (fun q => .inl (List.mem_append_left _ q)) .inr), fun a ha => by
          rcases List.mem_append.mp ha with z | z
          · exact (ex2.fn a (List.mem_append_left _ z)).elim (fun q => .inl (List.mem_append_left _ q)) .inr
          · rcases List.mem_append.mp z with z | z
            · exact .inl (List.mem_append_right _ z)
            · exact (ex2.fn a (List.mem_append_right _ z)).elim (fun q => .inl (List.mem_append_left _ q)) .inr⟩
        refine p R2 H2 F2 (G1 ++ G2) (u :: vs) s2 ⟨u, vs, G1, G2, rfl, .refl _, rp_up ex2.rr _ _ _ k1 r1, r2⟩ ?_ ?_ (ex.trans exA) ?_
        · have nn := List.nodup_append.mp nd2
          refine List.nodup_append.mpr ⟨nn.1, List.nodup_append.mpr ⟨(List.nodup_append.mp nd1).2.1, nn.2.1, fun x hx y hy z => ?_⟩, fun x hx y hy z => ?_⟩
          · subst z; exact k3 x (List.mem_append_right _ hy) hx
          · subst z
            rcases List.mem_append.mp hy with hy | hy
            · exact k3 x (List.mem_append_left _ hx) hy
            · exact nn.2.2 x hx x hy rfl
        · intro a ha
          exact (List.mem_append.mp ha).elim (k2 a) (rf2 a)
        · intro q
          obtain ⟨g1, n1⟩ := hw (or_ff q).1
          obtain ⟨g2, n2⟩ := hw2 (or_ff q).2
          exact ⟨g1.trans g2, fun a ha => (List.mem_append.mp ha).elim (n1 a) fun z => g1.hh.free (n2 a z)⟩
end
/-! ## calls -/
def wOf : T → W
  | .d x => .v x
  | t => .t t
theorem rw_wOf {K : PySem.W.Frag} {R : RR} {H : Hp} {σ : L2.St} {t : T} {v : V} {G : List Addr} (h : Rp K R H t v G) : Rw K R H σ (wOf t) v G := by
  cases t with
  | d x => exact h
  | _ => exact h
/-- an argument: a ref, or data; a list of its own is let go -/
def frzT (t : T) : Option T := if cpT t then some t else t.data.map .d
def frzA : List T → Option (List T)
  | [] => some []
  | t :: ts => match frzT t, frzA ts with
    | some u, some us => some (u :: us)
    | _, _ => none
theorem frzA_ok {K : PySem.W.Frag} {R : RR} {H : Hp} : ∀ {ts us : List T} {vs : List V} {G : List Addr} {R' : RR}, R.Le R' → (∀ a ∈ G, ∀ o, H a = some o → R' a = some o) → RpL K R H ts vs G → frzA ts = some us → RpL K R' H us vs [] ∧ us.length = ts.length
  | [], us, vs, G, R', le, q, h, e => by
    cases (show some [] = some us from e)
    exact ⟨⟨h.1, rfl⟩, rfl⟩
  | t :: ts, us, vs, G, R', le, q, h, e => by
    obtain ⟨v, r, F1, F2, rfl, pm, h1, h2⟩ := h
    unfold frzA at e
    cases e1 : frzT t with
    | none => rw [e1] at e; cases e
    | some u =>
      cases e2 : frzA ts with
      | none => rw [e1, e2] at e; cases e
      | some us' =>
        rw [e1, e2] at e
        cases e
        obtain ⟨h3, h4⟩ := frzA_ok le (fun a ha o ho => q a (pm.mem_iff.mpr (List.mem_append_right _ ha)) o ho) h2 e2
        refine ⟨⟨v, r, [], [], rfl, .refl _, ?_, h3⟩, by simp [h4]⟩
        unfold frzT at e1
        by_cases cp : cpT t = true
        · rw [if_pos cp] at e1
          cases e1
          exact (cp_up le t v F1 cp h1).2
        · rw [if_neg cp] at e1
          cases e3 : t.data with
          | none => rw [e3] at e1; cases e1
          | some x =>
            rw [e3] at e1
            cases e1
            exact ⟨rfl, rp_frz le t v F1 x (fun a ha o ho => q a (pm.mem_iff.mpr (List.mem_append_left _ ha)) o ho) h1 e3⟩
def dCall (fn : List T → List T → FO) (ds : List (Env → Res)) : Env → Res := fun e => match dArgs ds e with
  | .ok ts e1 w => match frzA ts with
    | some us => match fn us e1.m with
      | .rt r m => .ok (wOf r) ⟨e1.s, m⟩ (w || !(e1.m.isEmpty && m.isEmpty))
      | .er C fs m => .er C fs ⟨e1.s, m⟩
      | .no => .no
    | none => .no
  | .er C fs e1 => .er C fs e1
  | .no => .no
/-- behind a call: the slots stay, the cells are the callee's -/
theorem Sr.call {c : Ctx} {R R' : RR} {H H' : Hp} {e : Env} {σ : L2.St} {F F' G A1 A2 : List Addr} {m' : List T} (s : Sr c R H e σ F) (pm : F.Perm (A1 ++ A2)) (h1 : RpS c.K R H e.s σ A1) (ex : Ex R H A2 R' H' (F' ++ G)) (hm : RpL c.K R' H' m' (R'.B.map V.ref) F') (nd : (F' ++ G).Nodup) (rf : ∀ a ∈ F' ++ G, R' a = none) (rh : Same R' H') :
    Sr c R' H' ⟨e.s, m'⟩ σ (A1 ++ F') ∧ ((A1 ++ F') ++ G).Nodup ∧ Ex R H F R' H' ((A1 ++ F') ++ G) := by
  have ndF := pm.nodup_iff.mp s.nd
  have in1 : ∀ a ∈ A1, a ∈ F := fun a ha => pm.mem_iff.mpr (List.mem_append_left _ ha)
  have in2 : ∀ a ∈ A2, a ∈ F := fun a ha => pm.mem_iff.mpr (List.mem_append_right _ ha)
  have nd' : (A2 ++ A1).Nodup := List.perm_append_comm.nodup_iff.mp ndF
  obtain ⟨k1, k2, k3⟩ := frame (K := c.K) (ex := ex) nd' (fun a ha => s.rf a (in1 a ha)) (fun a ha => rps_dom _ _ _ h1 a ha)
  have ndA : ((A1 ++ F') ++ G).Nodup := by
    rw [List.append_assoc]
    exact List.nodup_append.mpr ⟨(List.nodup_append.mp ndF).1, nd, fun x hx y hy z => by subst z; exact k3 x hy hx⟩
  refine ⟨⟨⟨A1, F', .refl _, rps_up ex.rr _ _ _ k1 h1, hm⟩, (List.nodup_append.mp ndA).1, rh, fun a ha => ?_, s.pn, c.fxm _ _ ex.rr.s s.fx, ex.rr.c.trans s.ct⟩, ndA, ex.rr, fun a o h z => ex.hh a o h fun q => z (in2 a q), fun a h => (ex.rn a h).elim .inl fun z => .inr (z.elim (fun q => .inl (in2 a q)) .inr), fun a ha => ?_⟩
  · exact (List.mem_append.mp ha).elim (k2 a) fun z => rf a (List.mem_append_left _ z)
  · rw [List.append_assoc] at ha
    exact (List.mem_append.mp ha).elim (fun z => .inl (in1 a z)) fun z => (ex.fn a z).elim (fun q => .inl (in2 a q)) .inr
theorem Ex.toGr {R R' : RR} {H H' : Hp} {G : List Addr} (x : Ex R H [] R' H' G) (hB : R'.B = R.B) (rh : Same R' H') : Gr R H R' H' := ⟨fun a o h => x.hh a o h (by simp), x.rr, hB, rh, fun a h => (x.rn a h).elim .inl fun z => z.elim (fun q => by cases q) .inr⟩
theorem dArgs_len : ∀ (ds : List (Env → Res)) (e : Env) {xs : List T} {e1 : Env} {w : Bool}, dArgs ds e = .ok xs e1 w → xs.length = ds.length := by
  intro ds
  induction ds with
  | nil => intro e xs e1 w h; cases (show RD.ok [] e false = .ok xs e1 w from h); rfl
  | cons d ds ih =>
    intro e xs e1 w h
    unfold dArgs at h
    split at h
    · split at h
      · split at h
        · rename_i h2
          cases h
          simp [ih _ h2]
        · cases h
        · cases h
      · cases h
    · cases h
    · cases h
section
variable {X : Cx} {c : Ctx} {W : WX} {k : Nat} {f : Addr} {fd : FuncData} {ps : List Str} {fn : List T → List T → FO} {x : Str} {p pos : Pos} {a : Expr} {es : List Expr} {ds : List (Env → Res)}
/-- what a call does to the caller -/
theorem call_ok (hε : c.ε = WE W) {σ : L2.St} {R R1 : RR} {H H1 : Hp} {e1 : Env} {F F1 G1 : List Addr} {Q : VK} {ts us : List T} {vs : List V} {w : Bool} {n : Nat} (hn : n = vs.length) (s1 : Sr c R1 H1 e1 σ F1) (rl : RpL c.K R1 H1 ts vs G1) (nd1 : (F1 ++ G1).Nodup) (rf1 : ∀ a ∈ G1, R1 a = none) (ex : Ex R H F R1 H1 (F1 ++ G1)) (hw : w = false → Gr R H R1 H1 ∧ ∀ a ∈ G1, H a = none)
    (hf : frzA ts = some us) (p : PostE c σ R H F Q (match fn us e1.m with | .rt r m => .ok (wOf r) ⟨e1.s, m⟩ (w || !(e1.m.isEmpty && m.isEmpty)) | .er C fs m => .er C fs ⟨e1.s, m⟩ | .no => .no)) : spD c.K c.cl c.ct n fn vs H1 Q (WE W σ) := by
  have le := join_same (H := H1) rf1
  have sJ := s1.join nd1 rf1
  have exJ : Ex R H F (join R1 H1 G1) H1 F1 := ex.join rf1
  obtain ⟨A1, A2, pm, hs, hm⟩ := sJ.sl
  have in2 : ∀ a ∈ A2, a ∈ F1 := fun a ha => pm.mem_iff.mpr (List.mem_append_right _ ha)
  have ha := (frzA_ok le (fun a ha o h => by rw [join_in ha]; exact h) rl hf).1
  refine ⟨hn.symm, us, e1.m, join R1 H1 G1, A2, sJ.ct, ha, hm, (List.nodup_append.mp (pm.nodup_iff.mp sJ.nd)).2.1, sJ.rh, fun a z => sJ.rf a (in2 a z), ?_⟩
  cases h2 : fn us e1.m with
  | no => simp only [h2] at p; exact p
  | er C fs m =>
    simp only [h2] at p
    intro R' H' F' d hr nd rf rh rx ex'
    obtain ⟨s2, _, ex2⟩ := sJ.call (G := []) pm hs (by simpa using ex') hr (by simpa using nd) (by simpa using rf) rh
    have := p R' H' _ d s2 rx (exJ.trans (by simpa using ex2))
    rw [hε] at this
    exact this
  | rt r m =>
    simp only [h2] at p
    intro R' H' F' G v hr hv nd rf rh ex'
    obtain ⟨s2, nd2, ex2⟩ := sJ.call pm hs ex' hr nd rf rh
    refine p R' H' (A1 ++ F') G v s2 (rw_wOf hv) nd2 (fun a ha => rf a (List.mem_append_right _ ha)) (exJ.trans ex2) (fun z => ?_)
    obtain ⟨z1, z2⟩ := or_ff z
    have hem : e1.m = [] ∧ m = [] := by simpa using z2
    obtain ⟨g1, g2⟩ := hw z1
    rw [hem.1] at hm
    obtain ⟨hm1, hm2⟩ := hm
    subst hm2
    have hr' := hr
    rw [hem.2] at hr'
    obtain ⟨hr1, hr2⟩ := hr'
    have gJ := g1.join rf1 g2
    have hB : (join R1 H1 G1).B = [] := by simpa using hm1
    have hB' : R'.B = [] := by simpa using hr1
    have fr : ∀ a ∈ F' ++ G, H1 a = none := fun a ha => (ex'.fn a ha).elim (fun q => by cases q) id
    exact ⟨gJ.trans (ex'.toGr (by rw [hB, hB']) rh), fun a ha => gJ.hh.free (fr a (List.mem_append_right _ ha))⟩
theorem dCall_ok (hε : c.ε = WE W) {n : Nat} (hn : n = ds.length) {σ : L2.St} {H : Hp} {Q : VK} (h : tD c (dCall fn ds) σ H Q) : tCallS (spD c.K c.cl c.ct n fn) (WE W) (tAD c ds) σ H Q := by
  obtain ⟨e, R, F, s, p⟩ := h
  refine ⟨e, R, F, s, ?_⟩
  unfold dCall at p
  cases h1 : dArgs ds e with
  | no => simp only [h1] at p; exact p
  | er C fs e1 => simp only [h1] at p; exact p
  | ok ts e1 w =>
    simp only [h1] at p
    cases hf : frzA ts with
    | none => simp only [hf] at p; exact p.elim
    | some us =>
      simp only [hf] at p
      intro R1 H1 F1 G1 vs s1 rl nd1 rf1 ex hw
      exact call_ok hε (by rw [hn, rpl_len rl, dArgs_len ds e h1]) s1 rl nd1 rf1 ex hw hf p
theorem de_call (tk : Takes X W) (F : FnOk X.prog X.w X.K X.mg X.base (L2.CX X.prog X.w) k f fd ps (spD c.K c.cl c.ct ps.length fn)) (hε : c.ε = WE W) (hn : ps.length = ds.length) (hr : Room k X.A) (hg : Gl X x) (hm : X.mg x = some (.ref f)) (hk : PySem.W.keepIn X.K (.ref f) = true) (hb : Binds X.K fd ps [])
    (ha : PA X (a :: es) (tAD c ds)) (hdb : (x == ("__debug__" : Str)) = false := by decide) (he : starEach (a :: es) X.env = (false, eval a X.env) :: starEach es X.env := by rfl) (hpl : (backTo pos (starEach es X.env)).any (·.1) = false := by rfl) :
    PE X (.Call (.Name x p) (a :: es) [] pos) (tD c (dCall fn ds)) :=
  PE.imp (pe_callS F hr hg hm hk hb (fun σ => passAt tk σ) ha hdb he hpl) fun σ H Q h => dCall_ok hε hn h
theorem de_call0 (tk : Takes X W) (F : FnOk X.prog X.w X.K X.mg X.base (L2.CX X.prog X.w) k f fd [] (spD c.K c.cl c.ct 0 fn)) (hε : c.ε = WE W) (hr : Room k X.A) (hg : Gl X x) (hm : X.mg x = some (.ref f)) (hk : PySem.W.keepIn X.K (.ref f) = true) (hb : Binds X.K fd [] [])
    (hdb : (x == ("__debug__" : Str)) = false := by decide) : PE X (.Call (.Name x p) [] [] pos) (tD c (dCall fn [])) := by
  refine ⟨fun pins s σ H Q I h => ?_⟩
  refine wpAny_Call_Name_kw (ld_glob I hg hm ?_ hdb)
  have h' := dCall_ok hε (n := 0) rfl h
  obtain ⟨e, R, F', s', q⟩ := h'
  exact PySem.W.callWith_K0 I.kIn hk (run_fnS (us := []) F hr hb (fun pins H s e s' I c => passAt tk σ pins H s e s' I c) I .nil (q R H F' [] [] s' ⟨rfl, rfl⟩ (by simpa using s'.nd) (by simp) (by simpa using Ex.refl) (fun _ => ⟨.refl s'.rh, by simp⟩)))
end
/-! ## raise -/
def sRaise0 (C : Str) : Env → Out := fun e => .er C none e
def sRaise1 (C f : Str) (d : Env → RV) : Env → Out := fun e => match d e with
  | .ok x false e1 _ => .er C (some [(f, x)]) e1
  | .ok _ true _ _ => .no
  | .er C fs e1 => .er C fs e1
  | .no => .no
theorem se_raise0 {X : Cx} {c : Ctx} {W : WX} {ex : Expr} {pos : Pos} {C : Str} (hc : X.calm = true) (tk : Takes X W) (hε : c.ε = WE W) (he : PMk X ex (fun _ H Q => Q (.ref (c.cl C)) none H)) : PS X (.Raise (some ex) none pos) (tS c (sRaise0 C)) :=
  PS.imp (ps_raise hc tk he) fun D σ H ⟨e, R, F, s, p⟩ => by
    have := p σ R H F none s rfl .refl
    rw [hε] at this
    exact this
/-! ## try -/
/-- what is known of a clause's class: of the classes that may come, whether it takes them -/
def Clause (K : PySem.W.Frag) (cl : Str → Addr) (x : Str) (tb : List (Str × Bool)) : Prop := ∀ C b, tb.lookup C = some b → PySem.W.exmOne K (.ref (cl C)) (.ref (cl x)) = some b
theorem clause_nil {K : PySem.W.Frag} {cl : Str → Addr} {x : Str} : Clause K cl x [] := fun _ _ h => by cases h
theorem clause_cons {K : PySem.W.Frag} {cl : Str → Addr} {x C : Str} {b : Bool} {tb : List (Str × Bool)} (h : PySem.W.exmOne K (.ref (cl C)) (.ref (cl x)) = some b) (t : Clause K cl x tb) : Clause K cl x ((C, b) :: tb) := fun D b' q => by
  rw [List.lookup_cons] at q
  split at q
  · rename_i e
    have e' : D = C := by simpa using e
    subst e'
    cases q
    exact h
  · exact t D b' q
def noEr : Out → Out
  | .er _ _ _ => .no
  | o => o
def sTry (b : Env → Out) (tb : List (Str × Bool)) (su : Env → Out) : Env → Out := fun e => match b e with
  | .er C fs e1 => match tb.lookup C with
    | some true => noEr (su e1)
    | some false => .er C fs e1
    | none => .no
  | o => o
def cS (c : Ctx) : Ctx := ⟨c.K, c.cl, c.pn, c.fx, c.fxm, fun _ _ _ _ => False, c.ct⟩
theorem se_try {X : Cx} {c : Ctx} {Wout : WX} {x : Str} {body suite : List Stmt} {b0 : Stmt} {np pos pos' : Pos} {db ds : Env → Out} {tb : List (Str × Bool)} (hε : c.ε = WE Wout) (hs : X.stack = X.env :: X.outer) (hf : X.env.frame = some X.env.locals) (hc : Names X x (.ref (c.cl x))) (tk : Takes X Wout) (hK : X.K = c.K) (ht : Clause c.K c.cl x tb)
    (hb : ∀ (W : WX) (pn : List (Addr × Obj)) (xe : Value → Shared → Prop), Takes (X.tr pn xe) W → PassesOwn (model X.prog X.w) X.A X.env xe → PSs (X.tr pn xe) body (tS { c with ε := WE W } db))
    (hsu : ∀ (a : Addr) (oe : Obj) (cls : Value) (d : Option Addr) (pn : List (Addr × Obj)), Zc cls d oe → (∃ vs, oe.data = .fields vs) → PSs (X.suite a ((a, oe) :: pn)) (b0 :: suite) (tS (cS c) ds)) :
    PS X (.Try body [.ExceptHandler (some (.Name x np)) none (b0 :: suite) pos'] [] [] pos) (tS c (sTry db tb ds)) := by
  refine PS.imp (ps_try_only hs hf hc tk hb hsu) fun D σ H ⟨e, R, F, s, p⟩ => ⟨e, R, F, ⟨s.sl, s.nd, s.rh, s.rf, s.pn, s.fx, s.ct⟩, ?_⟩
  unfold sTry at p
  cases h1 : db e with
  | nx e1 => simp only [h1] at p; exact fun σ' R' H' F' s' ex => p σ' R' H' F' ⟨s'.sl, s'.nd, s'.rh, s'.rf, s'.pn, s'.fx, s'.ct⟩ ex
  | bk e1 => simp only [h1] at p; exact fun σ' R' H' F' s' ex => p σ' R' H' F' ⟨s'.sl, s'.nd, s'.rh, s'.rf, s'.pn, s'.fx, s'.ct⟩ ex
  | ct e1 => simp only [h1] at p; exact fun σ' R' H' F' s' ex => p σ' R' H' F' ⟨s'.sl, s'.nd, s'.rh, s'.rf, s'.pn, s'.fx, s'.ct⟩ ex
  | rt r e1 => simp only [h1] at p; exact fun σ' R' H' F' G v s' rw' nd rf ex => p σ' R' H' F' G v ⟨s'.sl, s'.nd, s'.rh, s'.rf, s'.pn, s'.fx, s'.ct⟩ rw' nd rf ex
  | no => simp only [h1] at p; exact p
  | er C fs e1 =>
    simp only [h1] at p
    intro σ' R' H' F' d s' rx ex
    cases h2 : tb.lookup C with
    | none => simp only [h2] at p; exact p.elim
    | some bb =>
      have q := ht C bb h2
      cases bb with
      | true =>
        simp only [h2] at p
        rw [hK]
        refine ⟨true, q, fun _ a na => ⟨e1, R', F', ⟨s'.sl, s'.nd, s'.rh, s'.rf, s'.pn, s'.fx, s'.ct⟩, ?_⟩, fun z => by cases z⟩
        have p2 := PostS.mono ex p
        cases h3 : ds e1 with
        | nx e2 => rw [h3] at p2; exact fun σ2 R2 H2 F2 s2 ex2 => p2 σ2 R2 H2 F2 ⟨s2.sl, s2.nd, s2.rh, s2.rf, s2.pn, s2.fx, s2.ct⟩ ex2
        | bk e2 => rw [h3] at p2; exact fun σ2 R2 H2 F2 s2 ex2 => p2 σ2 R2 H2 F2 ⟨s2.sl, s2.nd, s2.rh, s2.rf, s2.pn, s2.fx, s2.ct⟩ ex2
        | ct e2 => rw [h3] at p2; exact fun σ2 R2 H2 F2 s2 ex2 => p2 σ2 R2 H2 F2 ⟨s2.sl, s2.nd, s2.rh, s2.rf, s2.pn, s2.fx, s2.ct⟩ ex2
        | rt r e2 => rw [h3] at p2; exact fun σ2 R2 H2 F2 G v s2 rw2 nd rf ex2 => p2 σ2 R2 H2 F2 G v ⟨s2.sl, s2.nd, s2.rh, s2.rf, s2.pn, s2.fx, s2.ct⟩ rw2 nd rf ex2
        | no => rw [h3] at p2; exact p2
        | er C2 fs2 e2 => rw [h3] at p2; exact (show False from p2).elim
      | false =>
        simp only [h2] at p
        rw [hK]
        refine ⟨false, q, fun z => (by cases z), fun _ => ?_⟩
        have p2 := p σ' R' H' F' d ⟨s'.sl, s'.nd, s'.rh, s'.rf, s'.pn, s'.fx, s'.ct⟩ rx ex
        rw [hε] at p2
        exact p2
end En
namespace En
open PySem PySem.Spec PyProof.Rows L2
/-! ## places that change -/
def setT : T → List Stp → T → T
  | _, [], s => s
  | .l ts, .i n :: q, s => match ts[n]? with
    | some t => .l (ts.set n (setT t q s))
    | none => .l ts
  | .o C ts, .f j :: q, s => match ts[j]? with
    | some t => .o C (ts.set j (setT t q s))
    | none => .o C ts
  | .k ks ts, .k j :: q, s => match ts[j]? with
    | some t => .k ks (ts.set j (setT t q s))
    | none => .k ks ts
  | .m ks ts, .m j :: q, s => match ts[j]? with
    | some t => .m ks (ts.set j (setT t q s))
    | none => .m ks ts
  | t, _, _ => t
def setR (e : Env) (i : Rt) (t : T) : Env := match i with
  | .s i => ⟨e.s.set i (some t), e.m⟩
  | .c n => ⟨e.s, e.m.set n t⟩
def setE (e : Env) (i : Rt) (q : List Stp) (s : T) : Env := match getR e i with
  | some t => setR e i (setT t q s)
  | none => e
section
variable {K : PySem.W.Frag} {R : RR} {H : Hp} {c : Ctx}
theorem wk_up {H H' : Hp} (s : Same H H') : ∀ {q : List Stp} {u v : V}, wk H u q v → wk H' u q v
  | [], _, _, h => h
  | st :: q, u, v, ⟨m, h, w⟩ => by
    refine ⟨m, ?_, wk_up s w⟩
    cases st with
    | i n => obtain ⟨p, vs, e1, e2, e3⟩ := h; exact ⟨p, vs, e1, s _ _ e2, e3⟩
    | f j => obtain ⟨p, C, dx, N, vs, e1, e2, e3, e4⟩ := h; exact ⟨p, C, dx, N, vs, e1, s _ _ e2, e3, e4⟩
    | k j => obtain ⟨p, ks, vs, e1, e2, e3, e4⟩ := h; exact ⟨p, ks, vs, e1, s _ _ e2, e3, e4⟩
    | m j => obtain ⟨p, ks, vs, e1, e2, e3, e4⟩ := h; exact ⟨p, ks, vs, e1, s _ _ e2, e3, e4⟩
theorem rpl_focus : ∀ {ts : List T} {vs : List V} {F : List Addr} {n : Nat} {t : T}, RpL K R H ts vs F → ts[n]? = some t → ∃ v F1 F2, vs[n]? = some v ∧ F.Perm (F1 ++ F2) ∧ Rp K R H t v F1 ∧
    (∀ (R' : RR) (H' : Hp) (t' : T) (v' : V) (G : List Addr), R.Le R' → (∀ a ∈ F2, ∀ o, H a = some o → H' a = some o) → Rp K R' H' t' v' G → RpL K R' H' (ts.set n t') (vs.set n v') (G ++ F2))
  | [], _, _, _, _, _, h => by simp at h
  | t0 :: ts, vs, F, 0, t, h, e => by
    obtain ⟨v, r, F1, F2, rfl, pm, h1, h2⟩ := h
    simp at e
    subst e
    exact ⟨v, F1, F2, rfl, pm, h1, fun R' H' t' v' G s k g => ⟨v', r, G, F2, rfl, .refl _, g, rpl_up s _ _ _ k h2⟩⟩
  | t0 :: ts, vs, F, n + 1, t, h, e => by
    obtain ⟨v, r, F1, F2, rfl, pm, h1, h2⟩ := h
    obtain ⟨u, G1, G2, e1, pm', h3, h4⟩ := rpl_focus (n := n) h2 (by simpa using e)
    refine ⟨u, G1, F1 ++ G2, by simpa using e1, ?_, h3, fun R' H' t' v' G s k g => ⟨v, r.set n v', F1, G ++ G2, rfl, ?_, rp_up s _ _ _ (fun a ha => k a (List.mem_append_left _ ha)) h1, h4 R' H' t' v' G s (fun a ha => k a (List.mem_append_right _ ha)) g⟩⟩
    · refine pm.trans ((List.Perm.append_left F1 pm').trans ?_)
      rw [← List.append_assoc, ← List.append_assoc]
      exact List.Perm.append_right G2 List.perm_append_comm
    · rw [← List.append_assoc, ← List.append_assoc]
      exact List.Perm.append_right G2 List.perm_append_comm
theorem set_self {α : Type} {l : List α} {n : Nat} {x : α} (h : l[n]? = some x) : l.set n x = l := by
  apply List.ext_getElem?
  intro i
  by_cases e : n = i
  · subst e
    obtain ⟨hl, hx⟩ := List.getElem?_eq_some_iff.mp h
    rw [List.getElem?_set_self hl, h]
  · rw [List.getElem?_set_ne e]
theorem rp_focus : ∀ (q : List Stp) {t s : T} {u v : V} {F : List Addr}, Rp K R H t u F → getT t q = some s → wk H u q v → ∃ F1 F2, F.Perm (F1 ++ F2) ∧ Rp K R H s v F1 ∧
    (∀ (R' : RR) (H' : Hp) (s' : T) (G : List Addr), R.Le R' → (∀ a ∈ F2, ∀ o, H a = some o → H' a = some o) → Rp K R' H' s' v G → Rp K R' H' (setT t q s') u (G ++ F2))
  | [], t, s, u, v, F, h, e, w => by
    have e' : some t = some s := by cases t <;> exact e
    cases e'
    cases (show u = v from w)
    refine ⟨F, [], by simp, h, fun R' H' s' G _ _ g => ?_⟩
    have : setT t [] s' = s' := by cases t <;> rfl
    rw [this, List.append_nil]
    exact g
  | st :: q, t, s, u, v, F, h, e, w => by
    obtain ⟨m, st', w⟩ := w
    -- the part below, whatever holds it
    have fin : ∀ {ts : List T} {vs : List V} {G : List Addr} {n : Nat}, RpL K R H ts vs G → (match ts[n]? with | some t => getT t q | none => none) = some s → vs[n]? = some m →
        ∃ t' K1 K2, ts[n]? = some t' ∧ G.Perm (K1 ++ K2) ∧ Rp K R H s v K1 ∧ ∀ (R' : RR) (H' : Hp) (s' : T) (Gn : List Addr), R.Le R' → (∀ a ∈ K2, ∀ o, H a = some o → H' a = some o) → Rp K R' H' s' v Gn → RpL K R' H' (ts.set n (setT t' q s')) vs (Gn ++ K2) := by
      intro ts vs G n e4 e' e7
      cases e8 : ts[n]? with
      | none => rw [e8] at e'; cases e'
      | some t' =>
        rw [e8] at e'
        obtain ⟨m', G1, G2, f1, f2, f3, f4⟩ := rpl_focus e4 e8
        rw [e7] at f1
        cases f1
        obtain ⟨K1, K2, g1, g2, g3⟩ := rp_focus q f3 e' w
        refine ⟨t', K1, K2 ++ G2, rfl, ?_, g2, fun R' H' s' Gn sm k g => ?_⟩
        · rw [← List.append_assoc]
          exact f2.trans (List.Perm.append_right G2 g1)
        · have r1 := g3 R' H' s' Gn sm (fun a ha => k a (by simp [ha])) g
          have r2 := f4 R' H' _ m (Gn ++ K2) sm (fun a ha => k a (by simp [ha])) r1
          rw [set_self e7, List.append_assoc] at r2
          exact r2
    cases t with
    | l ts =>
      cases st with
      | i n =>
        obtain ⟨p, vs, G, rfl, e2, e3, e4⟩ := h
        obtain ⟨p', vs', e5, e6, e7⟩ := st'
        cases e5
        rw [e3] at e6
        cases e6
        obtain ⟨t', K1, K2, e8, pm, g2, g3⟩ := fin e4 e e7
        refine ⟨K1, p :: K2, e2.trans ((List.Perm.cons p pm).trans List.perm_middle.symm), g2, fun R' H' s' Gn sm k g => ?_⟩
        have se : setT (.l ts) (.i n :: q) s' = .l (ts.set n (setT t' q s')) := by
          show (match ts[n]? with | some t => T.l (ts.set n (setT t q s')) | none => .l ts) = _
          rw [e8]
        rw [se]
        exact ⟨p, vs, Gn ++ K2, rfl, List.perm_middle, k p (by simp) _ e3, g3 R' H' s' Gn sm (fun a ha => k a (by simp [ha])) g⟩
      | f j => cases e
      | k j => cases e
      | m j => cases e
    | o C ts =>
      cases st with
      | f j =>
        obtain ⟨p, dx, vs, G, ca, N, ec, rfl, e2, e3, e3', e0, e4⟩ := h
        obtain ⟨p', C', dx', N', vs', e5, e6, el, e7⟩ := st'
        cases e5
        rw [e3] at e6
        have l1 := rpl_len e4
        injection e6 with e6
        injection e6 with e61 e62 e63
        have ev : vs = vs' := zip_inj e63 (by omega) el
        subst ev
        obtain ⟨t', K1, K2, e8, pm, g2, g3⟩ := fin e4 e e7
        refine ⟨K1, p :: dx :: K2, ?_, g2, fun R' H' s' Gn sm k g => ?_⟩
        · exact e2.trans ((List.Perm.cons p (List.Perm.cons dx pm)).trans ((List.perm_middle (l₁ := K1) (a := p) (l₂ := dx :: K2)).trans (List.Perm.cons p (List.perm_middle (l₁ := K1) (a := dx) (l₂ := K2)))).symm)
        · have se : setT (.o C ts) (.f j :: q) s' = .o C (ts.set j (setT t' q s')) := by
            show (match ts[j]? with | some t => T.o C (ts.set j (setT t q s')) | none => .o C ts) = _
            rw [e8]
          rw [se]
          exact ⟨p, dx, vs, Gn ++ K2, ca, N, by rw [sm.c]; exact ec, rfl, (List.perm_middle (l₁ := Gn) (a := p) (l₂ := dx :: K2)).trans (List.Perm.cons p (List.perm_middle (l₁ := Gn) (a := dx) (l₂ := K2))), k p (by simp) _ e3, k dx (by simp) _ e3', by simpa using e0, g3 R' H' s' Gn sm (fun a ha => k a (by simp [ha])) g⟩
      | i j => cases e
      | k j => cases e
      | m j => cases e
    | k ks ts =>
      cases st with
      | k j =>
        obtain ⟨p, vs, G, rfl, e2, e3, e0, e4⟩ := h
        obtain ⟨p', ks', vs', e5, e6, el, e7⟩ := st'
        cases e5
        rw [e3] at e6
        have l1 := rpl_len e4
        injection e6 with e6
        injection e6 with e6
        have ev : vs = vs' := zip_inj e6 (by omega) (by omega)
        subst ev
        obtain ⟨t', K1, K2, e8, pm, g2, g3⟩ := fin e4 e e7
        refine ⟨K1, p :: K2, e2.trans ((List.Perm.cons p pm).trans List.perm_middle.symm), g2, fun R' H' s' Gn sm k g => ?_⟩
        have se : setT (.k ks ts) (.k j :: q) s' = .k ks (ts.set j (setT t' q s')) := by
          show (match ts[j]? with | some t => T.k ks (ts.set j (setT t q s')) | none => .k ks ts) = _
          rw [e8]
        rw [se]
        exact ⟨p, vs, Gn ++ K2, rfl, List.perm_middle, k p (by simp) _ e3, by simpa using e0, g3 R' H' s' Gn sm (fun a ha => k a (by simp [ha])) g⟩
      | i j => cases e
      | f j => cases e
      | m j => cases e
    | m ks ts =>
      cases st with
      | m j =>
        obtain ⟨p, vs, G, rfl, e2, e3, e0, e4⟩ := h
        obtain ⟨p', ks', vs', e5, e6, el, e7⟩ := st'
        cases e5
        rw [e3] at e6
        have l1 := rpl_len e4
        injection e6 with e6
        injection e6 with e6
        have ev : vs = vs' := zip_inj e6 (by omega) (by omega)
        subst ev
        obtain ⟨t', K1, K2, e8, pm, g2, g3⟩ := fin e4 e e7
        refine ⟨K1, p :: K2, e2.trans ((List.Perm.cons p pm).trans List.perm_middle.symm), g2, fun R' H' s' Gn sm k g => ?_⟩
        have se : setT (.m ks ts) (.m j :: q) s' = .m ks (ts.set j (setT t' q s')) := by
          show (match ts[j]? with | some t => T.m ks (ts.set j (setT t q s')) | none => .m ks ts) = _
          rw [e8]
        rw [se]
        exact ⟨p, vs, Gn ++ K2, rfl, List.perm_middle, k p (by simp) _ e3, by simpa using e0, g3 R' H' s' Gn sm (fun a ha => k a (by simp [ha])) g⟩
      | i j => cases e
      | f j => cases e
      | k j => cases e
    | d x => cases st <;> cases e
    | t ts => cases st <;> cases e
    | r n => cases st <;> cases e
    | z => cases st <;> cases e
/-- a place of the slots or of a cell -/
theorem sr_focus {e : Env} {σ : L2.St} {F : List Addr} (s : Sr c R H e σ F) {i : Rt} {q : List Stp} {t : T} {u v : V} (g : getE e i q = some t) (hu : rootV R σ i = some u) (w : wk H u q v) : ∃ F1 F2, F.Perm (F1 ++ F2) ∧ Rp c.K R H t v F1 ∧
    (∀ (R' : RR) (H' : Hp) (t' : T) (G : List Addr), R.Le R' → R'.B = R.B → (∀ a ∈ F2, ∀ o, H a = some o → H' a = some o) → Rp c.K R' H' t' v G → RpE c.K R' H' (setE e i q t') σ (G ++ F2)) := by
  unfold getE at g
  cases e1 : getR e i with
  | none => rw [e1] at g; cases g
  | some t0 =>
    rw [e1] at g
    obtain ⟨A1, A2, pa, h1, h2⟩ := s.sl
    unfold setE
    rw [e1]
    cases i with
    | s i =>
      have e1' : (e.s[i]?).join = some t0 := e1
      have hu' : (σ[i]?).join = some u := hu
      cases e2 : e.s[i]? with
      | none => rw [e2] at e1'; cases e1'
      | some o =>
        rw [e2] at e1'
        cases (show o = some t0 from e1')
        obtain ⟨v0, F1, F2, q1, q2, q3, q4⟩ := rps_take h1 e2
        rw [q1] at hu'
        cases hu'
        obtain ⟨K1, K2, g1, g2, g3⟩ := rp_focus q q3 g w
        refine ⟨K1, K2 ++ F2 ++ A2, ?_, g2, fun R' H' t' G sm hB k gg => ?_⟩
        · refine pa.trans ((List.Perm.append_right A2 (q2.trans (List.Perm.append_right F2 g1))).trans ?_)
          simp only [List.append_assoc]
          exact .refl _
        · have r1 := g3 R' H' t' G sm (fun a ha => k a (by simp [ha])) gg
          have hi : i < e.s.length := (List.getElem?_eq_some_iff.mp e2).1
          have r2 := rps_put (i := i) (rps_up sm _ _ _ (fun a ha => k a (by simp [ha])) q4) (by simpa using hi) (fun t' z => by simp [hi] at z; exact z.symm) r1
          rw [List.set_set, set_self q1, List.append_assoc] at r2
          have r3 := rpl_up sm _ _ _ (fun a ha => k a (by simp [ha])) h2
          rw [← hB] at r3
          refine ⟨G ++ (K2 ++ F2), A2, by simp only [List.append_assoc]; exact .refl _, r2, r3⟩
    | c n =>
      have e1' : e.m[n]? = some t0 := e1
      have hu' : (R.B[n]?).map V.ref = some u := hu
      obtain ⟨v0, F1, F2, q1, q2, q3, q4⟩ := rpl_focus h2 e1'
      rw [List.getElem?_map, hu'] at q1
      cases q1
      obtain ⟨K1, K2, g1, g2, g3⟩ := rp_focus q q3 g w
      refine ⟨K1, A1 ++ (K2 ++ F2), ?_, g2, fun R' H' t' G sm hB k gg => ?_⟩
      · refine pa.trans ((List.Perm.append_left A1 (q2.trans (List.Perm.append_right F2 g1))).trans ?_)
        rw [← List.append_assoc, ← List.append_assoc, ← List.append_assoc, ← List.append_assoc]
        exact List.Perm.append_right _ (List.Perm.append_right _ List.perm_append_comm)
      · have r1 := g3 R' H' t' G sm (fun a ha => k a (by simp [ha])) gg
        have r2 := q4 R' H' _ u (G ++ K2) sm (fun a ha => k a (by simp [ha])) r1
        have e3 : (R.B.map V.ref).set n u = R.B.map V.ref := set_self (by rw [List.getElem?_map]; exact hu')
        rw [e3, ← hB] at r2
        refine ⟨A1, G ++ K2 ++ F2, ?_, rps_up sm _ _ _ (fun a ha => k a (by simp [ha])) h1, r2⟩
        rw [List.append_assoc, ← List.append_assoc, ← List.append_assoc A1]
        exact List.Perm.append_right _ List.perm_append_comm
/-- one object of a place changes -/
theorem sr_upd {e : Env} {σ : L2.St} {F : List Addr} (s : Sr c R H e σ F) {i : Rt} {q : List Stp} {t t' : T} {u : V} {p : Addr} {o : HO} {Gt : List Addr} (g : getE e i q = some t) (hu : rootV R σ i = some u) (w : wk H u q (.ref p)) (nd : (F ++ Gt).Nodup) (rf : ∀ a ∈ Gt, R a = none)
    (k : ∀ F1, Rp c.K R H t (.ref p) F1 → F1.Nodup → (∀ a ∈ Gt, a ∉ F1) → p ∈ F1 ∧ ∃ F1', Rp c.K R (upd H p o) t' (.ref p) F1' ∧ F1'.Nodup ∧ ∀ a ∈ F1', a ∈ F1 ∨ a ∈ Gt) :
    ∃ F', Sr c R (upd H p o) (setE e i q t') σ F' ∧ (∀ a ∈ F', a ∈ F ∨ a ∈ Gt) ∧ Ex R H F R (upd H p o) F := by
  obtain ⟨F1, F2, pm, h1, h2⟩ := sr_focus s g hu w
  have nd0 := pm.nodup_iff.mp s.nd
  have ndd := List.nodup_append.mp nd0
  obtain ⟨hp, F1', k1, k2, k3⟩ := k F1 h1 ndd.1 (fun a ha z => (List.nodup_append.mp nd).2.2 a (pm.mem_iff.mpr (List.mem_append_left _ z)) a ha rfl)
  have hpF : p ∈ F := pm.mem_iff.mpr (List.mem_append_left _ hp)
  have np : ∀ a ∈ F2, a ≠ p := fun a ha z => ndd.2.2 p hp a ha z.symm
  have r := h2 R (upd H p o) t' F1' (RR.Le.refl _) rfl (fun a ha x hx => by rw [upd_ne (np a ha)]; exact hx) k1
  have sub : ∀ a ∈ F1' ++ F2, a ∈ F ∨ a ∈ Gt := fun a ha => (List.mem_append.mp ha).elim (fun z => (k3 a z).elim (fun z => .inl (pm.mem_iff.mpr (List.mem_append_left _ z))) .inr) fun z => .inl (pm.mem_iff.mpr (List.mem_append_right _ z))
  refine ⟨F1' ++ F2, ⟨r, ?_, fun a x hx => ?_, fun a ha => (sub a ha).elim (s.rf a) (rf a), s.pn, s.fx, s.ct⟩, sub, ⟨RR.Le.refl _, fun a x hx hF => by rw [upd_ne (fun z => hF (by rw [z]; exact hpF))]; exact hx, fun a h => .inl h, fun a h => .inl h⟩⟩
  · refine List.nodup_append.mpr ⟨k2, ndd.2.1, fun a ha b hb z => ?_⟩
    subst z
    rcases k3 a ha with q1 | q1
    · exact ndd.2.2 a q1 a hb rfl
    · exact (List.nodup_append.mp nd).2.2 a (pm.mem_iff.mpr (List.mem_append_right _ hb)) a q1 rfl
  · have ne : a ≠ p := fun z => by rw [z, s.rf p hpF] at hx; cases hx
    rw [upd_ne ne]
    exact s.rh a x hx
end
/-! ## places as values of expressions -/
/-- where a value stands -/
def plc : W → Option (Rt × List Stp)
  | .p i q => some (i, q)
  | .t (.r n) => some (.c n, [])
  | _ => none
theorem plc_ok {K : PySem.W.Frag} {R : RR} {H : Hp} {σ : L2.St} {r : W} {i : Rt} {q : List Stp} {v : V} {G : List Addr} (h : Rw K R H σ r v G) (e : plc r = some (i, q)) : G = [] ∧ ∃ u, rootV R σ i = some u ∧ wk H u q v := by
  cases r with
  | p i' q' => cases e; exact h
  | t t =>
    cases t with
    | r n =>
      cases e
      obtain ⟨rfl, p, h1, h2⟩ := h
      exact ⟨rfl, .ref p, by show (R.B[n]?).map V.ref = _; rw [h1]; rfl, h2.symm⟩
    | _ => cases e
  | v x => cases e
  | b ds => cases e
/-- a place that was found stays what it is -/
def stb (w : Bool) (q : List Stp) : Bool := !w || q.isEmpty
theorem stay {R R' : RR} {H H' : Hp} {w : Bool} {q : List Stp} {u v : V} (h : stb w q = true) (g : w = false → Gr R H R' H') (k : wk H u q v) : wk H' u q v := by
  cases w with
  | false => exact wk_up (g rfl).hh k
  | true =>
    have : q = [] := by simpa [stb] using h
    subst this
    exact k
/-- an item of what is read as one -/
def rdI (t : T) (i : Rt) (q : List Stp) (z : Int) : Option W := match t with
  | .l ts => match ixN ts.length z with
    | some j => (ts[j]?).map fun t => rdP t i (q ++ [.i j])
    | none => none
  | _ => none
/-- e[k] of a list: the item, or its place -/
def dPix (d : Env → Res) (dk : Env → RV) : Env → Res := fun e => match d e with
  | .ok r e1 w1 => match plc r with
    | some (i, q) => match dk e1 with
      | .ok (.int z) _ e2 w2 => if stb w2 q then match getE e2 i q with
          | some t => match rdI t i q z with
            | some r2 => .ok r2 e2 (w1 || w2)
            | none => .no
          | none => .no
        else .no
      | .er C fs e2 => .er C fs e2
      | _ => .no
    | none => .no
  | .er C fs e1 => .er C fs e1
  | .no => .no
/-- e.f of an object: what the field holds, or its place -/
def dPfld (d : Env → Res) (C j : Nat) : Env → Res := fun e => match d e with
  | .ok r e1 w1 => match plc r with
    | some (i, q) => match getE e1 i q with
      | some (.o C' ts) => if C' = C then match ts[j]? with
          | some t => .ok (rdP t i (q ++ [.f j])) e1 w1
          | none => .no
        else .no
      | _ => .no
    | none => .no
  | .er C fs e1 => .er C fs e1
  | .no => .no
theorem wk_snoc {H : Hp} {st : Stp} {m v : V} : ∀ {q : List Stp} {u : V}, wk H u q m → StepH H m st v → wk H u (q ++ [st]) v
  | [], u, h, s => by cases (show u = m from h); exact ⟨v, s, rfl⟩
  | x :: q, u, ⟨n, h, w⟩, s => ⟨n, h, wk_snoc w s⟩
theorem Ex.zero {R R' : RR} {H H' : Hp} {F F' : List Addr} (x : Ex R H F R' H' (F' ++ [])) : Ex R H F R' H' F' := by simpa using x
section
variable {X : Cx} {c : Ctx} {a b : Expr} {d : Env → Res} {dk : Env → RV} {pos : Pos}
theorem de_pix (ha : PE X a (tD c d)) (hb : PE X b (tV c dk)) (hp : PlainIx b) (hK : X.K = c.K := by rfl) : PE X (.Subscript a b pos) (tD c (dPix d dk)) := by
  refine PE.imp (pe_ix ix_list ha hb hp) fun σ H Q ⟨e, R, F, s, p⟩ => ⟨e, R, F, s, ?_⟩
  rw [hK]
  unfold dPix at p
  cases h1 : d e with
  | no => simp only [h1] at p; exact p
  | er C fs e1 => simp only [h1] at p; exact p
  | ok r e1 w1 =>
    intro R1 H1 F1 G v s1 rw1 nd rf ex hw
    cases hp : plc r with
    | none => simp only [h1, hp] at p; exact p.elim
    | some iq =>
      obtain ⟨i, q⟩ := iq
      simp only [h1, hp] at p
      obtain ⟨rfl, u, hu, k1⟩ := plc_ok rw1 hp
      refine ⟨e1, R1, F1, s1, ?_⟩
      cases h2 : dk e1 with
      | no => simp only [h2] at p; exact p.elim
      | er C fs e2 =>
        simp only [h2] at p
        exact fun R2 H2 F2 dd s2 rx ex2 => p R2 H2 F2 dd s2 rx (ex.zero.trans ex2)
      | ok x bb e2 w2 =>
        cases x with
        | int z =>
          simp only [h2] at p
          intro R2 H2 F2 y s2 sd2 ex2 hw2
          by_cases hs : stb w2 q = true
          · rw [if_pos hs] at p
            have k2 := stay hs hw2 k1
            have hu2 := rootV_up ex2.rr hu
            cases h3 : getE e2 i q with
            | none => simp only [h3] at p; exact p.elim
            | some t =>
              simp only [h3] at p
              cases t with
              | l ts =>
                have p2 : PostE c σ R H F Q (match (match ixN ts.length z with | some j => (ts[j]?).map fun t => rdP t i (q ++ [.i j]) | none => none) with | some r2 => .ok r2 e2 (w1 || w2) | none => .no) := p
                cases h4 : ixN ts.length z with
                | none => simp only [h4] at p2; exact p2.elim
                | some j =>
                  simp only [h4] at p2
                  cases h5 : ts[j]? with
                  | none => simp only [h5] at p2; exact p2.elim
                  | some t =>
                    simp only [h5] at p2
                    obtain ⟨K1, K2, pm, kk, _⟩ := sr_focus s2 h3 hu2 k2
                    obtain ⟨pa, vs, Gv, rfl, q1, q2, q3⟩ := kk
                    have hj : j < ts.length := (ixN_seq h4).2.1
                    have hl := rpl_len q3
                    have hv : vs[j]? = some vs[j] := List.getElem?_eq_getElem (by omega)
                    obtain ⟨G2, r1, _⟩ := rpl_key ts vs Gv j q3 h5 hv
                    refine ⟨pa, vs, z, vs[j], rfl, sd_int sd2, .of q2, ?_, ?_⟩
                    · unfold atI
                      rw [show ixN vs.length z = some j by rw [hl]; exact h4]
                      exact hv
                    · exact p2 R2 H2 F2 [] _ s2 (rdP_ok hu2 (wk_snoc k2 ⟨pa, vs, rfl, q2, hv⟩) r1) (by simpa using s2.nd) (by simp) (by simpa using ex.zero.trans ex2) (fun z => ⟨(hw (or_ff z).1).1.trans (hw2 (or_ff z).2), by simp⟩)
              | _ => exact p.elim
          · rw [if_neg hs] at p; exact p.elim
        | _ => simp only [h2] at p; exact p.elim
end
/-! ## append -/
def isL : Option T → Bool
  | some (.l _) => true
  | _ => false
/-- xs.append(e) -/
def vApp (d : Env → Res) (dx : Env → Res) : Env → RV := fun e => match d e with
  | .ok r e1 _ => match plc r with
    | some (i, q) => if isL (getE e1 i q) then match dx e1 with
      | .ok r2 e2 w2 => if stb w2 q then match tOf r2 with
        | some t => match getE e2 i q with
          | some (.l ts) => if ts.length < SZ then .ok .none false (setE e2 i q (.l (ts ++ [t]))) true else .no
          | _ => .no
        | none => .no
        else .no
      | .er C fs e2 => .er C fs e2
      | .no => .no
      else .no
    | none => .no
  | .er C fs e1 => .er C fs e1
  | .no => .no
theorem isL_ok {c : Ctx} {R : RR} {H : Hp} {e : Env} {σ : L2.St} {F : List Addr} (s : Sr c R H e σ F) {i : Rt} {q : List Stp} {u v : V} (h : isL (getE e i q) = true) (hu : rootV R σ i = some u) (w : wk H u q v) : tyV c.K "list" v H := by
  cases h1 : getE e i q with
  | none => rw [h1] at h; cases h
  | some t =>
    rw [h1] at h
    cases t with
    | l ts =>
      obtain ⟨K1, K2, pm, k1, _⟩ := sr_focus s h1 hu w
      obtain ⟨pa, vs, Gv, rfl, q1, q2, q3⟩ := k1
      exact .inl ⟨rfl, _, .of q2⟩
    | _ => cases h
theorem rpl_snoc {K : PySem.W.Frag} {R : RR} {H : Hp} {t : T} {v : V} {G : List Addr} (h : Rp K R H t v G) : ∀ {ts : List T} {vs : List V} {F : List Addr}, RpL K R H ts vs F → RpL K R H (ts ++ [t]) (vs ++ [v]) (F ++ G)
  | [], vs, F, h' => by
    rw [h'.1, h'.2]
    exact ⟨v, [], G, [], rfl, by simp, h, rfl, rfl⟩
  | t0 :: ts, vs, F, h' => by
    obtain ⟨v0, r, F1, F2, rfl, pm, h1, h2⟩ := h'
    refine ⟨v0, r ++ [v], F1, F2 ++ G, rfl, ?_, h1, rpl_snoc h h2⟩
    rw [← List.append_assoc]
    exact List.Perm.append_right G pm
/-- a list at a place becomes another one, that holds what is new -/
theorem sr_list {c : Ctx} {R : RR} {H : Hp} {e : Env} {σ : L2.St} {F : List Addr} (s : Sr c R H e σ F) {i : Rt} {q : List Stp} {ts ts' : List T} {u v : V} {Gt : List Addr} (g : getE e i q = some (.l ts)) (hu : rootV R σ i = some u) (w : wk H u q v) (nd : (F ++ Gt).Nodup) (rf : ∀ a ∈ Gt, R a = none) (dm : ∀ a ∈ Gt, H a ≠ none) :
    ∃ p vs, v = .ref p ∧ H p = some (.lst vs) ∧ vs.length = ts.length ∧ (∃ Gw, RpL c.K R H ts vs Gw) ∧ ∀ vs', (∀ Gw, RpL c.K R H ts vs Gw → Gw.Nodup → (∀ a ∈ Gt, a ∉ Gw) → ∃ G', RpL c.K R H ts' vs' G' ∧ G'.Nodup ∧ ∀ a ∈ G', a ∈ Gw ∨ a ∈ Gt) →
      ∃ F', Sr c R (upd H p (.lst vs')) (setE e i q (.l ts')) σ F' ∧ (∀ a ∈ F', a ∈ F ∨ a ∈ Gt) ∧ Ex R H F R (upd H p (.lst vs')) F := by
  obtain ⟨K1, K2, pm, k1, _⟩ := sr_focus s g hu w
  obtain ⟨pa, vs, Gv, rfl, q1, q2, q3⟩ := k1
  refine ⟨pa, vs, rfl, q2, rpl_len q3, ⟨_, q3⟩, fun vs' hk => ?_⟩
  refine sr_upd s g hu w nd rf fun F1 h1 hn hd => ?_
  obtain ⟨pb, ws, Gw, e1, m1, m2, m3⟩ := h1
  cases e1
  rw [q2] at m2
  cases m2
  have hpa : pa ∈ F1 := m1.mem_iff.mpr (by simp)
  have nd1 := m1.nodup_iff.mp hn
  have npa : pa ∉ Gw := (List.nodup_cons.mp nd1).1
  have npG : pa ∉ Gt := fun z => hd pa z hpa
  obtain ⟨G', l1, l2, l3⟩ := hk Gw m3 (List.nodup_cons.mp nd1).2 (fun a ha z => hd a ha (m1.mem_iff.mpr (List.mem_cons_of_mem _ z)))
  have npG' : pa ∉ G' := fun z => (l3 pa z).elim npa npG
  refine ⟨hpa, pa :: G', ⟨pa, vs', G', rfl, .refl _, upd_same, rpl_up (RR.Le.refl _) _ _ _ (fun a ha o ho => ?_) l1⟩, List.nodup_cons.mpr ⟨npG', l2⟩, ?_⟩
  · rw [upd_ne (fun z => npG' (by rw [← z]; exact ha))]; exact ho
  · intro a ha
    rcases List.mem_cons.mp ha with rfl | ha
    · exact .inl hpa
    · exact (l3 a ha).elim (fun z => .inl (m1.mem_iff.mpr (List.mem_cons_of_mem _ z))) .inr
/-- a change of one object, behind what led to it -/
theorem Ex.upd {R R2 : RR} {H H2 H3 : Hp} {F F2 F3 G2 : List Addr} (x1 : Ex R H F R2 H2 (F2 ++ G2)) (f3 : ∀ a ∈ F3, a ∈ F2 ∨ a ∈ G2) (ex3 : Ex R2 H2 F2 R2 H3 F2) : Ex R H F R2 H3 F3 := ⟨x1.rr, fun a o h hF => by
  have n1 : a ∉ F2 := fun z => by
    rcases x1.fn a (List.mem_append_left _ z) with z | z
    · exact hF z
    · rw [h] at z; cases z
  exact ex3.hh a o (x1.hh a o h hF) n1, x1.rn, fun a ha => x1.fn a ((f3 a ha).elim (List.mem_append_left _) (List.mem_append_right _))⟩
section
variable {X : Cx} {c : Ctx} {a b : Expr} {d dx : Env → Res} {dk : Env → RV} {pos apos cpos : Pos}
theorem ve_append (ha : PE X a (tD c d)) (hb : PE X b (tD c dx)) (hK : X.K = c.K := by rfl) (hbase : attributeBase a "append" X.env (eval a X.env) = eval a X.env := by rfl)
    (hfew : ((backTo cpos (starEach [b] X.env)).all (fun x => !x.1) && (backToKw cpos (keywordEach [] X.env)).all (fun x => x.1.isSome)
      && decide ([b].length + ([] : List Keyword).length + (if ([] : List Keyword).isEmpty then 0 else 1) < 30)) = true := by rfl)
    (hline : (apos.endLine == cpos.line) = true := by rfl) (hs : starEach [b] X.env = (false, eval b X.env) :: starEach [] X.env := by rfl) (hplain : (backTo cpos (starEach [] X.env)).any (·.1) = false := by rfl) :
    PE X (.Call (.Attribute a "append" apos) [b] [] cpos) (tV c (vApp d dx)) := by
  refine PE.imp (pe_bm PySem.F.plainAttrs_list PySem.F.slot_list_append PySem.F.type_list_append mt_append ha (pa_cons hb pa_nil hs) hbase hfew hline hs hplain) fun σ H Q ⟨e, R, F, s, p⟩ => ⟨e, R, F, s, ?_⟩
  unfold vApp at p
  cases h1 : d e with
  | no => simp only [h1] at p; exact p
  | er C fs e1 => simp only [h1] at p; exact p
  | ok r e1 w =>
    intro R1 H1 F1 G v s1 rw1 nd rf ex hw
    cases hp : plc r with
    | none => simp only [h1, hp] at p; exact p.elim
    | some iq =>
      obtain ⟨i, q⟩ := iq
      simp only [h1, hp] at p
      obtain ⟨rfl, u, hu, k1⟩ := plc_ok rw1 hp
      by_cases hL : isL (getE e1 i q) = true
      rotate_left
      · rw [if_neg hL] at p; exact p.elim
      rw [if_pos hL] at p
      rw [hK]
      have ty := isL_ok s1 hL hu k1
      refine ⟨ty, e1, R1, F1, s1, ?_⟩
      cases h2 : dx e1 with
      | no => simp only [h2] at p; exact p.elim
      | er C fs e2 =>
        simp only [h2] at p
        exact fun R2 H2 F2 dd s2 rx ex2 => p R2 H2 F2 dd s2 rx (ex.zero.trans ex2)
      | ok r2 e2 w2 =>
        simp only [h2] at p
        intro R2 H2 F2 G2 y s2 rw2 nd2 rf2 ex2 hw2
        by_cases hs : stb w2 q = true
        rotate_left
        · rw [if_neg hs] at p; exact p.elim
        rw [if_pos hs] at p
        cases h3 : tOf r2 with
        | none => simp only [h3] at p; exact p.elim
        | some t =>
          simp only [h3] at p
          cases h4 : getE e2 i q with
          | none => simp only [h4] at p; exact p.elim
          | some t0 =>
            cases t0 with
            | l ts =>
              simp only [h4] at p
              by_cases hz : ts.length < SZ
              · rw [if_pos hz] at p
                have k2 := stay hs (fun z => (hw2 z).1) k1
                have hy := tOf_ok rw2 h3
                obtain ⟨pa, vs, rfl, q2, hl, _, kk⟩ := sr_list (ts' := ts ++ [t]) s2 h4 (rootV_up ex2.rr hu) k2 nd2 rf2 (rp_dom _ _ _ hy)
                refine ⟨pa, vs, y, rfl, rfl, q2, by rw [hl, ← sz_eq]; exact hz, ?_⟩
                obtain ⟨F3, s3, f3, ex3⟩ := kk (vs ++ [y]) fun Gw m3 n1 n2 => ⟨Gw ++ G2, rpl_snoc hy m3, List.nodup_append.mpr ⟨n1, (List.nodup_append.mp nd2).2.1, fun a ha b hb z => n2 b hb (z ▸ ha)⟩, fun a ha => List.mem_append.mp ha⟩
                exact p R2 _ F3 .non s3 .non (Ex.upd (ex.zero.trans ex2) f3 ex3) (fun z => by cases z)
              · rw [if_neg hz] at p; exact p.elim
            | _ => simp only [h4] at p; exact p.elim
end
end En
namespace En
open PySem PySem.Spec PyProof.Rows L2
/-! ## xs[k] = e -/
def sPut (d : Env → Res) (dk : Env → RV) (dv : Env → Res) : Env → Out := fun e => match dv e with
  | .ok r e1 _ => match tOf r with
    | some t => match d e1 with
      | .ok r2 e2 _ => match plc r2 with
        | some (i, q) => match dk e2 with
          | .ok (.int z) _ e3 w3 => if stb w3 q then match getE e3 i q with
            | some (.l ts) => match ixN ts.length z with
              | some j => .nx (setE e3 i q (.l (ts.set j t)))
              | none => .no
            | _ => .no
            else .no
          | .er C fs e3 => .er C fs e3
          | _ => .no
        | none => .no
      | .er C fs e2 => .er C fs e2
      | .no => .no
    | none => .no
  | .er C fs e1 => .er C fs e1
  | .no => .no
/-- what is held beside stays, as a value -/
structure Hold (K : PySem.W.Frag) (R : RR) (H : Hp) (F : List Addr) (t : T) (v : V) (G : List Addr) : Prop where
  rp : Rp K R H t v G
  nd : (F ++ G).Nodup
  rf : ∀ a ∈ G, R a = none
theorem Hold.go {K : PySem.W.Frag} {R R' : RR} {H H' : Hp} {F F' G : List Addr} {t : T} {v : V} (h : Hold K R H F t v G) (ex : Ex R H F R' H' F') (nd : F'.Nodup) : Hold K R' H' F' t v G := by
  obtain ⟨k1, k2, k3⟩ := frame (K := K) (ex := ex) h.nd h.rf (rp_dom _ _ _ h.rp)
  exact ⟨rp_up ex.rr _ _ _ k1 h.rp, List.nodup_append.mpr ⟨nd, (List.nodup_append.mp h.nd).2.1, fun x hx y hy z => by subst z; exact k3 x hx hy⟩, k2⟩
/-- .. beside a way -/
theorem Ex.beside {R R1 R2 : RR} {H H1 H2 : Hp} {F F1 F2 G : List Addr} (x : Ex R H F R1 H1 (F1 ++ G)) (y : Ex R1 H1 F1 R2 H2 F2) : Ex R H F R2 H2 (F2 ++ G) :=
  x.trans ⟨y.rr, fun a o h z => y.hh a o h fun q => z (List.mem_append_left _ q), fun a h => (y.rn a h).elim .inl fun z => .inr (z.elim (fun q => .inl (List.mem_append_left _ q)) .inr), fun a ha => (List.mem_append.mp ha).elim (fun z => (y.fn a z).elim (fun q => .inl (List.mem_append_left _ q)) .inr) fun z => .inl (List.mem_append_right _ z)⟩
theorem rpl_set {K : PySem.W.Frag} {R : RR} {H : Hp} {t : T} {v : V} {G : List Addr} {ts : List T} {vs : List V} {F : List Addr} {j : Nat} (h : RpL K R H ts vs F) (hj : j < ts.length) (hv : Rp K R H t v G) : ∃ F1 F2, F.Perm (F1 ++ F2) ∧ RpL K R H (ts.set j t) (vs.set j v) (G ++ F2) := by
  obtain ⟨u, F1, F2, _, pm, _, k⟩ := rpl_focus h (List.getElem?_eq_getElem hj)
  exact ⟨F1, F2, pm, k R H t v G (RR.Le.refl _) (fun _ _ _ x => x) hv⟩
section
variable {X : Cx} {c : Ctx} {o k v : Expr} {d dv : Env → Res} {dk : Env → RV} {pos pos' : Pos}
theorem se_put (hv : PE X v (tD c dv)) (ho : PE X o (tD c d)) (hk : PE X k (tV c dk)) (hs : swapsWithSole [.Subscript o k pos'] v pos.line X.env = pure false := by rfl) (hw : swappedStores [.Subscript o k pos'] v X.env = pure none := by rfl)
    (h1 : (assignEach [.Subscript o k pos'] X.env).map (·.2) = [assign (.Subscript o k pos') X.env] := by rfl)
    (ha : ∀ v, assign (.Subscript o k pos') X.env v = (do
      let ov ← holding [v] (eval o X.env)
      let iv ← holding [v, ov] (eval k X.env)
      standAt pos'
      holding [v, ov, iv] (setItem ov iv v)
      release [v, ov, iv] []) := by intro _; rfl) : PS X (.Assign [.Subscript o k pos'] v pos) (tS c (sPut d dk dv)) := by
  refine PS.imp (ps_asg hv (pg_sub ho hk set_list ha) hs hw h1) fun D σ H ⟨e, R, F, s, p⟩ => ⟨e, R, F, s, ?_⟩
  unfold sPut at p
  cases h1 : dv e with
  | no => simp only [h1] at p; exact p
  | er C fs e1 =>
    simp only [h1] at p
    exact fun R' H' F' x s' rx ex => p σ R' H' F' x s' rx ex
  | ok r e1 w =>
    simp only [h1] at p
    intro R1 H1 F1 G y s1 rw1 nd1 rf1 ex1 _
    cases h2 : tOf r with
    | none => simp only [h2] at p; exact p.elim
    | some t =>
      simp only [h2] at p
      have hy : Hold c.K R1 H1 F1 t y G := ⟨tOf_ok rw1 h2, nd1, rf1⟩
      refine ⟨e1, R1, F1, s1, ?_⟩
      cases h3 : d e1 with
      | no => simp only [h3] at p; exact p.elim
      | er C fs e2 =>
        simp only [h3] at p
        exact fun R2 H2 F2 x s2 rx ex2 => p σ R2 H2 F2 x s2 rx ((ex1.beside ex2).mono fun a ha => List.mem_append_left _ ha)
      | ok r2 e2 w2 =>
        intro R2 H2 F2 G2 ov s2 rw2 nd2 rf2 ex2 hw2
        cases hp : plc r2 with
        | none => simp only [h3, hp] at p; exact p.elim
        | some iq =>
          obtain ⟨i, q⟩ := iq
          simp only [h3, hp] at p
          obtain ⟨rfl, u, hu, k1⟩ := plc_ok rw2 hp
          have ex2 := ex2.zero
          have hy2 := hy.go ex2 s2.nd
          refine ⟨e2, R2, F2, s2, ?_⟩
          cases h4 : dk e2 with
          | no => simp only [h4] at p; exact p.elim
          | er C fs e3 =>
            simp only [h4] at p
            exact fun R3 H3 F3 x s3 rx ex3 => p σ R3 H3 F3 x s3 rx (((ex1.beside ex2).beside ex3).mono fun a ha => List.mem_append_left _ ha)
          | ok x bb e3 w3 =>
            cases x with
            | int z =>
              simp only [h4] at p
              intro R3 H3 F3 kv s3 sd3 ex3 hw3
              by_cases hst : stb w3 q = true
              rotate_left
              · rw [if_neg hst] at p; exact p.elim
              rw [if_pos hst] at p
              have k2 := stay hst hw3 k1
              have hy3 := hy2.go ex3 s3.nd
              cases h5 : getE e3 i q with
              | none => simp only [h5] at p; exact p.elim
              | some t0 =>
                cases t0 with
                | l ts =>
                  simp only [h5] at p
                  cases h6 : ixN ts.length z with
                  | none => simp only [h6] at p; exact p.elim
                  | some j =>
                    simp only [h6] at p
                    obtain ⟨j1, j2, j3⟩ := ixN_seq h6
                    obtain ⟨pa, vs, rfl, q2, hl, _, kk⟩ := sr_list (ts' := ts.set j t) s3 h5 (rootV_up ex3.rr hu) k2 hy3.nd hy3.rf (rp_dom _ _ _ hy3.rp)
                    obtain ⟨F4, s4, f4, ex4⟩ := kk (vs.set j y) fun Gw m3 n1 n2 => by
                      obtain ⟨A1, A2, pm, l1⟩ := rpl_set m3 j2 hy3.rp
                      have nn := List.nodup_append.mp (pm.nodup_iff.mp n1)
                      refine ⟨G ++ A2, l1, List.nodup_append.mpr ⟨(List.nodup_append.mp nd1).2.1, nn.2.1, fun a ha b hb z => n2 a ha (pm.mem_iff.mpr (List.mem_append_right _ (z ▸ hb)))⟩, fun a ha => (List.mem_append.mp ha).elim .inr fun z => .inl (pm.mem_iff.mpr (List.mem_append_right _ z))⟩
                    cases sd_int sd3
                    exact ⟨pa, vs, z, j, rfl, rfl, q2, by rw [hl]; exact h6, p σ R3 _ F4 s4 (Ex.upd ((ex1.beside ex2).beside ex3) f4 ex4)⟩
                | _ => simp only [h5] at p; exact p.elim
            | _ => simp only [h4] at p; exact p.elim
end
def fInt : PyData → Option PyData
  | .int i => some (.int i)
  | .bool b => some (.int (if b then 1 else 0))
  | .str z => if z.length ≤ 640 then (PySem.intText? z).map .int else none
  | _ => none
def rIntA : List V → Hp → VK → Prop := fun xs H Q => ((∃ i, xs = [.int i] ∧ Q (.int i) H) ∨ ∃ k, xs = [.bl k] ∧ Q (.int (if k then 1 else 0)) H) ∨ ∃ a n, xs = [.str a] ∧ PySem.intText? a = some n ∧ a.length ≤ 640 ∧ Q (.int n) H
theorem call_intA {X : Cx} : CallR X (.type "int") rIntA := callr_or call_int1 call_int_str
theorem sc_int {K : PySem.W.Frag} : Sc1 K (fun v => rIntA [v]) fInt := by
  intro R H v x b z Q rh s e k
  unfold fInt at e
  split at e
  · cases e; exact .inl (.inl ⟨_, by rw [sd_int s], sc_here rh k (.int _)⟩)
  · cases e; exact .inl (.inr ⟨_, by rw [sd_bool s], sc_here rh k (.int _)⟩)
  · split at e
    · rename_i sx hl
      cases h : PySem.intText? sx with
      | none => rw [h] at e; cases e
      | some n => rw [h] at e; cases e; exact .inr ⟨_, n, by rw [sd_str s], h, hl, sc_here rh k (.int _)⟩
    · cases e
  · cases e
def fLs : PyData → Option (List PyData)
  | .list ds => some ds
  | .tuple ds => some ds
  | _ => none
theorem sl_list {K : PySem.W.Frag} : Sl1 K (fun v H Q => ∃ p ys, [v] = [.ref p] ∧ (SqL K H p ys ∨ SqT K H p ys) ∧ ∀ l, H l = none → Q (.ref l) (upd H l (.lst ys))) fLs := by
  intro R H v x b z Q rh s e k
  unfold fLs at e
  split at e
  · cases e
    obtain ⟨p, vs, rfl, h2, h3⟩ := sd_list s rh
    exact ⟨p, vs, rfl, .inl h2, fun l hl => k l vs hl h3⟩
  · cases e
    obtain ⟨p, vs, rfl, h2, _, h3⟩ := sd_tup s rh
    exact ⟨p, vs, rfl, .inr h2, fun l hl => k l vs hl h3⟩
  · cases e
def fTp : PyData → Option PyData
  | .list ds => some (.tuple ds)
  | .tuple ds => some (.tuple ds)
  | _ => none
theorem sc_tuple {K : PySem.W.Frag} : Sc1 K (fun v H Q => ∃ p ys, [v] = [.ref p] ∧ ((SqL K H p ys ∧ ∀ l, H l = none → Q (.ref l) (upd H l (.tup ys))) ∨ (SqT K H p ys ∧ Q (.ref p) H))) fTp := by
  intro R H v x b z Q rh s e k
  unfold fTp at e
  split at e
  · cases e
    obtain ⟨p, vs, rfl, h2, h3⟩ := sd_list s rh
    exact ⟨p, vs, rfl, .inl ⟨h2, fun l hl => k _ _ _ (Gr.new rh hl) (.tup (.of upd_same) (dpa_up (same_new (rh.free hl)) _ _ h3))⟩⟩
  · cases e
    obtain ⟨p, vs, rfl, h2, h2', h3⟩ := sd_tup s rh
    exact ⟨p, vs, rfl, .inr ⟨h2, sc_here rh k (.tup h2' h3)⟩⟩
  · cases e
def dty : PyData → String
  | .none => "NoneType"
  | .bool _ => "bool"
  | .int _ => "int"
  | .str _ => "str"
  | .list _ => "list"
  | .tuple _ => "tuple"
  | .dict _ => "dict"
def fIsi (T : String) : PyData → Option PyData := fun x => (kitB (dty x) T).map .bool
theorem sd_ty {K : PySem.W.Frag} {R : RR} {H : Hp} {v : V} {x : PyData} {b : Bool} (h : Sd K R H v x b) (rh : Same R H) : TyX K H v (.type (dty x)) := by
  have d := h.dp rh
  cases d with
  | non => exact .base .non
  | bl y => exact .base (.bl y)
  | int i => exact .base (.int i)
  | str y => exact .base (.str y)
  | lst hs ha =>
    rcases hs with (h | ⟨o, h⟩) | ⟨o, its, n, h1, h2, _⟩
    · exact .base (.lst h)
    · exact .base (.frz h)
    · exact .kList h1 h2
  | tup hs ha =>
    rcases hs with (h | ⟨o, h⟩) | ⟨o, its, n, h1, h2, _⟩
    · exact .base (.tup h)
    · exact .fTuple h
    · exact .kTuple h1 h2
section
variable {X : Cx} {c : Ctx} {a b : Expr} {d d1 d2 : Env → RV} {p pos : Pos} {x : Str}
theorem ve_isi {T : String} (hg : Gl X x) (hm : X.mg x = none) (hv : bootBuiltins x = some (.builtin "isinstance")) (ha : PA X [a, b] (tCons (tV c d) (tCons (tC (.ty T)) tNil))) (hK : X.K = c.K := by rfl) (hn : x ≠ "__name__" := by decide) (hdb : (x == ("__debug__" : Str)) = false := by decide)
    (he : starEach [a, b] X.env = (false, eval a X.env) :: starEach [b] X.env := by rfl) (hpl : (backTo pos (starEach [b] X.env)).any (·.1) = false := by rfl) : PE X (.Call (.Name x p) [a, b] [] pos) (tV c (v1 (fIsi T) d)) := by
  refine PE.imp (pe_callB call_isi hg hm hv ha hn hdb he hpl) fun σ H Q h => ?_
  rw [hK]
  refine v1_ok (r := fun v H Q => rIsi c.K [v, .ty T] H Q) (fun R H v x b z Q rh s e k => ?_) h
  unfold fIsi at e
  cases h : kitB (dty x) T with
  | none => rw [h] at e; cases e
  | some y =>
    rw [h] at e
    cases e
    exact ⟨v, .ty T, .type (dty x), .type T, y, rfl, .ty T, sd_ty s rh, kit_ty h, sc_here rh k (.bl _)⟩
end
def allI : List PyData → Option (List Int)
  | [] => some []
  | .int i :: r => (allI r).map (i :: ·)
  | _ => none
def allB : List PyData → Option (List Bool)
  | [] => some []
  | .bool i :: r => (allB r).map (i :: ·)
  | _ => none
theorem allI_of : ∀ {ds : List PyData} {ns : List Int}, allI ds = some ns → ds = ns.map PyData.int
  | [], ns, h => by cases (show some [] = some ns from h); rfl
  | .int i :: r, ns, h => by
    have h' : (allI r).map (i :: ·) = some ns := h
    cases q : allI r with
    | none => rw [q] at h'; cases h'
    | some ms => rw [q] at h'; cases h'; rw [allI_of q]; rfl
  | .none :: _, _, h => by cases h
  | .bool _ :: _, _, h => by cases h
  | .str _ :: _, _, h => by cases h
  | .list _ :: _, _, h => by cases h
  | .tuple _ :: _, _, h => by cases h
  | .dict _ :: _, _, h => by cases h
theorem allB_of : ∀ {ds : List PyData} {ns : List Bool}, allB ds = some ns → ds = ns.map PyData.bool
  | [], ns, h => by cases (show some [] = some ns from h); rfl
  | .bool i :: r, ns, h => by
    have h' : (allB r).map (i :: ·) = some ns := h
    cases q : allB r with
    | none => rw [q] at h'; cases h'
    | some ms => rw [q] at h'; cases h'; rw [allB_of q]; rfl
  | .none :: _, _, h => by cases h
  | .int _ :: _, _, h => by cases h
  | .str _ :: _, _, h => by cases h
  | .list _ :: _, _, h => by cases h
  | .tuple _ :: _, _, h => by cases h
  | .dict _ :: _, _, h => by cases h
theorem dpa_bools : ∀ {K : PySem.W.Frag} {R : RR} {vs : List V} {ns : List Bool}, DpAll K R vs (ns.map PyData.bool) → vs = ns.map V.bl
  | _, _, _, [], h => by cases h; rfl
  | _, _, _, n :: ns, h => by
    cases h with
    | cons h1 h2 =>
      cases h1
      rw [dpa_bools h2]
      rfl
def fSum : PyData → Option PyData
  | .list ds => (allI ds).map fun ns => .int ns.sum
  | _ => none
theorem sc_sum {K : PySem.W.Frag} : Sc1 K (fun v => rSum K [v]) fSum := by
  intro R H v x b z Q rh s e k
  unfold fSum at e
  split at e
  · rename_i ds
    cases q : allI ds with
    | none => rw [q] at e; cases e
    | some ns =>
      rw [q] at e
      cases e
      have := allI_of q
      subst this
      obtain ⟨p, vs, rfl, h2, h3⟩ := sd_list s rh
      have := dpa_ints h3
      subst this
      exact ⟨p, ns, rfl, h2, sc_here rh k (.int _)⟩
  · cases e
def fAny : PyData → Option PyData
  | .list ds => (allB ds).map fun ns => .bool (ns.any id)
  | _ => none
def fAll : PyData → Option PyData
  | .list ds => (allB ds).map fun ns => .bool (ns.all id)
  | _ => none
theorem sc_any {K : PySem.W.Frag} : Sc1 K (fun v => rAny K [v]) fAny := by
  intro R H v x b z Q rh s e k
  unfold fAny at e
  split at e
  · rename_i ds
    cases q : allB ds with
    | none => rw [q] at e; cases e
    | some ns =>
      rw [q] at e
      cases e
      have := allB_of q
      subst this
      obtain ⟨p, vs, rfl, h2, h3⟩ := sd_list s rh
      have := dpa_bools h3
      subst this
      exact ⟨p, ns, rfl, h2, sc_here rh k (.bl _)⟩
  · cases e
theorem sc_all {K : PySem.W.Frag} : Sc1 K (fun v => rAll K [v]) fAll := by
  intro R H v x b z Q rh s e k
  unfold fAll at e
  split at e
  · rename_i ds
    cases q : allB ds with
    | none => rw [q] at e; cases e
    | some ns =>
      rw [q] at e
      cases e
      have := allB_of q
      subst this
      obtain ⟨p, vs, rfl, h2, h3⟩ := sd_list s rh
      have := dpa_bools h3
      subst this
      exact ⟨p, ns, rfl, h2, sc_here rh k (.bl _)⟩
  · cases e
abbrev fMin := fI2 (fun _ _ => true) fun i j => if j < i then j else i
abbrev fMax := fI2 (fun _ _ => true) fun i j => if j > i then j else i
theorem sc_min {K : PySem.W.Frag} : Sc2 K (fun v u H Q => ∃ i j, [v, u] = [.int i, .int j] ∧ Q (.int (if j < i then j else i)) H) fMin := by
  intro R H v1 v2 x y b b' z Q rh s1 s2 e k
  unfold fMin fI2 at e
  split at e
  · cases e
    exact ⟨_, _, by rw [sd_int s1, sd_int s2], sc_here rh k (.int _)⟩
  · cases e
theorem sc_max {K : PySem.W.Frag} : Sc2 K (fun v u H Q => ∃ i j, [v, u] = [.int i, .int j] ∧ Q (.int (if j > i then j else i)) H) fMax := by
  intro R H v1 v2 x y b b' z Q rh s1 s2 e k
  unfold fMax fI2 at e
  split at e
  · cases e
    exact ⟨_, _, by rw [sd_int s1, sd_int s2], sc_here rh k (.int _)⟩
  · cases e
def fU (g : Int → Int) : PyData → Option PyData
  | .int i => some (.int (g i))
  | _ => none
abbrev fNeg := fU fun i => -i
theorem sc_neg {K : PySem.W.Frag} : Sc1 K (rU fun i => .int (-i)) fNeg := by
  intro R H v x b z Q rh s e k
  unfold fNeg fU at e
  split at e
  · cases e
    exact ⟨_, sd_int s, sc_here rh k (.int _)⟩
  · cases e
def fOrd : PyData → Option PyData
  | .str z => if z.length = 1 then some (.int (z.cps.getD 0 0 : Nat)) else none
  | _ => none
theorem sc_ord {K : PySem.W.Frag} : Sc1 K (fun v H Q => ∃ x, [v] = [.str x] ∧ x.length = 1 ∧ Q (.int (x.cps.getD 0 0 : Nat)) H) fOrd := by
  intro R H v x b z Q rh s e k
  unfold fOrd at e
  split at e
  · split at e
    · rename_i h
      cases e
      exact ⟨_, by rw [sd_str s], h, sc_here rh k (.int _)⟩
    · cases e
  · cases e
def fStr : PyData → Option PyData
  | .int i => if i.natAbs.log2 < 1920 then some (.str (Str.ofString (toString i))) else none
  | _ => none
/-- xs * k -/
def fRep : PyData → PyData → Option (List PyData)
  | .list ds, .int k => if -9223372036854775808 ≤ k ∧ k < 9223372036854775808 ∧ ds.length * k.toNat ≤ SZ then some (List.replicate k.toNat ds).flatten else none
  | _, _ => none
end En
namespace En
open PySem PySem.Spec PyProof.Rows L2
/-! ## operators of any kind of data -/
def fAdd : PyData → PyData → Option PyData
  | .int i, .int j => some (.int (i + j))
  | .str a, .str b => if a.length + b.length ≤ SZ then some (.str (a ++ b)) else none
  | .tuple xs, .tuple ys => if xs.length + ys.length ≤ SZ then some (.tuple (xs ++ ys)) else none
  | .list xs, .list ys => if xs.length + ys.length ≤ SZ then some (.list (xs ++ ys)) else none
  | _, _ => none
def rAdd (K : PySem.W.Frag) : R2 := fun x y H Q => rAddI K x y H Q ∨ rCatL K x y H Q
theorem op_addP {X : Cx} : OpR X (binaryOp .Add) (rAdd X.K) := opr_or op_addI op_catL
theorem sc_frz2 {K : PySem.W.Frag} {r : R2} {f : PyData → PyData → Option (List PyData)} (h : Sl2 K r f) : Sc2 K r (fun x y => (f x y).map .list) := by
  intro R H v1 v2 x y b b' z Q rh s1 s2 e k
  cases q : f x y with
  | none => simp only [q] at e; cases e
  | some ds =>
    simp only [q] at e
    cases e
    exact h R H v1 v2 x y b b' ds Q rh s1 s2 q fun p vs hp dp => k _ _ _ (Gr.new rh hp) (.lst (.of upd_same) (dpa_up (same_new (rh.free hp)) _ _ dp))
theorem sc_addP {K : PySem.W.Frag} : Sc2 K (rAdd K) fAdd := by
  intro R H v1 v2 x y b b' z Q rh s1 s2 e k
  by_cases h : fAddI x y = some z
  · exact .inl (sc_add R H v1 v2 x y b b' z Q rh s1 s2 h k)
  · unfold fAdd at e
    split at e
    · exact absurd e h
    · exact absurd e h
    · exact absurd e h
    · split at e
      · rename_i xs ys hl
        cases e
        have q : fCat (.list xs) (.list ys) = some (xs ++ ys) := if_pos hl
        exact .inr (sl_cat R H v1 v2 _ _ b b' _ Q rh s1 s2 q fun p vs hp dp => k _ _ _ (Gr.new rh hp) (.lst (.of upd_same) (dpa_up (same_new (rh.free hp)) _ _ dp)))
      · cases e
    · cases e
/-- [..] * k -/
def dRep (d : Env → Res) (dk : Env → RV) : Env → Res := fun e => match d e with
  | .ok (.t (.l ts)) e1 w1 => match allD ts with
    | some ds => match dk e1 with
      | .ok (.int k) _ e2 false => if -9223372036854775808 ≤ k ∧ k < 9223372036854775808 ∧ ds.length * k.toNat ≤ SZ then .ok (.t (.l ((List.replicate k.toNat ds).flatten.map T.d))) e2 w1 else .no
      | _ => .no
    | none => .no
  | _ => .no
theorem dpa_rep {K : PySem.W.Frag} {R : RR} {vs : List V} {ds : List PyData} (h : DpAll K R vs ds) : ∀ m : Nat, DpAll K R (List.replicate m vs).flatten (List.replicate m ds).flatten
  | 0 => .nil
  | m + 1 => by rw [List.replicate_succ, List.replicate_succ, List.flatten_cons, List.flatten_cons]; exact dpa_app h (dpa_rep h m)
theorem de_rep {X : Cx} {c : Ctx} {a b : Expr} {d : Env → Res} {dk : Env → RV} {pos : Pos} (ha : PE X a (tD c d)) (hb : PE X b (tV c dk)) : PE X (.BinOp a .Mult b pos) (tD c (dRep d dk)) := by
  refine PE.imp (pe_op op_rep ha hb) fun σ H Q ⟨e, R, F, s, p⟩ => ⟨e, R, F, s, ?_⟩
  unfold dRep at p
  cases h1 : d e with
  | no => simp only [h1] at p; exact p
  | er C fs e1 => simp only [h1] at p; exact p.elim
  | ok r e1 w1 =>
    cases r with
    | t t =>
      cases t with
      | l ts =>
        simp only [h1] at p
        cases h2 : allD ts with
        | none => simp only [h2] at p; exact p.elim
        | some ds =>
          simp only [h2] at p
          have := allD_of h2
          subst this
          intro R1 H1 F1 G v s1 rw1 nd rf ex hw
          obtain ⟨pa, vs, Gv, rfl, q1, q2, q3⟩ := rw1
          obtain ⟨da, rfl⟩ := rpl_d' q3
          refine ⟨e1, R1, F1, s1, ?_⟩
          cases h3 : dk e1 with
          | no => simp only [h3] at p; exact p.elim
          | er C fs e2 => simp only [h3] at p; exact p.elim
          | ok x bb e2 w2 =>
            cases x with
            | int k =>
              cases w2 with
              | true => simp only [h3] at p; exact p.elim
              | false =>
                simp only [h3] at p
                intro R2 H2 F2 y s2 sd2 ex2 hw2
                have g2 := hw2 rfl
                by_cases hc : -9223372036854775808 ≤ k ∧ k < 9223372036854775808 ∧ ds.length * k.toNat ≤ SZ
                · rw [if_pos hc] at p
                  refine ⟨pa, k, vs, rfl, sd_int sd2, g2.hh _ _ q2, by omega, by omega, by rw [← sz_eq, dpa_len da]; exact hc.2.2, fun t ht => ?_⟩
                  obtain ⟨n1, n2, n3, n4, n5⟩ := new_own (o := .lst (List.replicate k.toNat vs).flatten) s2 ht
                  exact p R2 _ F2 [t] _ n1 ⟨t, _, [], rfl, .refl _, upd_same, rpl_d (dpa_rep (dpa_up ex2.rr.s _ _ da) _)⟩ n2 n3 (((ex.mono fun a ha => List.mem_append_left _ ha).trans ex2).trans n4) (fun z => ⟨((hw z).1.trans g2).trans n5, fun a ha => by simp at ha; subst ha; exact ((hw z).1.trans g2).hh.free ht⟩)
                · rw [if_neg hc] at p; exact p.elim
            | _ => simp only [h3] at p; exact p.elim
      | _ => simp only [h1] at p; exact p.elim
    | _ => simp only [h1] at p; exact p.elim
theorem sc_mul {K : PySem.W.Frag} : Sc2 K (rI CMul fun i j => .int (i * j)) fMul := sc_I2 fun _ _ h => c_mul h
theorem sc_div {K : PySem.W.Frag} : Sc2 K (rI CDiv fun i j => .int (i / j)) fDiv := sc_I2 fun _ _ h => c_div h
theorem sc_mod {K : PySem.W.Frag} : Sc2 K (rI (fun _ j => 0 < j) fun i j => .int (i % j)) fMod := sc_I2 fun _ _ h => of_decide_eq_true h
theorem sc_pow {K : PySem.W.Frag} : Sc2 K (rI CPow fun i j => .int (i ^ j.toNat)) fPow := sc_I2 fun _ _ h => c_pow h
theorem sc_shr {K : PySem.W.Frag} : Sc2 K (rI (fun _ j => 0 ≤ j) fun i j => .int (i / 2 ^ j.toNat)) fShr := sc_I2 fun _ _ h => of_decide_eq_true h
/-! ## slices of any kind, as data -/
def fSlP : PyData → Option Int → Option Int → Option PyData
  | .list ds, lo, hi => some (.list (cutD ds lo hi))
  | .tuple ds, lo, hi => some (.tuple (cutD ds lo hi))
  | .str z, lo, hi => if z.length ≤ SZ then some (.str (cutS z lo hi)) else none
  | _, _, _ => none
def vSlP (d : Env → RV) (lo hi : Option (Env → RV)) : Env → RV := fun e => match d e with
  | .ok x _ e1 w => match vOpt lo e1 with
    | some (l, e2) => match vOpt hi e2 with
      | some (h, e3) => match fSlP x l h with
        | some z => .ok z false e3 w
        | none => .no
      | none => .no
    | none => .no
  | .er C fs e1 => .er C fs e1
  | .no => .no
section
variable {X : Cx} {c : Ctx} {d : Env → RV} {lo hi : Option (Env → RV)} {a : Expr} {l h : Option Expr} {p2 pos : Pos}
theorem ve_slP (he : PE X a (tV c d)) (hl : PO X l (tO c lo)) (hh : PO X h (tO c hi)) (hK : X.K = c.K := by rfl) : PE X (.Subscript a (.Slice l h none p2) pos) (tV c (vSlP d lo hi)) := by
  have or1 : SlR X (fun x lo hi H Q => (rSlA X.K x lo hi H Q ∨ rSlS x lo hi H Q) ∨ rSlL X.K x lo hi H Q) := (sl_tupA.or sl_str).or L2.sl_list
  refine PE.imp (pe_slice or1 he hl hh) fun σ H Q ⟨e, R, F, s, p⟩ => ⟨e, R, F, s, ?_⟩
  rw [hK]
  unfold vSlP at p
  cases h1 : d e with
  | no => simp only [h1] at p; exact p
  | er C fs e1 => simp only [h1] at p; exact p
  | ok x b e1 w =>
    simp only [h1] at p
    intro R1 H1 F1 u s1 sd ex hw
    cases h2 : vOpt lo e1 with
    | none => simp only [h2] at p; exact p.elim
    | some le =>
      obtain ⟨l', e2⟩ := le
      simp only [h2] at p
      refine vOpt_ok s1 h2 fun R2 H2 F2 s2 ex2 sm2 => ?_
      cases h3 : vOpt hi e2 with
      | none => simp only [h3] at p; exact p.elim
      | some he' =>
        obtain ⟨h', e3⟩ := he'
        simp only [h3] at p
        refine vOpt_ok s2 h3 fun R3 H3 F3 s3 ex3 sm3 => ?_
        cases h4 : fSlP x l' h' with
        | none => simp only [h4] at p; exact p.elim
        | some z =>
          simp only [h4] at p
          have sd' := sd.up (ex2.rr.trans ex3.rr) (fun _ => sm2.hh.trans sm3.hh)
          have fin : ∀ (R' : RR) (H' : Hp) u, Gr R3 H3 R' H' → Dp c.K R' u z → Q u H' := fun R' H' u g dp => p R' H' F3 u (g.sr s3) dp (((ex.trans ex2).trans ex3).trans g.ex) (fun q => (((hw q).trans sm2).trans sm3).trans g)
          unfold fSlP at h4
          split at h4
          · cases h4
            obtain ⟨q, vs, rfl, q1, a1⟩ := sd_list sd' s3.rh
            exact .inr ⟨q, vs, rfl, q1, fun t ht => fin _ _ _ (Gr.new s3.rh ht) (.lst (.of upd_same) (dpa_up (same_new (s3.rh.free ht)) _ _ (dpa_cut a1)))⟩
          · cases h4
            obtain ⟨q, vs, rfl, q1, q1', a1⟩ := sd_tup sd' s3.rh
            refine .inl (.inl ⟨q, vs, rfl, q1, fun hw => ?_, fun hw t ht => ?_⟩)
            · refine fin R3 H3 _ (.refl s3.rh) ?_
              have e0 : ∀ ds, DpAll c.K R3 vs ds → cutD ds l' h' = ds := by
                intro ds a1
                unfold cutD
                rw [← dpa_len a1, hw.1, hw.2, List.drop_zero, Nat.sub_zero, List.take_of_length_le (by rw [dpa_len a1]; exact Nat.le_refl _)]
              rw [e0 _ a1]
              exact .tup q1' a1
            · exact fin _ _ _ (Gr.new s3.rh ht) (.tup (.of upd_same) (dpa_up (same_new (s3.rh.free ht)) _ _ (dpa_cut a1)))
          · split at h4
            · rename_i hz
              cases h4
              exact .inl (.inr ⟨_, sd_str sd', by rw [← sz_eq]; exact hz, fin R3 H3 _ (.refl s3.rh) (.str _)⟩)
            · cases h4
          · cases h4
end
/-! ## what is walked, of any kind -/
def iSeqS (K : PySem.W.Frag) (tl : TE) : TI := fun σ H R => tl σ H fun x H1 => (∃ a, x = .ref a ∧ (((∃ xs, SqL K H1 a xs) ∧ R (Itl K a) H1) ∨ ((∃ xs, SqT K H1 a xs) ∧ R (Itt K a) H1))) ∨ (∃ z, x = .str z ∧ R (Its z) H1)
theorem pi_seqS {X : Cx} {tg l : Expr} {tl : TE} (hl : PE X l tl) : PI X tg l (iSeqS X.K tl) := by
  refine ⟨fun pins s σ H R I h => ?_⟩
  refine thn (hl.run pins s σ H _ I h) fun v s1 ⟨x, H1, I1, r1, q1⟩ => ?_
  obtain ⟨a, e, ⟨⟨xs, hq⟩, q⟩ | ⟨⟨xs, hq⟩, q⟩⟩ | ⟨z, e, q⟩ := q1
  · subst e
    cases r1
    obtain ⟨its, rv, p, hz⟩ := I1.list hq
    refine wpAny_pyIter_list p.isList ?_
    refine ⟨s1.heap.objs.size, [s1.heap.objs.size], _, _, H1, rfl, I1.kept (t' := s1.toks) fun b o e => Heap.get?_push_of_some _ e, turn_list a _, ⟨_, Heap.get?_push_size _ rfl, rfl, rfl⟩, fun b hb => ?_, q⟩
    have e : b = s1.heap.objs.size := by simpa using hb
    subst e
    exact I1.fpOk (Nat.le_refl _) (I1.hok.fresh (Nat.le_refl _))
  · subst e
    cases r1
    obtain ⟨its, rv, p, hz⟩ := I1.tuple hq
    refine wpAny_pyIter_tuple (show s1.heap.IsTuple a its.toArray from p) ?_
    refine ⟨s1.heap.objs.size, [s1.heap.objs.size], _, _, H1, rfl, I1.kept (t' := s1.toks) fun b o e => Heap.get?_push_of_some _ e, turn_tuple a _, ⟨_, Heap.get?_push_size _ rfl, rfl, rfl⟩, fun b hb => ?_, q⟩
    have e : b = s1.heap.objs.size := by simpa using hb
    subst e
    exact I1.fpOk (Nat.le_refl _) (I1.hok.fresh (Nat.le_refl _))
  · subst e
    obtain ⟨t, rfl⟩ := r1
    cases ha : z.cps.all (· < 128)
    · exact wpAny_pyIter_wide ha (pi_one (tk := s1.toks) I1 _ (turn_str _ z t "str_iterator" (.inr rfl)) ⟨_, Heap.get?_push_size _ rfl, rfl, rfl⟩ q)
    · exact wpAny_pyIter_ascii ha (pi_one (tk := s1.toks) I1 _ (turn_str _ z t "str_ascii_iterator" (.inl rfl)) ⟨_, Heap.get?_push_size _ rfl, rfl, rfl⟩ q)
def signs (z : Str) : List PyData := z.cps.toList.map fun n => .str ⟨#[n]⟩
def iP (d : Env → RV) : Env → RI := fun e => match d e with
  | .ok (.list xs) false e1 w => .ok (xs.map T.d) e1 w
  | .ok (.tuple xs) false e1 w => .ok (xs.map T.d) e1 w
  | .ok (.str z) _ e1 w => .ok ((signs z).map T.d) e1 w
  | .ok _ _ _ _ => .no
  | .er C fs e1 => .er C fs e1
  | .no => .no
theorem ie_p {X : Cx} {c : Ctx} {tg l : Expr} {d : Env → RV} (h : PE X l (tV c d)) (hK : X.K = c.K := by rfl) : PI X tg l (tI c (iP d)) := by
  refine PI.imp (pi_seqS h) fun σ H Q ⟨e, R, F, s, p⟩ => ⟨e, R, F, s, ?_⟩
  rw [hK]
  unfold iP at p
  cases h1 : d e with
  | no => simp only [h1] at p; exact p
  | er C fs e1 => simp only [h1] at p; exact p
  | ok x b e1 w =>
    intro R1 H1 F1 v s1 sd ex hw
    cases x with
    | str z =>
      simp only [h1] at p
      refine .inr ⟨z, sd_str sd, p R1 H1 F1 _ s1 (walkD_of ⟨_, _, by unfold signs; rw [List.length_map, Array.length_toList]; exact walk_str, fun _ _ _ _ => trivial, fun i R' H' v H2 q1 q2 hi y => ?_⟩) ex hw⟩
      obtain ⟨rfl, n, hn, rfl⟩ := y
      refine ⟨R', .str ⟨#[n]⟩, ?_, .refl q2, .str _⟩
      unfold signs
      rw [List.getElem?_map, Array.getElem?_toList, hn]
      rfl
    | list ds =>
      cases b with
      | true => simp only [h1] at p; exact p.elim
      | false =>
        simp only [h1] at p
        cases sd with
        | lst hs ha => exact .inl ⟨_, rfl, .inl ⟨⟨_, s1.rh.seq hs⟩, p R1 H1 F1 _ s1 (walkD_at walk_list (fun R' H' q1 q2 => (q1.s.trans q2).seq hs) ha) ex hw⟩⟩
    | tuple ds =>
      cases b with
      | true => simp only [h1] at p; exact p.elim
      | false =>
        simp only [h1] at p
        cases sd with
        | tup hs ha => exact .inl ⟨_, rfl, .inr ⟨⟨_, sqt_up s1.rh hs⟩, p R1 H1 F1 _ s1 (walkD_at walk_tup (fun R' H' q1 q2 => sqt_up (q1.s.trans q2) hs) ha) ex hw⟩⟩
    | _ => simp only [h1] at p; exact p.elim
end En
namespace En
open PySem PySem.Spec PyProof.Rows L2
def iL (l : List Int) : List PyData := l.map .int
theorem htt_yes {c : Ctx} : ∀ (σ : L2.St) (H : Hp) (Q : Bool → Hp → Prop), tT (c0 c) (vC (.bool true)) σ H Q → tYes σ H Q := fun σ H Q h => by
  obtain ⟨k, e1, e2⟩ := vC_ok (v := .bl true) (fun _ => .bl _) h
  cases e1
  exact e2
/-! ## name = [..] -/
section
variable {X : Cx} {c : Ctx} {i : Nat} {y : Str} {py : Pos} {elt tgt iter : Expr} {ifs : List Expr} {scope : Scope} {own : List (Str × Nat)} {pos spos : Pos} {di : Env → RI} {g : TG} {tg : T → Env → Option Env} {tt el : Env → RV} {ttt : TT}
theorem se_setLc (hc : X.calm = true) (hN : X.N.Nodup) (hy : X.N[i]? = some y) (hyl : X.env.scope.names.lookup y = some .local) (hsw : swapsWith (.ListComp elt [⟨tgt, iter, ifs, 0⟩] scope pos) (some (.Name y py)) spos.line X.env = pure true) (hp : NoPin c.pn i) (hi : PI X tgt iter (tI c di)) (ok : BlkOk X.N X.env.scope scope own)
    (hg : ∀ (s : Shared) (H : Hp) (C : Addr) (cl : List (Str × Addr)) (fp : List Addr), PG (X.blk s H scope (compEnvC scope cl C X.env) fp) tgt g) (htg : TgOk (c0 c) (own.map (·.2)) g tg)
    (ht : ∀ (s : Shared) (H : Hp) (C : Addr) (cl : List (Str × Addr)) (fp : List Addr), PTs (X.blk s H scope (compEnvC scope cl C X.env) fp) ifs ttt) (htt : ∀ σ H Q, tT (c0 c) tt σ H Q → ttt σ H Q)
    (he : ∀ (s : Shared) (H : Hp) (C : Addr) (cl : List (Str × Addr)) (fp : List Addr), PE (X.blk s H scope (compEnvC scope cl C X.env) fp) elt (tV (c0 c) el)) (hs : ∀ x, foldedSetIterable iter X.env x = pure x := by intro _; rfl) :
    PS X (.Assign [.Name y py] (.ListComp elt [⟨tgt, iter, ifs, 0⟩] scope pos) spos) (tS c (sSet i (dLc di (own.map (·.2)) tg tt el))) :=
  PS.imp (ps_setLc hc hN hy hyl hsw hi ok hg ht he hs) fun D σ H h => dLc_ok htg htt (sSet_ok hp h)
theorem sSetV_D {d : Env → Res} {D : Ends} {σ : L2.St} {H : Hp} (hp : NoPin c.pn i) (h : tS c (sSetV i (vD d)) D σ H) : tAsg (tD c d) (gName i) D σ H := by
  have h2 := sSetV_ok hp h
  exact toV_ok h2
theorem se_setLcV (hc : X.calm = true) (hN : X.N.Nodup) (hy : X.N[i]? = some y) (hyl : X.env.scope.names.lookup y = some .local) (hsw : swapsWith (.ListComp elt [⟨tgt, iter, ifs, 0⟩] scope pos) (some (.Name y py)) spos.line X.env = pure true) (hp : NoPin c.pn i) (hi : PI X tgt iter (tI c di)) (ok : BlkOk X.N X.env.scope scope own)
    (hg : ∀ (s : Shared) (H : Hp) (C : Addr) (cl : List (Str × Addr)) (fp : List Addr), PG (X.blk s H scope (compEnvC scope cl C X.env) fp) tgt g) (htg : TgOk (c0 c) (own.map (·.2)) g tg)
    (ht : ∀ (s : Shared) (H : Hp) (C : Addr) (cl : List (Str × Addr)) (fp : List Addr), PTs (X.blk s H scope (compEnvC scope cl C X.env) fp) ifs ttt) (htt : ∀ σ H Q, tT (c0 c) tt σ H Q → ttt σ H Q)
    (he : ∀ (s : Shared) (H : Hp) (C : Addr) (cl : List (Str × Addr)) (fp : List Addr), PE (X.blk s H scope (compEnvC scope cl C X.env) fp) elt (tV (c0 c) el)) (hs : ∀ x, foldedSetIterable iter X.env x = pure x := by intro _; rfl) :
    PS X (.Assign [.Name y py] (.ListComp elt [⟨tgt, iter, ifs, 0⟩] scope pos) spos) (tS c (sSetV i (vD (dLc di (own.map (·.2)) tg tt el)))) :=
  PS.imp (ps_setLc hc hN hy hyl hsw hi ok hg ht he hs) fun D σ H h => dLc_ok htg htt (sSetV_D hp h)
end
/-! ## name op= e -/
def sAug (i : Nat) (f : Int → Int → Int) (d : Env → RV) : Env → Out := fun e => match e.s[i]? with
  | some (some (.d (.int x))) => match d e with
    | .ok (.int y) _ e1 _ => .nx (e1.set i (some (.d (.int (f x y)))))
    | .ok _ _ _ _ => .no
    | .er C fs e1 => .er C fs e1
    | .no => .no
  | _ => .no
theorem se_aug {X : Cx} {c : Ctx} {i : Nat} {x : Str} {e : Expr} {d : Env → RV} {op : Operator} {f : Int → Int → Int} {pos pos' : Pos} (hN : X.N.Nodup) (hi : X.N[i]? = some x) (hx : Loc X.env.scope x) (he : PE X e (tV c d)) (ho : PIp X op (ipI f)) (hp : NoPin c.pn i)
    (hf : X.fn x = true ∨ X.env.scope.names.lookup x = some .local := by first | exact .inl rfl | exact .inr rfl | assumption) : PS X (.AugAssign (.Name x pos') op e pos) (tS c (sAug i f d)) := by
  refine PS.imp (ps_aug hN hi hx he ho hf) fun D σ H ⟨ev, R, F, s, p⟩ => ?_
  unfold sAug at p
  cases h0 : ev.s[i]? with
  | none => simp only [h0] at p; exact p.elim
  | some o =>
    cases o with
    | none => simp only [h0] at p; exact p.elim
    | some t =>
      obtain ⟨A1, A2, _, hA, _⟩ := s.sl
      obtain ⟨v, F1, F2, h1, h2, h3, _⟩ := rps_take hA h0
      cases t with
      | d z =>
        cases z with
        | int z =>
          simp only [h0] at p
          have hv : v = .int z := by cases h3.2; rfl
          subst hv
          refine ⟨_, h1, ev, R, F, s, ?_⟩
          cases h4 : d ev with
          | no => simp only [h4] at p; exact p
          | er C fs e1 => simp only [h4] at p; exact fun R' H' F' x s' rx ex => p σ R' H' F' x s' rx ex
          | ok y b e1 w =>
            intro R' H' F' u s' sd ex hw
            cases y with
            | int y =>
              simp only [h4] at p
              refine ⟨z, y, rfl, sd_int sd, ?_⟩
              obtain ⟨F2, s2, f2⟩ := sr_set (i := i) s' (show Rp c.K R' H' (.d (.int (f z y))) (.int (f z y)) [] from ⟨rfl, .int _⟩) (by simpa using s'.nd) (by simp) hp
              exact p _ R' H' F2 s2 (ex.mono fun a ha => by simpa using f2 a ha)
            | _ => simp only [h4] at p; exact p.elim
        | _ => simp only [h0] at p; exact p.elim
      | _ => simp only [h0] at p; exact p.elim
end En
namespace En
open PySem PySem.Spec PyProof.Rows L2
/-- a def that others call -/
structure Cal (P : Program) (w : World) (K : PySem.W.Frag) (mg : Str → Option Value) (base : Heap) (CX : CXT) (k : Nat) (x : Str) (f : Addr) (fd : FuncData) (ps : List Str) (sp : Sp) : Prop where
  ok : FnOk P w K mg base CX k f fd ps sp
  b : Binds K fd ps []
  g : mg x = some (.ref f)
  kp : PySem.W.keepIn K (.ref f) = true
/-- what walk_of asks of the law -/
def spLaw (K : PySem.W.Frag) : Sp := fun vs H Q _ => ∃ (a : Addr) (ns : List Int), vs = [.ref a] ∧ SqL K H a (ns.map V.int) ∧ ns.length ≤ 63 ∧ ∀ H', Q (.bl true) H'
theorem law_imp {P : Program} {w : World} {K : PySem.W.Frag} {mg : Str → Option Value} {base : Heap} {k : Nat} {f : Addr} {fd : FuncData} {cl : Str → Addr} {ct : CT} {fn : List T → List T → FO} {n : Nat} (hn : n = 1) (h : FnOk P w K mg base CX0 k f fd ["script"] (fun vs H Q _ => spD K cl ct n fn vs H Q E0))
    (main : ∀ ns : List Int, ns.length ≤ 63 → ∃ m, fn [.d (.list (ns.map .int))] [] = .rt (.d (.bool true)) m) : FnOk P w K mg base CX0 k f fd ["script"] (spLaw K) := by
  refine h.imp fun vs H Q E ⟨a, ns, hv, hS, hl, q⟩ => ?_
  subst hv
  obtain ⟨m, hm⟩ := main ns hl
  have da : ∀ l : List Int, DpAll K H (l.map V.int) (l.map PyData.int) := fun l => by
    induction l with
    | nil => exact .nil
    | cons x r ih => exact .cons (.int x) ih
  refine ⟨by rw [hn]; rfl, [.d (.list (ns.map .int))], [], ⟨H, [], ct⟩, [], rfl, ⟨.ref a, [], [], [], rfl, .refl _, ⟨rfl, .lst hS (da ns)⟩, rfl, rfl⟩, ⟨rfl, rfl⟩, .nil, Same.refl _, by simp, ?_⟩
  rw [hm]
  intro R' H' F' G v _ hv _ _ _ _
  obtain ⟨_, hv⟩ := hv
  cases hv
  exact q H'
end En
namespace En
open PySem PySem.Spec PyProof.Rows L2
/-! ## reading: one step at a time; what is not reached yet is left closed -/
def sq : Out → (Env → Out) → Out
  | .nx e1, k => k e1
  | o, _ => o
def sif : RV → (Env → Out) → (Env → Out) → Out
  | .ok (.bool b) _ e1 _, d1, d2 => if b = true then d1 e1 else d2 e1
  | .ok _ _ _ _, _, _ => .no
  | .er C fs e1, _, _ => .er C fs e1
  | .no, _, _ => .no
def vb : RV → (Bool → Env → RV) → RV
  | .ok (.bool b) _ e1 w, k => orw w (k b e1)
  | .ok _ _ _ _, _ => .no
  | .er C fs e1, _ => .er C fs e1
  | .no, _ => .no
def andA : RV → (Env → RV) → RV
  | .ok (.bool y) _ e1 w, d => if y = true then orw w (d e1) else .ok (.bool false) false e1 w
  | .ok _ _ _ _, _ => .no
  | .er C fs e1, _ => .er C fs e1
  | .no, _ => .no
def orA : RV → (Env → RV) → RV
  | .ok (.bool y) _ e1 w, d => if y = true then .ok (.bool true) false e1 w else orw w (d e1)
  | .ok _ _ _ _, _ => .no
  | .er C fs e1, _ => .er C fs e1
  | .no, _ => .no
def notA : RV → RV
  | .ok (.bool y) _ e1 w => .ok (.bool !y) false e1 w
  | .ok _ _ _ _ => .no
  | .er C fs e1 => .er C fs e1
  | .no => .no
def ifA : RV → (Env → RV) → (Env → RV) → RV
  | .ok (.bool y) _ e1 w, d1, d2 => if y = true then orw w (d1 e1) else orw w (d2 e1)
  | .ok _ _ _ _, _, _ => .no
  | .er C fs e1, _, _ => .er C fs e1
  | .no, _, _ => .no
def v1r : Option PyData → Env → Bool → RV
  | some z, e, w => .ok z false e w
  | none, _, _ => .no
def v1a (f : PyData → Option PyData) : RV → RV
  | .ok x _ e1 w => v1r (f x) e1 w
  | .er C fs e1 => .er C fs e1
  | .no => .no
def v2b (f : PyData → PyData → Option PyData) (x : PyData) (b w1 : Bool) : RV → RV
  | .ok y _ e2 w2 => if (b && w2) = true then .no else v1r (f x y) e2 (w1 || w2)
  | .er C fs e2 => .er C fs e2
  | .no => .no
def v2a (f : PyData → PyData → Option PyData) : RV → (Env → RV) → RV
  | .ok x b e1 w1, d2 => v2b f x b w1 (d2 e1)
  | .er C fs e1, _ => .er C fs e1
  | .no, _ => .no
def dlr : Option (List PyData) → Env → Bool → Res
  | some z, e, w => .ok (.t (.l (z.map T.d))) e w
  | none, _, _ => .no
def d1a (f : PyData → Option (List PyData)) : RV → Res
  | .ok x _ e1 w => dlr (f x) e1 w
  | .er C fs e1 => .er C fs e1
  | .no => .no
def d2b (f : PyData → PyData → Option (List PyData)) (x : PyData) (b w1 : Bool) : RV → Res
  | .ok y _ e2 w2 => if (b && w2) = true then .no else dlr (f x y) e2 (w1 || w2)
  | .er C fs e2 => .er C fs e2
  | .no => .no
def d2a (f : PyData → PyData → Option (List PyData)) : RV → (Env → RV) → Res
  | .ok x b e1 w1, d2 => d2b f x b w1 (d2 e1)
  | .er C fs e1, _ => .er C fs e1
  | .no, _ => .no
def ar2 (x : PyData) (w1 : Bool) : RA → RA
  | .ok xs e2 w2 => .ok (x :: xs) e2 (w1 || w2)
  | .er C fs e2 => .er C fs e2
  | .no => .no
def ar1 : RV → List (Env → RV) → RA
  | .ok x false e1 w1, ds => ar2 x w1 (vArgs ds e1)
  | .ok _ true _ _, _ => .no
  | .er C fs e1, _ => .er C fs e1
  | .no, _ => .no
def tupA : RA → RV
  | .ok xs e1 w => if xs.length ≤ SZ then .ok (.tuple xs) false e1 w else .no
  | .er C fs e1 => .er C fs e1
  | .no => .no
def lstA : RA → Res
  | .ok xs e1 w => if xs.length ≤ SZ then .ok (.t (.l (xs.map T.d))) e1 w else .no
  | .er C fs e1 => .er C fs e1
  | .no => .no
def ad3 (t : T) (w1 : Bool) : RD → RD
  | .ok ts e2 w2 => .ok (t :: ts) e2 (w1 || w2)
  | .er C fs e2 => .er C fs e2
  | .no => .no
def ad2 (w1 : Bool) (ds : List (Env → Res)) (e1 : Env) : Option T → RD
  | some t => ad3 t w1 (dArgs ds e1)
  | none => .no
def ad1 : Res → List (Env → Res) → RD
  | .ok r e1 w1, ds => ad2 w1 ds e1 (tOf r)
  | .er C fs e1, _ => .er C fs e1
  | .no, _ => .no
def calB (e1 : Env) (w : Bool) : FO → Res
  | .rt r m => .ok (wOf r) ⟨e1.s, m⟩ (w || !(e1.m.isEmpty && m.isEmpty))
  | .er C fs m => .er C fs ⟨e1.s, m⟩
  | .no => .no
def calF (fn : List T → List T → FO) (e1 : Env) (w : Bool) : Option (List T) → Res
  | some us => calB e1 w (fn us e1.m)
  | none => .no
def calA (fn : List T → List T → FO) : RD → Res
  | .ok ts e1 w => calF fn e1 w (frzA ts)
  | .er C fs e1 => .er C fs e1
  | .no => .no
def varR : Option (PyData × Bool) → Env → RV
  | some (x, b), e => .ok x b e false
  | none, _ => .no
def varV : Option (Option T) → Env → RV
  | some (some t), e => varR (rdT t) e
  | _, _ => .no
def varD (i : Nat) : Option (Option T) → Env → Res
  | some (some t), e => .ok (rdP t (.s i) []) e false
  | _, _ => .no
def setA (i : Nat) : Res → Out
  | .ok (.v x) e1 _ => .nx (e1.set i (some (.d x)))
  | .ok (.t t) e1 _ => .nx (e1.set i (some t))
  | .ok _ _ _ => .no
  | .er C fs e1 => .er C fs e1
  | .no => .no
def setVA (i : Nat) : RV → Out
  | .ok x false e1 _ => .nx (e1.set i (some (.d x)))
  | .ok _ true _ _ => .no
  | .er C fs e1 => .er C fs e1
  | .no => .no
def asgB : Option Env → Out
  | some e2 => .nx e2
  | none => .no
def asgA (tg : T → Env → Option Env) : RV → Out
  | .ok x false e1 _ => asgB (tg (.d x) e1)
  | .ok _ true _ _ => .no
  | .er C fs e1 => .er C fs e1
  | .no => .no
def expA : RV → Out
  | .ok _ _ e1 _ => .nx e1
  | .er C fs e1 => .er C fs e1
  | .no => .no
def retA : Res → Out
  | .ok r e1 _ => .rt r e1
  | .er C fs e1 => .er C fs e1
  | .no => .no
def retVA : RV → Out
  | .ok x false e1 _ => .rt (.v x) e1
  | .ok _ true _ _ => .no
  | .er C fs e1 => .er C fs e1
  | .no => .no
def forA (bd : T → Env → Out) : RI → Out
  | .ok xs e1 _ => forL bd xs e1
  | .er C fs e1 => .er C fs e1
  | .no => .no
def sl3 (e3 : Env) (w : Bool) : Option PyData → RV
  | some z => .ok z false e3 w
  | none => .no
def sl2 (x : PyData) (l : Option Int) (w : Bool) : Option (Option Int × Env) → RV
  | some (h, e3) => sl3 e3 w (fSlP x l h)
  | none => .no
def sl1 (x : PyData) (w : Bool) (hi : Option (Env → RV)) : Option (Option Int × Env) → RV
  | some (l, e2) => sl2 x l w (vOpt hi e2)
  | none => .no
def sl0 (lo hi : Option (Env → RV)) : RV → RV
  | .ok x _ e1 w => sl1 x w hi (vOpt lo e1)
  | .er C fs e1 => .er C fs e1
  | .no => .no
def optA : RV → Option (Option Int × Env)
  | .ok (.int i) _ e1 false => some (some i, e1)
  | _ => none
def bdyA (b : Env → Out) : Option Env → Out
  | some e1 => b e1
  | none => .no
def iPA : RV → RI
  | .ok (.list xs) false e1 w => .ok (xs.map T.d) e1 w
  | .ok (.tuple xs) false e1 w => .ok (xs.map T.d) e1 w
  | .ok (.str z) _ e1 w => .ok ((signs z).map T.d) e1 w
  | .ok _ _ _ _ => .no
  | .er C fs e1 => .er C fs e1
  | .no => .no
def rg1A : RA → RI
  | .ok [.int j] e1 w => if in62 j = true then .ok ((rngD 0 j.toNat).map T.d) e1 w else .no
  | .ok _ _ _ => .no
  | .er C fs e1 => .er C fs e1
  | .no => .no
def rg2A : RA → RI
  | .ok [.int i, .int j] e1 w => if (in62 i && in62 j) = true then .ok ((rngD i (j - i).toNat).map T.d) e1 w else .no
  | .ok _ _ _ => .no
  | .er C fs e1 => .er C fs e1
  | .no => .no
def rg3A : RA → RI
  | .ok [.int i, .int j, .int st] e1 w => if (decide (st ≠ 0) && decide (st.natAbs < 1073741824) && Builtin.Range.small i j st && decide (0 ≤ Builtin.Range.rangeSize i j st)) = true then .ok ((rngC i st (Builtin.Range.rangeSize i j st).toNat).map T.d) e1 w else .no
  | .ok _ _ _ => .no
  | .er C fs e1 => .er C fs e1
  | .no => .no
def enA : RV → RI
  | .ok (.list xs) false e1 w => .ok ((enumD 0 xs).map T.d) e1 w
  | .ok _ _ _ _ => .no
  | .er C fs e1 => .er C fs e1
  | .no => .no
def zpA : RA → RI
  | .ok [.list xs, .list ys] e1 w => .ok ((zipD xs ys).map T.d) e1 w
  | .ok _ _ _ => .no
  | .er C fs e1 => .er C fs e1
  | .no => .no
def rvA : RV → RI
  | .ok (.list xs) false e1 w => .ok (xs.reverse.map T.d) e1 w
  | .ok _ _ _ _ => .no
  | .er C fs e1 => .er C fs e1
  | .no => .no
def chC (w : Bool) : Option PyData → Env → RV
  | some r, e3 => .ok r false e3 w
  | none, _ => .no
def chB (f' : PyData → PyData → Option PyData) (y : PyData) (b' w : Bool) : RV → RV
  | .ok z _ e3 w3 => if (b' && w3) = true then .no else chC (w || w3) (f' y z) e3
  | .er C fs e3 => .er C fs e3
  | .no => .no
def chA (f' : PyData → PyData → Option PyData) (y : PyData) (b' w : Bool) (e2 : Env) (d3 : Env → RV) : Option PyData → RV
  | some (.bool t) => if t = true then chB f' y b' w (d3 e2) else .ok (.bool false) false e2 w
  | _ => .no
def ch2 (f f' : PyData → PyData → Option PyData) (x : PyData) (b w1 : Bool) (d3 : Env → RV) : RV → RV
  | .ok y b' e2 w2 => if (b && w2) = true then .no else chA f' y b' (w1 || w2) e2 d3 (f x y)
  | .er C fs e2 => .er C fs e2
  | .no => .no
def ch1 (f f' : PyData → PyData → Option PyData) (d2 d3 : Env → RV) : RV → RV
  | .ok x b e1 w1 => ch2 f f' x b w1 d3 (d2 e1)
  | .er C fs e1 => .er C fs e1
  | .no => .no
def lcA (e1 : Env) (w : Bool) : Option (List PyData) → Res
  | some ys => .ok (.t (.l (ys.map T.d))) e1 w
  | none => .no
def lc0 (vs : List Nat) (tg : T → Env → Option Env) (tt el : Env → RV) : RI → Res
  | .ok xs e1 w => if xs.length < SZ then lcA e1 w (lcG tg tt el (wipeE e1 vs) xs) else .no
  | .er C fs e1 => .er C fs e1
  | .no => .no
def augB (i : Nat) (f : Int → Int → Int) (x : Int) : RV → Out
  | .ok (.int y) _ e1 _ => .nx (e1.set i (some (.d (.int (f x y)))))
  | .ok _ _ _ _ => .no
  | .er C fs e1 => .er C fs e1
  | .no => .no
def augA (i : Nat) (f : Int → Int → Int) (d : Env → RV) (e : Env) : Option (Option T) → Out
  | some (some (.d (.int x))) => augB i f x (d e)
  | _ => .no
def gQ : Option T → List Stp → Option T
  | some t, q => getT t q
  | none, _ => none
theorem getE_q {e : Env} {i : Rt} {q : List Stp} : getE e i q = gQ (getR e i) q := by unfold getE; cases getR e i <;> rfl
def sQ (e : Env) (i : Rt) (q : List Stp) (s : T) : Option T → Env
  | some t => setR e i (setT t q s)
  | none => e
theorem setE_q {e : Env} {i : Rt} {q : List Stp} {s : T} : setE e i q s = sQ e i q s (getR e i) := by unfold setE; cases getR e i <;> rfl
def appC (e2 : Env) (i : Rt) (q : List Stp) (t : T) : Option T → RV
  | some (.l ts) => if ts.length < SZ then .ok .none false (setE e2 i q (.l (ts ++ [t]))) true else .no
  | _ => .no
def appT (e2 : Env) (i : Rt) (q : List Stp) : Option T → RV
  | some t => appC e2 i q t (getE e2 i q)
  | none => .no
def appB (i : Rt) (q : List Stp) : Res → RV
  | .ok r e2 w => if stb w q = true then appT e2 i q (tOf r) else .no
  | .er C fs e2 => .er C fs e2
  | .no => .no
def appP (dx : Env → Res) (e1 : Env) : Option (Rt × List Stp) → RV
  | some (i, q) => if isL (getE e1 i q) = true then appB i q (dx e1) else .no
  | none => .no
def appA (dx : Env → Res) : Res → RV
  | .ok r e1 _ => appP dx e1 (plc r)
  | .er C fs e1 => .er C fs e1
  | .no => .no
def putE (e3 : Env) (i : Rt) (q : List Stp) (t : T) (ts : List T) : Option Nat → Out
  | some j => .nx (setE e3 i q (.l (ts.set j t)))
  | none => .no
def putD (e3 : Env) (i : Rt) (q : List Stp) (t : T) (z : Int) : Option T → Out
  | some (.l ts) => putE e3 i q t ts (ixN ts.length z)
  | _ => .no
def putC (i : Rt) (q : List Stp) (t : T) : RV → Out
  | .ok (.int z) _ e3 w => if stb w q = true then putD e3 i q t z (getE e3 i q) else .no
  | .er C fs e3 => .er C fs e3
  | _ => .no
def putP (dk : Env → RV) (t : T) (e2 : Env) : Option (Rt × List Stp) → Out
  | some (i, q) => putC i q t (dk e2)
  | none => .no
def putB (dk : Env → RV) (t : T) : Res → Out
  | .ok r e2 _ => putP dk t e2 (plc r)
  | .er C fs e2 => .er C fs e2
  | .no => .no
def putA2 (d : Env → Res) (dk : Env → RV) (e1 : Env) : Option T → Out
  | some t => putB dk t (d e1)
  | none => .no
def putA (d : Env → Res) (dk : Env → RV) : Res → Out
  | .ok r e1 _ => putA2 d dk e1 (tOf r)
  | .er C fs e1 => .er C fs e1
  | .no => .no
def pixC (e2 : Env) (w : Bool) : Option W → Res
  | some r => .ok r e2 w
  | none => .no
def pixB (e2 : Env) (w : Bool) (i : Rt) (q : List Stp) (z : Int) : Option T → Res
  | some t => pixC e2 w (rdI t i q z)
  | none => .no
def pixA2 (w1 : Bool) (i : Rt) (q : List Stp) : RV → Res
  | .ok (.int z) _ e2 w => if stb w q = true then pixB e2 (w1 || w) i q z (getE e2 i q) else .no
  | .er C fs e2 => .er C fs e2
  | _ => .no
def pixP (dk : Env → RV) (e1 : Env) (w1 : Bool) : Option (Rt × List Stp) → Res
  | some (i, q) => pixA2 w1 i q (dk e1)
  | none => .no
def pixA (dk : Env → RV) : Res → Res
  | .ok r e1 w => pixP dk e1 w (plc r)
  | .er C fs e1 => .er C fs e1
  | .no => .no
def fldC (e1 : Env) (w : Bool) (i : Rt) (q : List Stp) : Option T → Res
  | some t => .ok (rdP t i q) e1 w
  | none => .no
def fldB (e1 : Env) (w : Bool) (i : Rt) (q : List Stp) (C j : Nat) : Option T → Res
  | some (.o C' ts) => if C' = C then fldC e1 w i (q ++ [.f j]) ts[j]? else .no
  | _ => .no
def fldP (e1 : Env) (w : Bool) (C j : Nat) : Option (Rt × List Stp) → Res
  | some (i, q) => fldB e1 w i q C j (getE e1 i q)
  | none => .no
def fldA (C j : Nat) : Res → Res
  | .ok r e1 w => fldP e1 w C j (plc r)
  | .er C fs e1 => .er C fs e1
  | .no => .no
def tryB (su : Env → Out) (C : Str) (fs : Xd) (e1 : Env) : Option Bool → Out
  | some true => noEr (su e1)
  | some false => .er C fs e1
  | none => .no
def tryA (tb : List (Str × Bool)) (su : Env → Out) : Out → Out
  | .er C fs e1 => tryB su C fs e1 (tb.lookup C)
  | o => o
def repB (e1 : Env) (w1 : Bool) (ds : List PyData) : RV → Res
  | .ok (.int k) _ e2 w => if w = true then .no else if -9223372036854775808 ≤ k ∧ k < 9223372036854775808 ∧ ds.length * k.toNat ≤ SZ then .ok (.t (.l ((List.replicate k.toNat ds).flatten.map T.d))) e2 w1 else .no
  | _ => .no
def repA2 (dk : Env → RV) (e1 : Env) (w1 : Bool) : Option (List PyData) → Res
  | some ds => repB e1 w1 ds (dk e1)
  | none => .no
def repA (dk : Env → RV) : Res → Res
  | .ok (.t (.l ts)) e1 w1 => repA2 dk e1 w1 (allD ts)
  | _ => .no
section
variable {d d1 d2 : Env → Out} {t a b : Env → RV} {r r1 : Env → Res} {e : Env} {i : Nat} {f f' : PyData → PyData → Option PyData} {g : PyData → Option PyData} {ds : List (Env → RV)} {dd : List (Env → Res)}
/-- a proof that is not seen through -/
theorem nr {α : Sort _} {a b : α} (h : a = b) : a = b := h
theorem x_seq : sSeq d1 d2 e = sq (d1 e) d2 := by show (match d1 e with | .nx e1 => d2 e1 | o => o) = _; cases d1 e <;> rfl
theorem x_nil : sNil e = .nx e := nr rfl
theorem x_if : sIf t d1 d2 e = sif (t e) d1 d2 := by
  show (match t e with | .ok (.bool true) _ e1 _ => d1 e1 | .ok (.bool false) _ e1 _ => d2 e1 | .ok _ _ _ _ => .no | .er C fs e1 => .er C fs e1 | .no => .no) = _
  cases t e with
  | ok x b e1 w => cases x with
    | bool y => cases y <;> rfl
    | _ => rfl
  | _ => rfl
theorem x_set : sSet i r e = setA i (r e) := nr rfl
theorem x_setV : sSetV i a e = setVA i (a e) := nr rfl
theorem x_asg {tg} : sAsg tg a e = asgA tg (a e) := by
  show (match a e with | .ok x false e1 _ => (match tg (.d x) e1 with | some e2 => Out.nx e2 | none => .no) | .ok _ true _ _ => .no | .er C fs e1 => .er C fs e1 | .no => .no) = _
  cases a e with
  | ok x b e1 w => cases b with
    | true => rfl
    | false => show (match tg (.d x) e1 with | some e2 => Out.nx e2 | none => .no) = asgB (tg (.d x) e1); cases tg (.d x) e1 <;> rfl
  | _ => rfl
theorem x_exp : sExp a e = expA (a e) := nr rfl
theorem x_ret : sRet r e = retA (r e) := nr rfl
theorem x_retV : sRetV a e = retVA (a e) := nr rfl
theorem x_retN : sRetN e = .rt (.v .none) e := nr rfl
theorem x_brk : sBrk e = .bk e := nr rfl
theorem x_cnt : sCnt e = .ct e := nr rfl
theorem x_for {di tg} : sFor di tg d e = forA (bdy tg d) (di e) := nr rfl
theorem x_bdy {tg x} : bdy tg d x e = bdyA d (tg x e) := by
  show (match tg x e with | some e1 => d e1 | none => .no) = _
  cases tg x e <;> rfl
theorem x_C {x : PyData} : vC x e = .ok x false e false := nr rfl
theorem x_var : vVar i e = varV e.s[i]? e := by
  show (match e.s[i]? with | some (some t) => (match rdT t with | some (x, b) => RV.ok x b e false | none => .no) | _ => .no) = _
  cases e.s[i]? with
  | none => rfl
  | some o => cases o with
    | none => rfl
    | some t => show (match rdT t with | some (x, b) => RV.ok x b e false | none => .no) = varR (rdT t) e; cases rdT t <;> rfl
theorem x_dvar : dVar i e = varD i e.s[i]? e := by
  show (match e.s[i]? with | some (some t) => Res.ok (rdP t (.s i) []) e false | _ => .no) = _
  cases e.s[i]? with
  | none => rfl
  | some o => cases o <;> rfl
theorem x_v1 : v1 g a e = v1a g (a e) := by
  show (match a e with | .ok x _ e1 w => (match g x with | some z => RV.ok z false e1 w | none => .no) | .er C fs e1 => .er C fs e1 | .no => .no) = _
  cases a e with
  | ok x b e1 w => show (match g x with | some z => RV.ok z false e1 w | none => .no) = v1r (g x) e1 w; cases g x <;> rfl
  | _ => rfl
theorem x_v2 : v2 f a b e = v2a f (a e) b := by
  unfold v2
  cases a e with
  | ok x bb e1 w1 =>
    simp only [v2a]
    cases b e1 with
    | ok y b2 e2 w2 => simp only [v2b]; cases f x y <;> rfl
    | _ => rfl
  | _ => rfl
theorem x_d1L {f} : d1L f a e = d1a f (a e) := by
  unfold d1L
  cases a e with
  | ok x b e1 w => show (match f x with | some z => Res.ok (.t (.l (z.map T.d))) e1 w | none => .no) = dlr (f x) e1 w; cases f x <;> rfl
  | _ => rfl
theorem x_d2L {f} : d2L f a b e = d2a f (a e) b := by
  unfold d2L
  cases a e with
  | ok x bb e1 w1 =>
    simp only [d2a]
    cases b e1 with
    | ok y b2 e2 w2 => simp only [d2b]; cases f x y <;> rfl
    | _ => rfl
  | _ => rfl
theorem x_and : vAnd a b e = andA (a e) b := by
  unfold vAnd vBool
  cases a e with
  | ok x bb e1 w => cases x with
    | bool y => cases y <;> simp [andA, orw, vC]
    | _ => rfl
  | _ => rfl
theorem x_or : vOr a b e = orA (a e) b := by
  unfold vOr vBool
  cases a e with
  | ok x bb e1 w => cases x with
    | bool y => cases y <;> simp [orA, orw, vC]
    | _ => rfl
  | _ => rfl
theorem x_not : vNot a e = notA (a e) := by
  unfold vNot vBool
  cases a e with
  | ok x bb e1 w => cases x with
    | bool y => simp [notA, orw, vC]
    | _ => rfl
  | _ => rfl
theorem x_ifx : vIf t a b e = ifA (t e) a b := by
  unfold vIf vBool
  cases t e with
  | ok x bb e1 w => cases x with
    | bool y => cases y <;> simp [ifA]
    | _ => rfl
  | _ => rfl
theorem x_args0 : vArgs [] e = .ok [] e false := nr rfl
theorem x_args1 : vArgs (a :: ds) e = ar1 (a e) ds := by
  rw [vArgs]
  cases a e with
  | ok x b e1 w => cases b with
    | true => rfl
    | false => simp only [ar1]; cases vArgs ds e1 <;> rfl
  | _ => rfl
theorem x_tup : vTup ds e = tupA (vArgs ds e) := nr rfl
theorem x_lst : dLst ds e = lstA (vArgs ds e) := nr rfl
theorem x_ad0 : dArgs [] e = .ok [] e false := nr rfl
theorem x_ad1 : dArgs (r :: dd) e = ad1 (r e) dd := by
  rw [dArgs]
  cases r e with
  | ok x e1 w =>
    simp only [ad1]
    cases tOf x with
    | none => rfl
    | some t => simp only [ad2]; cases dArgs dd e1 <;> rfl
  | _ => rfl
theorem x_call {fn} : dCall fn dd e = calA fn (dArgs dd e) := by
  unfold dCall
  cases dArgs dd e with
  | ok xs e1 w =>
    simp only [calA]
    cases frzA xs with
    | none => rfl
    | some us => simp only [calF]; cases fn us e1.m <;> rfl
  | _ => rfl
theorem x_vD : vD r e = toV (r e) := nr rfl
theorem x_dV : dV a e = ofV (a e) := nr rfl
theorem x_slP {lo hi} : vSlP a lo hi e = sl0 lo hi (a e) := by
  unfold vSlP
  cases a e with
  | ok x b e1 w =>
    simp only [sl0]
    cases vOpt lo e1 with
    | none => rfl
    | some le =>
      obtain ⟨l, e2⟩ := le
      simp only [sl1]
      cases vOpt hi e2 with
      | none => rfl
      | some he =>
        obtain ⟨h', e3⟩ := he
        simp only [sl2]
        cases fSlP x l h' <;> rfl
  | _ => rfl
theorem x_opt0 : vOpt none e = some (none, e) := nr rfl
theorem x_opt1 : vOpt (some a) e = optA (a e) := by
  show (match a e with | .ok (.int i) _ e1 false => some (some i, e1) | _ => none) = _
  cases a e with
  | ok x b e1 w => cases x <;> cases w <;> rfl
  | _ => rfl
theorem x_iP : iP a e = iPA (a e) := nr rfl
theorem x_rg1 : iRg1 a e = rg1A (vArgs [a] e) := nr rfl
theorem x_rg2 : iRg2 a b e = rg2A (vArgs [a, b] e) := nr rfl
theorem x_rg3 : iRg3 a b t e = rg3A (vArgs [a, b, t] e) := nr rfl
theorem x_en : iEn a e = enA (a e) := nr rfl
theorem x_zp : iZp a b e = zpA (vArgs [a, b] e) := nr rfl
theorem x_rv : iRv a e = rvA (a e) := nr rfl
theorem x_ch : vCh f f' a b t e = ch1 f f' b t (a e) := by
  unfold vCh
  cases a e with
  | ok x bb e1 w1 =>
    simp only [ch1]
    cases b e1 with
    | ok y b2 e2 w2 =>
      simp only [ch2]
      by_cases hc : (bb && w2) = true
      · rw [if_pos hc, if_pos hc]
      · rw [if_neg hc, if_neg hc]
        cases f x y with
        | none => rfl
        | some z =>
          cases z with
          | bool q =>
            cases q with
            | false => rfl
            | true =>
              simp only [chA, if_true]
              cases t e2 with
              | ok z b3 e3 w3 => simp only [chB]; cases f' y z <;> rfl
              | er C fs e3 => rfl
              | no => rfl
          | _ => rfl
    | er C fs e2 => rfl
    | no => rfl
  | _ => rfl
theorem x_lc {di vs tg tt el} : dLc di vs tg tt el e = lc0 vs tg tt el (di e) := by
  unfold dLc
  cases di e with
  | ok xs e1 w =>
    simp only [lc0]
    cases lcG tg tt el (wipeE e1 vs) xs <;> rfl
  | _ => rfl
theorem x_aug {h} : sAug i h a e = augA i h a e e.s[i]? := by
  show (match e.s[i]? with | some (some (.d (.int x))) => (match a e with | .ok (.int y) _ e1 _ => Out.nx (e1.set i (some (.d (.int (h x y))))) | .ok _ _ _ _ => .no | .er C fs e1 => .er C fs e1 | .no => .no) | _ => .no) = _
  cases e.s[i]? with
  | none => rfl
  | some o => cases o with
    | none => rfl
    | some t => cases t with
      | d x => cases x with
        | int x => simp only [augA]; cases a e with
          | ok y b e1 w => cases y <;> rfl
          | _ => rfl
        | _ => rfl
      | _ => rfl
theorem x_app : vApp r r1 e = appA r1 (r e) := by
  unfold vApp
  cases r e with
  | ok x e1 w =>
    simp only [appA]
    cases plc x with
    | none => rfl
    | some iq =>
      obtain ⟨i, q⟩ := iq
      simp only [appP]
      by_cases hc : isL (getE e1 i q) = true
      · rw [if_pos hc, if_pos hc]
        cases r1 e1 with
        | ok r2 e2 w2 =>
          simp only [appB]
          by_cases hs : stb w2 q = true
          · rw [if_pos hs, if_pos hs]
            cases tOf r2 with
            | none => rfl
            | some t => simp only [appT]; cases getE e2 i q with
              | none => rfl
              | some t0 => cases t0 <;> rfl
          · rw [if_neg hs, if_neg hs]
        | _ => rfl
      · rw [if_neg hc, if_neg hc]
  | _ => rfl
theorem x_put : sPut r a r1 e = putA r a (r1 e) := by
  unfold sPut
  cases r1 e with
  | er C fs e1 => rfl
  | no => rfl
  | ok x e1 w =>
    simp only [putA]
    cases tOf x with
    | none => rfl
    | some t =>
      simp only [putA2]
      cases r e1 with
      | er C fs e1 => rfl
      | no => rfl
      | ok x2 e2 w2 =>
        simp only [putB]
        cases plc x2 with
        | none => rfl
        | some iq =>
          obtain ⟨i, q⟩ := iq
          simp only [putP]
          cases a e2 with
          | er C fs e1 => rfl
          | no => rfl
          | ok k b e3 w3 =>
            cases k with
            | int z =>
              simp only [putC]
              by_cases hs : stb w3 q = true
              · rw [if_pos hs, if_pos hs]
                cases getE e3 i q with
                | none => rfl
                | some t0 => cases t0 with
                  | l ts => simp only [putD]; cases ixN ts.length z <;> rfl
                  | _ => rfl
              · rw [if_neg hs, if_neg hs]
            | _ => rfl
theorem x_pix : dPix r a e = pixA a (r e) := by
  unfold dPix
  cases r e with
  | er C fs e1 => rfl
  | no => rfl
  | ok x e1 w =>
    simp only [pixA]
    cases plc x with
    | none => rfl
    | some iq =>
      obtain ⟨i, q⟩ := iq
      simp only [pixP]
      cases a e1 with
      | er C fs e1 => rfl
      | no => rfl
      | ok k b e2 w2 =>
        cases k with
        | int z =>
          simp only [pixA2]
          by_cases hs : stb w2 q = true
          · rw [if_pos hs, if_pos hs]
            cases getE e2 i q with
            | none => rfl
            | some t0 => simp only [pixB]; cases rdI t0 i q z <;> rfl
          · rw [if_neg hs, if_neg hs]
        | _ => rfl
theorem x_fld {C j : Nat} : dPfld r C j e = fldA C j (r e) := by
  unfold dPfld
  cases r e with
  | er C fs e1 => rfl
  | no => rfl
  | ok x e1 w =>
    simp only [fldA]
    cases plc x with
    | none => rfl
    | some iq =>
      obtain ⟨i, q⟩ := iq
      simp only [fldP]
      cases getE e1 i q with
      | none => rfl
      | some t0 => cases t0 with
        | o C' ts =>
          simp only [fldB]
          by_cases hc : C' = C
          · rw [if_pos hc, if_pos hc]; cases ts[j]? <;> rfl
          · rw [if_neg hc, if_neg hc]
        | _ => rfl
theorem x_try {tb} : sTry d1 tb d2 e = tryA tb d2 (d1 e) := by
  unfold sTry
  cases d1 e with
  | er C fs e1 =>
    simp only [tryA]
    cases tb.lookup C with
    | none => rfl
    | some q => cases q <;> rfl
  | _ => rfl
theorem x_rep : dRep r a e = repA a (r e) := by
  unfold dRep
  cases r e with
  | er C fs e1 => rfl
  | no => rfl
  | ok x e1 w =>
    cases x with
    | t t =>
      cases t with
      | l ts =>
        simp only [repA]
        cases allD ts with
        | none => rfl
        | some ds =>
          simp only [repA2]
          cases a e1 with
          | er C fs e1 => rfl
          | no => rfl
          | ok k b e2 w2 =>
            cases k with
            | int z => cases w2 <;> rfl
            | _ => cases w2 <;> rfl
      | _ => rfl
    | _ => rfl
theorem x_raise0 {C : Str} : sRaise0 C e = .er C none e := nr rfl
end
/-! ### what an undecided test leaves -/
section
variable {p : Prop} [Decidable p]
theorem y_sq {a b : Out} {k : Env → Out} : sq (if p then a else b) k = if p then sq a k else sq b k := by split <;> rfl
theorem y_sif {a b : RV} {d1 d2 : Env → Out} : sif (if p then a else b) d1 d2 = if p then sif a d1 d2 else sif b d1 d2 := by split <;> rfl
theorem y_retV {a b : RV} : retVA (if p then a else b) = if p then retVA a else retVA b := by split <;> rfl
theorem y_setV {a b : RV} {i : Nat} : setVA i (if p then a else b) = if p then setVA i a else setVA i b := by split <;> rfl
theorem y_toV {a b : Res} : toV (if p then a else b) = if p then toV a else toV b := by split <;> rfl
theorem y_ofV {a b : RV} : ofV (if p then a else b) = if p then ofV a else ofV b := by split <;> rfl
theorem y_orw {a b : RV} {w : Bool} : orw w (if p then a else b) = if p then orw w a else orw w b := by split <;> rfl
theorem y_and {a b : RV} {k : Env → RV} : andA (if p then a else b) k = if p then andA a k else andA b k := by split <;> rfl
theorem y_or {a b : RV} {k : Env → RV} : orA (if p then a else b) k = if p then orA a k else orA b k := by split <;> rfl
theorem y_not {a b : RV} : notA (if p then a else b) = if p then notA a else notA b := by split <;> rfl
theorem y_v1 {a b : RV} {f : PyData → Option PyData} : v1a f (if p then a else b) = if p then v1a f a else v1a f b := by split <;> rfl
theorem y_v2a {a b : RV} {f : PyData → PyData → Option PyData} {d : Env → RV} : v2a f (if p then a else b) d = if p then v2a f a d else v2a f b d := by split <;> rfl
theorem y_v2b {a b : RV} {f : PyData → PyData → Option PyData} {x : PyData} {u w : Bool} : v2b f x u w (if p then a else b) = if p then v2b f x u w a else v2b f x u w b := by split <;> rfl
theorem y_finW {a b : Out} : finW (if p then a else b) = if p then finW a else finW b := by split <;> rfl
theorem y_calB {a b : FO} {e : Env} {w : Bool} : calB e w (if p then a else b) = if p then calB e w a else calB e w b := by split <;> rfl
end
/-! ### loops, comprehensions by what holds -/
theorem forL_nx {bd : T → Env → Out} (I : Nat → Env → Prop) : ∀ (xs : List T) (k : Nat) (e : Env), I k e → (∀ i x e, xs[i]? = some x → I (k + i) e → ∃ e', bd x e = .nx e' ∧ I (k + i + 1) e') → ∃ e', forL bd xs e = .nx e' ∧ I (k + xs.length) e'
  | [], k, e, h, _ => ⟨e, rfl, h⟩
  | x :: r, k, e, h, hs => by
    obtain ⟨e1, h1, h2⟩ := hs 0 x e rfl h
    obtain ⟨e2, h3, h4⟩ := forL_nx I r (k + 1) e1 h2 (fun i y e q z => by
      have := hs (i + 1) y e (by simpa using q) (by rw [show k + (i + 1) = k + 1 + i by omega]; exact z)
      rw [show k + (i + 1) + 1 = k + 1 + i + 1 by omega] at this
      exact this)
    refine ⟨e2, ?_, by rw [List.length_cons, show k + (r.length + 1) = k + 1 + r.length by omega]; exact h4⟩
    unfold forL
    simp only [h1]
    exact h3
/-- a walk by what holds in front of each turn -/
theorem for_invT {bd : T → Env → Out} {xs : List T} {e : Env} (I : Nat → Env → Prop) (h0 : I 0 e) (hs : ∀ i x e, xs[i]? = some x → I i e → ∃ e', bd x e = .nx e' ∧ I (i + 1) e') : ∃ e', forL bd xs e = .nx e' ∧ I xs.length e' := by
  obtain ⟨e', h1, h2⟩ := forL_nx I xs 0 e h0 (fun i x e q z => by rw [Nat.zero_add] at z ⊢; exact hs i x e q z)
  rw [Nat.zero_add] at h2
  exact ⟨e', h1, h2⟩
theorem for_inv {bd : T → Env → Out} {xs : List PyData} {e : Env} (I : Nat → Env → Prop) (h0 : I 0 e) (hs : ∀ i x e, xs[i]? = some x → I i e → ∃ e', bd (.d x) e = .nx e' ∧ I (i + 1) e') : ∃ e', forL bd (xs.map T.d) e = .nx e' ∧ I xs.length e' := by
  obtain ⟨e', h1, h2⟩ := for_invT (xs := xs.map T.d) I h0 (fun i x e q z => by
    rw [List.getElem?_map] at q
    cases hx : xs[i]? with
    | none => rw [hx] at q; cases q
    | some y => rw [hx] at q; cases q; exact hs i y e hx z)
  rw [List.length_map] at h2
  exact ⟨e', h1, h2⟩
/-- the items of a comprehension, one by one -/
theorem lcG_mapT {tg : T → Env → Option Env} {tt el : Env → RV} {e0 : Env} (f : T → PyData) : ∀ (xs : List T), (∀ x ∈ xs, ∃ e1 e2 e3 b, tg x e0 = some e1 ∧ tt e1 = .ok (.bool true) b e2 false ∧ el e2 = .ok (f x) false e3 false) → lcG tg tt el e0 xs = some (xs.map f)
  | [], _ => rfl
  | x :: r, h => by
    obtain ⟨e1, e2, e3, b, h1, h2, h3⟩ := h x (by simp)
    unfold lcG
    simp only [h1, h2, h3, lcG_mapT f r (fun y hy => h y (by simp [hy])), Option.map_some, List.map_cons]
theorem lcG_map {tg : T → Env → Option Env} {tt el : Env → RV} {e0 : Env} (f : PyData → PyData) (xs : List PyData) (h : ∀ x ∈ xs, ∃ e1 e2 e3 b, tg (.d x) e0 = some e1 ∧ tt e1 = .ok (.bool true) b e2 false ∧ el e2 = .ok (f x) false e3 false) : lcG tg tt el e0 (xs.map T.d) = some (xs.map f) := by
  rw [lcG_mapT (fun t => match t with | .d x => f x | _ => .none), List.map_map]
  · rfl
  · intro x hx
    obtain ⟨y, hy, rfl⟩ := List.mem_map.mp hx
    exact h y hy
end En
namespace En
theorem sq_nx {e : Env} {k : Env → Out} : sq (.nx e) k = k e := nr rfl
theorem sq_rt {r : W} {e : Env} {k : Env → Out} : sq (.rt r e) k = .rt r e := nr rfl
theorem sq_bk {e : Env} {k : Env → Out} : sq (.bk e) k = .bk e := nr rfl
theorem sq_ct {e : Env} {k : Env → Out} : sq (.ct e) k = .ct e := nr rfl
theorem sq_er {C : PySem.Str} {fs : Xd} {e : Env} {k : Env → Out} : sq (.er C fs e) k = .er C fs e := nr rfl
theorem sq_no {k : Env → Out} : sq .no k = .no := nr rfl
theorem wOf_l {ts : List T} : wOf (.l ts) = .t (.l ts) := rfl
theorem wOf_o {C : Nat} {ts : List T} : wOf (.o C ts) = .t (.o C ts) := rfl
theorem wOf_r {n : Nat} : wOf (.r n) = .t (.r n) := rfl
theorem wOf_t {ts : List T} : wOf (.t ts) = .t (.t ts) := rfl
theorem wOf_d {x : PySem.PyData} : wOf (.d x) = .v x := rfl
theorem tryA_nx {tb : List (PySem.Str × Bool)} {su : Env → Out} {e : Env} : tryA tb su (.nx e) = .nx e := rfl
theorem tryA_rt {tb : List (PySem.Str × Bool)} {su : Env → Out} {r : W} {e : Env} : tryA tb su (.rt r e) = .rt r e := rfl
theorem tryA_bk {tb : List (PySem.Str × Bool)} {su : Env → Out} {e : Env} : tryA tb su (.bk e) = .bk e := rfl
theorem tryA_ct {tb : List (PySem.Str × Bool)} {su : Env → Out} {e : Env} : tryA tb su (.ct e) = .ct e := rfl
theorem noEr_nx {e : Env} : noEr (.nx e) = .nx e := rfl
theorem noEr_rt {r : W} {e : Env} : noEr (.rt r e) = .rt r e := rfl
theorem noEr_bk {e : Env} : noEr (.bk e) = .bk e := rfl
theorem noEr_ct {e : Env} : noEr (.ct e) = .ct e := rfl
theorem isNone_i {i : Int} : isNone (.int i) = false := rfl
theorem isNone_b {b : Bool} : isNone (.bool b) = false := rfl
theorem isNone_s {z : PySem.Str} : isNone (.str z) = false := rfl
theorem isNone_l {xs : List PySem.PyData} : isNone (.list xs) = false := rfl
theorem isNone_t {xs : List PySem.PyData} : isNone (.tuple xs) = false := rfl
theorem toVp {i : Rt} {q : List Stp} {e : Env} {w : Bool} {t : T} {x : PySem.PyData} {b : Bool} (h : getE e i q = some t) (h2 : rdT t = some (x, b)) : toV (.ok (.p i q) e w) = .ok x b e w := by simp only [toV, h, h2]
end En
/-! # data of ints -/
namespace En
open PySem PySem.Spec PyProof.Rows L2
section
variable {a b l : List Int} {i : Int}
theorem iL_nil : iL [] = [] := rfl
theorem iL_cons : iL (i :: l) = .int i :: iL l := rfl
theorem iL_app : iL a ++ iL b = iL (a ++ b) := by simp [iL]
theorem iL_len : (iL l).length = l.length := by simp [iL]
theorem iL_c : PyData.int i :: iL l = iL (i :: l) := rfl
theorem iL_drop {n : Nat} : (iL l).drop n = iL (l.drop n) := by simp [iL]
theorem iL_take {n : Nat} : (iL l).take n = iL (l.take n) := by simp [iL]
theorem iL_rev : (iL l).reverse = iL l.reverse := by simp [iL]
theorem iL_rep {n : Nat} : List.replicate n (PyData.int i) = iL (List.replicate n i) := by simp [iL]
theorem iL_get {n : Nat} : (iL l)[n]? = (l[n]?).map .int := by simp [iL]
theorem iL_inj (h : iL a = iL b) : a = b := by
  unfold iL at h
  have : (a.map PyData.int).map (fun x => match x with | .int i => i | _ => 0) = (b.map PyData.int).map (fun x => match x with | .int i => i | _ => 0) := by rw [h]
  simpa [List.map_map, Function.comp_def] using this
theorem allD_iL : allD ((iL l).map T.d) = some (iL l) := allD_d _
theorem dataL_iL : dataL ((iL l).map T.d) = some (iL l) := dataL_d _
theorem rngD_iL {lo : Int} {n : Nat} : rngD lo n = iL ((List.range n).map fun k => lo + (k : Nat)) := by simp [rngD, iL, List.map_map, Function.comp_def]
theorem rngD_get {lo : Int} {n i : Nat} {x : PyData} (h : (rngD lo n)[i]? = some x) : i < n ∧ x = .int (lo + (i : Nat)) := by
  unfold rngD at h
  rw [List.getElem?_map] at h
  obtain ⟨k, h1, h2⟩ := Option.map_eq_some_iff.mp h
  obtain ⟨h3, h4⟩ := List.getElem?_eq_some_iff.mp h1
  rw [List.getElem_range] at h4
  rw [List.length_range] at h3
  subst h4
  exact ⟨h3, h2.symm⟩
theorem rngD_len {lo : Int} {n : Nat} : (rngD lo n).length = n := by simp [rngD]
theorem enumD_get' {k i : Nat} {xs : List PyData} {x : PyData} (h : (enumD k xs)[i]? = some x) : ∃ y, xs[i]? = some y ∧ x = .tuple [.int ((k + i : Nat) : Int), y] := by
  cases e : xs[i]? with
  | none =>
    have h1 := List.getElem?_eq_none_iff.mp e
    rw [List.getElem?_eq_none_iff.mpr (by rw [enumD_len]; exact h1)] at h
    cases h
  | some y =>
    rw [enumD_get k xs i y e] at h
    cases h
    exact ⟨y, rfl, rfl⟩
/-! ### what is equal -/
theorem q_int {a b : Int} : fEq (.int a) (.int b) = some (.bool (decide (a = b))) := by
  unfold fEq
  rw [show (SeqAt.shaped (PyData.int a) && SeqAt.shaped (PyData.int b)) = true from rfl]
  simp only [PyData.eqv, if_true, show (a == b) = decide (a = b) from by rw [Bool.eq_iff_iff]; simp]
theorem canL_iL : ∀ l : List Int, PyData.canLayAll0 (iL l) = true
  | [] => rfl
  | i :: l => by
    rw [iL_cons, PyData.canLayAll0, canL_iL l]
    rfl
theorem dep_iL : ∀ l : List Int, PyData.depthAll (iL l) = 0
  | [] => rfl
  | i :: l => by
    rw [iL_cons, PyData.depthAll, dep_iL l]
    rfl
theorem sh_t : SeqAt.shaped (.tuple (iL l)) = true := by
  unfold SeqAt.shaped
  rw [PyData.canLay0, PyData.depth, canL_iL, dep_iL]
  rfl
theorem sh_l : SeqAt.shaped (.list (iL l)) = true := by
  unfold SeqAt.shaped
  rw [PyData.canLay0, PyData.depth, canL_iL, dep_iL]
  rfl
theorem eqv_iL : PyData.eqvAll (iL a) (iL b) = decide (a = b) := PySem.W.ked_eqvAll a b
theorem q_t : fEq (.tuple (iL a)) (.tuple (iL b)) = some (.bool (decide (a = b))) := by
  unfold fEq
  rw [sh_t, sh_t, PyData.eqv, eqv_iL]
  rfl
theorem q_l : fEq (.list (iL a)) (.list (iL b)) = some (.bool (decide (a = b))) := by
  unfold fEq
  rw [sh_l, sh_l, PyData.eqv, eqv_iL]
  rfl
theorem n_t : fNe (.tuple (iL a)) (.tuple (iL b)) = some (.bool (!decide (a = b))) := by
  unfold fNe
  rw [sh_t, sh_t, PyData.eqv, eqv_iL]
  rfl
theorem n_l : fNe (.list (iL a)) (.list (iL b)) = some (.bool (!decide (a = b))) := by
  unfold fNe
  rw [sh_l, sh_l, PyData.eqv, eqv_iL]
  rfl
theorem n_int {a b : Int} : fNe (.int a) (.int b) = some (.bool (!decide (a = b))) := by
  unfold fNe
  rw [show (SeqAt.shaped (PyData.int a) && SeqAt.shaped (PyData.int b)) = true from rfl]
  simp only [PyData.eqv, if_true, show (a == b) = decide (a = b) from by rw [Bool.eq_iff_iff]; simp]
theorem q_self {x : PyData} (h : SeqAt.shaped x = true) : fEq x x = some (.bool true) := by
  unfold fEq
  rw [h, SeqAt.eqv_refl x (SeqAt.canLay_of_shaped h)]
  rfl
theorem n_self {x : PyData} (h : SeqAt.shaped x = true) : fNe x x = some (.bool false) := by
  unfold fNe
  rw [h, SeqAt.eqv_refl x (SeqAt.canLay_of_shaped h)]
  rfl
/-! ### places and slices -/
theorem at_iL {z : Int} {n : Nat} (h : z = n) : atI (iL l) z = (l[n]?).map .int := by
  subst h
  unfold atI ixN
  rw [if_pos (by omega), iL_len]
  by_cases h : n < l.length
  · rw [if_pos (by omega), Int.toNat_natCast, Option.bind_some, iL_get]
  · rw [if_neg (by omega), List.getElem?_eq_none_iff.mpr (by omega)]
    rfl
end
section
variable {α : Type}
theorem at_0 {x0 : α} {l : List α} : atI (x0 :: l) 0 = some x0 := by
  unfold atI ixN
  rw [if_pos (by decide), if_pos (by simp only [List.length_cons]; omega)]
  rfl
theorem ai_0 {x0 : Int} {l : List Int} : atI (iL (x0 :: l)) 0 = some (.int x0) := at_0
theorem at_1 {x0 x1 : α} {l : List α} : atI (x0 :: x1 :: l) 1 = some x1 := by
  unfold atI ixN
  rw [if_pos (by decide), if_pos (by simp only [List.length_cons]; omega)]
  rfl
theorem ai_1 {x0 x1 : Int} {l : List Int} : atI (iL (x0 :: x1 :: l)) 1 = some (.int x1) := at_1
theorem at_2 {x0 x1 x2 : α} {l : List α} : atI (x0 :: x1 :: x2 :: l) 2 = some x2 := by
  unfold atI ixN
  rw [if_pos (by decide), if_pos (by simp only [List.length_cons]; omega)]
  rfl
theorem ai_2 {x0 x1 x2 : Int} {l : List Int} : atI (iL (x0 :: x1 :: x2 :: l)) 2 = some (.int x2) := at_2
theorem at_3 {x0 x1 x2 x3 : α} {l : List α} : atI (x0 :: x1 :: x2 :: x3 :: l) 3 = some x3 := by
  unfold atI ixN
  rw [if_pos (by decide), if_pos (by simp only [List.length_cons]; omega)]
  rfl
theorem ai_3 {x0 x1 x2 x3 : Int} {l : List Int} : atI (iL (x0 :: x1 :: x2 :: x3 :: l)) 3 = some (.int x3) := at_3
theorem at_4 {x0 x1 x2 x3 x4 : α} {l : List α} : atI (x0 :: x1 :: x2 :: x3 :: x4 :: l) 4 = some x4 := by
  unfold atI ixN
  rw [if_pos (by decide), if_pos (by simp only [List.length_cons]; omega)]
  rfl
theorem ai_4 {x0 x1 x2 x3 x4 : Int} {l : List Int} : atI (iL (x0 :: x1 :: x2 :: x3 :: x4 :: l)) 4 = some (.int x4) := at_4
theorem at_5 {x0 x1 x2 x3 x4 x5 : α} {l : List α} : atI (x0 :: x1 :: x2 :: x3 :: x4 :: x5 :: l) 5 = some x5 := by
  unfold atI ixN
  rw [if_pos (by decide), if_pos (by simp only [List.length_cons]; omega)]
  rfl
theorem ai_5 {x0 x1 x2 x3 x4 x5 : Int} {l : List Int} : atI (iL (x0 :: x1 :: x2 :: x3 :: x4 :: x5 :: l)) 5 = some (.int x5) := at_5
theorem at_6 {x0 x1 x2 x3 x4 x5 x6 : α} {l : List α} : atI (x0 :: x1 :: x2 :: x3 :: x4 :: x5 :: x6 :: l) 6 = some x6 := by
  unfold atI ixN
  rw [if_pos (by decide), if_pos (by simp only [List.length_cons]; omega)]
  rfl
theorem ai_6 {x0 x1 x2 x3 x4 x5 x6 : Int} {l : List Int} : atI (iL (x0 :: x1 :: x2 :: x3 :: x4 :: x5 :: x6 :: l)) 6 = some (.int x6) := at_6
end
section
variable {a b l : List Int} {i : Int}
theorem cut_iL {lo hi : Option Int} : cutD (iL l) lo hi = iL ((l.drop (HT.sIx l.length 0 lo)).take (HT.sIx l.length l.length hi - HT.sIx l.length 0 lo)) := by
  unfold cutD
  rw [iL_len, iL_drop, iL_take]
theorem cut_to {α : Type} {l : List α} {m : Int} (h : 0 ≤ m) : (l.drop (HT.sIx l.length 0 none)).take (HT.sIx l.length l.length (some m) - HT.sIx l.length 0 none) = l.take m.toNat := by
  obtain ⟨k, rfl⟩ := Int.eq_ofNat_of_zero_le h
  rw [HT.sIx_nat, HT.sIx_none, List.drop_zero, Nat.sub_zero, Int.toNat_natCast, List.take_eq_take_iff]
  omega
theorem cut_from {α : Type} {l : List α} {m : Int} (h : 0 ≤ m) : (l.drop (HT.sIx l.length 0 (some m))).take (HT.sIx l.length l.length none - HT.sIx l.length 0 (some m)) = l.drop m.toNat := by
  obtain ⟨k, rfl⟩ := Int.eq_ofNat_of_zero_le h
  rw [HT.sIx_nat, HT.sIx_none, Int.toNat_natCast]
  by_cases hk : k ≤ l.length
  · rw [Nat.min_eq_left hk]
    exact List.take_of_length_le (by rw [List.length_drop]; omega)
  · rw [List.drop_eq_nil_of_le (by omega), List.drop_eq_nil_of_le (by omega), List.take_nil]
theorem cut_mid {α : Type} {l : List α} {a m : Int} (h : 0 ≤ a) (h2 : 0 ≤ m) : (l.drop (HT.sIx l.length 0 (some a))).take (HT.sIx l.length l.length (some m) - HT.sIx l.length 0 (some a)) = (l.drop a.toNat).take (m.toNat - a.toNat) := by
  obtain ⟨k, rfl⟩ := Int.eq_ofNat_of_zero_le h
  obtain ⟨j, rfl⟩ := Int.eq_ofNat_of_zero_le h2
  rw [HT.sIx_nat, HT.sIx_nat, Int.toNat_natCast, Int.toNat_natCast]
  by_cases hk : k ≤ l.length
  · rw [Nat.min_eq_left hk, List.take_eq_take_iff, List.length_drop]
    omega
  · rw [List.drop_eq_nil_of_le (by omega), List.drop_eq_nil_of_le (by omega)]
    simp
end
section
variable {xs : List PyData}
theorem s_to {m : Int} (h : 0 ≤ m) : fSlP (.tuple xs) none (some m) = some (.tuple (xs.take m.toNat)) := by rw [fSlP.eq_2, cutD, cut_to h]
theorem s_from {m : Int} (h : 0 ≤ m) : fSlP (.tuple xs) (some m) none = some (.tuple (xs.drop m.toNat)) := by rw [fSlP.eq_2, cutD, cut_from h]
theorem s_mid {i m : Int} (h : 0 ≤ i) (h2 : 0 ≤ m) : fSlP (.tuple xs) (some i) (some m) = some (.tuple ((xs.drop i.toNat).take (m.toNat - i.toNat))) := by rw [fSlP.eq_2, cutD, cut_mid h h2]
theorem sl_to {m : Int} (h : 0 ≤ m) : fSlP (.list xs) none (some m) = some (.list (xs.take m.toNat)) := by rw [fSlP.eq_1, cutD, cut_to h]
theorem sl_from {m : Int} (h : 0 ≤ m) : fSlP (.list xs) (some m) none = some (.list (xs.drop m.toNat)) := by rw [fSlP.eq_1, cutD, cut_from h]
theorem sl_mid {i m : Int} (h : 0 ≤ i) (h2 : 0 ≤ m) : fSlP (.list xs) (some i) (some m) = some (.list ((xs.drop i.toNat).take (m.toNat - i.toNat))) := by rw [fSlP.eq_1, cutD, cut_mid h h2]
end
section
variable {a b l : List Int} {i : Int}
/-! ### what needs room -/
theorem add_t {xs ys : List PyData} (h : xs.length + ys.length ≤ SZ) : fAdd (.tuple xs) (.tuple ys) = some (.tuple (xs ++ ys)) := if_pos h
theorem add_l {xs ys : List PyData} (h : xs.length + ys.length ≤ SZ) : fAdd (.list xs) (.list ys) = some (.list (xs ++ ys)) := if_pos h
theorem cat_l {xs ys : List PyData} (h : xs.length + ys.length ≤ SZ) : fCat (.list xs) (.list ys) = some (xs ++ ys) := if_pos h
theorem isi_t {xs : List PyData} : fIsi "tuple" (.tuple xs) = some (.bool true) := by
  show (kitB "tuple" "tuple").map _ = _
  rfl
theorem isi_b {b : Bool} : fIsi "bool" (.bool b) = some (.bool true) := by
  show (kitB "bool" "bool").map _ = _
  rfl
theorem isi_i {b : Int} : fIsi "int" (.int b) = some (.bool true) := by
  show (kitB "int" "int").map _ = _
  rfl
theorem isi_l {xs : List PyData} : fIsi "list" (.list xs) = some (.bool true) := by
  show (kitB "list" "list").map _ = _
  rfl
theorem isi_s {s : Str} : fIsi "str" (.str s) = some (.bool true) := by
  show (kitB "str" "str").map _ = _
  rfl
end
section
theorem tgN_a {i : Nat} {x : T} {e : Env} : tgN i x e = some (e.set i (some x)) := rfl
theorem tgT_a {is : List Nat} {ds : List PyData} {e : Env} (h : ds.length = is.length) : tgT is (.d (.tuple ds)) e = some (tgS is (ds.map T.d) e) := if_pos h
theorem tgT_t {is : List Nat} {ts : List T} {e : Env} (h : ts.length = is.length) : tgT is (.t ts) e = some (tgS is ts e) := if_pos h
theorem apd_ok {e : Env} {i : Rt} {q : List Stp} {t : T} {ts : List T} (h : ts.length < SZ) : appC e i q t (some (.l ts)) = .ok .none false (setE e i q (.l (ts ++ [t]))) true := if_pos h
theorem lc_ok {vs : List Nat} {tg : T → Env → Option Env} {tt el : Env → RV} {xs : List T} {e1 : Env} {w : Bool} (h : xs.length < SZ) : lc0 vs tg tt el (.ok xs e1 w) = lcA e1 w (lcG tg tt el (wipeE e1 vs) xs) := if_pos h
theorem in62_t {i : Int} (h : -4611686018427387904 ≤ i) (h2 : i < 4611686018427387904) : in62 i = true := by unfold in62; simp [h, h2]
theorem rg1_ok {j : Int} {e1 : Env} {w : Bool} (h : -4611686018427387904 ≤ j) (h2 : j < 4611686018427387904) : rg1A (.ok [.int j] e1 w) = .ok ((rngD 0 j.toNat).map T.d) e1 w := if_pos (in62_t h h2)
theorem rg2_ok {i j : Int} {e1 : Env} {w : Bool} (h : -4611686018427387904 ≤ i) (h2 : i < 4611686018427387904) (h3 : -4611686018427387904 ≤ j) (h4 : j < 4611686018427387904) : rg2A (.ok [.int i, .int j] e1 w) = .ok ((rngD i (j - i).toNat).map T.d) e1 w := if_pos (by rw [in62_t h h2, in62_t h3 h4]; rfl)
theorem iL_snoc {l : List Int} {x : Int} : (iL l).map T.d ++ [T.d (.int x)] = (iL (l ++ [x])).map T.d := by simp [iL]
theorem iL_mapd {a b : List Int} : (iL a).map T.d ++ (iL b).map T.d = (iL (a ++ b)).map T.d := by simp [iL]
theorem sh_s (s : Str) (h : s.cps.all (· < 0x110000) = true) : SeqAt.shaped (.str s) = true := by
  unfold SeqAt.shaped
  rw [PyData.canLay0, PyData.depth]
  show (s.cps.all (· < 0x110000) && decide (0 ≤ 64)) = true
  rw [h]; rfl
/-- a list of one value for each item of a walk -/
theorem lc_const {is : Nat} {c : PyData} {e0 : Env} (xs : List PyData) : lcG (tgN is) (vC (.bool true)) (vC c) e0 (xs.map T.d) = some (List.replicate xs.length c) := by
  rw [lcG_map (tg := tgN is) (tt := vC (.bool true)) (el := vC c) (e0 := e0) (fun _ => c) xs (fun x _ => ⟨_, _, _, _, rfl, rfl, rfl⟩), List.map_const']
theorem rep_l {l : List Int} {n : Nat} {i : Int} : iL l ++ List.replicate n (PyData.int i) = iL (l ++ List.replicate n i) := by simp [iL]
end
theorem dataL_nil : dataL [] = some [] := rfl
theorem dataL_cons {x : PyData} {ts : List T} : dataL (.d x :: ts) = (dataL ts).map (x :: ·) := by
  show (match some x, dataL ts with | some x, some xs => some (x :: xs) | _, _ => none) = _
  cases dataL ts <;> rfl
theorem ixN_ok {n : Nat} {z : Int} (h : 0 ≤ z) (h2 : z < n) : ixN n z = some z.toNat := by
  unfold ixN
  rw [if_pos h, if_pos h2]
theorem q_str {s t : Str} (h1 : s.cps.all (· < 0x110000) = true) (h2 : t.cps.all (· < 0x110000) = true) {b : Bool} (h3 : (s == t) = b) : fEq (.str s) (.str t) = some (.bool b) := by
  unfold fEq
  rw [sh_s s h1, sh_s t h2, PyData.eqv, h3]
  rfl
theorem n_str {s t : Str} (h1 : s.cps.all (· < 0x110000) = true) (h2 : t.cps.all (· < 0x110000) = true) {b : Bool} (h3 : (s == t) = b) : fNe (.str s) (.str t) = some (.bool !b) := by
  unfold fNe
  rw [sh_s s h1, sh_s t h2, PyData.eqv, h3]
  rfl
theorem tgS_nil {e : Env} : tgS [] [] e = e := rfl
theorem rep_none {n : Nat} : List.replicate (n + 1) (none : Option T) = none :: List.replicate n none := rfl
theorem rep_none0 : List.replicate 0 (none : Option T) = [] := rfl
theorem rep0 {i : Int} : iL (List.replicate 0 i) = [] := rfl
theorem allB_map {α : Type} (p : α → Bool) : ∀ l : List α, allB (l.map fun x => PyData.bool (p x)) = some (l.map p)
  | [] => rfl
  | x :: l => by
    show (allB (l.map fun x => PyData.bool (p x))).map (p x :: ·) = _
    rw [allB_map p l]; rfl
theorem any_map {α : Type} (p : α → Bool) (l : List α) : fAny (.list (l.map fun x => PyData.bool (p x))) = some (.bool (l.any p)) := by
  unfold fAny
  simp only [allB_map, Option.map_some, List.any_map]
  rfl
theorem all_map {α : Type} (p : α → Bool) (l : List α) : fAll (.list (l.map fun x => PyData.bool (p x))) = some (.bool (l.all p)) := by
  unfold fAll
  simp only [allB_map, Option.map_some, List.all_map]
  rfl
theorem any_false {α : Type} (l : List α) : fAny (.list (l.map fun _ => PyData.bool false)) = some (.bool false) := by
  rw [any_map (fun _ => false)]; simp
theorem all_true {α : Type} (l : List α) : fAll (.list (l.map fun _ => PyData.bool true)) = some (.bool true) := by
  rw [all_map (fun _ => true)]; simp
/-- a walk inside a def: what holds after each item -/
theorem for_fin {bd : T → Env → Out} {xs : List PyData} {e : Env} {k : Env → Out} {R : FO} (I : Nat → Env → Prop) (h0 : I 0 e) (hs : ∀ i x e, xs[i]? = some x → I i e → ∃ e', bd (.d x) e = .nx e' ∧ I (i + 1) e') (hk : ∀ e', I xs.length e' → finW (k e') = R) : finW (sq (forL bd (xs.map T.d) e) k) = R := by
  obtain ⟨e', h1, h2⟩ := for_inv I h0 hs
  rw [h1]
  exact hk e' h2
theorem for_finT {bd : T → Env → Out} {xs : List T} {e : Env} {k : Env → Out} {R : FO} (I : Nat → Env → Prop) (h0 : I 0 e) (hs : ∀ i x e, xs[i]? = some x → I i e → ∃ e', bd x e = .nx e' ∧ I (i + 1) e') (hk : ∀ e', I xs.length e' → finW (k e') = R) : finW (sq (forL bd xs e) k) = R := by
  obtain ⟨e', h1, h2⟩ := for_invT I h0 hs
  rw [h1]
  exact hk e' h2
theorem dpa_iL {K : PySem.W.Frag} {R : RR} : ∀ l : List Int, DpAll K R (l.map V.int) (iL l)
  | [] => .nil
  | i :: l => .cons (.int i) (dpa_iL l)
section
variable {l : List Int} {i : Int}
theorem iL_one : [PyData.int i] = iL [i] := rfl
theorem at_g {z : Int} (h : 0 ≤ z) (h2 : z < l.length) : atI (iL l) z = some (.int (l.getD z.toNat 0)) := by
  obtain ⟨n, rfl⟩ := Int.eq_ofNat_of_zero_le h
  rw [at_iL (n := n) rfl, Int.toNat_natCast, List.getElem?_eq_getElem (by omega), List.getD_eq_getElem?_getD, List.getElem?_eq_getElem (by omega)]
  rfl
theorem getD_in {P : Int → Prop} {n : Nat} (h : ∀ o ∈ l, P o) (h0 : P 0) : P (l.getD n 0) := by
  rw [List.getD_eq_getElem?_getD]
  cases e : l[n]? with
  | none => exact h0
  | some x => exact h x (List.mem_of_getElem? e)
theorem at_last {α : Type} {xs : List α} : atI xs (-1) = xs.getLast? := by
  unfold atI ixN
  rw [if_neg (by omega)]
  cases xs with
  | nil => rfl
  | cons x r =>
    rw [if_pos (by simp only [List.length_cons]; omega), List.getLast?_eq_getElem?, Option.bind_some]
    congr 1
    omega
theorem lc_ints {v : Nat} {el : En.Env → RV} {e0 : En.Env} (g : Int → Int) : ∀ {l : List Int}, (∀ k ∈ l, ∃ e3, el (e0.set v (some (.d (.int k)))) = .ok (.int (g k)) false e3 false) → lcG (tgN v) (vC (.bool true)) el e0 ((iL l).map T.d) = some (iL (l.map g))
  | [], _ => rfl
  | k :: l, h => by
    obtain ⟨e3, h1⟩ := h k (by simp)
    have ih := lc_ints (v := v) (el := el) (e0 := e0) g (l := l) (fun k hk => h k (by simp [hk]))
    rw [iL_cons, List.map_cons, List.map_cons, iL_cons]
    unfold lcG
    simp only [tgN_a, x_C, h1, ih, Option.map_some]
theorem set_iL {n : Nat} {x : Int} : ((iL l).map T.d).set n (.d (.int x)) = (iL (l.set n x)).map T.d := by
  unfold iL
  rw [List.map_set, List.map_set]
theorem q_gen {x y : PyData} (h : SeqAt.shaped x = true) (h2 : SeqAt.shaped y = true) : fEq x y = some (.bool (PyData.eqv x y)) := by
  unfold fEq
  rw [h, h2]; rfl
theorem n_gen {x y : PyData} (h : SeqAt.shaped x = true) (h2 : SeqAt.shaped y = true) : fNe x y = some (.bool (!PyData.eqv x y)) := by
  unfold fNe
  rw [h, h2]; rfl
end
theorem ll1 {x0 : Int} : PyData.list [.int x0] = .list (iL [x0]) := rfl
theorem lt1 {x0 : Int} : PyData.tuple [.int x0] = .tuple (iL [x0]) := rfl
theorem ll2 {x0 x1 : Int} : PyData.list [.int x0, .int x1] = .list (iL [x0, x1]) := rfl
theorem lt2 {x0 x1 : Int} : PyData.tuple [.int x0, .int x1] = .tuple (iL [x0, x1]) := rfl
theorem ll3 {x0 x1 x2 : Int} : PyData.list [.int x0, .int x1, .int x2] = .list (iL [x0, x1, x2]) := rfl
theorem lt3 {x0 x1 x2 : Int} : PyData.tuple [.int x0, .int x1, .int x2] = .tuple (iL [x0, x1, x2]) := rfl
theorem ll4 {x0 x1 x2 x3 : Int} : PyData.list [.int x0, .int x1, .int x2, .int x3] = .list (iL [x0, x1, x2, x3]) := rfl
theorem lt4 {x0 x1 x2 x3 : Int} : PyData.tuple [.int x0, .int x1, .int x2, .int x3] = .tuple (iL [x0, x1, x2, x3]) := rfl
theorem ll5 {x0 x1 x2 x3 x4 : Int} : PyData.list [.int x0, .int x1, .int x2, .int x3, .int x4] = .list (iL [x0, x1, x2, x3, x4]) := rfl
theorem lt5 {x0 x1 x2 x3 x4 : Int} : PyData.tuple [.int x0, .int x1, .int x2, .int x3, .int x4] = .tuple (iL [x0, x1, x2, x3, x4]) := rfl
theorem ll6 {x0 x1 x2 x3 x4 x5 : Int} : PyData.list [.int x0, .int x1, .int x2, .int x3, .int x4, .int x5] = .list (iL [x0, x1, x2, x3, x4, x5]) := rfl
theorem lt6 {x0 x1 x2 x3 x4 x5 : Int} : PyData.tuple [.int x0, .int x1, .int x2, .int x3, .int x4, .int x5] = .tuple (iL [x0, x1, x2, x3, x4, x5]) := rfl
theorem ll7 {x0 x1 x2 x3 x4 x5 x6 : Int} : PyData.list [.int x0, .int x1, .int x2, .int x3, .int x4, .int x5, .int x6] = .list (iL [x0, x1, x2, x3, x4, x5, x6]) := rfl
theorem lt7 {x0 x1 x2 x3 x4 x5 x6 : Int} : PyData.tuple [.int x0, .int x1, .int x2, .int x3, .int x4, .int x5, .int x6] = .tuple (iL [x0, x1, x2, x3, x4, x5, x6]) := rfl
theorem ll8 {x0 x1 x2 x3 x4 x5 x6 x7 : Int} : PyData.list [.int x0, .int x1, .int x2, .int x3, .int x4, .int x5, .int x6, .int x7] = .list (iL [x0, x1, x2, x3, x4, x5, x6, x7]) := rfl
theorem lt8 {x0 x1 x2 x3 x4 x5 x6 x7 : Int} : PyData.tuple [.int x0, .int x1, .int x2, .int x3, .int x4, .int x5, .int x6, .int x7] = .tuple (iL [x0, x1, x2, x3, x4, x5, x6, x7]) := rfl
theorem ll9 {x0 x1 x2 x3 x4 x5 x6 x7 x8 : Int} : PyData.list [.int x0, .int x1, .int x2, .int x3, .int x4, .int x5, .int x6, .int x7, .int x8] = .list (iL [x0, x1, x2, x3, x4, x5, x6, x7, x8]) := rfl
theorem lt9 {x0 x1 x2 x3 x4 x5 x6 x7 x8 : Int} : PyData.tuple [.int x0, .int x1, .int x2, .int x3, .int x4, .int x5, .int x6, .int x7, .int x8] = .tuple (iL [x0, x1, x2, x3, x4, x5, x6, x7, x8]) := rfl
end En
/-! # [f(x, y) for x in .. for y in ..] -/
namespace En
open PySem PySem.Spec PyProof.Rows L2
/-- X(), an own class without an __init__ of its own -/
theorem pmk_own0 {X : Cx} {C : Addr} {bmB : List Value} {B newId initId : String} {x : Str} {p pos : Pos} (F : ExcBaseFacts B newId initId bmB) (q : PySem.W.excIn X.K C bmB newId = true) (gC : X.mg x = some (.ref C)) (kC : PySem.W.keepIn X.K (.ref C) = true) (r : Raises X (.ref C)) (hg : Gl X x)
    (hdb : (x == ("__debug__" : Str)) = false := by decide) : PMk X (.Call (.Name x p) [] [] pos) (fun _ H Q => Q (.ref C) none H) := by
  intro pins s σ H Q I h
  refine wpAny_Call_Name_kw (ld_glob I hg gC ?_ hdb)
  refine PySem.W.callWith_K0 I.kIn kC ?_
  show wpAny _ _ (call (.ref C) []) _ _ _
  obtain ⟨bm, N, nm, qn, bs, hdct, sn, sub, ab, col, dd, k0, k1, k2, k3, k5, mN, hC, hN, hni, T⟩ := exc_obj I.kIn q
  refine wpAny_call_exc_subT F T hC hN hni (fun h' e hm => ?_) (Nat.zero_le _)
  exact mk_of I hm r h (I.hok.gone hm.new)
/-- an own error class without fields -/
structure OwnErr (K : PySem.W.Frag) (mg : Str → Option Value) (x : Str) (C : Addr) : Prop where
  gC : mg x = some (.ref C)
  xP : PySem.W.excIn K C [.type "ValueError", .type "Exception", .type "BaseException", .type "object"] "ValueError.__new__" = true
  kP : PySem.W.keepIn K (.ref C) = true
  bP : PySem.W.subIn K (.ref C) (.type "BaseException") = some true
  tP : PySem.W.typeIn K (.ref C) = some (.type "type")
def lcG2 (tg : T → Env → Option Env) (di1 : Env → RI) (vs1 : List Nat) (tg1 : T → Env → Option Env) (el : Env → RV) (e0 : Env) : List T → Option (List PyData)
  | [] => some []
  | x :: r => match tg x e0 with
    | some e1 => match di1 e1 with
      | .ok ys e2 false => match lcG tg1 (vC (.bool true)) el (wipeE e2 vs1) ys with
        | some zs => (lcG2 tg di1 vs1 tg1 el e0 r).map (zs ++ ·)
        | none => none
      | _ => none
    | none => none
def dLc2 (di : Env → RI) (vs : List Nat) (tg : T → Env → Option Env) (di1 : Env → RI) (vs1 : List Nat) (tg1 : T → Env → Option Env) (el : Env → RV) : Env → Res := fun e => match di e with
  | .ok xs e1 w => match lcG2 tg di1 vs1 tg1 el (wipeE e1 vs) xs with
      | some ys => if ys.length < SZ then .ok (.t (.l (ys.map T.d))) e1 w else .no
      | none => .no
  | .er C fs e1 => .er C fs e1
  | .no => .no
abbrev cut (H : Hp) (D : Addr) : Hp := fun a => if a = D then none else H a
/-- what the list of a comprehension keeps to -/
structure LcS (K : PySem.W.Frag) (R1 : RR) (H1 : Hp) (D : Addr) (R' : RR) (H' : Hp) (acc : List V) (done : List PyData) : Prop where
  gr : Gr R1 H1 R' (cut H' D)
  hD : H' D = some (.lst acc)
  da : DpAll K R' acc done
section
variable {K : PySem.W.Frag} {R1 : RR} {H1 : Hp} {R' : RR} {H' : Hp} {D : Addr} {acc : List V} {done : List PyData}
theorem LcS.rh (S : LcS K R1 H1 D R' H' acc done) : Same R' H' := fun a o h => by
  have := S.gr.rh a o h
  by_cases z : a = D
  · unfold cut at this; rw [if_pos z] at this; cases this
  · unfold cut at this; rw [if_neg z] at this; exact this
theorem LcS.hh (S : LcS K R1 H1 D R' H' acc done) : Same H1 H' := fun a o h => by
  have := S.gr.hh a o h
  by_cases z : a = D
  · unfold cut at this; rw [if_pos z] at this; cases this
  · unfold cut at this; rw [if_neg z] at this; exact this
theorem LcS.rD (S : LcS K R1 H1 D R' H' acc done) : R' D = none := by
  cases q : R' D with
  | none => rfl
  | some o => have := S.gr.rh D o q; unfold cut at this; rw [if_pos rfl] at this; cases this
theorem LcS.keep (S : LcS K R1 H1 D R' H' acc done) (hD : H1 D = none) {R4 : RR} {H4 : Hp} (q : Gr R' H' R4 H4) : LcS K R1 H1 D R4 H4 acc done := by
  have n4 : R4 D = none := by
    cases z : R4 D with
    | none => rfl
    | some o =>
      rcases q.rn D (by rw [z]; exact fun z => by cases z) with z | z
      · exact absurd S.rD z
      · rw [S.hD] at z; cases z
  refine ⟨⟨fun a o h => ?_, S.gr.rr.trans q.rr, q.bb.trans S.gr.bb, fun a o h => ?_, fun a h => ?_⟩, q.hh D _ S.hD, dpa_up q.rr.s _ _ S.da⟩
  · have ne : a ≠ D := fun z => by rw [z, hD] at h; cases h
    show (if a = D then none else H4 a) = some o
    rw [if_neg ne]
    exact q.hh a o (S.hh a o h)
  · have ne : a ≠ D := fun z => by rw [z, n4] at h; cases h
    show (if a = D then none else H4 a) = some o
    rw [if_neg ne]
    exact q.rh a o h
  · rcases q.rn a h with z | z
    · exact S.gr.rn a z
    · exact .inr (S.hh.free z)
theorem LcS.app (S : LcS K R1 H1 D R' H' acc done) {u : V} {y : PyData} (d : Dp K R' u y) : LcS K R1 H1 D R' (upd H' D (.lst (acc ++ [u]))) (acc ++ [u]) (done ++ [y]) := by
  refine ⟨?_, upd_same, dpa_app S.da (.cons d .nil)⟩
  have e0 : cut (upd H' D (.lst (acc ++ [u]))) D = cut H' D := by
    funext a
    unfold cut
    by_cases z : a = D
    · rw [if_pos z, if_pos z]
    · rw [if_neg z, if_neg z, upd_ne z]
  rw [e0]
  exact S.gr
theorem cut_new {H1 : Hp} {D : Addr} {o : HO} (hD : H1 D = none) : cut (upd H1 D o) D = H1 := by
  funext a
  unfold cut
  by_cases z : a = D
  · subst z; rw [if_pos rfl, hD]
  · rw [if_neg z, upd_ne z]
theorem lcs_state {c : Ctx} {e1 : Env} {σ : L2.St} {F1 : List Addr} {vs : List Nat} (s1 : Sr c R1 H1 e1 σ F1) (S : LcS K R1 H1 D R' H' acc done) : ∃ F2, Sr (c0 c) R' H' (wipeE e1 vs) (wipe σ vs) F2 ∧ ∀ a ∈ F2, a ∈ F1 := by
  obtain ⟨F0, F2, pm, sl2⟩ := rpe_wipe vs s1.sl
  have sub2 : ∀ a ∈ F2, a ∈ F1 := fun a ha => pm.mem_iff.mpr (List.mem_append_right _ ha)
  have nd2 : F2.Nodup := (List.nodup_append.mp (pm.nodup_iff.mp s1.nd)).2.1
  have nF : ∀ a ∈ F2, R' a = none := fun a ha => by
    have h1n := s1.rf a (sub2 a ha)
    cases q : R' a with
    | none => rfl
    | some o =>
      exfalso
      have hdom := rpe_dom sl2 a ha
      rcases S.gr.rn a (by rw [q]; exact fun z => by cases z) with z | z
      · exact z h1n
      · exact hdom z
  exact ⟨F2, ⟨rpe_up S.gr.rr S.gr.bb (fun a _ o h => S.hh a o h) sl2, nd2, S.rh, nF, fun i v z => by simp [c0] at z, trivial, S.gr.rr.c.trans s1.ct⟩, sub2⟩
theorem lcs_step {c : Ctx} {e1 e2 : Env} {σ : L2.St} {F1 : List Addr} {vs : List Nat} {g : TG} {tg : T → Env → Option Env} {R3 : RR} {H2 : Hp} {v : V} {x : T} {Q : L2.St → Hp → Prop} (s1 : Sr c R1 H1 e1 σ F1) (hD : H1 D = none) (S : LcS c.K R1 H1 D R' H' acc done) (gr3 : Gr R' H' R3 H2) (dp : Rp c.K R3 H2 x v []) (htg : TgOk (c0 c) vs g tg) (h3 : tg x (wipeE e1 vs) = some e2)
    (k : ∀ σ3 F3, Sr (c0 c) R3 H2 e2 σ3 F3 → (∀ a ∈ F3, a ∈ F1) → LcS c.K R1 H1 D R3 H2 acc done → wipe σ3 vs = wipe σ vs → Q σ3 H2) : g v (wipe σ vs) H2 Q := by
  have S3 := S.keep hD gr3
  obtain ⟨F2, sB, sub⟩ := lcs_state (vs := vs) s1 S3
  exact htg R3 H2 _ _ F2 v x e2 _ sB dp h3 fun σ3 F3 s3 f3 t3 => k σ3 F3 s3 (fun a ha => sub a (f3 a ha)) S3 (wipe_of t3)
theorem sr_cut {c : Ctx} {R : RR} {H : Hp} {e : Env} {σ : L2.St} {F : List Addr} (s : Sr (c0 c) R H e σ F) (nD : D ∉ F) (rD : R D = none) : Sr (c0 c) R (cut H D) e σ F := by
  refine ⟨rpe_up (RR.Le.refl _) rfl (fun a ha o h => ?_) s.sl, s.nd, fun a o h => ?_, s.rf, s.pn, s.fx, s.ct⟩
  · have ne : a ≠ D := fun z => nD (z ▸ ha)
    show (if a = D then none else H a) = some o
    rw [if_neg ne]; exact h
  · have ne : a ≠ D := fun z => by rw [z, rD] at h; cases h
    show (if a = D then none else H a) = some o
    rw [if_neg ne]; exact s.rh a o h
end
theorem tYes_in {σ : L2.St} {H : Hp} {f g : Hp → Prop} (h : f H) : tYes σ H (fun b H3 => if b = true then f H3 else g H3) := by
  show (if true = true then f H else g H)
  rw [if_pos rfl]; exact h
theorem drop_of {xs : List T} {i : Nat} {x : T} (hx : xs[i]? = some x) : xs.drop i = x :: xs.drop (i + 1) := by
  obtain ⟨hl, hx'⟩ := List.getElem?_eq_some_iff.mp hx
  rw [List.drop_eq_getElem_cons hl, hx']
theorem dLc2_ok {c : Ctx} {vs vs1 : List Nat} {di di1 : Env → RI} {g g1 : TG} {tg tg1 : T → Env → Option Env} {el : Env → RV} (htg : TgOk (c0 c) vs g tg) (htg1 : TgOk (c0 c) vs1 g1 tg1) {σ : L2.St} {H : Hp} {Q : VK} (hh : tD c (dLc2 di vs tg di1 vs1 tg1 el) σ H Q) : tLc2 (tI c di) g tYes (tI (c0 c) di1) g1 tYes (tV (c0 c) el) vs vs1 σ H Q := by
  obtain ⟨e, R, F, s, p⟩ := hh
  refine ⟨e, R, F, s, ?_⟩
  unfold dLc2 at p
  cases h1 : di e with
  | no => simp only [h1] at p; exact p
  | er C fs e1 => simp only [h1] at p; exact p
  | ok xs e1 w =>
    simp only [h1] at p
    intro R1 H1 F1 J s1 ⟨G, Y, wk, hG, hY⟩ ex hw D hD
    cases h2 : lcG2 tg di1 vs1 tg1 el (wipeE e1 vs) xs with
    | none => simp only [h2] at p; exact p.elim
    | some ys =>
      simp only [h2] at p
      by_cases hl : ys.length < SZ
      · rw [if_pos hl] at p
        let P : Nat → Hp → Prop := fun i H => ∃ (R' : RR) (acc : List V) (done : List PyData), LcS c.K R1 H1 D R' H acc done ∧ ∃ rest, lcG2 tg di1 vs1 tg1 el (wipeE e1 vs) (xs.drop i) = some rest ∧ ys = done ++ rest
        refine ⟨fun i m H => m = xs.length - i ∧ i ≤ xs.length ∧ P i H, ⟨_, rfl, Nat.zero_le _, R1, [], [], ⟨by rw [cut_new hD]; exact .refl s1.rh, upd_same, .nil⟩, ys, by rw [List.drop_zero]; exact h2, rfl⟩, ?_⟩
        rintro i m H2 ⟨rfl, hi, R', acc, done, S, rest, hr, hys⟩
        have q := hG R' H2 S.gr.rr S.rh
        by_cases hlt : i < xs.length
        · refine .inr ⟨wk.goes i H2 hlt q, P (i + 1), fun H' p' => ⟨xs.length - (i + 1), by omega, rfl, hlt, p'⟩, fun v H3 y => ?_⟩
          obtain ⟨R3, x, hx, gr3, dp⟩ := hY i R' H2 v H3 S.gr.rr S.rh hlt (wk.yields i H2 v H3 hlt q y)
          rw [drop_of hx] at hr
          unfold lcG2 at hr
          cases h3 : tg x (wipeE e1 vs) with
          | none => simp only [h3] at hr; cases hr
          | some e2 =>
            simp only [h3] at hr
            cases h4 : di1 e2 with
            | no => simp only [h4] at hr; cases hr
            | er C fs e3 => simp only [h4] at hr; cases hr
            | ok ys1 e3 w1 =>
              cases w1 with
              | true => simp only [h4] at hr; cases hr
              | false =>
                simp only [h4] at hr
                cases h5 : lcG tg1 (vC (.bool true)) el (wipeE e3 vs1) ys1 with
                | none => simp only [h5] at hr; cases hr
                | some zs =>
                  simp only [h5] at hr
                  obtain ⟨rest2, hr2, hr3⟩ := Option.map_eq_some_iff.mp hr
                  refine lcs_step s1 hD S gr3 dp htg h3 fun σ3 F3 s3 f3 S3 w3 => ⟨w3, ?_⟩
                  refine tYes_in ?_
                  refine ⟨e2, R3, F3, s3, ?_⟩
                  rw [h4]
                  intro R4 H4 F4 J1 s4 ⟨G1, Y1, wk1, hG1, hY1⟩ ex4 hw4
                  have S4 := S3.keep hD (hw4 rfl)
                  have nD : D ∉ F4 := fun z => by
                    rcases ex4.fn D z with z | z
                    · exact rpe_dom s1.sl D (f3 D z) hD
                    · rw [S3.hD] at z; cases z
                  have s4c := sr_cut s4 nD S4.rD
                  have hDc : cut H4 D D = none := if_pos rfl
                  let P1 : Nat → Hp → Prop := fun j H => ∃ (R' : RR) (acc' : List V) (done' : List PyData), LcS c.K R4 (cut H4 D) D R' H acc' done' ∧ ∃ zs1, lcG tg1 (vC (.bool true)) el (wipeE e3 vs1) (ys1.drop j) = some zs1 ∧ done ++ zs = done' ++ zs1
                  refine ⟨fun j k H => k = ys1.length - j ∧ j ≤ ys1.length ∧ P1 j H, ⟨_, rfl, Nat.zero_le _, R4, acc, done, ⟨.refl s4c.rh, S4.hD, S4.da⟩, zs, by rw [List.drop_zero]; exact h5, rfl⟩, ?_⟩
                  rintro j k H5 ⟨rfl, hj, R5, acc5, done5, S5, zs1, hz, hd5⟩
                  have q1 := hG1 R5 H5 S5.gr.rr S5.rh
                  by_cases lj : j < ys1.length
                  · refine .inr ⟨wk1.goes j H5 lj q1, P1 (j + 1), fun H' p' => ⟨ys1.length - (j + 1), by omega, rfl, lj, p'⟩, fun v1 H6 y1 => ?_⟩
                    obtain ⟨R6, x1, hx1, gr6, dp1⟩ := hY1 j R5 H5 v1 H6 S5.gr.rr S5.rh lj (wk1.yields j H5 v1 H6 lj q1 y1)
                    rw [drop_of hx1] at hz
                    unfold lcG at hz
                    cases h7 : tg1 x1 (wipeE e3 vs1) with
                    | none => simp only [h7] at hz; cases hz
                    | some e6 =>
                      simp only [h7, x_C] at hz
                      refine lcs_step (c := c0 c) s4c hDc S5 gr6 dp1 htg1 h7 fun σ6 F6 s6 f6 S6 w6 => ⟨w6, ?_⟩
                      refine tYes_in ?_
                      refine ⟨e6, R6, F6, s6, ?_⟩
                      cases h8 : el e6 with
                      | no => simp only [h8] at hz; cases hz
                      | er C fs e4 => simp only [h8] at hz; cases hz
                      | ok yv b7 e7 w7 =>
                        intro R7 H7 F7 u7 s7 sd7 ex7 hw7
                        cases b7 with
                        | true => simp only [h8] at hz; cases hz
                        | false =>
                          cases w7 with
                          | true => simp only [h8] at hz; cases hz
                          | false =>
                            simp only [h8] at hz
                            obtain ⟨zs2, hz2, hz3⟩ := Option.map_eq_some_iff.mp hz
                            have S7 := S6.keep hDc (hw7 rfl)
                            have la := dpa_len S7.da
                            have ll : done5.length < ys.length := by
                              rw [hys, ← hr3, ← List.append_assoc, hd5, ← hz3]
                              simp only [List.length_append, List.length_cons]
                              omega
                            exact ⟨acc5, S7.hD, by rw [la, ← sz_eq]; omega, R7, acc5 ++ [u7], done5 ++ [yv], S7.app sd7, zs2, hz2, by rw [hd5, ← hz3, List.append_assoc]; rfl⟩
                  · have ej : j = ys1.length := by omega
                    subst ej
                    refine .inl ⟨wk1.stops H5 q1, ?_⟩
                    rw [List.drop_length] at hz
                    have hz' : some ([] : List PyData) = some zs1 := hz
                    cases hz'
                    rw [List.append_nil] at hd5
                    exact ⟨R5, acc5, done5, ⟨S4.gr.trans S5.gr, S5.hD, S5.da⟩, rest2, hr2, by rw [hys, ← hr3, ← hd5, List.append_assoc]⟩
        · have ei : i = xs.length := by omega
          subst ei
          refine .inl ⟨wk.stops H2 q, ?_⟩
          rw [List.drop_length] at hr
          have hr' : some ([] : List PyData) = some rest := hr
          cases hr'
          rw [List.append_nil] at hys
          subst hys
          have g1 : Gr R1 H1 R' H2 := ⟨S.hh, S.gr.rr, S.gr.bb, S.rh, S.gr.rn⟩
          have nD : D ∉ F1 := fun z => rpe_dom s1.sl D z hD
          refine p R' H2 F1 [D] _ (g1.sr s1) ⟨D, acc, [], rfl, .refl _, S.hD, rpl_d S.da⟩ ?_ (by simpa using S.rD) ?_ (fun z => ⟨(hw z).trans g1, fun a ha => by simp at ha; subst ha; exact (hw z).hh.free hD⟩)
          · exact List.nodup_append.mpr ⟨s1.nd, by simp, fun a ha b hb z => by simp at hb; subst hb; subst z; exact nD ha⟩
          · refine ex.trans ⟨g1.rr, fun a o h _ => g1.hh a o h, fun a h => (g1.rn a h).elim .inl fun z => .inr (.inr z), fun a ha => ?_⟩
            rcases List.mem_append.mp ha with ha | ha
            · exact .inl ha
            · simp at ha; subst ha; exact .inr hD
      · rw [if_neg hl] at p; exact p.elim
theorem de_lc2 {X : Cx} {c : Ctx} {elt tgt iter tgt1 iter1 : Expr} {scope : Scope} {own : List (Str × Nat)} {vs1 : List Nat} {pos : Pos} {di di1 : Env → RI} {g g1 : TG} {tg tg1 : T → Env → Option Env} {el : Env → RV} (hc : X.calm = true) (hN : X.N.Nodup) (hi : PI X tgt iter (tI c di)) (ok : BlkOk X.N X.env.scope scope own) (hv : ∀ i ∈ vs1, i ∈ own.map (·.2))
    (hg : ∀ (s : Shared) (H : Hp) (C : Addr) (cl : List (Str × Addr)) (fp : List Addr), PG (X.blk s H scope (compEnvC scope cl C X.env) fp) tgt g) (htg : TgOk (c0 c) (own.map (·.2)) g tg)
    (hi1 : ∀ (s : Shared) (H : Hp) (C : Addr) (cl : List (Str × Addr)) (fp : List Addr), PI (X.blk s H scope (compEnvC scope cl C X.env) fp) tgt1 iter1 (tI (c0 c) di1))
    (hg1 : ∀ (s : Shared) (H : Hp) (C : Addr) (cl : List (Str × Addr)) (fp : List Addr), PG (X.blk s H scope (compEnvC scope cl C X.env) fp) tgt1 g1) (htg1 : TgOk (c0 c) vs1 g1 tg1)
    (he : ∀ (s : Shared) (H : Hp) (C : Addr) (cl : List (Str × Addr)) (fp : List Addr), PE (X.blk s H scope (compEnvC scope cl C X.env) fp) elt (tV (c0 c) el)) (hs : ∀ x, foldedSetIterable iter X.env x = pure x := by intro _; rfl) (hs1 : ∀ env x, foldedSetIterable iter1 env x = pure x := by intro _ _; rfl) :
    PE X (.ListComp elt [⟨tgt, iter, [], 0⟩, ⟨tgt1, iter1, [], 0⟩] scope pos) (tD c (dLc2 di (own.map (·.2)) tg di1 vs1 tg1 el)) := PE.imp (pe_lc2 hc hN hi ok hv hg (fun _ _ _ _ _ => pts_nil) hi1 hg1 (fun _ _ _ _ _ => pts_nil) he hs hs1) fun σ H Q h => dLc2_ok htg htg1 h
/-! ## xs[::-1] -/
def fRv : PyData → Option (List PyData)
  | .list ds => some ds.reverse
  | _ => none
theorem dpa_rv {K : PySem.W.Frag} {R : RR} : ∀ {vs : List V} {ds : List PyData}, DpAll K R vs ds → DpAll K R vs.reverse ds.reverse
  | _, _, .nil => .nil
  | _, _, .cons d r => by rw [List.reverse_cons, List.reverse_cons]; exact dpa_app (dpa_rv r) (.cons d .nil)
theorem sl_rev {K : PySem.W.Frag} : Sl1 K (fun x H1 Q => ∃ a xs, x = .ref a ∧ SqL K H1 a xs ∧ ∀ p, H1 p = none → Q (.ref p) (upd H1 p (.lst xs.reverse))) fRv := by
  intro R H v x b z Q rh s e k
  unfold fRv at e
  split at e
  · cases e
    obtain ⟨p, vs, rfl, h2, h3⟩ := sd_list s rh
    exact ⟨p, vs, rfl, h2, fun l hl => k l _ hl (dpa_rv h3)⟩
  · cases e
theorem de_rev {X : Cx} {c : Ctx} {e : Expr} {d : Env → RV} {k : Nat} {p1 p2 p3 pos : Pos} (he : PE X e (tV c d)) (hK : X.K = c.K := by rfl) : PE X (.Subscript e (.Slice none none (some (.UnaryOp .USub (.Constant (.int 1) k p1) p2)) p3) pos) (tD c (d1L fRv d)) := by
  refine PE.imp (pe_revL he) fun σ H Q h => ?_
  rw [hK]
  exact d1L_ok sl_rev h
theorem tg_sub {c : Ctx} {is js : List Nat} {g : TG} {tg : T → Env → Option Env} (h : TgOk c is g tg) (hs : ∀ i ∈ is, i ∈ js) : TgOk c js g tg := fun R H e σ F v x e' Q s d he q => h R H e σ F v x e' Q s d he fun σ' F' s' f t => q σ' F' s' f ⟨t.len, fun j hj => t.out j fun z => hj (hs j z)⟩
/-! ## reading -/
theorem x_lc2 {di di1 : Env → RI} {vs vs1 : List Nat} {tg tg1 : T → Env → Option Env} {el : Env → RV} {e : Env} : dLc2 di vs tg di1 vs1 tg1 el e = match di e with
  | .ok xs e1 w => match lcG2 tg di1 vs1 tg1 el (wipeE e1 vs) xs with
      | some ys => if ys.length < SZ then .ok (.t (.l (ys.map T.d))) e1 w else .no
      | none => .no
  | .er C fs e1 => .er C fs e1
  | .no => .no := rfl
def lc2A (e1 : Env) (w : Bool) : Option (List PyData) → Res
  | some ys => if ys.length < SZ then .ok (.t (.l (ys.map T.d))) e1 w else .no
  | none => .no
theorem lc2_ok {di di1 : Env → RI} {vs vs1 : List Nat} {tg tg1 : T → Env → Option Env} {el : Env → RV} {e e1 : Env} {xs : List T} {ys : List PyData} {w : Bool} (h : di e = .ok xs e1 w) (h2 : lcG2 tg di1 vs1 tg1 el (wipeE e1 vs) xs = some ys) (h3 : ys.length < SZ) : dLc2 di vs tg di1 vs1 tg1 el e = .ok (.t (.l (ys.map T.d))) e1 w := by
  unfold dLc2
  simp only [h, h2]
  exact if_pos h3
/-- items one after another, each giving a list of ints -/
theorem lcG2_ints {i : Nat} {di1 : Env → RI} {vs1 : List Nat} {tg1 : T → Env → Option Env} {el : Env → RV} {e0 : Env} (f : Int → List Int) : ∀ {l : List Int}, (∀ k ∈ l, ∃ ys e2, di1 (e0.set i (some (.d (.int k)))) = .ok ys e2 false ∧ lcG tg1 (vC (.bool true)) el (wipeE e2 vs1) ys = some (iL (f k))) → lcG2 (tgN i) di1 vs1 tg1 el e0 ((iL l).map T.d) = some (iL (l.map f).flatten)
  | [], _ => rfl
  | k :: l, h => by
    obtain ⟨ys, e2, h1, h2⟩ := h k (by simp)
    have ih := lcG2_ints (i := i) (di1 := di1) (vs1 := vs1) (tg1 := tg1) (el := el) (e0 := e0) f (l := l) (fun k hk => h k (by simp [hk]))
    rw [iL_cons, List.map_cons]
    unfold lcG2
    simp only [tgN_a, h1, h2, ih, Option.map_some, iL_app, List.map_cons, List.flatten_cons]
theorem fRv_l {xs : List PyData} : fRv (.list xs) = some xs.reverse := rfl
theorem rg3_ok {i j c : Int} {e1 : Env} {w : Bool} (hc : 0 < c) (hc2 : c < 1073741824) (hi : 0 ≤ i) (hij : i ≤ j) (hj : j < 1099511627776) : rg3A (.ok [.int i, .int j, .int c] e1 w) = .ok ((rngC i c ((j - i + c - 1) / c).toNat).map T.d) e1 w := by
  have e : Builtin.Range.rangeSize i j c = (j - i + c - 1) / c := by
    unfold Builtin.Range.rangeSize
    rw [if_pos hc]
    by_cases h : i < j
    · rw [if_pos h, show j - i + c - 1 = (j - i - 1) + 1 * c by omega, Int.add_mul_ediv_right _ _ (by omega)]
    · have : j = i := by omega
      subst this
      rw [if_neg h]
      symm
      exact Int.ediv_eq_zero_of_lt (by omega) (by omega)
  have n0 : 0 ≤ (j - i + c - 1) / c := Int.ediv_nonneg (by omega) (by omega)
  have n1 : (j - i + c - 1) / c ≤ j - i + c - 1 := Int.ediv_le_self _ (by omega)
  have hs : Builtin.Range.small i j c = true := by
    unfold Builtin.Range.small
    rw [e]
    simp [Builtin.Range.rangeFitsLong]
    rw [if_pos hc]
    omega
  rw [rg3A.eq_1, if_pos (by rw [hs, e]; simp; omega), e]
theorem rngC_iL {lo st : Int} {n : Nat} : rngC lo st n = iL ((List.range n).map fun k => lo + (k : Nat) * st) := by simp [rngC, iL, List.map_map, Function.comp_def]
theorem rngC_len {lo st : Int} {n : Nat} : (rngC lo st n).length = n := by simp [rngC]
end En
/-! # errors with one field, bit_length -/
namespace En
open PySem PySem.Spec PyProof.Rows L2
theorem sRaise1_ok {c : Ctx} {W : WX} {C f : Str} {d : Env → RV} {D : Ends} {σ : L2.St} {H : Hp} (hε : c.ε = WE W) (h : tS c (sRaise1 C f d) D σ H) :
    (tCons (tV c d) tNil) σ H fun vs H1 => ∃ v, vs = [v] ∧ ∀ dd, H1 dd = none → WE W σ (.ref (c.cl C)) (some dd) (upd H1 dd (.xd [(f, v)])) := by
  obtain ⟨e, R, F, s, p⟩ := h
  refine ⟨e, R, F, s, ?_⟩
  unfold sRaise1 at p
  cases h1 : d e with
  | no => simp only [h1] at p; exact p
  | er C' fs e1 => simp only [h1] at p; exact fun R' H' F' dd sr rx ex => p σ R' H' F' dd sr rx ex
  | ok x b e1 w =>
    cases b with
    | true => simp only [h1] at p; exact p.elim
    | false =>
      simp only [h1] at p
      intro R1 H1 F1 u s1 sd ex hw
      refine ⟨u, rfl, fun dd nd => ?_⟩
      have g := Gr.new (o := .xd [(f, u)]) s1.rh nd
      have hq := p σ _ _ F1 (some dd) (g.sr s1) ⟨dd, [u], rfl, upd_same, .cons (dp_up g.rr.s _ _ sd) .nil⟩ (ex.trans ⟨g.rr, fun a o h _ => g.hh a o h, fun a h => (g.rn a h).elim .inl fun z => .inr (.inr z), fun a ha => .inl ha⟩)
      rw [hε] at hq
      exact hq
def fBl : PyData → Option PyData
  | .int i => some (.int (Builtin.Int.intBits i : Nat))
  | _ => none
theorem sc_bl {K : PySem.W.Frag} : Sc1 K (fun x H1 Q => ∃ i, x = .int i ∧ Q (.int (Builtin.Int.intBits i : Nat)) H1) fBl := by
  intro R H v x b z Q rh s e k
  unfold fBl at e
  split at e
  · cases e
    exact ⟨_, sd_int s, sc_here rh k (.int _)⟩
  · cases e
theorem ve_bits {X : Cx} {c : Ctx} {o : Expr} {d : Env → RV} {apos pos : Pos} (ho : PE X o (tV c d)) (hbase : attributeBase o "bit_length" X.env (eval o X.env) = eval o X.env := by rfl) (hline : (apos.endLine == pos.line) = true := by rfl) : PE X (.Call (.Attribute o "bit_length" apos) [] [] pos) (tV c (v1 fBl d)) :=
  PE.imp (pe_bits ho hbase hline) fun _ _ _ h => v1_ok sc_bl h
end En
/-! # except X as e, e.what -/
namespace En
open PySem PySem.Spec PyProof.Rows L2
def pnPut : List (Option V) → Nat → V → List (Option V)
  | [], 0, v => [some v]
  | [], i + 1, v => none :: pnPut [] i v
  | _ :: r, 0, v => some v :: r
  | o :: r, i + 1, v => o :: pnPut r i v
theorem pnPut_at : ∀ (pn : List (Option V)) (i : Nat) (v : V), (pnPut pn i v)[i]? = some (some v)
  | [], 0, v => rfl
  | [], i + 1, v => by rw [pnPut, List.getElem?_cons_succ]; exact pnPut_at [] i v
  | o :: r, 0, v => rfl
  | o :: r, i + 1, v => by rw [pnPut, List.getElem?_cons_succ]; exact pnPut_at r i v
theorem pnPut_ne : ∀ (pn : List (Option V)) (i j : Nat) (v : V), j ≠ i → ((pnPut pn i v)[j]?).join = (pn[j]?).join
  | [], 0, 0, v, h => absurd rfl h
  | [], 0, j + 1, v, h => by simp [pnPut]
  | [], i + 1, 0, v, h => by simp [pnPut]
  | [], i + 1, j + 1, v, h => by
    rw [pnPut, List.getElem?_cons_succ, pnPut_ne [] i j v (by omega)]
    simp
  | o :: r, 0, 0, v, h => absurd rfl h
  | o :: r, 0, j + 1, v, h => rfl
  | o :: r, i + 1, 0, v, h => rfl
  | o :: r, i + 1, j + 1, v, h => by
    rw [pnPut, List.getElem?_cons_succ, pnPut_ne r i j v (by omega), List.getElem?_cons_succ]
theorem put_no {pn : List (Option V)} {i j : Nat} {v : V} (h : NoPin pn j) (ne : j ≠ i) : NoPin (pnPut pn i v) j := by
  unfold NoPin at h ⊢
  rw [pnPut_ne pn i j v ne]
  exact h
theorem join_some {o : Option (Option V)} {v : V} : o = some (some v) ↔ o.join = some v := by
  cases o with
  | none => simp
  | some o => cases o <;> simp
theorem pin_put {pn : List (Option V)} {i : Nat} {v : V} {σ : L2.St} (h : Pin pn σ) (hl : i < σ.length) : Pin (pnPut pn i v) (σ.set i (some v)) := by
  intro j u hj
  by_cases e : j = i
  · subst e
    rw [pnPut_at] at hj
    cases hj
    rw [List.getElem?_set_self hl]
  · rw [List.getElem?_set_ne (fun z => e z.symm)]
    exact h j u (join_some.mpr (by rw [← pnPut_ne pn i j v e]; exact join_some.mp hj))
theorem pin_of_put {pn : List (Option V)} {i : Nat} {v : V} {σ : L2.St} (hn : NoPin pn i) (h : Pin (pnPut pn i v) σ) : Pin pn σ := by
  intro j u hj
  by_cases e : j = i
  · subst e
    unfold NoPin at hn
    rw [hj] at hn
    cases hn
  · exact h j u (join_some.mpr (by rw [pnPut_ne pn i j v e]; exact join_some.mp hj))
theorem rx_up {K : PySem.W.Frag} {R R' : Hp} (s : Same R R') : ∀ {fs : Xd} {d : Option Addr}, RX K R fs d → RX K R' fs d
  | none, _, h => h
  | some fs, _, ⟨dd, vs, h1, h2, h3⟩ => ⟨dd, vs, h1, s dd _ h2, dpa_up s _ _ h3⟩
/-- what holds in the suite -/
def cA (c : Ctx) (i : Nat) (a : Addr) (d : Option Addr) (fs : Xd) : Ctx := ⟨c.K, c.cl, pnPut c.pn i (.ref a), fun R => c.fx R ∧ RX c.K R fs d, fun R R' s h => ⟨c.fxm R R' s h.1, rx_up s h.2⟩, fun _ _ _ _ => False, c.ct⟩
/-- the name is gone behind the suite -/
def delA (i : Nat) : Out → Out
  | .nx e => .nx (e.set i none)
  | .bk e => .bk (e.set i none)
  | .ct e => .ct (e.set i none)
  | .rt r e => .rt r e
  | .er _ _ _ => .no
  | .no => .no
def sTryA (i : Nat) (b : Env → Out) (tb : List (Str × Bool)) (su : Str → Xd → Env → Out) : Env → Out := fun e => match b e with
  | .er C fs e1 => match tb.lookup C with
    | some true => if i < e1.s.length then delA i (su C fs (e1.set i none)) else .no
    | some false => .er C fs e1
    | none => .no
  | o => o
/-- e.what -/
def vWh (C0 C : Str) (fs : Xd) : Env → RV := fun e => match fs with
  | some [(f, x)] => if C = C0 ∧ f = "what" then .ok x false e false else .no
  | _ => .no
theorem sr_nonA {c : Ctx} {R : RR} {H : Hp} {e : Env} {σ : L2.St} {F : List Addr} {i : Nat} {o : Option V} (s : Sr c R H e σ F) {c' : Ctx} (hK : c'.K = c.K) (hT : c'.ct = c.ct) (hp : Pin c'.pn (σ.set i o)) (hf : c'.fx R) : ∃ F2, Sr c' R H (e.set i none) (σ.set i o) F2 ∧ ∀ a ∈ F2, a ∈ F := by
  obtain ⟨A1, A2, pm, h1, h2⟩ := s.sl
  obtain ⟨G1, G2, p', q'⟩ := rps_del (o := o) i h1
  have pp : F.Perm (G1 ++ (G2 ++ A2)) := (pm.trans (List.Perm.append_right A2 p')).trans (by rw [List.append_assoc])
  refine ⟨G2 ++ A2, ⟨⟨G2, A2, .refl _, by rw [hK]; exact q', by rw [hK]; exact h2⟩, (List.nodup_append.mp (pp.nodup_iff.mp s.nd)).2.1, s.rh, fun a ha => s.rf a (pp.mem_iff.mpr (List.mem_append_right _ ha)), hp, hf, by rw [hT]; exact s.ct⟩, fun a ha => pp.mem_iff.mpr (List.mem_append_right _ ha)⟩
theorem ex_sub {R : RR} {H : Hp} {R2 : RR} {H2 : Hp} {F F2 G G2 : List Addr} (x : Ex R H F2 R2 H2 G2) (h : ∀ a ∈ F2, a ∈ F) (h2 : ∀ a ∈ G, a ∈ G2) : Ex R H F R2 H2 G :=
  ⟨x.rr, fun a o e n => x.hh a o e fun z => n (h a z), fun a e => (x.rn a e).elim .inl fun z => .inr (z.elim (fun z => .inl (h a z)) .inr), fun a e => (x.fn a (h2 a e)).elim (fun z => .inl (h a z)) .inr⟩
theorem pin_del {pn : List (Option V)} {i : Nat} {σ : L2.St} (hn : NoPin pn i) (h : Pin pn σ) : Pin pn (σ.set i none) := by
  intro j u hj
  by_cases e : j = i
  · subst e
    unfold NoPin at hn
    rw [hj] at hn
    cases hn
  · rw [List.getElem?_set_ne (fun z => e z.symm)]
    exact h j u hj
theorem sr_back {c : Ctx} {i : Nat} {a : Addr} {d : Option Addr} {fs : Xd} {R : RR} {H : Hp} {e : Env} {σ : L2.St} {F : List Addr} (hp : NoPin c.pn i) (s : Sr (cA c i a d fs) R H e σ F) : Sr c R H e σ F := ⟨s.sl, s.nd, s.rh, s.rf, pin_of_put hp s.pn, s.fx.1, s.ct⟩
theorem se_tryA {X : Cx} {c : Ctx} {Wout : WX} {x n : Str} {i : Nat} {body suite : List Stmt} {b0 : Stmt} {np pos pos' : Pos} {db : Env → Out} {ds : Str → Xd → Env → Out} {tb : List (Str × Bool)} (hε : c.ε = WE Wout) (hs : X.stack = X.env :: X.outer) (hf : X.env.frame = some X.env.locals) (hN : X.N.Nodup) (hi : X.N[i]? = some n) (hln : X.env.kindOf n = some .local) (hc : Names X x (.ref (c.cl x))) (tk : Takes X Wout) (hK : X.K = c.K) (ht : Clause c.K c.cl x tb) (hp : NoPin c.pn i)
    (hb : ∀ (W : WX) (pn : List (Addr × Obj)) (xe : Value → Shared → Prop), Takes (X.tr pn xe) W → PassesOwn (model X.prog X.w) X.A X.env xe → PSs (X.tr pn xe) body (tS { c with ε := WE W } db))
    (hsu : ∀ (a : Addr) (oe : Obj) (cls : Value) (d : Option Addr) (pn : List (Addr × Obj)), Zc cls d oe → (∃ vs, oe.data = .fields vs) → ∀ (C : Str) (fs : Xd), cls = .ref (c.cl C) → PSs (X.suite a ((a, oe) :: pn)) (b0 :: suite) (tS (cA c i a d fs) (ds C fs))) :
    PS X (.Try body [.ExceptHandler (some (.Name x np)) (some n) (b0 :: suite) pos'] [] [] pos) (tS c (sTryA i db tb ds)) := by
  refine PS.imp (ps_try_as (ts := fun a cls d D σ H => ∃ (C : Str) (fs : Xd), cls = .ref (c.cl C) ∧ tS (cA c i a d fs) (ds C fs) D σ H) hs hf hN hi hln hc tk hb (fun a oe cls d pn hz hv => ⟨fun pins s σ H D I ⟨C, fs, ec, h⟩ => (hsu a oe cls d pn hz hv C fs ec).run pins s σ H D I h⟩)) fun D σ H ⟨e, R, F, s, p⟩ => ⟨e, R, F, ⟨s.sl, s.nd, s.rh, s.rf, s.pn, s.fx, s.ct⟩, ?_⟩
  unfold sTryA at p
  cases h1 : db e with
  | nx e1 => simp only [h1] at p; exact fun σ' R' H' F' s' ex => p σ' R' H' F' ⟨s'.sl, s'.nd, s'.rh, s'.rf, s'.pn, s'.fx, s'.ct⟩ ex
  | bk e1 => simp only [h1] at p; exact fun σ' R' H' F' s' ex => p σ' R' H' F' ⟨s'.sl, s'.nd, s'.rh, s'.rf, s'.pn, s'.fx, s'.ct⟩ ex
  | ct e1 => simp only [h1] at p; exact fun σ' R' H' F' s' ex => p σ' R' H' F' ⟨s'.sl, s'.nd, s'.rh, s'.rf, s'.pn, s'.fx, s'.ct⟩ ex
  | rt r e1 => simp only [h1] at p; exact fun σ' R' H' F' G v s' rw' nd rf ex => p σ' R' H' F' G v ⟨s'.sl, s'.nd, s'.rh, s'.rf, s'.pn, s'.fx, s'.ct⟩ rw' nd rf ex
  | no => simp only [h1] at p; exact p
  | er C fs e1 =>
    simp only [h1] at p
    intro σ' R' H' F' d s' rx ex
    cases h2 : tb.lookup C with
    | none => simp only [h2] at p; exact p.elim
    | some bb =>
      have q := ht C bb h2
      cases bb with
      | true =>
        simp only [h2] at p
        rw [hK]
        by_cases hl : i < e1.s.length
        · rw [if_pos hl] at p
          refine ⟨true, q, fun _ a na => ⟨C, fs, rfl, ?_⟩, fun z => by cases z⟩
          have s1 : Sr c R' H' e1 σ' F' := ⟨s'.sl, s'.nd, s'.rh, s'.rf, s'.pn, s'.fx, s'.ct⟩
          obtain ⟨F2, s2, sub⟩ := sr_nonA (i := i) (o := some (.ref a)) s1 (c' := cA c i a d fs) rfl rfl (pin_put s1.pn (by obtain ⟨A1, A2, _, hA, _⟩ := s1.sl; rw [rps_len hA]; exact hl)) ⟨s1.fx, rx⟩
          refine ⟨e1.set i none, R', F2, s2, ?_⟩
          have p2 := PostS.mono ex p
          cases h3 : ds C fs (e1.set i none) with
          | nx e2 =>
            rw [h3] at p2
            intro σ2 R2 H2 G2 s4 ex4
            obtain ⟨G3, s5, sub5⟩ := sr_nonA (i := i) (o := none) (sr_back hp s4) (c' := c) rfl rfl (pin_del hp (sr_back hp s4).pn) (sr_back hp s4).fx
            exact p2 _ R2 H2 G3 s5 (ex_sub ex4 sub sub5)
          | bk e2 =>
            rw [h3] at p2
            intro σ2 R2 H2 G2 s4 ex4
            obtain ⟨G3, s5, sub5⟩ := sr_nonA (i := i) (o := none) (sr_back hp s4) (c' := c) rfl rfl (pin_del hp (sr_back hp s4).pn) (sr_back hp s4).fx
            exact p2 _ R2 H2 G3 s5 (ex_sub ex4 sub sub5)
          | ct e2 =>
            rw [h3] at p2
            intro σ2 R2 H2 G2 s4 ex4
            obtain ⟨G3, s5, sub5⟩ := sr_nonA (i := i) (o := none) (sr_back hp s4) (c' := c) rfl rfl (pin_del hp (sr_back hp s4).pn) (sr_back hp s4).fx
            exact p2 _ R2 H2 G3 s5 (ex_sub ex4 sub sub5)
          | rt r e2 =>
            rw [h3] at p2
            intro σ2 R2 H2 G2 G v s4 rw4 nd4 rf4 ex4
            exact p2 σ2 R2 H2 G2 G v (sr_back hp s4) rw4 nd4 rf4 (ex_sub ex4 sub fun _ h => h)
          | no => rw [h3] at p2; exact p2
          | er C2 fs2 e2 => rw [h3] at p2; exact (show False from p2).elim
        · rw [if_neg hl] at p; exact p.elim
      | false =>
        simp only [h2] at p
        rw [hK]
        refine ⟨false, q, fun z => (by cases z), fun _ => ?_⟩
        have p2 := p σ' R' H' F' d ⟨s'.sl, s'.nd, s'.rh, s'.rf, s'.pn, s'.fx, s'.ct⟩ rx ex
        rw [hε] at p2
        exact p2
/-- e.what: the rule of the class gives tWhat; here it is read -/
theorem vWh_ok {c : Ctx} {C0 : Str} {i : Nat} {a : Addr} {d : Option Addr} {C : Str} {fs : Xd} {σ : L2.St} {H : Hp} {Q : VK} (h : tV (cA c i a d fs) (vWh C0 C fs) σ H Q) :
    (tVar i) σ H fun x H1 => x = .ref a ∧ Value.ref (c.cl C) = Value.ref (c.cl C0) ∧ ∃ (dd : Addr) (v : V), d = some dd ∧ H1 dd = some (.xd [(("what" : Str), v)]) ∧ Q v H1 := by
  obtain ⟨e, R, F, s, p⟩ := h
  refine ⟨.ref a, s.pn i _ (pnPut_at _ _ _), rfl, ?_⟩
  have hx := s.fx.2
  unfold vWh at p
  split at p
  · rename_i f x
    by_cases hc : C = C0 ∧ f = "what"
    · rw [if_pos hc] at p
      obtain ⟨dd, vs, rfl, h2, h3⟩ := hx
      obtain ⟨rfl, rfl⟩ := hc
      cases h3 with
      | cons dv dr =>
        cases dr
        refine ⟨rfl, dd, _, rfl, s.rh dd _ h2, ?_⟩
        exact p R H F _ s dv .refl (fun _ => .refl s.rh)
    · rw [if_neg hc] at p; exact p.elim
  · exact p.elim
end En
/-! # xs.reverse() -/
namespace En
open PySem PySem.Spec PyProof.Rows L2
theorem rpl_rev {K : PySem.W.Frag} {R : RR} {H : Hp} : ∀ {ts : List T} {vs : List V} {F : List Addr}, RpL K R H ts vs F → ∃ F', F'.Perm F ∧ RpL K R H ts.reverse vs.reverse F'
  | [], vs, F, h => ⟨F, .refl _, by rw [h.1, h.2]; exact ⟨rfl, rfl⟩⟩
  | t :: ts, vs, F, h => by
    obtain ⟨v, r, F1, F2, rfl, pm, h1, h2⟩ := h
    obtain ⟨F', p', q'⟩ := rpl_rev h2
    refine ⟨F' ++ F1, ?_, by rw [List.reverse_cons, List.reverse_cons]; exact rpl_snoc h1 q'⟩
    exact ((List.Perm.append_right F1 p').trans List.perm_append_comm).trans pm.symm
def vRvM (r : Env → Res) : Env → RV := fun e => match r e with
  | .ok x e1 _ => match plc x with
    | some (i, q) => match getE e1 i q with
      | some (.l ts) => .ok .none false (setE e1 i q (.l ts.reverse)) true
      | _ => .no
    | none => .no
  | .er C fs e1 => .er C fs e1
  | .no => .no
theorem ve_rvM {X : Cx} {c : Ctx} {a : Expr} {d : Env → Res} {apos cpos : Pos} (ha : PE X a (tD c d)) (hK : X.K = c.K := by rfl) (hbase : attributeBase a "reverse" X.env (eval a X.env) = eval a X.env := by rfl) (hline : (apos.endLine == cpos.line) = true := by rfl) :
    PE X (.Call (.Attribute a "reverse" apos) [] [] cpos) (tV c (vRvM d)) := by
  refine PE.imp (pe_bm0 PySem.F.plainAttrs_list PySem.F.slot_list_reverse PySem.F.type_list_reverse mt_reverse ha hbase hline) fun σ H Q ⟨e, R, F, s, p⟩ => ⟨e, R, F, s, ?_⟩
  unfold vRvM at p
  cases h1 : d e with
  | no => simp only [h1] at p; exact p
  | er C fs e1 => simp only [h1] at p; exact p
  | ok r e1 w =>
    intro R1 H1 F1 G v s1 rw1 nd rf ex hw
    cases hp : plc r with
    | none => simp only [h1, hp] at p; exact p.elim
    | some iq =>
      obtain ⟨i, q⟩ := iq
      simp only [h1, hp] at p
      obtain ⟨rfl, u, hu, k1⟩ := plc_ok rw1 hp
      cases h4 : getE e1 i q with
      | none => simp only [h4] at p; exact p.elim
      | some t0 =>
        cases t0 with
        | l ts =>
          simp only [h4] at p
          rw [hK]
          have ty := isL_ok s1 (by rw [h4]; rfl) hu k1
          obtain ⟨pa, vs, rfl, q2, hl, _, kk⟩ := sr_list (ts' := ts.reverse) (Gt := []) s1 h4 hu k1 (by simpa using s1.nd) (by simp) (by simp)
          refine ⟨ty, pa, vs, rfl, rfl, q2, ?_⟩
          obtain ⟨F3, s3, f3, ex3⟩ := kk vs.reverse fun Gw m3 n1 n2 => by
            obtain ⟨G', g1, g2⟩ := rpl_rev m3
            exact ⟨G', g2, g1.nodup_iff.mpr n1, fun a ha => .inl (g1.mem_iff.mp ha)⟩
          exact p R1 _ F3 .non s3 .non (Ex.upd (G2 := []) ex f3 ex3) (fun z => by cases z)
        | _ => simp only [h4] at p; exact p.elim
end En
/-! # xs[::2], xs[1::2] -/
namespace En
open PySem PySem.Spec PyProof.Rows L2
/-! xs[::2], xs[1::2] -/
def st2 {α : Type} (xs : List α) (k : Nat) : List α := (List.range ((xs.length + 1 - k) / 2)).filterMap fun j => xs[k + 2 * j]?
theorem st2_pick (items : Array Value) : slicePick items none none (some 2) = (st2 items.toList 0).toArray := by
  unfold slicePick st2
  have e : sliceBounds none none (some 2) items.size = (0, (items.size : Int), 2) := rfl
  rw [e]
  unfold sliceRange
  dsimp only
  have c : (if (0 : Int) < (items.size : Int) then ((items.size : Int) - 0 + 2 - 1) / 2 else 0).toNat = (items.toList.length + 1 - 0) / 2 := by
    rw [Array.length_toList]
    split <;> omega
  rw [if_pos (by decide), c, List.filterMap_map]
  congr 2
  funext j
  show items[(0 + 2 * (j : Int)).toNat]? = items.toList[0 + 2 * j]?
  rw [show (0 + 2 * (j : Int)).toNat = 0 + 2 * j by omega, Array.getElem?_toList]
theorem st2_pick1 (items : Array Value) : slicePick items (some 1) none (some 2) = (st2 items.toList 1).toArray := by
  unfold slicePick st2
  have e : sliceBounds (some 1) none (some 2) items.size = (max 0 (min 1 (items.size : Int)), (items.size : Int), 2) := rfl
  rw [e]
  unfold sliceRange
  dsimp only
  by_cases h0 : items.size = 0
  · have l0 : items.toList.length = 0 := by rw [Array.length_toList]; exact h0
    rw [if_pos (by decide), if_neg (by omega), l0]
    rfl
  · have m : max 0 (min 1 (items.size : Int)) = 1 := by omega
    rw [m]
    have c : (if (1 : Int) < (items.size : Int) then ((items.size : Int) - 1 + 2 - 1) / 2 else 0).toNat = (items.toList.length + 1 - 1) / 2 := by
      rw [Array.length_toList]
      split <;> omega
    rw [if_pos (by decide), c, List.filterMap_map]
    congr 2
    funext j
    show items[(1 + 2 * (j : Int)).toNat]? = items.toList[1 + 2 * j]?
    rw [show (1 + 2 * (j : Int)).toNat = 1 + 2 * j by omega, Array.getElem?_toList]
theorem vals_filter {xs : List V} {us : List Value} (r : Vals xs us) (f : Nat → Nat) : ∀ l : List Nat, Vals (l.filterMap fun j => xs[f j]?) (l.filterMap fun j => us[f j]?)
  | [] => .nil
  | j :: l => by
    have ih := vals_filter r f l
    have hl := r.length
    rw [List.filterMap_cons, List.filterMap_cons]
    cases hx : xs[f j]? with
    | none =>
      have hu : us[f j]? = none := by
        rw [List.getElem?_eq_none_iff] at hx ⊢
        omega
      rw [hu]
      exact ih
    | some x =>
      obtain ⟨u, hu, ru⟩ := r.get hx
      rw [hu]
      exact .cons ru ih
theorem st2_vals {xs : List V} {us : List Value} (r : Vals xs us) (k : Nat) : Vals (st2 xs k) (st2 us k) := by
  unfold st2
  rw [r.length]
  exact vals_filter r (fun j => k + 2 * j) _
theorem st2_le {α : Type} (xs : List α) (k : Nat) : (st2 xs k).length ≤ xs.length := by
  unfold st2
  refine Nat.le_trans (List.length_filterMap_le ..) ?_
  rw [List.length_range]
  omega
def tSt2 (K : PySem.W.Frag) (te : TE) (k : Nat) : TE := fun σ H Q => te σ H fun x H1 => ∃ a xs, x = .ref a ∧ SqL K H1 a xs ∧ (∀ p, H1 p = none → Q (.ref p) (upd H1 p (.lst (st2 xs k))))
/-- a slice to the end with a step of 2, its first part lo as tl tells -/
theorem pe_st2g {X : Cx} {e : Expr} {te : TE} {lo : Option Expr} {tl : TO} {n : Nat} {p1 p3 pos : Pos} {k : Nat} (lv : Option Int) (he : PE X e te) (hlo : PO X lo tl) (hl : ∀ σ H, tl σ H fun o H2 => o = lv ∧ H2 = H)
    (pick : ∀ items : Array Value, slicePick items lv none (some 2) = (st2 items.toList k).toArray) :
    PE X (.Subscript e (.Slice lo none (some (.Constant (.int 2) n p1)) p3) pos) (tSt2 X.K te k) := by
  refine ⟨fun pins s0 σ H Q I h => Subscript_ (thn (he.run pins s0 σ H _ I h) fun v sa ⟨x, Ha, Ia, ra, qa⟩ => ?_)⟩
  obtain ⟨a, xs, rfl, hx, q⟩ := qa
  cases ra
  have step : PO X (some (.Constant (.int 2) n p1)) (tPart (tC (.int 2))) := po_some pe_int
  refine wpAny_Slice (thn (hlo.run pins sa σ Ha (fun o Hb => o = lv ∧ Hb = Ha) Ia (hl σ Ha)) fun vl sb ⟨l, Hb, Ib, pl, el, eb⟩ => ?_)
  subst el eb
  refine thn (po_none.run pins sb σ Hb (fun o Hc => o = none ∧ Hc = Hb) Ib ⟨rfl, rfl⟩) fun vu sc ⟨u, Hc, Ic, pu, eu, ec⟩ => ?_
  subst eu ec
  refine thn (step.run pins sc σ Hc (fun o Hd => o = some 2 ∧ Hd = Hc) Ic ⟨2, rfl, rfl, rfl⟩) fun vs sd ⟨o, Hd, Id, ps, eo, ed⟩ => ?_
  subst eo ed
  have If : Inv X pins σ Hd { sd with heap := sd.heap.push { cls := .type "slice", data := .fields #[vl, vu, vs] } } := Id.kept (t' := sd.toks) fun b ob z => Heap.get?_push_of_some _ z
  obtain ⟨its, rv, ht, hz⟩ := If.list hx
  have hv := rv.length
  have r2 := st2_vals rv k
  have hle := st2_le xs k
  show wpAny (model X.prog X.w) X.A (subscriptTail e (.Slice lo none (some (.Constant (.int 2) n p1)) p3) (.ref a) (.ref sd.heap.objs.size))
    (EP X pins σ Q) X.xe { sd with heap := sd.heap.push { cls := .type "slice", data := .fields #[vl, vu, vs] } }
  refine tail_any (ops := [.ref a, .ref sd.heap.objs.size]) ht.isList.typeIs PySem.slot_list_getitem.lookup ?_
    (by with_unfolding_all rfl)
  refine wpAny_getItem_list_slice ht.isList (Heap.IsSliceOf.new _ vl vu vs)
    pl pu ps (by decide) ?_ (by rw [List.size_toArray]; omega)
  rw [pick]
  refine ⟨.ref _, _, If.laid (t' := sd.toks) (o := .lst (st2 xs k)) (fun b ob z => Heap.get?_push_of_some _ z) (Nat.le_refl _) ?_, rfl,
    q _ (If.hok.fresh (Nat.le_refl _))⟩
  exact ⟨by omega, _, 0, r2, Heap.get?_push_size _ rfl⟩
theorem pe_st2 {X : Cx} {K : PySem.W.Frag} (hK : X.K = K) {e : Expr} {te : TE} {n : Nat} {p1 p3 pos : Pos} (he : PE X e te) : PE X (.Subscript e (.Slice none none (some (.Constant (.int 2) n p1)) p3) pos) (tSt2 K te 0) := by
  subst hK
  exact pe_st2g none he po_none (fun _ _ => ⟨rfl, rfl⟩) st2_pick
theorem pe_st21 {X : Cx} {K : PySem.W.Frag} (hK : X.K = K) {e : Expr} {te : TE} {n m : Nat} {p1 p2 p3 pos : Pos} (he : PE X e te) : PE X (.Subscript e (.Slice (some (.Constant (.int 1) m p2)) none (some (.Constant (.int 2) n p1)) p3) pos) (tSt2 K te 1) := by
  subst hK
  exact pe_st2g (some 1) he (po_some pe_int) (fun _ _ => ⟨1, rfl, rfl, rfl⟩) st2_pick1

def fSt (k : Nat) : PyData → Option (List PyData)
  | .list ds => some (st2 ds k)
  | _ => none
theorem dpa_st2 {K : PySem.W.Frag} {R : RR} {vs : List V} {ds : List PyData} (h : DpAll K R vs ds) (k : Nat) : DpAll K R (st2 vs k) (st2 ds k) := by
  unfold st2
  rw [dpa_len h]
  generalize List.range ((ds.length + 1 - k) / 2) = l
  induction l with
  | nil => exact .nil
  | cons j l ih =>
    rw [List.filterMap_cons, List.filterMap_cons]
    cases hv : vs[k + 2 * j]? with
    | none =>
      have : ds[k + 2 * j]? = none := by
        rw [List.getElem?_eq_none_iff] at hv ⊢
        rw [← dpa_len h]; exact hv
      rw [this]
      exact ih
    | some v =>
      obtain ⟨x, hx, dx⟩ := dpa_get' h hv
      rw [hx]
      exact .cons dx ih
theorem sl_st {K : PySem.W.Frag} {k : Nat} : Sl1 K (fun x H1 Q => ∃ a xs, x = .ref a ∧ SqL K H1 a xs ∧ ∀ p, H1 p = none → Q (.ref p) (upd H1 p (.lst (st2 xs k)))) (fSt k) := by
  intro R H v x b z Q rh s e q
  unfold fSt at e
  split at e
  · cases e
    obtain ⟨p, vs, rfl, h2, h3⟩ := sd_list s rh
    exact ⟨p, vs, rfl, h2, fun l hl => q l _ hl (dpa_st2 h3 k)⟩
  · cases e
theorem de_st2 {X : Cx} {c : Ctx} {e : Expr} {d : Env → RV} {n : Nat} {p1 p3 pos : Pos} (he : PE X e (tV c d)) (hK : X.K = c.K := by rfl) : PE X (.Subscript e (.Slice none none (some (.Constant (.int 2) n p1)) p3) pos) (tD c (d1L (fSt 0) d)) :=
  PE.imp (pe_st2 hK he) fun σ H Q h => d1L_ok sl_st h
theorem de_st21 {X : Cx} {c : Ctx} {e : Expr} {d : Env → RV} {n m : Nat} {p1 p2 p3 pos : Pos} (he : PE X e (tV c d)) (hK : X.K = c.K := by rfl) : PE X (.Subscript e (.Slice (some (.Constant (.int 1) m p2)) none (some (.Constant (.int 2) n p1)) p3) pos) (tD c (d1L (fSt 1) d)) :=
  PE.imp (pe_st21 hK he) fun σ H Q h => d1L_ok sl_st h
end En
/-! # a list of one's own is handed on: data from now on -/
namespace En
open PySem PySem.Spec PyProof.Rows L2
def vFrz (i : Nat) : Env → RV := fun e => match e.s[i]? with
  | some (some t) => match t.data with
    | some x => .ok x false (e.set i (some (.d x))) true
    | none => .no
  | _ => .no
/-- a slot's tree is taken out of the state -/
theorem sr_takeS {c : Ctx} {R : RR} {H : Hp} {e : Env} {σ : L2.St} {F : List Addr} {i : Nat} {t : T} (s : Sr c R H e σ F) (h : e.s[i]? = some (some t)) :
    ∃ v F1 F2, σ[i]? = some (some v) ∧ F.Perm (F1 ++ F2) ∧ Rp c.K R H t v F1 ∧ Sr c R H (e.set i (some .z)) σ F2 := by
  obtain ⟨A1, A2, pm, h1, h2⟩ := s.sl
  obtain ⟨v, F1, F2, q1, q2, q3, q4⟩ := rps_take h1 h
  have pp : F.Perm (F1 ++ (F2 ++ A2)) := (pm.trans (List.Perm.append_right A2 q2)).trans (by rw [List.append_assoc])
  exact ⟨v, F1, F2 ++ A2, q1, pp, q3, ⟨F2, A2, .refl _, q4, h2⟩, (List.nodup_append.mp (pp.nodup_iff.mp s.nd)).2.1, s.rh, fun a ha => s.rf a (pp.mem_iff.mpr (List.mem_append_right _ ha)), s.pn, s.fx, s.ct⟩
theorem sr_putS {c : Ctx} {R : RR} {H : Hp} {e : Env} {σ : L2.St} {F : List Addr} {i : Nat} {t : T} {v : V} (s : Sr c R H e σ F) (hz : e.s[i]? = some (some .z)) (hv : σ[i]? = some (some v)) (h : Rp c.K R H t v []) : Sr c R H (e.set i (some t)) σ F := by
  obtain ⟨A1, A2, pm, h1, h2⟩ := s.sl
  have hl : i < e.s.length := (List.getElem?_eq_some_iff.mp hz).1
  have := rps_put (i := i) (t := t) (v := v) (G := []) h1 hl (fun t' z => by rw [hz] at z; cases z; rfl) h
  rw [set_self hv] at this
  exact ⟨⟨A1, A2, pm, this, h2⟩, s.nd, s.rh, s.rf, s.pn, s.fx, s.ct⟩
theorem vFrz_ok {c : Ctx} {i : Nat} {σ : L2.St} {H : Hp} {Q : VK} (h : tV c (vFrz i) σ H Q) : tVar i σ H Q := by
  obtain ⟨e, R, F, s, p⟩ := h
  unfold vFrz at p
  cases h0 : e.s[i]? with
  | none => simp only [h0] at p; exact p.elim
  | some o =>
    cases o with
    | none => simp only [h0] at p; exact p.elim
    | some t =>
      simp only [h0] at p
      cases hd : t.data with
      | none => simp only [hd] at p; exact p.elim
      | some x =>
        simp only [hd] at p
        obtain ⟨v, F1, F2, h1, pm, h3, s2⟩ := sr_takeS s h0
        refine ⟨v, h1, ?_⟩
        have nd := pm.nodup_iff.mp s.nd
        have ndd := List.nodup_append.mp nd
        have in1 : ∀ a ∈ F1, a ∈ F := fun a ha => pm.mem_iff.mpr (List.mem_append_left _ ha)
        have in2 : ∀ a ∈ F2, a ∈ F := fun a ha => pm.mem_iff.mpr (List.mem_append_right _ ha)
        have rf1 : ∀ a ∈ F1, R a = none := fun a ha => s.rf a (in1 a ha)
        have sJ := s2.join (List.perm_append_comm.nodup_iff.mp nd) rf1
        have dx : Dp c.K (join R H F1) v x := rp_frz (join_same rf1) t v F1 x (fun a ha o ho => by rw [join_in ha]; exact ho) h3 hd
        have hl : i < e.s.length := (List.getElem?_eq_some_iff.mp h0).1
        have s3 := sr_putS (i := i) (t := .d x) sJ (by show (e.s.set i (some .z))[i]? = _; rw [List.getElem?_set_self hl]) h1 ⟨rfl, dx⟩
        have e3 : (e.set i (some .z)).set i (some (.d x)) = e.set i (some (.d x)) := by
          show (⟨(e.s.set i (some .z)).set i (some (.d x)), e.m⟩ : Env) = _
          rw [List.set_set]; rfl
        rw [e3] at s3
        refine p _ H F2 v s3 dx ⟨join_same rf1, fun a o ho _ => ho, fun a ha => ?_, fun a ha => .inl (in2 a ha)⟩ (fun z => by cases z)
        by_cases z : a ∈ F1
        · exact .inr (.inl (in1 a z))
        · rw [join_out z] at ha; exact .inl ha
theorem ve_frz {X : Cx} {c : Ctx} {pos : Pos} (i : Nat) {x : Str} (hN : X.N[i]? = some x := by rfl) (hv : Vis X.env.scope x := by first | exact Or.inl rfl | exact Or.inr (Or.inl rfl) | exact Or.inr (Or.inr rfl)) (hd : (x == ("__debug__" : Str)) = false := by decide)
    (hcd : (x == ("__classdict__" : Str)) = false := by decide) : PE X (.Name x pos) (tV c (vFrz i)) := PE.imp (pe_var hN hv hd hcd) fun _ _ _ h => vFrz_ok h
end En
namespace En
open PySem PySem.Spec PyProof.Rows L2
/-! ## own classes -/
structure ClsOk (K : PySem.W.Frag) (ct : CT) (Ci : Nat) (ca : Addr) (N : List Str) : Prop where
  at_ : ct[Ci]? = some (ca, N)
  cls : Cls K ca
  nd : N.Nodup
  na : ∀ f ∈ N, NoAttr K ca f
  sm : N.length < 1000
theorem zip_lookup : ∀ {N : List Str} {vs : List V} {j : Nat} {f : Str} {v : V}, N.Nodup → N[j]? = some f → vs[j]? = some v → (N.zip vs).lookup f = some v
  | [], _, _, _, _, _, h, _ => by simp at h
  | _ :: _, [], _, _, _, _, _, h => by simp at h
  | g :: N, u :: vs, 0, f, v, nd, h, h' => by
    simp at h h'
    subst h h'
    rw [List.zip_cons_cons, List.lookup_cons]
    simp
  | g :: N, u :: vs, j + 1, f, v, nd, h, h' => by
    have nn := List.nodup_cons.mp nd
    have ne : (f == g) = false := by
      apply beq_eq_false_iff_ne.mpr
      intro e
      subst e
      exact nn.1 (List.mem_of_getElem? (show N[j]? = some f by simpa using h))
    rw [List.zip_cons_cons, List.lookup_cons, ne]
    exact zip_lookup nn.2 (by simpa using h) (by simpa using h')
theorem zip_lookup_no : ∀ {N : List Str} {vs : List V} {m : Str}, m ∉ N → (N.zip vs).lookup m = none
  | [], _, _, _ => rfl
  | _ :: _, [], _, _ => rfl
  | g :: N, u :: vs, m, h => by
    have ne : (m == g) = false := beq_eq_false_iff_ne.mpr fun e => h (by simp [e])
    rw [List.zip_cons_cons, List.lookup_cons, ne]
    exact zip_lookup_no fun z => h (by simp [z])
theorem zip_putF : ∀ {N : List Str} {vs : List V} {j : Nat} {f : Str} {v : V}, N.Nodup → N[j]? = some f → j < vs.length → putF f v (N.zip vs) = N.zip (vs.set j v)
  | [], _, _, _, _, _, h, _ => by simp at h
  | _ :: _, [], _, _, _, _, _, h => by simp at h
  | g :: N, u :: vs, 0, f, v, nd, h, _ => by
    simp at h
    subst h
    rw [List.zip_cons_cons, putF, if_pos rfl, List.set_cons_zero, List.zip_cons_cons]
  | g :: N, u :: vs, j + 1, f, v, nd, h, h' => by
    have nn := List.nodup_cons.mp nd
    have ne : g ≠ f := by
      intro e
      subst e
      exact nn.1 (List.mem_of_getElem? (show N[j]? = some g by simpa using h))
    rw [List.zip_cons_cons, putF, if_neg ne, List.set_cons_succ, List.zip_cons_cons, zip_putF nn.2 (by simpa using h) (by simpa using h')]
theorem zip_putF_new : ∀ {N : List Str} {vs : List V} {f : Str} {v : V}, N.Nodup → N[vs.length]? = some f → putF f v (N.zip vs) = N.zip (vs ++ [v])
  | [], _, _, _, _, h => by simp at h
  | g :: N, [], f, v, _, h => by
    simp at h
    subst h
    simp [putF]
  | g :: N, u :: vs, f, v, nd, h => by
    have nn := List.nodup_cons.mp nd
    have ne : g ≠ f := by
      intro e
      subst e
      exact nn.1 (List.mem_of_getElem? (show N[vs.length]? = some g by simpa using h))
    rw [List.zip_cons_cons, putF, if_neg ne, List.cons_append, List.zip_cons_cons, zip_putF_new nn.2 (by simpa using h)]
section
variable {X : Cx} {c : Ctx} {a b : Expr} {d dv : Env → Res} {pos : Pos} {Ci j : Nat} {ca : Addr} {N : List Str} {f : Str}
/-- an object at a place -/
theorem sr_obj {R : RR} {H : Hp} {e : Env} {σ : L2.St} {F : List Addr} (k : ClsOk c.K c.ct Ci ca N) (s : Sr c R H e σ F) {i : Rt} {q : List Stp} {ts : List T} {u v : V} {Gt : List Addr} (g : getE e i q = some (.o Ci ts)) (hu : rootV R σ i = some u) (w : wk H u q v) (nd : (F ++ Gt).Nodup) (rf : ∀ a ∈ Gt, R a = none) (dm : ∀ a ∈ Gt, H a ≠ none) :
    ∃ p dx vs, v = .ref p ∧ H p = some (.ins ca dx (N.zip vs)) ∧ vs.length = ts.length ∧ ts.length ≤ N.length ∧ (∃ Gw, RpL c.K R H ts vs Gw) ∧ ∀ ts' vs', ts'.length ≤ N.length → (∀ Gw, RpL c.K R H ts vs Gw → Gw.Nodup → (∀ a ∈ Gt, a ∉ Gw) → ∃ G', RpL c.K R H ts' vs' G' ∧ G'.Nodup ∧ ∀ a ∈ G', a ∈ Gw ∨ a ∈ Gt) →
      ∃ F', Sr c R (upd H p (.ins ca dx (N.zip vs'))) (setE e i q (.o Ci ts')) σ F' ∧ (∀ a ∈ F', a ∈ F ∨ a ∈ Gt) ∧ Ex R H F R (upd H p (.ins ca dx (N.zip vs'))) F := by
  obtain ⟨K1, K2, pm, k1, _⟩ := sr_focus s g hu w
  obtain ⟨pa, dx, vs, Gv, ca', N', ec, rfl, q1, q2, q2', q4, q3⟩ := k1
  rw [s.ct, k.at_] at ec
  cases ec
  refine ⟨pa, dx, vs, rfl, q2, rpl_len q3, q4, ⟨_, q3⟩, fun ts' vs' hl hk => ?_⟩
  refine sr_upd s g hu w nd rf fun F1 h1 hn hd => ?_
  obtain ⟨pb, dy, ws, Gw, cb, M, ed, e1, m1, m2, m2', m4, m3⟩ := h1
  cases e1
  rw [s.ct, k.at_] at ed
  cases ed
  rw [q2] at m2
  injection m2 with m2
  injection m2 with m21 m22 m23
  subst m22
  have lw := rpl_len m3
  have lv := rpl_len q3
  have ev : vs = ws := zip_inj m23 (by omega) (by omega)
  subst ev
  have hpa : pa ∈ F1 := m1.mem_iff.mpr (by simp)
  have hdx : dx ∈ F1 := m1.mem_iff.mpr (by simp)
  have nd1 := m1.nodup_iff.mp hn
  have n1 := List.nodup_cons.mp nd1
  have n2 := List.nodup_cons.mp n1.2
  have npG : pa ∉ Gt := fun z => hd pa z hpa
  have ndG : dx ∉ Gt := fun z => hd dx z hdx
  obtain ⟨G', l1, l2, l3⟩ := hk Gw m3 n2.2 (fun a ha z => hd a ha (m1.mem_iff.mpr (by simp [z])))
  have npG' : pa ∉ G' := fun z => (l3 pa z).elim (fun q => n1.1 (by simp [q])) npG
  have ndG' : dx ∉ G' := fun z => (l3 dx z).elim n2.1 ndG
  have npd : pa ≠ dx := fun z => n1.1 (by simp [z])
  refine ⟨hpa, pa :: dx :: G', ⟨pa, dx, vs', G', ca, N, by rw [s.ct]; exact k.at_, rfl, .refl _, upd_same, by rw [upd_ne (fun z => npd z.symm)]; exact m2', hl, rpl_up (RR.Le.refl _) _ _ _ (fun a ha o ho => ?_) l1⟩, List.nodup_cons.mpr ⟨fun z => (List.mem_cons.mp z).elim npd npG', List.nodup_cons.mpr ⟨ndG', l2⟩⟩, ?_⟩
  · rw [upd_ne (fun z => npG' (by rw [← z]; exact ha))]; exact ho
  · intro a ha
    rcases List.mem_cons.mp ha with rfl | ha
    · exact .inl hpa
    · rcases List.mem_cons.mp ha with rfl | ha
      · exact .inl hdx
      · exact (l3 a ha).elim (fun z => .inl (m1.mem_iff.mpr (by simp [z]))) .inr
/-- e.f -/
theorem de_fld (k : ClsOk c.K c.ct Ci ca N) (hf : N[j]? = some f) (ha : PE X a (tD c d)) (hK : X.K = c.K := by rfl) (hb : attributeBase a f X.env (eval a X.env) = eval a X.env := by rfl) : PE X (.Attribute a f pos) (tD c (dPfld d Ci j)) := by
  refine PE.imp (pe_fld ha hb) fun σ H Q ⟨e, R, F, s, p⟩ => ⟨e, R, F, s, ?_⟩
  rw [hK]
  unfold dPfld at p
  cases h1 : d e with
  | no => simp only [h1] at p; exact p
  | er C fs e1 => simp only [h1] at p; exact p
  | ok r e1 w1 =>
    intro R1 H1 F1 G v s1 rw1 nd rf ex hw
    cases hp : plc r with
    | none => simp only [h1, hp] at p; exact p.elim
    | some iq =>
      obtain ⟨i, q⟩ := iq
      simp only [h1, hp] at p
      obtain ⟨rfl, u, hu, k1⟩ := plc_ok rw1 hp
      cases h3 : getE e1 i q with
      | none => simp only [h3] at p; exact p.elim
      | some t =>
        cases t with
        | o C' ts =>
          simp only [h3] at p
          by_cases hC : C' = Ci
          · subst hC
            rw [if_pos rfl] at p
            cases h5 : ts[j]? with
            | none => simp only [h5] at p; exact p.elim
            | some t =>
              simp only [h5] at p
              obtain ⟨pa, dx, vs, rfl, q2, hl, hl2, ⟨Gw, q3⟩, _⟩ := sr_obj (Gt := []) k s1 h3 hu k1 (by simpa using s1.nd) (by simp) (by simp)
              have hj : j < ts.length := (List.getElem?_eq_some_iff.mp h5).1
              have hv : vs[j]? = some vs[j] := List.getElem?_eq_getElem (by omega)
              obtain ⟨G2, r1, _⟩ := rpl_key ts vs Gw j q3 h5 hv
              refine ⟨pa, ca, dx, N.zip vs, vs[j], rfl, q2, k.cls, k.na f (List.mem_of_getElem? hf), zip_lookup k.nd hf hv, ?_⟩
              exact p R1 H1 F1 [] _ s1 (rdP_ok hu (wk_snoc k1 ⟨pa, ca, dx, N, vs, rfl, q2, by omega, hv⟩) r1) (by simpa using s1.nd) (by simp) (by simpa using ex) (fun z => ⟨(hw z).1, by simp⟩)
          · rw [if_neg hC] at p; exact p.elim
        | _ => simp only [h3] at p; exact p.elim
end
/-- fields: one is set, or the next one is made -/
def putO (ts : List T) (j : Nat) (t : T) : Option (List T) := if j < ts.length then some (ts.set j t) else if j = ts.length then some (ts ++ [t]) else none
/-- e.f = v -/
def sFldP (d : Env → Res) (Ci j : Nat) (dv : Env → Res) : Env → Out := fun e => match dv e with
  | .ok r e1 _ => match tOf r with
    | some t => match d e1 with
      | .ok r2 e2 _ => match plc r2 with
        | some (i, q) => match getE e2 i q with
          | some (.o C' ts) => if C' = Ci then match putO ts j t with
              | some ts' => .nx (setE e2 i q (.o Ci ts'))
              | none => .no
            else .no
          | _ => .no
        | none => .no
      | .er C fs e2 => .er C fs e2
      | .no => .no
    | none => .no
  | .er C fs e1 => .er C fs e1
  | .no => .no
theorem putO_len {ts ts' : List T} {j n : Nat} {t : T} (h : putO ts j t = some ts') (hl : ts.length ≤ n) (hj : j < n) : ts'.length ≤ n := by
  unfold putO at h
  by_cases h1 : j < ts.length
  · rw [if_pos h1] at h; cases h; simpa using hl
  · rw [if_neg h1] at h
    by_cases h2 : j = ts.length
    · rw [if_pos h2] at h; cases h; simp; omega
    · rw [if_neg h2] at h; cases h
section
variable {X : Cx} {c : Ctx} {o v : Expr} {d dv : Env → Res} {pos pos' : Pos} {Ci j : Nat} {ca : Addr} {N : List Str} {f : Str}
theorem se_fldP (k : ClsOk c.K c.ct Ci ca N) (hf : N[j]? = some f) (ho : PE X o (tD c d)) (hv : PE X v (tD c dv)) (hK : X.K = c.K := by rfl) (hs : swapsWith v (some (.Attribute o f pos')) pos.line X.env = pure false := by rfl) : PS X (.Assign [.Attribute o f pos'] v pos) (tS c (sFldP d Ci j dv)) := by
  refine PS.imp (ps_fld ho hv hs) fun D σ H ⟨e, R, F, s, p⟩ => ⟨e, R, F, s, ?_⟩
  rw [hK]
  unfold sFldP at p
  cases h1 : dv e with
  | no => simp only [h1] at p; exact p
  | er C fs e1 =>
    simp only [h1] at p
    exact fun R' H' F' x s' rx ex => p σ R' H' F' x s' rx ex
  | ok r e1 w =>
    simp only [h1] at p
    intro R1 H1 F1 G y s1 rw1 nd1 rf1 ex1 _
    cases h2 : tOf r with
    | none => simp only [h2] at p; exact p.elim
    | some t =>
      simp only [h2] at p
      have hy : Hold c.K R1 H1 F1 t y G := ⟨tOf_ok rw1 h2, nd1, rf1⟩
      refine ⟨e1, R1, F1, s1, ?_⟩
      cases h3 : d e1 with
      | no => simp only [h3] at p; exact p.elim
      | er C fs e2 =>
        simp only [h3] at p
        exact fun R2 H2 F2 x s2 rx ex2 => p σ R2 H2 F2 x s2 rx ((ex1.beside ex2).mono fun a ha => List.mem_append_left _ ha)
      | ok r2 e2 w2 =>
        intro R2 H2 F2 G2 ov s2 rw2 nd2 rf2 ex2 hw2
        cases hp : plc r2 with
        | none => simp only [h3, hp] at p; exact p.elim
        | some iq =>
          obtain ⟨i, q⟩ := iq
          simp only [h3, hp] at p
          obtain ⟨rfl, u, hu, k1⟩ := plc_ok rw2 hp
          have ex2 := ex2.zero
          have hy2 := hy.go ex2 s2.nd
          cases h5 : getE e2 i q with
          | none => simp only [h5] at p; exact p.elim
          | some t0 =>
            cases t0 with
            | o C' ts =>
              simp only [h5] at p
              by_cases hC : C' = Ci
              · subst hC
                rw [if_pos rfl] at p
                cases h6 : putO ts j t with
                | none => simp only [h6] at p; exact p.elim
                | some ts' =>
                  simp only [h6] at p
                  obtain ⟨pa, dx, vs, rfl, q2, hl, hl2, ⟨Gw, q3⟩, kk⟩ := sr_obj k s2 h5 hu k1 hy2.nd hy2.rf (rp_dom _ _ _ hy2.rp)
                  refine ⟨pa, ca, dx, N.zip vs, rfl, q2, k.cls, k.na f (List.mem_of_getElem? hf), ?_, ?_⟩
                  · rw [List.length_zip]; have := k.sm; omega
                  · have hjN : j < N.length := (List.getElem?_eq_some_iff.mp hf).1
                    have nG : G.Nodup := (List.nodup_append.mp nd1).2.1
                    have ex' : ∃ vs', putF f y (N.zip vs) = N.zip vs' ∧ ∀ Gw, RpL c.K R2 H2 ts vs Gw → Gw.Nodup → (∀ a ∈ G, a ∉ Gw) → ∃ G', RpL c.K R2 H2 ts' vs' G' ∧ G'.Nodup ∧ ∀ a ∈ G', a ∈ Gw ∨ a ∈ G := by
                      have h6 := h6
                      unfold putO at h6
                      by_cases b1 : j < ts.length
                      · refine ⟨vs.set j y, zip_putF k.nd hf (by omega), fun Gw m3 n1 n2 => ?_⟩
                        have h6' := h6
                        rw [if_pos b1] at h6'
                        cases h6'
                        obtain ⟨A1, A2, pm, l1⟩ := rpl_set m3 b1 hy2.rp
                        have nn := List.nodup_append.mp (pm.nodup_iff.mp n1)
                        exact ⟨G ++ A2, l1, List.nodup_append.mpr ⟨nG, nn.2.1, fun a ha b hb z => n2 a ha (pm.mem_iff.mpr (List.mem_append_right _ (z ▸ hb)))⟩, fun a ha => (List.mem_append.mp ha).elim .inr fun z => .inl (pm.mem_iff.mpr (List.mem_append_right _ z))⟩
                      · rw [if_neg b1] at h6
                        by_cases b2 : j = ts.length
                        · rw [if_pos b2] at h6
                          cases h6
                          refine ⟨vs ++ [y], zip_putF_new k.nd (by rw [hl, ← b2]; exact hf), fun Gw m3 n1 n2 => ?_⟩
                          exact ⟨Gw ++ G, rpl_snoc hy2.rp m3, List.nodup_append.mpr ⟨n1, nG, fun a ha b hb z => n2 b hb (z ▸ ha)⟩, fun a ha => List.mem_append.mp ha⟩
                        · rw [if_neg b2] at h6; cases h6
                    obtain ⟨vs', e', hk⟩ := ex'
                    rw [e']
                    obtain ⟨F4, s4, f4, ex4⟩ := kk ts' vs' (putO_len h6 hl2 hjN) hk
                    exact p σ R2 _ F4 s4 (Ex.upd (ex1.beside ex2) f4 ex4)
              · rw [if_neg hC] at p; exact p.elim
            | _ => simp only [h5] at p; exact p.elim
end
end En
namespace En
open PySem PySem.Spec PyProof.Rows L2
/-! ## methods, as the library's rule, with what is let out at the slots -/
def tMethE (C : Addr) (m : Str) (sp : Sp) (E : L2.St → XK) (ta : TE) (t : TA) : TE := fun σ H Q => ta σ H fun x H1 => ∃ a dx fs, x = .ref a ∧ H1 a = some (.ins C dx fs) ∧ fs.lookup m = none ∧ t σ H1 fun vs H2 => sp (x :: vs) H2 Q (E σ)
section
variable {X : Cx} {CX : CXT} {k : Nat} {f C : Addr} {fd : FuncData} {ps : List Str} {sp : Sp} {E : L2.St → XK} {x m : Str} {p pos apos : Pos} {e o : Expr} {es : List Expr} {ta : TE} {t : TA}
theorem pe_methE {pl : Sem Bool} (he : PE X o ta) (c : Cls X.K C) (hm : Meth X.K C m f) (F : FnOk X.prog X.w X.K X.mg X.base CX k f fd ps sp) (hr : Room k X.A) (hb : Binds X.K fd ps []) (hx : ∀ σ, PassesAt CX X σ (E σ)) (ha : PA X (e :: es) t)
    (hst : starEach (e :: es) X.env = (false, eval e X.env) :: starEach es X.env := by rfl) (hpl : (backTo pos (starEach es X.env)).any (·.1) = false := by rfl)
    (ht : eval (.Call (.Attribute o m apos) (e :: es) [] pos) X.env = (do
      let ov ← eval o X.env
      standAt apos.atName
      let (f, first) ← holding [ov] (getMethod ov m pl)
      callWith pos f first (backTo pos (starEach (e :: es) X.env)) (backToKw pos (keywordEach [] X.env))) := by rfl) :
    PE X (.Call (.Attribute o m apos) (e :: es) [] pos) (tMethE C m sp E ta t) := by
  refine ⟨fun pins s σ H Q I h => ?_⟩
  refine PySem.W.methodCall_KW (pl := pl) (thn (he.run pins s σ H _ I h) fun u s1 ⟨x, H1, I1, rx, a, dx, fs, ex, ea, l, q⟩ => ?_) ht
  subst ex
  obtain rfl : u = Value.ref a := rx
  refine getmeth_ok I1 ea c hm l ?_
  refine PySem.W.callWith_K (first := [.ref a]) (h₀ := X.base) I.ok.mod.kin hm.kp (thn (ha.run pos pins s1 σ H1 _ I1 q) fun us s2 ⟨vs, H2, I2, r, q2⟩ => ⟨I2.kIn, ?_⟩) hst hpl
  exact run_fnS (us := .ref a :: us) (vs := .ref a :: vs) F hr hb (hx σ) I2 (.cons rfl r) q2
theorem pe_methE0 {pl : Sem Bool} (he : PE X o ta) (c : Cls X.K C) (hm : Meth X.K C m f) (F : FnOk X.prog X.w X.K X.mg X.base CX k f fd ps sp) (hr : Room k X.A) (hb : Binds X.K fd ps []) (hx : ∀ σ, PassesAt CX X σ (E σ))
    (ht : eval (.Call (.Attribute o m apos) [] [] pos) X.env = (do
      let ov ← eval o X.env
      standAt apos.atName
      let (f, first) ← holding [ov] (getMethod ov m pl)
      callWith pos f first (backTo pos (starEach [] X.env)) (backToKw pos (keywordEach [] X.env))) := by rfl) :
    PE X (.Call (.Attribute o m apos) [] [] pos) (tMethE C m sp E ta tNil) := by
  refine ⟨fun pins s σ H Q I h => ?_⟩
  refine PySem.W.methodCall_KW (pl := pl) (thn (he.run pins s σ H _ I h) fun u s1 ⟨x, H1, I1, rx, a, dx, fs, ex, ea, l, q⟩ => ?_) ht
  subst ex
  obtain rfl : u = Value.ref a := rx
  refine getmeth_ok I1 ea c hm l ?_
  exact PySem.W.callWith_K0 (first := [.ref a]) I1.kIn hm.kp (run_fnS (us := [.ref a]) (vs := [.ref a]) F hr hb (hx σ) I1 (.cons rfl .nil) q)
def tMakeE (C : Addr) (sp : Sp) (E : L2.St → XK) (t : TA) : TE := fun σ H Q => t σ H fun vs H1 => ∀ x dx, H1 x = none → H1 dx = none → dx ≠ x → sp (.ref x :: vs) (upd (upd H1 dx (.own x)) x (.ins C dx [])) (fun v H2 => v = .non ∧ Q (.ref x) H2) (E σ)
theorem run_makeE {pins : List (Addr × Obj)} {σ : L2.St} {H : Hp} {s : Shared} {Q : VK} {us : List Value} {vs : List V} (M : Mk X.K C f) (F : FnOk X.prog X.w X.K X.mg X.base CX k f fd ps sp) (hr : Room (k + 1) X.A) (hb : Binds X.K fd ps [])
    (hx : PassesAt CX X σ (E σ)) (I : Inv X pins σ H s) (r : Vals vs us)
    (h : ∀ x dx, H x = none → H dx = none → dx ≠ x → sp (.ref x :: vs) (upd (upd H dx (.own x)) x (.ins C dx [])) (fun v H2 => v = .non ∧ Q (.ref x) H2) (E σ)) :
    wpAny (model X.prog X.w) X.A (call (.ref C) us) (EP X pins σ Q) X.xe s := by
  have hq := h (s.heap.objs.size + 1) s.heap.objs.size (I.hok.fresh (Nat.le_succ _)) (I.hok.fresh (Nat.le_refl _)) (Nat.ne_of_lt (Nat.lt_succ_self _))
  have I2 := Inv.made (C := C) I
  have r2 : Vals (V.ref (s.heap.objs.size + 1) :: vs) (Value.ref (s.heap.objs.size + 1) :: us) := .cons rfl r
  have hl : (Value.ref (s.heap.objs.size + 1) :: us ++ []).length = ps.length := by
    have e := r2.length
    rw [F.len _ _ _ _ hq] at e
    rw [List.append_nil]
    exact e.symm
  have b := hb _ (Value.ref (s.heap.objs.size + 1) :: us) I2.kIn hl
  rw [List.append_nil] at b
  refine wpAny_call (make_map (f := f) I.kIn M.makes M.init (beq_iff_eq.mp M.fn) (codeAny_mono (F.run _ X.stack _ _ ⟨Value.ref (s.heap.objs.size + 1) :: us, []⟩ (Value.ref (s.heap.objs.size + 1) :: us) _ _ (E σ) (hr.make C us [])
    (I2.env0.make C us []) b r2 hq) fun r s' hq' => ?_))
  cases r with
  | error e => exact hx pins _ _ e s' I2 hq'
  | ok fl =>
    cases fl with
    | ret u =>
      obtain ⟨v, H', I3, rv, ev, q3⟩ := I2.after hq'
      subst ev
      exact ⟨rv, ⟨V.ref (s.heap.objs.size + 1), H', I3, rfl, q3⟩⟩
    | next => exact False.elim hq'
    | brk => exact False.elim hq'
    | cont => exact False.elim hq'
theorem pe_makeE (M : Mk X.K C f) (F : FnOk X.prog X.w X.K X.mg X.base CX k f fd ps sp) (hr : Room (k + 1) X.A) (hg : Gl X x) (hm : X.mg x = some (.ref C)) (hb : Binds X.K fd ps []) (hx : ∀ σ, PassesAt CX X σ (E σ))
    (ha : PA X (e :: es) t) (hdb : (x == ("__debug__" : Str)) = false := by decide) (he : starEach (e :: es) X.env = (false, eval e X.env) :: starEach es X.env := by rfl) (hpl : (backTo pos (starEach es X.env)).any (·.1) = false := by rfl) :
    PE X (.Call (.Name x p) (e :: es) [] pos) (tMakeE C sp E t) := by
  refine ⟨fun pins s σ H Q I h => ?_⟩
  refine wpAny_Call_Name_kw (ld_glob I hg hm ?_ hdb)
  refine PySem.W.callWith_K (h₀ := X.base) I.ok.mod.kin M.kp (thn (ha.run pos pins s σ H _ I h) fun us s1 ⟨vs, H1, I1, r, q⟩ => ⟨I1.kIn, ?_⟩) he hpl
  exact run_makeE M F hr hb (hx σ) I1 r q
theorem pe_makeE0 (M : Mk X.K C f) (F : FnOk X.prog X.w X.K X.mg X.base CX k f fd ps sp) (hr : Room (k + 1) X.A) (hg : Gl X x) (hm : X.mg x = some (.ref C)) (hb : Binds X.K fd ps []) (hx : ∀ σ, PassesAt CX X σ (E σ))
    (hdb : (x == ("__debug__" : Str)) = false := by decide) : PE X (.Call (.Name x p) [] [] pos) (tMakeE C sp E tNil) := by
  refine ⟨fun pins s σ H Q I h => ?_⟩
  refine wpAny_Call_Name_kw (ld_glob I hg hm ?_ hdb)
  exact PySem.W.callWith_K0 I.kIn M.kp (run_makeE (us := []) M F hr hb (hx σ) I .nil h)
end
/-! ## a new cell -/
theorem sr_box {c : Ctx} {R : RR} {H : Hp} {e : Env} {σ : L2.St} {F G : List Addr} {t : T} {p : Addr} (s : Sr c R H e σ F) (h : Rp c.K R H t (.ref p) G) (nd : (F ++ G).Nodup) (rf : ∀ a ∈ G, R a = none) :
    Sr c ⟨R.h, R.B ++ [p], R.ct⟩ H ⟨e.s, e.m ++ [t]⟩ σ (F ++ G) ∧ R.Le ⟨R.h, R.B ++ [p], R.ct⟩ ∧ (R.B ++ [p])[e.m.length]? = some p := by
  have le : R.Le ⟨R.h, R.B ++ [p], R.ct⟩ := ⟨Same.refl _, ⟨[p], rfl⟩, rfl⟩
  obtain ⟨A1, A2, pm, h1, h2⟩ := s.sl
  have hl : e.m.length = R.B.length := by
    have := rpl_len h2
    rw [List.length_map] at this
    exact this.symm
  refine ⟨⟨⟨A1, A2 ++ G, ?_, rps_up le _ _ _ (fun _ _ _ x => x) h1, ?_⟩, nd, s.rh, fun a ha => (List.mem_append.mp ha).elim (s.rf a) (rf a), s.pn, s.fx, s.ct⟩, le, ?_⟩
  · rw [← List.append_assoc]; exact List.Perm.append_right G pm
  · show RpL c.K _ H (e.m ++ [t]) ((R.B ++ [p]).map V.ref) (A2 ++ G)
    rw [List.map_append]
    exact rpl_snoc (rp_up le _ _ _ (fun _ _ _ x => x) h) (rpl_up le _ _ _ (fun _ _ _ x => x) h2)
  · rw [hl, List.getElem?_append_right (by omega)]; simp
theorem Ex.box {R R1 : RR} {H H1 : Hp} {F F1 : List Addr} {p : Addr} (x : Ex R H F R1 H1 F1) : Ex R H F ⟨R1.h, R1.B ++ [p], R1.ct⟩ H1 F1 := ⟨x.rr.trans ⟨Same.refl _, ⟨[p], rfl⟩, rfl⟩, x.hh, x.rn, x.fn⟩
/-- a list or a dict of its own becomes a cell -/
def isBx : T → Bool
  | .l _ => true
  | .k _ _ => true
  | .m _ _ => true
  | _ => false
def dBox (d : Env → Res) : Env → Res := fun e => match d e with
  | .ok (.t t) e1 _ => if isBx t then .ok (.t (.r e1.m.length)) ⟨e1.s, e1.m ++ [t]⟩ true else .no
  | .ok _ _ _ => .no
  | .er C fs e1 => .er C fs e1
  | .no => .no
theorem isBx_ref {K : PySem.W.Frag} {R : RR} {H : Hp} {t : T} {v : V} {G : List Addr} (h : Rp K R H t v G) (b : isBx t = true) : ∃ p, v = .ref p := by
  cases t with
  | l ts => obtain ⟨p, vs, G, e, _⟩ := h; exact ⟨p, e⟩
  | k ks ts => obtain ⟨p, vs, G, e, _⟩ := h; exact ⟨p, e⟩
  | m ks ts => obtain ⟨p, vs, G, e, _⟩ := h; exact ⟨p, e⟩
  | _ => cases b
theorem de_box {X : Cx} {c : Ctx} {a : Expr} {d : Env → Res} (h : PE X a (tD c d)) : PE X a (tD c (dBox d)) := by
  refine PE.imp h fun σ H Q ⟨e, R, F, s, p⟩ => ⟨e, R, F, s, ?_⟩
  unfold dBox at p
  cases h1 : d e with
  | no => simp only [h1] at p; exact p
  | er C fs e1 => simp only [h1] at p; exact p
  | ok r e1 w =>
    intro R1 H1 F1 G v s1 rw1 nd rf ex hw
    cases r with
    | t t =>
      simp only [h1] at p
      by_cases b : isBx t = true
      · rw [if_pos b] at p
        obtain ⟨q, rfl⟩ := isBx_ref rw1 b
        obtain ⟨s2, le, hn⟩ := sr_box s1 rw1 nd rf
        exact p _ H1 (F1 ++ G) [] _ s2 ⟨rfl, q, hn, rfl⟩ (by simpa using s2.nd) (by simp) (by simpa using Ex.box (p := q) ex) (fun z => by cases z)
      · rw [if_neg b] at p; exact p.elim
    | _ => simp only [h1] at p; exact p.elim
/-! ## calls of methods -/
def dMeth (fn : List T → List T → FO) (Ci : Nat) (d : Env → Res) (ds : List (Env → Res)) : Env → Res := fun e => match d e with
  | .ok (.t (.r n)) e1 _ => match e1.m[n]? with
    | some (.o C' _) => if C' = Ci then match dArgs ds e1 with
        | .ok ts e2 _ => match frzA ts with
          | some us => match fn (.r n :: us) e2.m with
            | .rt r m => .ok (wOf r) ⟨e2.s, m⟩ true
            | .er C fs m => .er C fs ⟨e2.s, m⟩
            | .no => .no
          | none => .no
        | .er C fs e2 => .er C fs e2
        | .no => .no
      else .no
    | _ => .no
  | .ok _ _ _ => .no
  | .er C fs e1 => .er C fs e1
  | .no => .no
section
variable {X : Cx} {c : Ctx} {W : WX} {k : Nat} {f ca : Addr} {fd : FuncData} {ps N : List Str} {fn : List T → List T → FO} {x m : Str} {p pos apos : Pos} {a o : Expr} {es : List Expr} {d : Env → Res} {ds : List (Env → Res)} {Ci : Nat}
theorem dMeth_ok (kc : ClsOk c.K c.ct Ci ca N) (hm : m ∉ N) (hε : c.ε = WE W) {n : Nat} (hn : n = ds.length + 1) {σ : L2.St} {H : Hp} {Q : VK} (h : tD c (dMeth fn Ci d ds) σ H Q) : tMethE ca m (spD c.K c.cl c.ct n fn) (WE W) (tD c d) (tAD c ds) σ H Q := by
  obtain ⟨e, R, F, s, p⟩ := h
  refine ⟨e, R, F, s, ?_⟩
  unfold dMeth at p
  cases h1 : d e with
  | no => simp only [h1] at p; exact p
  | er C fs e1 => simp only [h1] at p; exact p
  | ok r e1 w =>
    intro R1 H1 F1 G v s1 rw1 nd rf ex hw
    cases r with
    | t t =>
      cases t with
      | r i =>
        simp only [h1] at p
        obtain ⟨rfl, pa, hB, rfl⟩ := rw1
        cases h2 : e1.m[i]? with
        | none => simp only [h2] at p; exact p.elim
        | some t0 =>
          cases t0 with
          | o C' ts0 =>
            simp only [h2] at p
            by_cases hC : C' = Ci
            · subst hC
              rw [if_pos rfl] at p
              have hu : rootV R1 σ (.c i) = some (.ref pa) := by show (R1.B[i]?).map V.ref = _; rw [hB]; rfl
              have hg : getE e1 (.c i) [] = some (.o C' ts0) := by
                rw [show getE e1 (.c i) [] = (match e1.m[i]? with | some t => getT t [] | none => none) from rfl, h2]
                rfl
              obtain ⟨pb, dx, vs0, e0, q2, _⟩ := sr_obj (q := []) (Gt := []) kc s1 hg hu rfl (by simpa using s1.nd) (by simp) (by simp)
              cases e0
              refine ⟨pa, dx, _, rfl, q2, zip_lookup_no hm, e1, R1, F1, s1, ?_⟩
              cases h3 : dArgs ds e1 with
              | no => simp only [h3] at p; exact p.elim
              | er C fs e2 =>
                simp only [h3] at p
                exact fun R2 H2 F2 dd s2 rx ex2 => p R2 H2 F2 dd s2 rx (ex.zero.trans ex2)
              | ok ts e2 w2 =>
                simp only [h3] at p
                intro R2 H2 F2 G2 vs s2 rl nd2 rf2 ex2 hw2
                cases hf : frzA ts with
                | none => simp only [hf] at p; exact p.elim
                | some us =>
                  simp only [hf] at p
                  refine call_ok (ts := .r i :: ts) (us := .r i :: us) (w := true) hε (by rw [hn, List.length_cons, rpl_len rl, dArgs_len ds e1 h3]) s2 ⟨_, vs, [], G2, rfl, .refl _, ⟨rfl, pa, ex2.rr.at hB, rfl⟩, rl⟩ nd2 rf2 (ex.zero.trans ex2) (fun z => by cases z) ?_ ?_
                  · show (match frzT (.r i), frzA ts with | some u, some us => some (u :: us) | _, _ => none) = _
                    rw [hf]; rfl
                  · exact p
            · rw [if_neg hC] at p; exact p.elim
          | _ => simp only [h2] at p; exact p.elim
      | _ => simp only [h1] at p; exact p.elim
    | _ => simp only [h1] at p; exact p.elim
theorem de_meth (kc : ClsOk c.K c.ct Ci ca N) (hm : m ∉ N) (tk : Takes X W) (M : Meth X.K ca m f) (F : FnOk X.prog X.w X.K X.mg X.base (L2.CX X.prog X.w) k f fd ps (spD c.K c.cl c.ct ps.length fn)) (hε : c.ε = WE W) (hn : ps.length = ds.length + 1) (hr : Room k X.A) (hb : Binds X.K fd ps [])
    (ho : PE X o (tD c d)) (ha : PA X (a :: es) (tAD c ds)) {pl : Sem Bool} (hK : X.K = c.K := by rfl)
    (hst : starEach (a :: es) X.env = (false, eval a X.env) :: starEach es X.env := by rfl) (hpl : (backTo pos (starEach es X.env)).any (·.1) = false := by rfl)
    (ht : eval (.Call (.Attribute o m apos) (a :: es) [] pos) X.env = (do
      let ov ← eval o X.env
      standAt apos.atName
      let (f, first) ← holding [ov] (getMethod ov m pl)
      callWith pos f first (backTo pos (starEach (a :: es) X.env)) (backToKw pos (keywordEach [] X.env))) := by rfl) :
    PE X (.Call (.Attribute o m apos) (a :: es) [] pos) (tD c (dMeth fn Ci d ds)) :=
  PE.imp (pe_methE (pl := pl) ho (by rw [hK]; exact kc.cls) M F hr hb (fun σ => passAt tk σ) ha hst hpl ht) fun σ H Q h => dMeth_ok kc hm hε hn h
theorem de_meth0 (kc : ClsOk c.K c.ct Ci ca N) (hm : m ∉ N) (tk : Takes X W) (M : Meth X.K ca m f) (F : FnOk X.prog X.w X.K X.mg X.base (L2.CX X.prog X.w) k f fd ps (spD c.K c.cl c.ct ps.length fn)) (hε : c.ε = WE W) (hn : ps.length = 1) (hr : Room k X.A) (hb : Binds X.K fd ps [])
    (ho : PE X o (tD c d)) {pl : Sem Bool} (hK : X.K = c.K := by rfl)
    (ht : eval (.Call (.Attribute o m apos) [] [] pos) X.env = (do
      let ov ← eval o X.env
      standAt apos.atName
      let (f, first) ← holding [ov] (getMethod ov m pl)
      callWith pos f first (backTo pos (starEach [] X.env)) (backToKw pos (keywordEach [] X.env))) := by rfl) :
    PE X (.Call (.Attribute o m apos) [] [] pos) (tD c (dMeth fn Ci d [])) :=
  PE.imp (pe_methE0 (pl := pl) ho (by rw [hK]; exact kc.cls) M F hr hb (fun σ => passAt tk σ) ht) fun σ H Q h => by
    obtain ⟨e, R, F', s, p⟩ := dMeth_ok kc hm hε hn h
    refine ⟨e, R, F', s, ?_⟩
    cases h1 : d e with
    | no => rw [h1] at p; exact p
    | er C fs e1 => rw [h1] at p; exact p
    | ok r e1 w =>
      rw [h1] at p
      intro R1 H1 F1 G v s1 rw1 nd rf ex hw
      obtain ⟨pa, dx, fs, e1', q1, q2, e2, R2, F2, s2, p2⟩ := p R1 H1 F1 G v s1 rw1 nd rf ex hw
      exact ⟨pa, dx, fs, e1', q1, q2, p2 R2 H1 F2 [] [] s2 ⟨rfl, rfl⟩ (by simpa using s2.nd) (by simp) (by simpa using Ex.refl) (fun _ => ⟨.refl s2.rh, by simp⟩)⟩
end
/-! ## making -/
def dMake (fn : List T → List T → FO) (Ci : Nat) (ds : List (Env → Res)) : Env → Res := fun e => match dArgs ds e with
  | .ok ts e1 _ => match frzA ts with
    | some us => match fn (.r e1.m.length :: us) (e1.m ++ [.o Ci []]) with
      | .rt (.d .none) m => .ok (.t (.r e1.m.length)) ⟨e1.s, m⟩ true
      | .rt _ _ => .no
      | .er C fs m => .er C fs ⟨e1.s, m⟩
      | .no => .no
    | none => .no
  | .er C fs e1 => .er C fs e1
  | .no => .no
section
variable {X : Cx} {c : Ctx} {W : WX} {k : Nat} {f ca : Addr} {fd : FuncData} {ps N : List Str} {fn : List T → List T → FO} {x : Str} {p pos : Pos} {a : Expr} {es : List Expr} {ds : List (Env → Res)} {Ci : Nat}
theorem make_ok (kc : ClsOk c.K c.ct Ci ca N) (hε : c.ε = WE W) {σ : L2.St} {R R1 : RR} {H H1 : Hp} {e1 : Env} {F F1 G1 : List Addr} {Q : VK} {ts us : List T} {vs : List V} {n : Nat} (hn : n = vs.length + 1) (s1 : Sr c R1 H1 e1 σ F1) (rl : RpL c.K R1 H1 ts vs G1) (nd1 : (F1 ++ G1).Nodup) (rf1 : ∀ a ∈ G1, R1 a = none) (ex : Ex R H F R1 H1 (F1 ++ G1))
    (hf : frzA ts = some us) (p : PostE c σ R H F Q (match fn (.r e1.m.length :: us) (e1.m ++ [.o Ci []]) with | .rt (.d .none) m => .ok (.t (.r e1.m.length)) ⟨e1.s, m⟩ true | .rt _ _ => .no | .er C fs m => .er C fs ⟨e1.s, m⟩ | .no => .no)) {y dx : Addr} (hy : H1 y = none) (hd : H1 dx = none) (ne : dx ≠ y) :
    spD c.K c.cl c.ct n fn (.ref y :: vs) (upd (upd H1 dx (.own y)) y (.ins ca dx [])) (fun v H2 => v = .non ∧ Q (.ref y) H2) (WE W σ) := by
  have le := join_same (H := H1) rf1
  have sJ := s1.join nd1 rf1
  have exJ : Ex R H F (join R1 H1 G1) H1 F1 := ex.join rf1
  have ha := (frzA_ok le (fun a ha o h => by rw [join_in ha]; exact h) rl hf).1
  -- the heap has the two new objects
  let H2 := upd (upd H1 dx (.own y)) y (.ins ca dx [])
  have sm : Same H1 H2 := (same_new hd).trans (same_new (by rw [upd_ne (fun z => ne z.symm)]; exact hy))
  have sG := sJ.grow sm (RR.Le.refl _) rfl (sJ.rh.trans sm) (fun _ h => .inl h)
  have ny : y ∉ F1 := fun z => rpe_dom sJ.sl y z hy
  have nx : dx ∉ F1 := fun z => rpe_dom sJ.sl dx z hd
  have rp : Rp c.K (join R1 H1 G1) H2 (.o Ci []) (.ref y) [y, dx] := ⟨y, dx, [], [], ca, N, by rw [sJ.ct]; exact kc.at_, rfl, .refl _, by show upd _ y _ y = _; rw [upd_same]; simp, by show upd (upd H1 dx _) y _ dx = _; rw [upd_ne ne, upd_same], by simp, rfl, rfl⟩
  have nd2 : (F1 ++ [y, dx]).Nodup := List.nodup_append.mpr ⟨sJ.nd, by simp; exact fun z => ne z.symm, fun a ha b hb z => by
    subst z
    simp at hb
    rcases hb with rfl | rfl
    · exact ny ha
    · exact nx ha⟩
  have rf2 : ∀ a ∈ [y, dx], (join R1 H1 G1) a = none := fun a ha => by
    simp at ha
    rcases ha with rfl | rfl
    · exact sJ.rh.free hy
    · exact sJ.rh.free hd
  obtain ⟨sB, leB, hB⟩ := sr_box sG rp nd2 rf2
  have exB : Ex R H F ⟨(join R1 H1 G1).h, (join R1 H1 G1).B ++ [y], (join R1 H1 G1).ct⟩ H2 (F1 ++ [y, dx]) := by
    refine Ex.box (exJ.trans ⟨RR.Le.refl _, fun a o h _ => sm a o h, fun _ h => .inl h, fun a ha => ?_⟩)
    rcases List.mem_append.mp ha with ha | ha
    · exact .inl ha
    · simp at ha
      rcases ha with rfl | rfl
      · exact .inr hy
      · exact .inr hd
  refine call_ok (ts := .r e1.m.length :: us) (us := .r e1.m.length :: us) (w := true) (G1 := []) (fn := fn) hε (by rw [hn]; rfl) sB ?_ (by simpa using sB.nd) (by simp) (R := _) (H := H2) (F := F1 ++ [y, dx]) (by simpa using Ex.refl) (fun z => by cases z) ?_ ?_
  · exact ⟨_, vs, [], [], rfl, .refl _, ⟨rfl, y, hB, rfl⟩, rpl_up leB _ _ _ (fun _ h => by cases h) (H := H1) ha⟩
  · have fz : ∀ {us : List T} {vs : List V}, RpL c.K (join R1 H1 G1) H1 us vs [] → frzA ts = some us → frzA us = some us := by
      intro us vs _ h
      have : ∀ {ts us : List T}, frzA ts = some us → frzA us = some us := by
        intro ts
        induction ts with
        | nil => intro us h; cases (show some [] = some us from h); rfl
        | cons t ts ih =>
          intro us h
          unfold frzA at h
          cases e1 : frzT t with
          | none => rw [e1] at h; cases h
          | some u =>
            cases e2 : frzA ts with
            | none => rw [e1, e2] at h; cases h
            | some us' =>
              rw [e1, e2] at h
              cases h
              have cu : frzT u = some u := by
                unfold frzT at e1
                by_cases cp : cpT t = true
                · rw [if_pos cp] at e1; cases e1; unfold frzT; rw [if_pos cp]
                · rw [if_neg cp] at e1
                  cases e3 : t.data with
                  | none => rw [e3] at e1; cases e1
                  | some z => rw [e3] at e1; cases e1; rfl
              show (match frzT u, frzA us' with | some u, some us => some (u :: us) | _, _ => none) = _
              rw [cu, ih e2]
      exact this h
    show (match frzT (.r e1.m.length), frzA us with | some u, some us => some (u :: us) | _, _ => none) = _
    rw [fz ha hf]; rfl
  · show PostE c σ _ H2 (F1 ++ [y, dx]) _ (match fn (.r e1.m.length :: us) (e1.m ++ [.o Ci []]) with | .rt r m => .ok (wOf r) ⟨e1.s, m⟩ true | .er C fs m => .er C fs ⟨e1.s, m⟩ | .no => .no)
    cases h2 : fn (.r e1.m.length :: us) (e1.m ++ [.o Ci []]) with
    | no => simp only [h2] at p; exact p
    | er C fs m =>
      simp only [h2] at p
      exact fun R' H' F' d s rx ex' => p R' H' F' d s rx (exB.trans ex')
    | rt r m =>
      cases r with
      | d z =>
        cases z with
        | none =>
          simp only [h2] at p
          intro R' H' F' G v s rv nd rf ex' hw
          obtain ⟨rfl, rv⟩ := rv
          cases rv
          exact ⟨rfl, p R' H' F' [] _ s ⟨rfl, y, ex'.rr.at hB, rfl⟩ (by simpa using s.nd) (by simp) (by simpa using exB.trans ex'.zero) (fun z => by cases z)⟩
        | _ => simp only [h2] at p; exact p.elim
      | _ => simp only [h2] at p; exact p.elim
theorem dMake_ok (kc : ClsOk c.K c.ct Ci ca N) (hε : c.ε = WE W) {n : Nat} (hn : n = ds.length + 1) {σ : L2.St} {H : Hp} {Q : VK} (h : tD c (dMake fn Ci ds) σ H Q) : tMakeE ca (spD c.K c.cl c.ct n fn) (WE W) (tAD c ds) σ H Q := by
  obtain ⟨e, R, F, s, p⟩ := h
  refine ⟨e, R, F, s, ?_⟩
  unfold dMake at p
  cases h1 : dArgs ds e with
  | no => simp only [h1] at p; exact p
  | er C fs e1 => simp only [h1] at p; exact p
  | ok ts e1 w =>
    simp only [h1] at p
    intro R1 H1 F1 G1 vs s1 rl nd1 rf1 ex _ y dx hy hd ne
    cases hf : frzA ts with
    | none => simp only [hf] at p; exact p.elim
    | some us =>
      simp only [hf] at p
      exact make_ok kc hε (by rw [hn, rpl_len rl, dArgs_len ds e h1]) s1 rl nd1 rf1 ex hf p hy hd ne
theorem de_make (kc : ClsOk c.K c.ct Ci ca N) (tk : Takes X W) (M : Mk X.K ca f) (F : FnOk X.prog X.w X.K X.mg X.base (L2.CX X.prog X.w) k f fd ps (spD c.K c.cl c.ct ps.length fn)) (hε : c.ε = WE W) (hn : ps.length = ds.length + 1) (hr : Room (k + 1) X.A) (hg : Gl X x) (hm : X.mg x = some (.ref ca)) (hb : Binds X.K fd ps [])
    (ha : PA X (a :: es) (tAD c ds)) (hdb : (x == ("__debug__" : Str)) = false := by decide) (he : starEach (a :: es) X.env = (false, eval a X.env) :: starEach es X.env := by rfl) (hpl : (backTo pos (starEach es X.env)).any (·.1) = false := by rfl) :
    PE X (.Call (.Name x p) (a :: es) [] pos) (tD c (dMake fn Ci ds)) :=
  PE.imp (pe_makeE M F hr hg hm hb (fun σ => passAt tk σ) ha hdb he hpl) fun σ H Q h => dMake_ok kc hε hn h
theorem de_make0 (kc : ClsOk c.K c.ct Ci ca N) (tk : Takes X W) (M : Mk X.K ca f) (F : FnOk X.prog X.w X.K X.mg X.base (L2.CX X.prog X.w) k f fd ps (spD c.K c.cl c.ct ps.length fn)) (hε : c.ε = WE W) (hn : ps.length = 1) (hr : Room (k + 1) X.A) (hg : Gl X x) (hm : X.mg x = some (.ref ca)) (hb : Binds X.K fd ps [])
    (hdb : (x == ("__debug__" : Str)) = false := by decide) : PE X (.Call (.Name x p) [] [] pos) (tD c (dMake fn Ci [])) :=
  PE.imp (pe_makeE0 M F hr hg hm hb (fun σ => passAt tk σ) hdb) fun σ H Q h => by
    obtain ⟨e, R, F', s, q⟩ := dMake_ok (n := ps.length) (ds := []) kc hε (by simpa using hn) h
    exact q R H F' [] [] s ⟨rfl, rfl⟩ (by simpa using s.nd) (by simp) (by simpa using Ex.refl) (fun _ => ⟨.refl s.rh, by simp⟩)
end
/-! ## properties -/
def dProp (fn : List T → List T → FO) (Ci : Nat) (d : Env → Res) : Env → Res := fun e => match d e with
  | .ok (.t (.r n)) e1 _ => match e1.m[n]? with
    | some (.o C' _) => if C' = Ci then match fn [.r n] e1.m with
        | .rt r m => .ok (wOf r) ⟨e1.s, m⟩ true
        | _ => .no
      else .no
    | _ => .no
  | .ok _ _ _ => .no
  | .er C fs e1 => .er C fs e1
  | .no => .no
theorem de_prop {X : Cx} {c : Ctx} {k : Nat} {f ca pp : Addr} {fd : FuncData} {ps N : List Str} {fn : List T → List T → FO} {m : Str} {pos : Pos} {o : Expr} {d : Env → Res} {Ci : Nat} (kc : ClsOk c.K c.ct Ci ca N) (hp : PropOf X.K ca m pp f) (F : FnOk X.prog X.w X.K X.mg X.base (L2.CX X.prog X.w) k f fd ps (spD c.K c.cl c.ct ps.length fn)) (hn : ps.length = 1) (hr : Room (k + 1) X.A) (hb : Binds X.K fd ps [])
    (ho : PE X o (tD c d)) (hK : X.K = c.K := by rfl) (hab : attributeBase o m X.env (eval o X.env) = eval o X.env := by rfl) : PE X (.Attribute o m pos) (tD c (dProp fn Ci d)) := by
  refine PE.imp (pe_prop (E := fun _ _ _ => False) (dvs := []) ho (by rw [hK]; exact kc.cls) hp F hr hb .nil (fun pins σ H s e s' I z => passAt (W := fun _ _ _ _ => False) takes0 σ pins H s e s' I z) hab) fun σ H Q ⟨e, R, F', s, p⟩ => ⟨e, R, F', s, ?_⟩
  unfold dProp at p
  cases h1 : d e with
  | no => simp only [h1] at p; exact p
  | er C fs e1 => simp only [h1] at p; exact p
  | ok r e1 w =>
    intro R1 H1 F1 G v s1 rw1 nd rf ex hw
    cases r with
    | t t =>
      cases t with
      | r i =>
        simp only [h1] at p
        obtain ⟨rfl, pa, hB, rfl⟩ := rw1
        cases h2 : e1.m[i]? with
        | none => simp only [h2] at p; exact p.elim
        | some t0 =>
          cases t0 with
          | o C' ts0 =>
            simp only [h2] at p
            by_cases hC : C' = Ci
            · subst hC
              rw [if_pos rfl] at p
              have hu : rootV R1 σ (.c i) = some (.ref pa) := by show (R1.B[i]?).map V.ref = _; rw [hB]; rfl
              have hg : getE e1 (.c i) [] = some (.o C' ts0) := by
                rw [show getE e1 (.c i) [] = (match e1.m[i]? with | some t => getT t [] | none => none) from rfl, h2]
                rfl
              obtain ⟨pb, dx, vs0, e0, q2, _⟩ := sr_obj (q := []) (Gt := []) kc s1 hg hu rfl (by simpa using s1.nd) (by simp) (by simp)
              cases e0
              refine ⟨pa, dx, _, rfl, q2, ?_⟩
              refine call_ok (c := { c with ε := WE fun _ _ _ _ => False }) (W := fun _ _ _ _ => False) (ts := [.r i]) (us := [.r i]) (w := true) (G1 := []) rfl hn ⟨s1.sl, s1.nd, s1.rh, s1.rf, s1.pn, s1.fx, s1.ct⟩ ⟨_, [], [], [], rfl, .refl _, ⟨rfl, pa, hB, rfl⟩, rfl, rfl⟩ (by simpa using s1.nd) (by simp) (R := R) (H := H) (F := F') (by simpa using ex) (fun z => by cases z) rfl ?_
              cases h4 : fn [.r i] e1.m with
              | no => simp only [h4] at p; exact p.elim
              | er C fs m => simp only [h4] at p; exact p.elim
              | rt r m =>
                simp only [h4] at p
                exact fun R' H' F2 G2 v2 s2 rv2 nd2 rf2 ex2 hw2 => p R' H' F2 G2 v2 ⟨s2.sl, s2.nd, s2.rh, s2.rf, s2.pn, s2.fx, s2.ct⟩ rv2 nd2 rf2 ex2 (fun z => by cases z)
            · rw [if_neg hC] at p; exact p.elim
          | _ => simp only [h2] at p; exact p.elim
      | _ => simp only [h1] at p; exact p.elim
    | _ => simp only [h1] at p; exact p.elim
end En
namespace En
open PySem PySem.Spec PyProof.Rows L2
/-! ## is None, of anything -/
/-- what is read is None: data, or an object -/
def noneW : W → Option Bool
  | .v x => some (isNone x)
  | .t (.d x) => some (isNone x)
  | .t (.l _) => some false
  | .t (.t _) => some false
  | .t (.r _) => some false
  | .b _ => some false
  | _ => none
theorem noneW_ok {K : PySem.W.Frag} {R : RR} {H : Hp} {σ : L2.St} {r : W} {v : V} {G : List Addr} {b : Bool} (h : Rw K R H σ r v G) (e : noneW r = some b) : decide (v = .non) = b := by
  cases r with
  | v x => cases e; exact sd_isNone (b := false) (H := H) h.2
  | b ds => cases e; obtain ⟨_, p, vs, rfl, _⟩ := h; rfl
  | p i q => cases e
  | t t =>
    cases t with
    | d x => cases e; exact sd_isNone (b := false) (H := H) h.2
    | l ts => cases e; obtain ⟨p, vs, G, rfl, _⟩ := h; rfl
    | t ts => cases e; obtain ⟨p, vs, rfl, _⟩ := h; rfl
    | r n => cases e; obtain ⟨_, p, _, rfl⟩ := h; rfl
    | k ks ts => cases e
    | m ks ts => cases e
    | o C ts => cases e
    | z => cases e
def vIsNT (neg : Bool) (d : Env → Res) : Env → RV := fun e => match d e with
  | .ok r e1 w => match noneW r with
    | some b => .ok (.bool (neg ^^ b)) false e1 w
    | none => .no
  | .er C fs e1 => .er C fs e1
  | .no => .no
theorem Gr.let {R R' : RR} {H H' : Hp} {G : List Addr} (g : Gr R H R' H' ∧ ∀ a ∈ G, H a = none) : Gr R H R' H' := g.1
section
variable {X : Cx} {c : Ctx} {a : Expr} {d : Env → Res} {pos p2 : Pos} {k : Nat}
theorem vIsNT_ok {neg : Bool} {σ : L2.St} {H : Hp} {Q : VK} (h : tV c (vIsNT neg d) σ H Q) : tD c d σ H fun x H1 => Q (.bl (neg ^^ decide (x = .non))) H1 := by
  obtain ⟨e, R, F, s, p⟩ := h
  refine ⟨e, R, F, s, ?_⟩
  unfold vIsNT at p
  cases h1 : d e with
  | no => simp only [h1] at p; exact p
  | er C fs e1 => simp only [h1] at p; exact p
  | ok r e1 w =>
    simp only [h1] at p
    intro R1 H1 F1 G v s1 rw1 nd rf ex hw
    cases hb : noneW r with
    | none => simp only [hb] at p; exact p.elim
    | some b =>
      simp only [hb] at p
      rw [noneW_ok rw1 hb]
      exact p R1 H1 F1 _ s1 (.bl _) (ex.mono fun a ha => List.mem_append_left _ ha) (fun z => (hw z).1)
theorem ve_isNT (h : PE X a (tD c d)) : PE X (.Compare a [.Is] [.Constant .none k p2] pos) (tV c (vIsNT false d)) := PE.imp (pe_cmpR op_isN h pe_non (nomark _)) fun σ H Q q => by
  have := vIsNT_ok q
  obtain ⟨e, R, F, s, p⟩ := this
  refine ⟨e, R, F, s, ?_⟩
  cases h1 : d e with
  | no => rw [h1] at p; exact p
  | er C fs e1 => rw [h1] at p; exact p
  | ok r e1 w => rw [h1] at p; exact fun R' H' F' G v s' rv nd rf ex hw => ⟨rfl, by simpa using p R' H' F' G v s' rv nd rf ex hw⟩
theorem ve_notNT (h : PE X a (tD c d)) : PE X (.Compare a [.IsNot] [.Constant .none k p2] pos) (tV c (vIsNT true d)) := PE.imp (pe_cmpR op_notN h pe_non (nomark _)) fun σ H Q q => by
  have := vIsNT_ok q
  obtain ⟨e, R, F, s, p⟩ := this
  refine ⟨e, R, F, s, ?_⟩
  cases h1 : d e with
  | no => rw [h1] at p; exact p
  | er C fs e1 => rw [h1] at p; exact p
  | ok r e1 w => rw [h1] at p; exact fun R' H' F' G v s' rv nd rf ex hw => ⟨rfl, by simpa using p R' H' F' G v s' rv nd rf ex hw⟩
theorem te_isNT (h : PE X a (tD c d)) : PT X (.Compare a [.Is] [.Constant .none k p2] pos) (tT c (vIsNT false d)) := PT.imp (pt_cmpR op_isN h pe_non (nomark _)) fun σ H Q q => by
  have := vIsNT_ok (Q := fun x H1 => ∃ b, x = .bl b ∧ Q b H1) q
  obtain ⟨e, R, F, s, p⟩ := this
  refine ⟨e, R, F, s, ?_⟩
  cases h1 : d e with
  | no => rw [h1] at p; exact p
  | er C fs e1 => rw [h1] at p; exact p
  | ok r e1 w => rw [h1] at p; exact fun R' H' F' G v s' rv nd rf ex hw => ⟨rfl, by simpa using p R' H' F' G v s' rv nd rf ex hw⟩
theorem te_notNT (h : PE X a (tD c d)) : PT X (.Compare a [.IsNot] [.Constant .none k p2] pos) (tT c (vIsNT true d)) := PT.imp (pt_cmpR op_notN h pe_non (nomark _)) fun σ H Q q => by
  have := vIsNT_ok (Q := fun x H1 => ∃ b, x = .bl b ∧ Q b H1) q
  obtain ⟨e, R, F, s, p⟩ := this
  refine ⟨e, R, F, s, ?_⟩
  cases h1 : d e with
  | no => rw [h1] at p; exact p
  | er C fs e1 => rw [h1] at p; exact p
  | ok r e1 w => rw [h1] at p; exact fun R' H' F' G v s' rv nd rf ex hw => ⟨rfl, by simpa using p R' H' F' G v s' rv nd rf ex hw⟩
end
/-! ## truth of data and lists -/
def truD : PyData → Option Bool
  | .none => some false
  | .bool b => some b
  | .int i => some (i != 0)
  | .str s => if s.length ≤ SZ then some ((s.length : Int) != 0) else none
  | .list ds => some (!ds.isEmpty)
  | .tuple ds => some (!ds.isEmpty)
  | _ => none
def truT : T → Option Bool
  | .d x => truD x
  | .l ts => some (!ts.isEmpty)
  | _ => none
def truW (e : Env) : W → Option Bool
  | .v x => truD x
  | .b ds => some (!ds.isEmpty)
  | .t (.r n) => match getE e (.c n) [] with
    | some t => truT t
    | none => none
  | .t t => truT t
  | .p i q => match getE e i q with
    | some t => truT t
    | none => none
theorem truD_ok {K : PySem.W.Frag} {R : RR} {H : Hp} {v : V} {x : PyData} {b : Bool} (h : Dp K R v x) (rh : Same R.h H) (e : truD x = some b) : TruV K v H b := by
  cases h with
  | non => cases e; rfl
  | bl b => cases e; rfl
  | int i => cases e; rfl
  | str s =>
    have e' : (if s.length ≤ SZ then some ((s.length : Int) != 0) else none) = some b := e
    by_cases hl : s.length ≤ SZ
    · rw [if_pos hl] at e'; cases e'; exact ⟨by rw [← sz_eq]; exact hl, rfl⟩
    · rw [if_neg hl] at e'; cases e'
  | @lst p vs ds hs ha =>
    cases e
    refine .inl ⟨vs, rh.seq hs, ?_⟩
    have := dpa_len ha
    cases vs <;> cases ds <;> simp at this <;> rfl
  | @tup p vs ds hs ha =>
    cases e
    refine .inr (.inl ⟨vs, sqt_up rh hs, ?_⟩)
    have := dpa_len ha
    cases vs <;> cases ds <;> simp at this <;> rfl
theorem truT_ok {K : PySem.W.Frag} {R : RR} {H : Hp} {v : V} {t : T} {G : List Addr} {b : Bool} (h : Rp K R H t v G) (rh : Same R.h H) (e : truT t = some b) : TruV K v H b := by
  cases t with
  | d x => exact truD_ok h.2 rh e
  | l ts =>
    cases e
    obtain ⟨p, vs, G, rfl, _, h1, h2⟩ := h
    refine .inl ⟨vs, .of h1, ?_⟩
    have := rpl_len h2
    cases vs <;> cases ts <;> simp at this <;> rfl
  | _ => cases e
def vTru (d : Env → Res) : Env → RV := fun e => match d e with
  | .ok r e1 w => match truW e1 r with
    | some b => .ok (.bool b) false e1 w
    | none => .no
  | .er C fs e1 => .er C fs e1
  | .no => .no
theorem truW_ok {c : Ctx} {R : RR} {H : Hp} {e : Env} {σ : L2.St} {F : List Addr} {r : W} {v : V} {G : List Addr} {b : Bool} (s : Sr c R H e σ F) (h : Rw c.K R H σ r v G) (he : truW e r = some b) : TruV c.K v H b := by
  cases r with
  | v x => exact truD_ok h.2 s.rh he
  | b ds =>
    cases he
    obtain ⟨_, p, vs, rfl, h1, h2⟩ := h
    refine .inl ⟨vs, .of h1, ?_⟩
    have := dpa_len h2
    cases vs <;> cases ds <;> simp at this <;> rfl
  | p i q =>
    obtain ⟨_, u, hu, k1⟩ := h
    have he' : (match getE e i q with | some t => truT t | none => none) = some b := he
    cases h3 : getE e i q with
    | none => rw [h3] at he'; cases he'
    | some t =>
      rw [h3] at he'
      obtain ⟨K1, _, _, kk, _⟩ := sr_focus s h3 hu k1
      exact truT_ok kk s.rh he'
  | t t =>
    cases t with
    | r n =>
      have hp : plc (.t (.r n)) = some (.c n, []) := rfl
      obtain ⟨_, u, hu, k1⟩ := plc_ok h hp
      have he' : (match getE e (.c n) [] with | some t => truT t | none => none) = some b := he
      cases h3 : getE e (.c n) [] with
      | none => rw [h3] at he'; cases he'
      | some t =>
        rw [h3] at he'
        obtain ⟨K1, _, _, kk, _⟩ := sr_focus s h3 hu k1
        exact truT_ok kk s.rh he'
    | d x => exact truT_ok h s.rh he
    | l ts => exact truT_ok h s.rh he
    | t ts => cases he
    | o C ts => cases he
    | k ks ts => cases he
    | m ks ts => cases he
    | z => cases he
theorem te_tru {X : Cx} {c : Ctx} {a : Expr} {d : Env → Res} (h : PE X a (tD c d)) (hK : X.K = c.K := by rfl) (he : ∀ whole, isTrue a X.env whole = (do let v ← whole; standAt a.pos; holding [v] (truthy v)) := by intro _; rfl) : PT X a (tT c (vTru d)) := PT.imp (pt_truth h he) fun σ H Q ⟨e, R, F, s, p⟩ => by
  refine ⟨e, R, F, s, ?_⟩
  rw [hK]
  unfold vTru at p
  cases h1 : d e with
  | no => simp only [h1] at p; exact p
  | er C fs e1 => simp only [h1] at p; exact p
  | ok r e1 w =>
    simp only [h1] at p
    intro R1 H1 F1 G v s1 rw1 nd rf ex hw
    cases hb : truW e1 r with
    | none => simp only [hb] at p; exact p.elim
    | some b =>
      simp only [hb] at p
      refine ⟨b, truW_ok s1 rw1 hb, ?_⟩
      obtain ⟨b', e', q⟩ := p R1 H1 F1 (.bl b) s1 (.bl _) (ex.mono fun a ha => List.mem_append_left _ ha) (fun z => (hw z).1)
      cases e'
      exact q
/-! ## e.f op= v -/
def sFldA (Ci j : Nat) (f : Int → Int → Int) (d : Env → Res) (dv : Env → RV) : Env → Out := fun e => match d e with
  | .ok r e1 _ => match plc r with
    | some (i, q) => match getE e1 i q with
      | some (.o C' ts) => if C' = Ci then match ts[j]? with
        | some (.d (.int x)) => match dv e1 with
          | .ok (.int y) _ e2 w2 => if stb w2 q then match getE e2 i q with
            | some (.o C2 ts2) => if C2 = Ci ∧ j < ts2.length then .nx (setE e2 i q (.o Ci (ts2.set j (.d (.int (f x y)))))) else .no
            | _ => .no
            else .no
          | .er C fs e2 => .er C fs e2
          | _ => .no
        | _ => .no
        else .no
      | _ => .no
    | none => .no
  | .er C fs e1 => .er C fs e1
  | .no => .no
theorem se_fldA {X : Cx} {c : Ctx} {o v : Expr} {op : Operator} {g : Int → Int → Int} {d : Env → Res} {dv : Env → RV} {pos tpos : Pos} {Ci j : Nat} {ca : Addr} {N : List Str} {f : Str} (k : ClsOk c.K c.ct Ci ca N) (hf : N[j]? = some f) (ho : PE X o (tD c d)) (hv : PE X v (tV c dv)) (hop : PIp X op (ipI g)) (hK : X.K = c.K := by rfl) : PS X (.AugAssign (.Attribute o f tpos) op v pos) (tS c (sFldA Ci j g d dv)) := by
  refine PS.imp (ps_fldaug (rd := ipI g) ho hv hop) fun D σ H ⟨e, R, F, s, p⟩ => ⟨e, R, F, s, ?_⟩
  rw [hK]
  unfold sFldA at p
  cases h1 : d e with
  | no => simp only [h1] at p; exact p
  | er C fs e1 =>
    simp only [h1] at p
    exact fun R' H' F' x s' rx ex => p σ R' H' F' x s' rx ex
  | ok r e1 w =>
    intro R1 H1 F1 G u0 s1 rw1 nd1 rf1 ex1 _
    cases hp : plc r with
    | none => simp only [h1, hp] at p; exact p.elim
    | some iq =>
      obtain ⟨i, q⟩ := iq
      simp only [h1, hp] at p
      obtain ⟨rfl, u, hu, k1⟩ := plc_ok rw1 hp
      have ex1 := ex1.zero
      cases h3 : getE e1 i q with
      | none => simp only [h3] at p; exact p.elim
      | some t =>
        cases t with
        | o C' ts =>
          simp only [h3] at p
          by_cases hC : C' = Ci
          · subst hC
            rw [if_pos rfl] at p
            cases h5 : ts[j]? with
            | none => simp only [h5] at p; exact p.elim
            | some t =>
              cases t with
              | d x =>
                cases x with
                | int x =>
                  simp only [h5] at p
                  obtain ⟨pa, dx, vs, rfl, q2, hl, hl2, ⟨Gw, q3⟩, _⟩ := sr_obj (Gt := []) k s1 h3 hu k1 (by simpa using s1.nd) (by simp) (by simp)
                  have hj : j < ts.length := (List.getElem?_eq_some_iff.mp h5).1
                  have hv : vs[j]? = some vs[j] := List.getElem?_eq_getElem (by omega)
                  obtain ⟨G2, r1, _⟩ := rpl_key ts vs Gw j q3 h5 hv
                  have vx : vs[j] = V.int x := sd_int (b := false) (K := c.K) (R := R1) (H := H1) r1.2
                  refine ⟨pa, ca, dx, N.zip vs, vs[j], rfl, q2, k.cls, k.na f (List.mem_of_getElem? hf), zip_lookup k.nd hf hv, e1, R1, F1, s1, ?_⟩
                  cases h6 : dv e1 with
                  | no => simp only [h6] at p; exact p.elim
                  | er C fs e2 =>
                    simp only [h6] at p
                    exact fun R2 H2 F2 dd s2 rx ex2 => p σ R2 H2 F2 dd s2 rx (ex1.trans ex2)
                  | ok y bb e2 w2 =>
                    cases y with
                    | int y =>
                      simp only [h6] at p
                      intro R2 H2 F2 yv s2 sd2 ex2 hw2
                      by_cases hs : stb w2 q = true
                      rotate_left
                      · rw [if_neg hs] at p; exact p.elim
                      rw [if_pos hs] at p
                      cases h7 : getE e2 i q with
                      | none => simp only [h7] at p; exact p.elim
                      | some t2 =>
                        cases t2 with
                        | o C2 ts2 =>
                          simp only [h7] at p
                          by_cases hc2 : C2 = C' ∧ j < ts2.length
                          rotate_left
                          · rw [if_neg hc2] at p; exact p.elim
                          rw [if_pos hc2] at p
                          obtain ⟨rfl, hj2⟩ := hc2
                          obtain ⟨pb, dy, ws, e0, q4, hl3, hl4, _, kk⟩ := sr_obj (Gt := []) k s2 h7 (rootV_up ex2.rr hu) (stay hs hw2 k1) (by simpa using s2.nd) (by simp) (by simp)
                          cases e0
                          rw [vx]
                          refine ⟨x, y, rfl, sd_int sd2, dy, N.zip ws, q4, ?_, ?_⟩
                          · rw [List.length_zip]; have := k.sm; omega
                          · rw [zip_putF k.nd hf (by omega)]
                            obtain ⟨F4, s4, f4, ex4⟩ := kk (ts2.set j (.d (.int (g x y)))) (ws.set j (.int (g x y))) (by simpa using hl4) fun Gw m3 n1 n2 => by
                              obtain ⟨A1, A2, pm, l1⟩ := rpl_set (t := .d (.int (g x y))) (v := .int (g x y)) (G := []) m3 hj2 ⟨rfl, .int _⟩
                              have nn := List.nodup_append.mp (pm.nodup_iff.mp n1)
                              exact ⟨A2, l1, nn.2.1, fun a ha => .inl (pm.mem_iff.mpr (List.mem_append_right _ ha))⟩
                            exact p σ R2 _ F4 s4 (Ex.upd (G2 := []) (by simpa using ex1.trans ex2) f4 ex4)
                        | _ => simp only [h7] at p; exact p.elim
                    | _ => simp only [h6] at p; exact p.elim
                | _ => simp only [h5] at p; exact p.elim
              | _ => simp only [h5] at p; exact p.elim
          · rw [if_neg hC] at p; exact p.elim
        | _ => simp only [h3] at p; exact p.elim
/-! ## what a place holds is taken out of it -/
theorem sr_take {c : Ctx} {R : RR} {H : Hp} {e : Env} {σ : L2.St} {F : List Addr} (s : Sr c R H e σ F) {i : Rt} {q : List Stp} {t : T} {u v : V} (g : getE e i q = some t) (hu : rootV R σ i = some u) (w : wk H u q v) : ∃ F1 F2, F.Perm (F1 ++ F2) ∧ Rp c.K R H t v F1 ∧ Sr c R H (setE e i q .z) σ F2 := by
  obtain ⟨F1, F2, pm, h1, h2⟩ := sr_focus s g hu w
  have nd := List.nodup_append.mp (pm.nodup_iff.mp s.nd)
  exact ⟨F1, F2, pm, h1, h2 R H .z [] (RR.Le.refl _) rfl (fun _ _ _ x => x) rfl, nd.2.1, s.rh, fun a ha => s.rf a (pm.mem_iff.mpr (List.mem_append_right _ ha)), s.pn, s.fx, s.ct⟩
def dMov (d : Env → Res) : Env → Res := fun e => match d e with
  | .ok (.p i q) e1 _ => match getE e1 i q with
    | some t => .ok (.t t) (setE e1 i q .z) true
    | none => .no
  | r => r
theorem de_mov {X : Cx} {c : Ctx} {a : Expr} {d : Env → Res} (h : PE X a (tD c d)) : PE X a (tD c (dMov d)) := PE.imp h fun σ H Q ⟨e, R, F, s, p⟩ => by
  refine ⟨e, R, F, s, ?_⟩
  unfold dMov at p
  cases h1 : d e with
  | no => simp only [h1] at p; exact p
  | er C fs e1 => simp only [h1] at p; exact p
  | ok r e1 w =>
    cases r with
    | p i q =>
      simp only [h1] at p
      intro R1 H1 F1 G v s1 rw1 nd rf ex hw
      cases h3 : getE e1 i q with
      | none => simp only [h3] at p; exact p.elim
      | some t =>
        simp only [h3] at p
        obtain ⟨rfl, u, hu, k1⟩ := rw1
        obtain ⟨F2, F3, pm, h4, s3⟩ := sr_take s1 h3 hu k1
        have nd2 := pm.nodup_iff.mp s1.nd
        refine p R1 H1 F3 F2 v s3 h4 (List.perm_append_comm.nodup_iff.mp nd2) (fun a ha => s1.rf a (pm.mem_iff.mpr (List.mem_append_left _ ha))) ?_ (fun z => by cases z)
        exact ex.mono fun a ha => by
          have : a ∈ F1 := pm.mem_iff.mpr ((List.mem_append.mp ha).elim (List.mem_append_right _) (List.mem_append_left _))
          simpa using this
    | _ => simp only [h1] at p; exact p
/-! ## a if t else b, of anything -/
def orE (w : Bool) : Res → Res
  | .ok r e w2 => .ok r e (w || w2)
  | .er C fs e => .er C fs e
  | .no => .no
def dIf (t : Env → RV) (d1 d2 : Env → Res) : Env → Res := fun e => match t e with
  | .ok (.bool true) _ e1 w => orE w (d1 e1)
  | .ok (.bool false) _ e1 w => orE w (d2 e1)
  | .ok _ _ _ _ => .no
  | .er C fs e1 => .er C fs e1
  | .no => .no
theorem postE_orE {c : Ctx} {σ : L2.St} {R0 R : RR} {H0 H : Hp} {F0 F : List Addr} {Q : VK} {r : Res} {w : Bool} (x : Ex R0 H0 F0 R H F) (sm : w = false → Gr R0 H0 R H) (h : PostE c σ R0 H0 F0 Q (orE w r)) : PostE c σ R H F Q r := by
  cases r with
  | ok y e w2 => exact fun R' H' F' G v s rv nd rf ex hw => h R' H' F' G v s rv nd rf (x.trans ex) (fun z => ⟨(sm (or_ff z).1).trans (hw (or_ff z).2).1, fun a ha => (sm (or_ff z).1).hh.free ((hw (or_ff z).2).2 a ha)⟩)
  | er C fs e => exact fun R' H' F' dd s rx ex => h R' H' F' dd s rx (x.trans ex)
  | no => exact h
theorem de_if {X : Cx} {c : Ctx} {a a1 a2 : Expr} {t : Env → RV} {d1 d2 : Env → Res} {pos : Pos} (ht : PT X a (tT c t)) (h1 : PE X a1 (tD c d1)) (h2 : PE X a2 (tD c d2)) : PE X (.IfExp a a1 a2 pos) (tD c (dIf t d1 d2)) := by
  refine PE.imp (pe_ifExp ht h1 h2) fun σ H Q ⟨e, R, F, s, p⟩ => ⟨e, R, F, s, ?_⟩
  unfold dIf at p
  cases h1 : t e with
  | no => simp only [h1] at p; exact p
  | er C fs e1 => simp only [h1] at p; exact p
  | ok x bb e1 w =>
    intro R1 H1 F1 v s1 sd ex hw
    cases x with
    | bool y =>
      refine ⟨y, sd_bool sd, ?_⟩
      cases y with
      | true =>
        simp only [h1] at p
        exact iteT ⟨e1, R1, F1, s1, postE_orE ex hw p⟩
      | false =>
        simp only [h1] at p
        exact iteF ⟨e1, R1, F1, s1, postE_orE ex hw p⟩
    | _ => simp only [h1] at p; exact p.elim
end En
namespace En
open PySem PySem.Spec PyProof.Rows L2
/-! ## what is walked: values that stand, or a list where it stands -/
inductive Src where
  | fx (ts : List T)
  | pl (i : Rt) (q : List Stp) (en : Bool)
inductive RJ where
  | ok (src : Src) (e : Env) (w : Bool)
  | er (C : Str) (fs : Xd) (e : Env)
  | no
def itm (en : Bool) (k : Nat) (t : T) : T := if en = true then .t [.d (.int (k : Nat)), t] else t
/-- the k-th item: none if it cannot be said, some none behind the last one -/
def srcAt (src : Src) (k : Nat) (e : Env) (w : Bool) : Option (Option T) := match src with
  | .fx ts => some ts[k]?
  | .pl i q en => if stb w q = true then match getE e i q with
      | some (.l ts) => match ts[k]? with
        | none => some none
        | some t => if cpT t = true then some (some (itm en k t)) else none
      | _ => none
    else none
def SrcOk (K : PySem.W.Frag) (R : RR) (H : Hp) (σ : L2.St) (J : It) : Src → Prop
  | .fx ts => WalkD K R J ts
  | .pl i q en => ∃ u a, rootV R σ i = some u ∧ wk H u q (.ref a) ∧ J = (if en = true then Ite K a else Itl K a)
def srcLe : Src → Nat → Prop
  | .fx ts, k => k ≤ ts.length
  | .pl _ _ _, _ => True
/-- one turn of what is walked -/
theorem src_turn {c : Ctx} {R1 R' : RR} {H1 H : Hp} {e : Env} {σ : L2.St} {F : List Addr} {J : It} {src : Src} {k : Nat} {w : Bool} (ok : SrcOk c.K R1 H1 σ J src) (le : srcLe src k) (s : Sr c R' H e σ F) (rr : R1.Le R') (sm : w = false → Same H1 H) {o : Option T} (h : srcAt src k e w = some o) :
    (o = none → J.stop k H) ∧ (∀ x, o = some x → J.go k H ∧ srcLe src (k + 1) ∧ ∀ v H2, J.yld k H v H2 → ∃ R2, Gr R' H R2 H2 ∧ Rp c.K R2 H2 x v []) := by
  cases src with
  | fx ts =>
    cases (show some ts[k]? = some o from h)
    obtain ⟨G, Y, wk, hG, hY⟩ := ok
    have g := hG R' H rr s.rh
    refine ⟨fun z => ?_, fun x z => ?_⟩
    · have : k = ts.length := by
        have := List.getElem?_eq_none_iff.mp z
        have l : k ≤ ts.length := le
        omega
      subst this
      exact wk.stops H g
    · have hk : k < ts.length := (List.getElem?_eq_some_iff.mp z).1
      refine ⟨wk.goes k H hk g, hk, fun v H2 y => ?_⟩
      obtain ⟨R2, x', h1, h2, h3⟩ := hY k R' H v H2 rr s.rh hk (wk.yields k H v H2 hk g y)
      rw [z] at h1
      cases h1
      exact ⟨R2, h2, h3⟩
  | pl i q en =>
    have h' : (if stb w q = true then match getE e i q with | some (.l ts) => (match ts[k]? with | none => some none | some t => if cpT t = true then some (some (itm en k t)) else none) | _ => none else none) = some o := h
    by_cases hs : stb w q = true
    rotate_left
    · rw [if_neg hs] at h'; cases h'
    rw [if_pos hs] at h'
    obtain ⟨u, a, hu, k1, rfl⟩ := ok
    have k2 : wk H u q (.ref a) := by
      cases w with
      | false => exact wk_up (sm rfl) k1
      | true =>
        have : q = [] := by simpa [stb] using hs
        subst this
        exact k1
    cases h3 : getE e i q with
    | none => simp only [h3] at h'; cases h'
    | some t =>
      cases t with
      | l ts =>
        simp only [h3] at h'
        obtain ⟨K1, K2, pm, kk, _⟩ := sr_focus s h3 (rootV_up rr hu) k2
        obtain ⟨pa, vs, Gv, e0, q1, q2, q3⟩ := kk
        cases e0
        have hl := rpl_len q3
        cases h4 : ts[k]? with
        | none =>
          simp only [h4] at h'
          cases h'
          have l := List.getElem?_eq_none_iff.mp h4
          refine ⟨fun _ => ?_, fun x z => by cases z⟩
          cases en with
          | false => exact ⟨vs, .of q2, by omega⟩
          | true => exact ⟨vs, .of q2, by omega⟩
        | some t =>
          simp only [h4] at h'
          by_cases cp : cpT t = true
          rotate_left
          · rw [if_neg cp] at h'; cases h'
          rw [if_pos cp] at h'
          cases h'
          refine ⟨fun z => (by cases z), fun x z => ?_⟩
          cases z
          have hk : k < ts.length := (List.getElem?_eq_some_iff.mp h4).1
          have hv : vs[k]? = some vs[k] := List.getElem?_eq_getElem (by omega)
          obtain ⟨G2, r1, _⟩ := rpl_key ts vs Gv k q3 h4 hv
          cases en with
          | false =>
            refine ⟨⟨vs, _, .of q2, hv⟩, trivial, fun v H2 y => ?_⟩
            obtain ⟨rfl, y⟩ : H2 = H ∧ ∀ xs, SqL c.K H a xs → xs[k]? = some v := y
            have := y vs (.of q2)
            rw [hv] at this
            cases this
            exact ⟨R', .refl s.rh, (cp_up (RR.Le.refl _) _ _ _ cp r1).2⟩
          | true =>
            refine ⟨⟨vs, _, .of q2, hv⟩, trivial, fun v H2 y => ?_⟩
            obtain ⟨T0, x, rfl, hT, rfl, y⟩ : ∃ T0 x, v = .ref T0 ∧ H T0 = none ∧ H2 = upd H T0 (.tup [.int (k : Nat), x]) ∧ ∀ xs, SqL c.K H a xs → xs[k]? = some x := y
            have := y vs (.of q2)
            rw [hv] at this
            cases this
            have g := Gr.new (R := R') (o := .tup [.int (k : Nat), vs[k]]) s.rh hT
            refine ⟨_, g, T0, _, rfl, .of upd_same, ?_⟩
            exact ⟨_, _, [], [], rfl, .refl _, ⟨rfl, .int _⟩, _, _, [], [], rfl, .refl _, (cp_up g.rr _ _ _ cp r1).2, rfl, rfl⟩
      | _ => simp only [h3] at h'; cases h'
def PostJ (c : Ctx) (σ : L2.St) (R : RR) (H : Hp) (F : List Addr) (Q : It → Hp → Prop) : RJ → Prop
  | .ok src e w => ∀ (R' : RR) (H' : Hp) F' J, Sr c R' H' e σ F' → SrcOk c.K R' H' σ J src → Ex R H F R' H' F' → (w = false → Gr R H R' H') → Q J H'
  | .er C fs e => ∀ (R' : RR) (H' : Hp) F' d, Sr c R' H' e σ F' → RX c.K R' fs d → Ex R H F R' H' F' → c.ε σ (.ref (c.cl C)) d H'
  | .no => False
def tJ (c : Ctx) (d : Env → RJ) : TI := fun σ H Q => ∃ e R F, Sr c R H e σ F ∧ PostJ c σ R H F Q (d e)
/-- a list or tuple of what can be handed on; a list where it stands; data -/
def iT (d : Env → Res) : Env → RJ := fun e => match d e with
  | .ok (.v (.list xs)) e1 w => .ok (.fx (xs.map T.d)) e1 w
  | .ok (.v (.tuple xs)) e1 w => .ok (.fx (xs.map T.d)) e1 w
  | .ok (.t (.l ts)) e1 w => if cpL ts = true then .ok (.fx ts) e1 w else .no
  | .ok (.t (.t ts)) e1 w => if cpL ts = true then .ok (.fx ts) e1 w else .no
  | .ok (.t (.r n)) e1 w => match getE e1 (.c n) [] with
    | some (.l _) => .ok (.pl (.c n) [] false) e1 w
    | _ => .no
  | .ok (.p i q) e1 w => match getE e1 i q with
    | some (.l _) => .ok (.pl i q false) e1 w
    | _ => .no
  | .ok _ _ _ => .no
  | .er C fs e1 => .er C fs e1
  | .no => .no
theorem ie_T {X : Cx} {c : Ctx} {tg l : Expr} {d : Env → Res} (h : PE X l (tD c d)) (hK : X.K = c.K := by rfl) : PI X tg l (tJ c (iT d)) := by
  refine PI.imp (pi_seq h) fun σ H Q ⟨e, R, F, s, p⟩ => ⟨e, R, F, s, ?_⟩
  rw [hK]
  unfold iT at p
  cases h1 : d e with
  | no => simp only [h1] at p; exact p
  | er C fs e1 => simp only [h1] at p; exact p
  | ok r e1 w =>
    intro R1 H1 F1 G v s1 rw1 nd rf ex hw
    have place : ∀ {i : Rt} {q : List Stp}, plc r = some (i, q) → PostJ c σ R H F Q (match getE e1 i q with | some (.l _) => .ok (.pl i q false) e1 w | _ => .no) → ∃ a, v = .ref a ∧ (((∃ xs, SqL c.K H1 a xs) ∧ Q (Itl c.K a) H1) ∨ ((∃ xs, SqT c.K H1 a xs) ∧ Q (Itt c.K a) H1)) := by
      intro i q hp p
      obtain ⟨rfl, u, hu, k1⟩ := plc_ok rw1 hp
      cases h3 : getE e1 i q with
      | none => simp only [h3] at p; exact p.elim
      | some t =>
        cases t with
        | l ts =>
          simp only [h3] at p
          obtain ⟨K1, K2, pm, kk, _⟩ := sr_focus s1 h3 hu k1
          obtain ⟨pa, vs, Gv, rfl, q1, q2, q3⟩ := kk
          exact ⟨pa, rfl, .inl ⟨⟨vs, .of q2⟩, p R1 H1 F1 _ s1 ⟨u, pa, hu, k1, rfl⟩ ex.zero (fun z => (hw z).1)⟩⟩
        | _ => simp only [h3] at p; exact p.elim
    cases r with
    | v x =>
      obtain ⟨rfl, dx⟩ := rw1
      cases x with
      | list xs =>
        simp only [h1] at p
        cases dx with
        | lst hs ha => exact ⟨_, rfl, .inl ⟨⟨_, s1.rh.seq hs⟩, p R1 H1 F1 _ s1 (walkD_at walk_list (fun R' H' q1 q2 => (q1.s.trans q2).seq hs) ha) ex.zero (fun z => (hw z).1)⟩⟩
      | tuple xs =>
        simp only [h1] at p
        cases dx with
        | tup hs ha => exact ⟨_, rfl, .inr ⟨⟨_, sqt_up s1.rh hs⟩, p R1 H1 F1 _ s1 (walkD_at walk_tup (fun R' H' q1 q2 => sqt_up (q1.s.trans q2) hs) ha) ex.zero (fun z => (hw z).1)⟩⟩
      | _ => simp only [h1] at p; exact p.elim
    | p i q => exact place rfl (by simpa only [h1] using p)
    | b ds => simp only [h1] at p; exact p.elim
    | t t =>
      cases t with
      | r n => exact place rfl (by simpa only [h1] using p)
      | l ts =>
        simp only [h1] at p
        by_cases cp : cpL ts = true
        · rw [if_pos cp] at p
          obtain ⟨pa, vs, Gv, rfl, pm, q2, q3⟩ := rw1
          have le := join_same (H := H1) rf
          have q4 := (cpl_up (H' := H1) le _ _ _ cp q3).2
          have hp : join R1 H1 G pa = some (.lst vs) := by rw [join_in (pm.mem_iff.mpr (by simp))]; exact q2
          refine ⟨pa, rfl, .inl ⟨⟨vs, .of q2⟩, p (join R1 H1 G) H1 F1 _ (s1.join nd rf) (walkT_at (H := H1) walk_list (fun R' H' w1 w2 => .of (w2 _ _ (w1.s _ _ hp))) cp q4) (ex.join rf) (fun z => (hw z).1.join rf (hw z).2)⟩⟩
        · rw [if_neg cp] at p; exact p.elim
      | t ts =>
        simp only [h1] at p
        by_cases cp : cpL ts = true
        · rw [if_pos cp] at p
          obtain ⟨pa, vs, rfl, q2, q3⟩ := rw1
          obtain ⟨hG, q4⟩ := cpl_up (H' := H1) (RR.Le.refl R1) _ _ _ cp q3
          subst hG
          exact ⟨pa, rfl, .inr ⟨⟨vs, sqt_up s1.rh q2⟩, p R1 H1 F1 _ s1 (walkT_at (H := H1) walk_tup (fun R' H' w1 w2 => sqt_up (w1.s.trans w2) q2) cp q4) ex.zero (fun z => (hw z).1)⟩⟩
        · rw [if_neg cp] at p; exact p.elim
      | _ => simp only [h1] at p; exact p.elim
/-- enumerate(e) -/
def enumT : Nat → List T → List T
  | _, [] => []
  | k, x :: r => .t [.d (.int (k : Nat)), x] :: enumT (k + 1) r
theorem enumT_get : ∀ (k : Nat) (xs : List T) (i : Nat) (x : T), xs[i]? = some x → (enumT k xs)[i]? = some (.t [.d (.int ((k + i : Nat) : Int)), x])
  | _, [], _, _, h => by simp at h
  | k, y :: r, 0, x, h => by simp at h; subst h; rfl
  | k, y :: r, i + 1, x, h => by
    rw [enumT, List.getElem?_cons_succ, enumT_get (k + 1) r i x (by simpa using h), show k + 1 + i = k + (i + 1) by omega]
theorem enumT_len : ∀ (k : Nat) (xs : List T), (enumT k xs).length = xs.length
  | _, [] => rfl
  | k, x :: r => by rw [enumT, List.length_cons, List.length_cons, enumT_len]
def iEnT (d : Env → Res) : Env → RJ := fun e => match d e with
  | .ok (.v (.list xs)) e1 w => .ok (.fx (enumT 0 (xs.map T.d))) e1 w
  | .ok (.t (.l ts)) e1 w => if cpL ts = true then .ok (.fx (enumT 0 ts)) e1 w else .no
  | .ok (.t (.r n)) e1 w => match getE e1 (.c n) [] with
    | some (.l _) => .ok (.pl (.c n) [] true) e1 w
    | _ => .no
  | .ok (.p i q) e1 w => match getE e1 i q with
    | some (.l _) => .ok (.pl i q true) e1 w
    | _ => .no
  | .ok _ _ _ => .no
  | .er C fs e1 => .er C fs e1
  | .no => .no
theorem walk_enT {K : PySem.W.Frag} {R : RR} {H : Hp} {a : Addr} {vs : List V} {ts : List T} (hG : ∀ (R' : RR) (H' : Hp), R.Le R' → Same R' H' → SqL K H' a vs) (cp : cpL ts = true) (da : RpL K R H ts vs []) : WalkD K R (Ite K a) (enumT 0 ts) := by
  refine ⟨_, _, by rw [enumT_len, ← rpl_len da]; exact walk_enum, hG, fun i R' H' v H2 s1 s2 hi y => ?_⟩
  obtain ⟨T0, x, z, rfl, hT, rfl, h2, h3⟩ := y
  cases h2
  obtain ⟨tz, h4, h5⟩ := rpl_get (cpl_up (H' := H') s1 _ _ _ cp da).2 h3
  have g := Gr.new (R := R') (o := .tup [.int (i : Nat), z]) s2 hT
  have ct : cpT tz = true := by
    have : ∀ (ts : List T) (i : Nat), cpL ts = true → ts[i]? = some tz → cpT tz = true := by
      intro ts
      induction ts with
      | nil => intro i _ h; simp at h
      | cons t ts ih =>
        intro i hc h
        have hc' : (cpT t && cpL ts) = true := hc
        rw [Bool.and_eq_true] at hc'
        cases i with
        | zero => simp at h; subst h; exact hc'.1
        | succ i => exact ih i hc'.2 (by simpa using h)
    exact this ts i cp h4
  refine ⟨_, _, enumT_get 0 ts i tz h4, g, T0, _, rfl, .of upd_same, ?_⟩
  rw [Nat.zero_add]
  exact ⟨_, _, [], [], rfl, .refl _, ⟨rfl, .int _⟩, _, _, [], [], rfl, .refl _, (cp_up g.rr _ _ _ ct h5).2, rfl, rfl⟩
theorem ie_enT {X : Cx} {c : Ctx} {a : Expr} {d : Env → Res} {p0 pos tpos : Pos} {elts : List Expr} {kk : Nat} (hg : Gl X "enumerate") (hm : X.mg "enumerate" = none) (h : PE X a (tD c d)) (hK : X.K = c.K := by rfl) (hs : starEach [a] X.env = [(false, eval a X.env)] := by rfl) :
    PI X (.Tuple elts kk tpos) (.Call (.Name "enumerate" p0) [a] [] pos) (tJ c (iEnT d)) := by
  refine PI.imp (pi_enum hg hm (pa_cons h pa_nil hs) hs) fun σ H Q ⟨e, R, F, s, p⟩ => ⟨e, R, F, s, ?_⟩
  rw [hK]
  unfold iEnT at p
  cases h1 : d e with
  | no => simp only [h1] at p; exact p
  | er C fs e1 => simp only [h1] at p; exact p
  | ok r e1 w =>
    intro R1 H1 F1 G v s1 rw1 nd rf ex hw
    have place : ∀ {i : Rt} {q : List Stp}, plc r = some (i, q) → PostJ c σ R H F Q (match getE e1 i q with | some (.l _) => .ok (.pl i q true) e1 w | _ => .no) → ∃ a xs, [v] = [V.ref a] ∧ SqL c.K H1 a xs ∧ Q (Ite c.K a) H1 := by
      intro i q hp p
      obtain ⟨rfl, u, hu, k1⟩ := plc_ok rw1 hp
      cases h3 : getE e1 i q with
      | none => simp only [h3] at p; exact p.elim
      | some t =>
        cases t with
        | l ts =>
          simp only [h3] at p
          obtain ⟨K1, K2, pm, kk, _⟩ := sr_focus s1 h3 hu k1
          obtain ⟨pa, vs, Gv, rfl, q1, q2, q3⟩ := kk
          exact ⟨pa, vs, rfl, .of q2, p R1 H1 F1 _ s1 ⟨u, pa, hu, k1, rfl⟩ ex.zero (fun z => (hw z).1)⟩
        | _ => simp only [h3] at p; exact p.elim
    cases r with
    | v x =>
      obtain ⟨rfl, dx⟩ := rw1
      cases x with
      | list xs =>
        simp only [h1] at p
        cases dx with
        | lst hs ha => exact ⟨_, _, rfl, s1.rh.seq hs, p R1 H1 F1 _ s1 (walk_enT (H := H1) (fun R' H' q1 q2 => (q1.s.trans q2).seq hs) (cpL_d xs) (rpl_d ha)) ex.zero (fun z => (hw z).1)⟩
      | _ => simp only [h1] at p; exact p.elim
    | p i q => exact place rfl (by simpa only [h1] using p)
    | b ds => simp only [h1] at p; exact p.elim
    | t t =>
      cases t with
      | r n => exact place rfl (by simpa only [h1] using p)
      | l ts =>
        simp only [h1] at p
        by_cases cp : cpL ts = true
        · rw [if_pos cp] at p
          obtain ⟨pa, vs, Gv, rfl, pm, q2, q3⟩ := rw1
          have le := join_same (H := H1) rf
          have q4 := (cpl_up (H' := H1) le _ _ _ cp q3).2
          have hp : join R1 H1 G pa = some (.lst vs) := by rw [join_in (pm.mem_iff.mpr (by simp))]; exact q2
          exact ⟨pa, vs, rfl, .of q2, p (join R1 H1 G) H1 F1 _ (s1.join nd rf) (walk_enT (H := H1) (fun R' H' w1 w2 => .of (w2 _ _ (w1.s _ _ hp))) cp q4) (ex.join rf) (fun z => (hw z).1.join rf (hw z).2)⟩
        · rw [if_neg cp] at p; exact p.elim
      | _ => simp only [h1] at p; exact p.elim
/-! ## for -/
def isFix : Src → Bool
  | .fx _ => true
  | .pl (.c _) [] _ => true
  | _ => false
def forS (src : Src) (bd : T → Env → Out) : Nat → Nat → Env → Out
  | 0, _, _ => .no
  | f + 1, k, e => match srcAt src k e true with
    | none => .no
    | some none => .nx e
    | some (some x) => match bd x e with
      | .nx e1 => forS src bd f (k + 1) e1
      | .ct e1 => forS src bd f (k + 1) e1
      | .bk e1 => .nx e1
      | o => o
/-- a walk over values that stand is a walk over a list -/
theorem forS_fx {bd : T → Env → Out} {ts : List T} : ∀ (f k : Nat) (e : Env), ts.length - k < f → k ≤ ts.length → forS (.fx ts) bd f k e = forL bd (ts.drop k) e
  | 0, _, _, h, _ => by omega
  | f + 1, k, e, h, hk => by
    unfold forS
    have e0 : srcAt (.fx ts) k e true = some ts[k]? := rfl
    rw [e0]
    cases h1 : ts[k]? with
    | none =>
      have := List.getElem?_eq_none_iff.mp h1
      rw [List.drop_eq_nil_of_le this]
      rfl
    | some x =>
      obtain ⟨hl, hx⟩ := List.getElem?_eq_some_iff.mp h1
      rw [List.drop_eq_getElem_cons hl, hx]
      unfold forL
      have ih : ∀ e, forS (.fx ts) bd f (k + 1) e = forL bd (ts.drop (k + 1)) e := fun e => forS_fx f (k + 1) e (by omega) (by omega)
      simp only []
      cases bd x e with
      | nx e1 => exact ih e1
      | ct e1 => exact ih e1
      | _ => rfl
/-- a walk, by what is walked -/
def forW (bd : T → Env → Out) (e1 : Env) : Src → Out
  | .fx ts => forL bd ts e1
  | .pl i q en => if isFix (.pl i q en) = true then forS (.pl i q en) bd SZ 0 e1 else .no
def sForJ (dj : Env → RJ) (tg : T → Env → Option Env) (b : Env → Out) : Env → Out := fun e => match dj e with
  | .ok src e1 _ => forW (bdy tg b) e1 src
  | .er C fs e1 => .er C fs e1
  | .no => .no
theorem forW_S {bd : T → Env → Out} {e1 : Env} {src : Src} (h : forW bd e1 src ≠ .no) : isFix src = true ∧ ∃ m, forS src bd m 0 e1 = forW bd e1 src := by
  cases src with
  | fx ts => exact ⟨rfl, ts.length + 1, by rw [forS_fx _ _ _ (by omega) (by omega), List.drop_zero]; rfl⟩
  | pl i q en =>
    by_cases hf : isFix (.pl i q en) = true
    · exact ⟨hf, SZ, by show _ = (if isFix (.pl i q en) = true then forS (.pl i q en) bd SZ 0 e1 else .no); rw [if_pos hf]⟩
    · exfalso
      apply h
      show (if isFix (.pl i q en) = true then forS (.pl i q en) bd SZ 0 e1 else .no) = _
      rw [if_neg hf]
theorem srcOk_fix {K : PySem.W.Frag} {R : RR} {H : Hp} {σ σ' : L2.St} {J : It} {src : Src} (f : isFix src = true) (h : SrcOk K R H σ J src) : SrcOk K R H σ' J src := by
  cases src with
  | fx ts => exact h
  | pl i q en =>
    cases i with
    | s i => cases f
    | c n =>
      cases q with
      | nil => obtain ⟨u, a, h1, h2, h3⟩ := h; exact ⟨u, a, h1, h2, h3⟩
      | cons st q => cases f
theorem se_forJ {X : Cx} {c : Ctx} {iter tgt : Expr} {body : List Stmt} {pos : Pos} {is : List Nat} {g : TG} {tg : T → Env → Option Env} {dj : Env → RJ} {b : Env → Out} (hp : PassesOwn (model X.prog X.w) X.A X.env X.xe) (hc : X.calm = true) (hi : PI X tgt iter (tJ c dj))
    (hg : PG X tgt g) (ht : TgOk c is g tg) (hb : PSs X body (tS c b)) (hs : ∀ x, foldedSetIterable iter X.env x = pure x := by intro _; rfl) : PS X (.For tgt iter body [] pos) (tS c (sForJ dj tg b)) := by
  refine PS.imp (ps_for hp hc hi hg hb hs) fun D σ H ⟨e, R, F, s, p⟩ => ⟨e, R, F, s, ?_⟩
  unfold sForJ at p
  cases h1 : dj e with
  | no => simp only [h1] at p; exact p
  | er C fs e1 =>
    simp only [h1] at p
    exact fun R' H' F' x s' rx ex => p σ R' H' F' x s' rx ex
  | ok src e1 w =>
    simp only [h1] at p
    intro R1 H1 F1 J s1 ok ex hw
    have hno : forW (bdy tg b) e1 src ≠ .no := fun z => by rw [z] at p; exact p
    obtain ⟨fxd, m0, hm0⟩ := forW_S hno
    rw [← hm0] at p
    refine ⟨fun i m σ H => ∃ (R' : RR) (F' : List Addr) (e' : Env), Sr c R' H e' σ F' ∧ R1.Le R' ∧ srcLe src i ∧ PostS c R' H F' D (forS src (bdy tg b) m i e'), ⟨m0, R1, F1, e1, s1, RR.Le.refl _, by cases src <;> first | exact Nat.zero_le _ | exact trivial, PostS.mono ex p⟩, ?_⟩
    rintro i m σ2 H2 ⟨R', F', e', s', le, sl, p'⟩
    cases m with
    | zero => exact p'.elim
    | succ m =>
      unfold forS at p'
      cases h2 : srcAt src i e' true with
      | none => simp only [h2] at p'; exact p'.elim
      | some o =>
        obtain ⟨t1, t2⟩ := src_turn (srcOk_fix (σ' := σ2) fxd ok) sl s' le (fun z => by cases z) h2
        cases o with
        | none =>
          simp only [h2] at p'
          exact .inl ⟨t1 rfl, p' σ2 R' H2 F' s' .refl⟩
        | some x =>
          simp only [h2] at p'
          obtain ⟨go, sl2, yl⟩ := t2 x rfl
          refine .inr ⟨go, fun σ H => ∃ (R' : RR) (F' : List Addr) (e' : Env), Sr c R' H e' σ F' ∧ R1.Le R' ∧ srcLe src (i + 1) ∧ PostS c R' H F' D (forS src (bdy tg b) m (i + 1) e'), fun σ' H' q => ⟨m, Nat.lt_succ_self _, q⟩, fun v H3 y => ?_⟩
          obtain ⟨R3, gr, dp⟩ := yl v H3 y
          unfold bdy at p'
          cases h3 : tg x e' with
          | none => simp only [h3] at p'; exact p'.elim
          | some e2 =>
            simp only [h3] at p'
            refine ht R3 H3 e' σ2 F' v x e2 _ (gr.sr s') dp h3 fun σ3 F3 s3 f3 _ => ⟨e2, R3, F3, s3, ?_⟩
            have ex3 : Ex R' H2 F' R3 H3 F3 := gr.ex.mono f3
            have go : ∀ {e3 : Env}, PostS c R' H2 F' D (forS src (bdy tg b) m (i + 1) e3) → ∀ σ' R4 H4 F4, Sr c R4 H4 e3 σ' F4 → Ex R3 H3 F3 R4 H4 F4 → ∃ (R' : RR) (F' : List Addr) (e' : Env), Sr c R' H4 e' σ' F' ∧ R1.Le R' ∧ srcLe src (i + 1) ∧ PostS c R' H4 F' D (forS src (bdy tg b) m (i + 1) e') :=
              fun {e3} q σ' R4 H4 F4 s4 ex4 => ⟨R4, F4, e3, s4, (le.trans gr.rr).trans ex4.rr, sl2, PostS.mono (ex3.trans ex4) q⟩
            cases h4 : b e2 with
            | nx e3 => simp only [h4] at p'; exact go p'
            | ct e3 => simp only [h4] at p'; exact go p'
            | bk e3 => simp only [h4] at p'; exact fun σ' R4 H4 F4 s4 ex4 => p' σ' R4 H4 F4 s4 (ex3.trans ex4)
            | rt r e3 => simp only [h4] at p'; exact fun σ' R4 H4 F4 G4 v4 s4 rw4 nd4 rf4 ex4 => p' σ' R4 H4 F4 G4 v4 s4 rw4 nd4 rf4 (ex3.trans ex4)
            | er C fs e3 => simp only [h4] at p'; exact fun σ' R4 H4 F4 d4 s4 rx4 ex4 => p' σ' R4 H4 F4 d4 s4 rx4 (ex3.trans ex4)
            | no => simp only [h4] at p'; exact p'.elim
end En
namespace En
open PySem PySem.Spec PyProof.Rows L2
/-! ## list comprehensions over anything, whose items may be objects and may write -/
def lcC (t : T) : RD → RD
  | .ok ts e w => .ok (t :: ts) e w
  | _ => .no
def lcS (src : Src) (vs : List Nat) (tg : T → Env → Option Env) (tt : Env → RV) (el : Env → Res) : Nat → Nat → Env → Bool → RD
  | 0, _, _, _ => .no
  | f + 1, k, e, w => match srcAt src k e w with
    | none => .no
    | some none => .ok [] e w
    | some (some x) => match tg x e with
      | none => .no
      | some e1 => match tt e1 with
        | .ok (.bool true) _ e2 w2 => match el e2 with
          | .ok y e3 w3 => match tOf y with
            | some t => lcC t (lcS src vs tg tt el f (k + 1) (wipeE e3 vs) (w || (w2 || w3)))
            | none => .no
          | _ => .no
        | .ok (.bool false) _ e2 w2 => lcS src vs tg tt el f (k + 1) (wipeE e2 vs) (w || w2)
        | _ => .no
def lcE : RD → Res
  | .ok ts e _ => if ts.length < SZ then .ok (.t (.l ts)) e true else .no
  | _ => .no
def dLcJ (dj : Env → RJ) (vs : List Nat) (tg : T → Env → Option Env) (tt : Env → RV) (el : Env → Res) : Env → Res := fun e => match dj e with
  | .ok src e1 _ => lcE (lcS src vs tg tt el SZ 0 (wipeE e1 vs) false)
  | .er C fs e1 => .er C fs e1
  | .no => .no
theorem wipeS_get {e : Sl} : ∀ (vs : List Nat) (i : Nat), (wipeS e vs)[i]? = if i ∈ vs then (e[i]?).map (fun _ => none) else e[i]?
  | [], i => by simp [wipeS]
  | v :: vs, i => by
    unfold wipeS
    rw [List.getElem?_set]
    have hl : (wipeS e vs).length = e.length := by
      induction vs with
      | nil => rfl
      | cons v vs ih => unfold wipeS; rw [List.length_set]; exact ih
    by_cases h : v = i
    · subst h
      rw [if_pos rfl, if_pos List.mem_cons_self, hl]
      by_cases h2 : v < e.length
      · rw [if_pos h2, List.getElem?_eq_getElem h2]; rfl
      · rw [if_neg h2, List.getElem?_eq_none (by omega)]; rfl
    · rw [if_neg h, wipeS_get vs i]
      by_cases h2 : i ∈ vs
      · rw [if_pos h2, if_pos (List.mem_cons_of_mem _ h2)]
      · rw [if_neg h2, if_neg (fun z => (List.mem_cons.mp z).elim (fun q => h q.symm) h2)]
theorem rps_move {K : PySem.W.Frag} {R : RR} {H : Hp} : ∀ {e : Sl} {σ σ' : L2.St} {F : List Addr}, RpS K R H e σ F → σ'.length = σ.length → (∀ (i : Nat) (t : T), e[i]? = some (some t) → σ'[i]? = σ[i]?) → RpS K R H e σ' F
  | [], σ, σ', F, h, hl, _ => by
    obtain ⟨rfl, h2⟩ := h
    exact ⟨List.eq_nil_of_length_eq_zero (by simpa using hl), h2⟩
  | none :: e, σ, σ', F, h, hl, q => by
    obtain ⟨o, r, rfl, h2⟩ := h
    cases σ' with
    | nil => simp at hl
    | cons o' r' => exact ⟨o', r', rfl, rps_move h2 (by simpa using hl) fun i t z => by simpa using q (i + 1) t (by simpa using z)⟩
  | some t :: e, σ, σ', F, h, hl, q => by
    obtain ⟨v, r, F1, F2, rfl, pm, h1, h2⟩ := h
    cases σ' with
    | nil => simp at hl
    | cons o' r' =>
      have e0 := q 0 t rfl
      simp at e0
      subst e0
      exact ⟨v, r', F1, F2, rfl, pm, h1, rps_move h2 (by simpa using hl) fun i t z => by simpa using q (i + 1) t (by simpa using z)⟩
theorem sr_updo {c : Ctx} {R : RR} {H : Hp} {e : Env} {σ : L2.St} {F : List Addr} {D : Addr} {o : HO} (s : Sr c R H e σ F) (nD : D ∉ F) (rD : R D = none) : Sr c R (upd H D o) e σ F := by
  refine ⟨rpe_up (RR.Le.refl _) rfl (fun a ha o h => ?_) s.sl, s.nd, fun a o h => ?_, s.rf, s.pn, s.fx, s.ct⟩
  · rw [upd_ne (fun z => nD (by rw [← z]; exact ha))]; exact h
  · rw [upd_ne (fun z => by rw [z, rD] at h; cases h)]; exact s.rh a o h
/-- the state of the block, and the list so far -/
structure LcJ (c : Ctx) (R1 : RR) (H1 : Hp) (F1 : List Addr) (D : Addr) (σ' : L2.St) (R' : RR) (H : Hp) (e' : Env) (F' : List Addr) (acc : List V) (done : List T) (G : List Addr) : Prop where
  sr : Sr (c0 c) R' H e' σ' F'
  hD : H D = some (.lst acc)
  rl : RpL c.K R' H done acc G
  nd : (F' ++ (D :: G)).Nodup
  rf : ∀ x ∈ D :: G, R' x = none
  ex : Ex R1 H1 F1 R' H (F' ++ (D :: G))
section
variable {c : Ctx} {R1 R' : RR} {H1 H : Hp} {F1 F' G : List Addr} {D : Addr} {σ' : L2.St} {e' : Env} {acc : List V} {done : List T}
theorem LcJ.dom (S : LcJ c R1 H1 F1 D σ' R' H e' F' acc done G) : ∀ a ∈ D :: G, H a ≠ none := fun a ha => by
  rcases List.mem_cons.mp ha with rfl | ha
  · rw [S.hD]; exact fun z => by cases z
  · exact rpl_dom _ _ _ S.rl a ha
/-- something is done beside -/
theorem LcJ.go (S : LcJ c R1 H1 F1 D σ' R' H e' F' acc done G) {R2 : RR} {H2 : Hp} {e2 : Env} {F2 : List Addr} {σ2 : L2.St} (ex : Ex R' H F' R2 H2 F2) (s2 : Sr (c0 c) R2 H2 e2 σ2 F2) : LcJ c R1 H1 F1 D σ2 R2 H2 e2 F2 acc done G := by
  obtain ⟨k1, k2, k3⟩ := frame (K := c.K) (ex := ex) S.nd S.rf S.dom
  exact ⟨s2, k1 D (by simp) _ S.hD, rpl_up ex.rr _ _ _ (fun a ha => k1 a (by simp [ha])) S.rl, List.nodup_append.mpr ⟨s2.nd, (List.nodup_append.mp S.nd).2.1, fun x hx y hy z => by subst z; exact k3 x hx hy⟩, k2, S.ex.beside ex⟩
/-- fewer slots are told -/
theorem LcJ.sub (S : LcJ c R1 H1 F1 D σ' R' H e' F' acc done G) {e2 : Env} {F2 : List Addr} {σ2 : L2.St} (s2 : Sr (c0 c) R' H e2 σ2 F2) (h : ∀ a ∈ F2, a ∈ F') : LcJ c R1 H1 F1 D σ2 R' H e2 F2 acc done G :=
  ⟨s2, S.hD, S.rl, List.nodup_append.mpr ⟨s2.nd, (List.nodup_append.mp S.nd).2.1, fun x hx y hy z => (List.nodup_append.mp S.nd).2.2 x (h x hx) y hy z⟩, S.rf, S.ex.mono fun a ha => (List.mem_append.mp ha).elim (fun z => List.mem_append_left _ (h a z)) (List.mem_append_right _)⟩
theorem LcJ.wipe (S : LcJ c R1 H1 F1 D σ' R' H e' F' acc done G) (vs : List Nat) : ∃ F2, LcJ c R1 H1 F1 D (wipe σ' vs) R' H (wipeE e' vs) F2 acc done G := by
  obtain ⟨A1, A2, pm, h⟩ := rpe_wipe vs S.sr.sl
  have sub : ∀ a ∈ A2, a ∈ F' := fun a ha => pm.mem_iff.mpr (List.mem_append_right _ ha)
  exact ⟨A2, S.sub ⟨h, (List.nodup_append.mp (pm.nodup_iff.mp S.sr.nd)).2.1, S.sr.rh, fun a ha => S.sr.rf a (sub a ha), fun i v z => by simp [c0] at z, S.sr.fx, S.sr.ct⟩ sub⟩
/-- an item comes to the list -/
theorem LcJ.app (S : LcJ c R1 H1 F1 D σ' R' H e' F' acc done G) {R2 : RR} {H2 : Hp} {e2 : Env} {F2 Gy : List Addr} {y : V} {t : T} (ex : Ex R' H F' R2 H2 (F2 ++ Gy)) (s2 : Sr (c0 c) R2 H2 e2 σ' F2) (ry : Rp c.K R2 H2 t y Gy) (nd : (F2 ++ Gy).Nodup) (rf : ∀ a ∈ Gy, R2 a = none) (hD1 : H1 D = none) :
    H2 D = some (.lst acc) ∧ LcJ c R1 H1 F1 D σ' R2 (upd H2 D (.lst (acc ++ [y]))) e2 F2 (acc ++ [y]) (done ++ [t]) (G ++ Gy) := by
  obtain ⟨k1, k2, k3⟩ := frame (K := c.K) (ex := ex) S.nd S.rf S.dom
  have hD := k1 D (by simp) _ S.hD
  have nF : D ∉ F2 := fun z => k3 D (List.mem_append_left _ z) (by simp)
  have nY : D ∉ Gy := fun z => k3 D (List.mem_append_right _ z) (by simp)
  have nn := (List.nodup_append.mp S.nd).2.1
  have nG : D ∉ G := (List.nodup_cons.mp nn).1
  have ndd := List.nodup_append.mp nd
  have rl2 := rpl_up ex.rr _ _ _ (fun a ha => k1 a (by simp [ha])) S.rl
  refine ⟨hD, sr_updo s2 nF (k2 D (by simp)), upd_same, rpl_snoc (rp_up (RR.Le.refl _) _ _ _ (fun a ha o h => by rw [upd_ne (fun z => nY (by rw [← z]; exact ha))]; exact h) ry) (rpl_up (RR.Le.refl _) _ _ _ (fun a ha o h => by rw [upd_ne (fun z => nG (by rw [← z]; exact ha))]; exact h) rl2), ?_, ?_, ?_⟩
  · refine List.nodup_append.mpr ⟨ndd.1, List.nodup_cons.mpr ⟨fun z => (List.mem_append.mp z).elim nG nY, List.nodup_append.mpr ⟨(List.nodup_cons.mp nn).2, ndd.2.1, fun x hx y hy z => by subst z; exact k3 x (List.mem_append_right _ hy) (by simp [hx])⟩⟩, fun x hx y hy z => ?_⟩
    subst z
    rcases List.mem_cons.mp hy with rfl | hy
    · exact nF hx
    · rcases List.mem_append.mp hy with hy | hy
      · exact k3 x (List.mem_append_left _ hx) (by simp [hy])
      · exact ndd.2.2 x hx x hy rfl
  · intro x hx
    rcases List.mem_cons.mp hx with rfl | hx
    · exact k2 x (by simp)
    · exact (List.mem_append.mp hx).elim (fun z => k2 x (by simp [z])) (rf x)
  · have x1 := S.ex.beside ex
    refine ⟨x1.rr, fun a o h hF => ?_, x1.rn, fun a ha => x1.fn a ?_⟩
    · rw [upd_ne (fun z => by rw [z, hD1] at h; cases h)]
      exact x1.hh a o h hF
    · rcases List.mem_append.mp ha with ha | ha
      · simp [ha]
      · rcases List.mem_cons.mp ha with rfl | ha
        · simp
        · rcases List.mem_append.mp ha with ha | ha <;> simp [ha]
end
theorem dLcJ_ok {c : Ctx} {vs : List Nat} {dj : Env → RJ} {g : TG} {tg : T → Env → Option Env} {tt : Env → RV} {el : Env → Res} {ttt : TT} (htg : TgOk (c0 c) vs g tg) (htt : ∀ σ H Q, tT (c0 c) tt σ H Q → ttt σ H Q) {σ : L2.St} {H : Hp} {Q : VK} (hh : tD c (dLcJ dj vs tg tt el) σ H Q) : tLc (tJ c dj) g ttt (tD (c0 c) el) vs σ H Q := by
  obtain ⟨e, R, F, s, p⟩ := hh
  refine ⟨e, R, F, s, ?_⟩
  unfold dLcJ at p
  cases h1 : dj e with
  | no => simp only [h1] at p; exact p
  | er C fs e1 => simp only [h1] at p; exact p
  | ok src e1 w =>
    simp only [h1] at p
    intro R1 H1 F1 J s1 ok ex _ D hD
    cases h2 : lcS src vs tg tt el SZ 0 (wipeE e1 vs) false with
    | no => simp only [h2] at p; exact p.elim
    | er C fs e3 => simp only [h2] at p; exact p.elim
    | ok ys eE wE =>
      rw [h2] at p
      by_cases hl : ys.length < SZ
      rotate_left
      · have p' : PostE c σ R H F Q (if ys.length < SZ then .ok (.t (.l ys)) eE true else .no) := p
        rw [if_neg hl] at p'; exact p'.elim
      have p' : PostE c σ R H F Q (if ys.length < SZ then .ok (.t (.l ys)) eE true else .no) := p
      rw [if_pos hl] at p'
      -- the source, at the slots of the block
      have nD : D ∉ F1 := fun z => rpe_dom s1.sl D z hD
      have rD : R1 D = none := s1.rh.free hD
      have S0 : LcJ c R1 H1 F1 D σ R1 (upd H1 D (.lst [])) e1 F1 [] [] [] := by
        have s2 : Sr (c0 c) R1 H1 e1 σ F1 := ⟨s1.sl, s1.nd, s1.rh, s1.rf, fun i v z => by simp [c0] at z, trivial, s1.ct⟩
        refine ⟨sr_updo s2 nD rD, upd_same, ⟨rfl, rfl⟩, List.nodup_append.mpr ⟨s1.nd, by simp, fun a ha b hb z => by simp at hb; subst hb; subst z; exact nD ha⟩, fun x hx => by simp at hx; subst hx; exact rD, RR.Le.refl _, fun a o h _ => by rw [upd_ne (fun z => by rw [z, hD] at h; cases h)]; exact h, fun a h => .inl h, fun a ha => ?_⟩
        rcases List.mem_append.mp ha with ha | ha
        · exact .inl ha
        · simp at ha; subst ha; exact .inr hD
      obtain ⟨F2, S1⟩ := S0.wipe vs
      have okw : SrcOk c.K R1 H1 (wipe σ vs) J src ∨ ∃ i q en, src = .pl (.s i) q en ∧ i ∈ vs := by
        cases src with
        | fx ts => exact .inl ok
        | pl i q en =>
          cases i with
          | c n => exact .inl ok
          | s i =>
            by_cases hi : i ∈ vs
            · exact .inr ⟨i, q, en, rfl, hi⟩
            · refine .inl ?_
              obtain ⟨u, a, hu, h3, h4⟩ := ok
              refine ⟨u, a, ?_, h3, h4⟩
              show ((wipe σ vs)[i]?).join = some u
              rw [wipe_get, if_neg hi]
              exact hu
      refine ⟨fun k m H => ∃ (R' : RR) (e0 : Env) (F' : List Addr) (acc : List V) (done : List T) (G : List Addr) (w : Bool) (rest : List T), LcJ c R1 H1 F1 D (wipe σ vs) R' H (wipeE e0 vs) F' acc done G ∧ (w = false → Same H1 H) ∧ srcLe src k ∧ lcS src vs tg tt el m k (wipeE e0 vs) w = .ok rest eE wE ∧ ys = done ++ rest, ⟨SZ, R1, e1, F2, [], [], [], false, ys, S1, fun _ => same_new hD, by cases src <;> first | exact Nat.zero_le _ | exact trivial, h2, rfl⟩, ?_⟩
      rintro k m H2 ⟨R', e0, F', acc, done, G, w', rest, S, sm, sl, hr, hys⟩
      cases m with
      | zero => cases hr
      | succ m =>
        unfold lcS at hr
        cases h3 : srcAt src k (wipeE e0 vs) w' with
        | none => simp only [h3] at hr; cases hr
        | some o =>
          have okw' : SrcOk c.K R1 H1 (wipe σ vs) J src := by
            rcases okw with z | ⟨i, q, en, rfl, hi⟩
            · exact z
            · exfalso
              have : getE (wipeE e0 vs) (.s i) q = none := by
                show (match ((wipeS e0.s vs)[i]?).join with | some t => getT t q | none => none) = none
                rw [wipeS_get, if_pos hi]
                cases e0.s[i]? <;> rfl
              unfold srcAt at h3
              simp only [this] at h3
              split at h3 <;> cases h3
          obtain ⟨t1, t2⟩ := src_turn (c := c0 c) okw' sl S.sr S.ex.rr sm h3
          cases o with
          | none =>
            simp only [h3] at hr
            cases hr
            refine .inl ⟨t1 rfl, ?_⟩
            rw [List.append_nil] at hys
            subst hys
            obtain ⟨A1, A2, pm, h4, h5⟩ := S.sr.sl
            have h6 : RpS c.K R' H2 (wipeE e0 vs).s σ A1 := rps_move h4 (wipe_length σ vs).symm fun i t z => by
              have : i ∉ vs := fun hi => by
                have z' : (wipeS e0.s vs)[i]? = some (some t) := z
                rw [wipeS_get, if_pos hi] at z'
                cases q : e0.s[i]? <;> rw [q] at z' <;> cases z'
              rw [wipe_get, if_neg this]
            have s3 : Sr c R' H2 (wipeE e0 vs) σ F' := ⟨⟨A1, A2, pm, h6, h5⟩, S.sr.nd, S.sr.rh, S.sr.rf, s1.pn, c.fxm _ _ S.ex.rr.s s1.fx, S.sr.ct⟩
            exact p' R' H2 F' (D :: G) _ s3 ⟨D, acc, G, rfl, .refl _, S.hD, S.rl⟩ S.nd S.rf (ex.trans S.ex) (fun z => by cases z)
          | some x =>
            simp only [h3] at hr
            obtain ⟨go, sl2, yl⟩ := t2 x rfl
            refine .inr ⟨go, fun H => ∃ (R' : RR) (e0 : Env) (F' : List Addr) (acc : List V) (done : List T) (G : List Addr) (w : Bool) (rest : List T), LcJ c R1 H1 F1 D (wipe σ vs) R' H (wipeE e0 vs) F' acc done G ∧ (w = false → Same H1 H) ∧ srcLe src (k + 1) ∧ lcS src vs tg tt el m (k + 1) (wipeE e0 vs) w = .ok rest eE wE ∧ ys = done ++ rest, fun H' q => ⟨m, Nat.lt_succ_self _, q⟩, fun v H3 y => ?_⟩
            obtain ⟨R3, gr, dp⟩ := yl v H3 y
            have S3 := S.go gr.ex (gr.sr S.sr)
            cases h4 : tg x (wipeE e0 vs) with
            | none => simp only [h4] at hr; cases hr
            | some e2 =>
              simp only [h4] at hr
              refine htg R3 H3 _ _ F' v x e2 _ S3.sr dp h4 fun σ3 F3 s3 f3 t3 => ⟨wipe_of t3, htt _ _ _ ⟨e2, R3, F3, s3, ?_⟩⟩
              have S4 := S3.sub s3 f3
              cases h5 : tt e2 with
              | no => simp only [h5] at hr; cases hr
              | er C fs e3 => simp only [h5] at hr; cases hr
              | ok tb bb e3 w3 =>
                intro R4 H4 F4 u4 s4 sd4 ex4 hw4
                cases tb with
                | bool bv =>
                  refine ⟨bv, sd_bool sd4, ?_⟩
                  have S5 := S4.go ex4 s4
                  cases bv with
                  | false =>
                    simp only [h5] at hr
                    obtain ⟨F5, S6⟩ := S5.wipe vs
                    rw [wipe_of t3] at S6
                    exact iteF ⟨R4, e3, F5, acc, done, G, _, rest, S6, fun z => (sm (or_ff z).1).trans (gr.hh.trans (hw4 (or_ff z).2).hh), sl2, hr, hys⟩
                  | true =>
                    simp only [h5] at hr
                    refine iteT ⟨e3, R4, F4, s4, ?_⟩
                    cases h6 : el e3 with
                    | no => simp only [h6] at hr; cases hr
                    | er C fs e4 => simp only [h6] at hr; cases hr
                    | ok ry e4 w5 =>
                      intro R5 H5 F5 Gy u5 s5 rw5 nd5 rf5 ex5 hw5
                      cases h7 : tOf ry with
                      | none => simp only [h6, h7] at hr; cases hr
                      | some t =>
                        simp only [h6, h7] at hr
                        obtain ⟨hD5, S6⟩ := S5.app ex5 s5 (tOf_ok rw5 h7) nd5 rf5 hD
                        obtain ⟨F6, S7⟩ := S6.wipe vs
                        rw [wipe_of t3] at S7
                        cases h8 : lcS src vs tg tt el m (k + 1) (wipeE e4 vs) (w' || (w3 || w5)) with
                        | no => rw [h8] at hr; cases hr
                        | er C fs e5 => rw [h8] at hr; cases hr
                        | ok rest2 e5 w6 =>
                          rw [h8] at hr
                          cases hr
                          have la := rpl_len S6.rl
                          have ll : acc.length < sizeLine := by
                            have l1 : ys.length = (done ++ t :: rest2).length := by rw [hys]
                            simp at la l1
                            rw [← sz_eq]
                            omega
                          refine ⟨acc, hD5, ll, R5, e4, F6, _, _, _, _, rest2, S7, fun z => ?_, sl2, h8, by rw [hys, List.append_assoc]; rfl⟩
                          have z1 := or_ff z
                          have z2 := or_ff z1.2
                          have sm5 := (sm z1.1).trans (gr.hh.trans ((hw4 z2.1).hh.trans (hw5 z2.2).1.hh))
                          exact fun a o h => by rw [upd_ne (fun q => by rw [q, hD] at h; cases h)]; exact sm5 a o h
                | _ => simp only [h5] at hr; cases hr
/-- a list comprehension -/
theorem de_lcJ {X : Cx} {c : Ctx} {elt tgt iter : Expr} {ifs : List Expr} {scope : Scope} {own : List (Str × Nat)} {pos : Pos} {dj : Env → RJ} {g : TG} {tg : T → Env → Option Env} {tt : Env → RV} {el : Env → Res} {ttt : TT} (hc : X.calm = true) (hN : X.N.Nodup) (hi : PI X tgt iter (tJ c dj)) (ok : BlkOk X.N X.env.scope scope own)
    (hg : ∀ (s : Shared) (H : Hp) (C : Addr) (cl : List (Str × Addr)) (fp : List Addr), PG (X.blk s H scope (compEnvC scope cl C X.env) fp) tgt g) (htg : TgOk (c0 c) (own.map (·.2)) g tg)
    (ht : ∀ (s : Shared) (H : Hp) (C : Addr) (cl : List (Str × Addr)) (fp : List Addr), PTs (X.blk s H scope (compEnvC scope cl C X.env) fp) ifs ttt) (htt : ∀ σ H Q, tT (c0 c) tt σ H Q → ttt σ H Q)
    (he : ∀ (s : Shared) (H : Hp) (C : Addr) (cl : List (Str × Addr)) (fp : List Addr), PE (X.blk s H scope (compEnvC scope cl C X.env) fp) elt (tD (c0 c) el)) (hs : ∀ x, foldedSetIterable iter X.env x = pure x := by intro _; rfl) :
    PE X (.ListComp elt [⟨tgt, iter, ifs, 0⟩] scope pos) (tD c (dLcJ dj (own.map (·.2)) tg tt el)) := PE.imp (pe_lc hc hN hi ok hg ht he hs) fun σ H Q h => dLcJ_ok htg htt h
section
variable {X : Cx} {c : Ctx} {elt tgt iter : Expr} {ifs : List Expr} {scope : Scope} {own : List (Str × Nat)} {pos py spos : Pos} {dj : Env → RJ} {g : TG} {tg : T → Env → Option Env} {tt : Env → RV} {el : Env → Res} {ttt : TT} {i : Nat} {y : Str}
/-- name = [ .. ] -/
theorem se_setLcJ (hc : X.calm = true) (hN : X.N.Nodup) (hy : X.N[i]? = some y) (hyl : X.env.scope.names.lookup y = some .local) (hsw : swapsWith (.ListComp elt [⟨tgt, iter, ifs, 0⟩] scope pos) (some (.Name y py)) spos.line X.env = pure true) (hp : NoPin c.pn i) (hi : PI X tgt iter (tJ c dj)) (ok : BlkOk X.N X.env.scope scope own)
    (hg : ∀ (s : Shared) (H : Hp) (C : Addr) (cl : List (Str × Addr)) (fp : List Addr), PG (X.blk s H scope (compEnvC scope cl C X.env) fp) tgt g) (htg : TgOk (c0 c) (own.map (·.2)) g tg)
    (ht : ∀ (s : Shared) (H : Hp) (C : Addr) (cl : List (Str × Addr)) (fp : List Addr), PTs (X.blk s H scope (compEnvC scope cl C X.env) fp) ifs ttt) (htt : ∀ σ H Q, tT (c0 c) tt σ H Q → ttt σ H Q)
    (he : ∀ (s : Shared) (H : Hp) (C : Addr) (cl : List (Str × Addr)) (fp : List Addr), PE (X.blk s H scope (compEnvC scope cl C X.env) fp) elt (tD (c0 c) el)) (hs : ∀ x, foldedSetIterable iter X.env x = pure x := by intro _; rfl) :
    PS X (.Assign [.Name y py] (.ListComp elt [⟨tgt, iter, ifs, 0⟩] scope pos) spos) (tS c (sSet i (dLcJ dj (own.map (·.2)) tg tt el))) :=
  PS.imp (ps_setLc hc hN hy hyl hsw hi ok hg ht he hs) fun D σ H h => dLcJ_ok htg htt (sSet_ok hp h)
end
end En
namespace En
open PySem PySem.Spec PyProof.Rows L2
/-! ## reading what is new -/
def calM (e2 : Env) : FO → Res
  | .rt r m => .ok (wOf r) ⟨e2.s, m⟩ true
  | .er C fs m => .er C fs ⟨e2.s, m⟩
  | .no => .no
def metD (fn : List T → List T → FO) (n : Nat) (e2 : Env) : Option (List T) → Res
  | some us => calM e2 (fn (.r n :: us) e2.m)
  | none => .no
def metC (fn : List T → List T → FO) (n : Nat) : RD → Res
  | .ok ts e2 _ => metD fn n e2 (frzA ts)
  | .er C fs e2 => .er C fs e2
  | .no => .no
def metB (fn : List T → List T → FO) (Ci : Nat) (ds : List (Env → Res)) (n : Nat) (e1 : Env) : Option T → Res
  | some (.o C' _) => if C' = Ci then metC fn n (dArgs ds e1) else .no
  | _ => .no
def metA (fn : List T → List T → FO) (Ci : Nat) (ds : List (Env → Res)) : Res → Res
  | .ok (.t (.r n)) e1 _ => metB fn Ci ds n e1 e1.m[n]?
  | .ok _ _ _ => .no
  | .er C fs e1 => .er C fs e1
  | .no => .no
def makC (e1 : Env) : FO → Res
  | .rt (.d .none) m => .ok (.t (.r e1.m.length)) ⟨e1.s, m⟩ true
  | .rt _ _ => .no
  | .er C fs m => .er C fs ⟨e1.s, m⟩
  | .no => .no
def makB (fn : List T → List T → FO) (Ci : Nat) (e1 : Env) : Option (List T) → Res
  | some us => makC e1 (fn (.r e1.m.length :: us) (e1.m ++ [.o Ci []]))
  | none => .no
def makA (fn : List T → List T → FO) (Ci : Nat) : RD → Res
  | .ok ts e1 _ => makB fn Ci e1 (frzA ts)
  | .er C fs e1 => .er C fs e1
  | .no => .no
def prpC (e1 : Env) : FO → Res
  | .rt r m => .ok (wOf r) ⟨e1.s, m⟩ true
  | _ => .no
def prpB (fn : List T → List T → FO) (Ci n : Nat) (e1 : Env) : Option T → Res
  | some (.o C' _) => if C' = Ci then prpC e1 (fn [.r n] e1.m) else .no
  | _ => .no
def prpA (fn : List T → List T → FO) (Ci : Nat) : Res → Res
  | .ok (.t (.r n)) e1 _ => prpB fn Ci n e1 e1.m[n]?
  | .ok _ _ _ => .no
  | .er C fs e1 => .er C fs e1
  | .no => .no
def boxA : Res → Res
  | .ok (.t t) e1 _ => if isBx t = true then .ok (.t (.r e1.m.length)) ⟨e1.s, e1.m ++ [t]⟩ true else .no
  | .ok _ _ _ => .no
  | .er C fs e1 => .er C fs e1
  | .no => .no
def fpD (e2 : Env) (i : Rt) (q : List Stp) (Ci : Nat) : Option (List T) → Out
  | some ts' => .nx (setE e2 i q (.o Ci ts'))
  | none => .no
def fpC (e2 : Env) (i : Rt) (q : List Stp) (Ci j : Nat) (t : T) : Option T → Out
  | some (.o C' ts) => if C' = Ci then fpD e2 i q Ci (putO ts j t) else .no
  | _ => .no
def fpB (e2 : Env) (Ci j : Nat) (t : T) : Option (Rt × List Stp) → Out
  | some (i, q) => fpC e2 i q Ci j t (getE e2 i q)
  | none => .no
def fpA2 (Ci j : Nat) (t : T) : Res → Out
  | .ok r2 e2 _ => fpB e2 Ci j t (plc r2)
  | .er C fs e2 => .er C fs e2
  | .no => .no
def fpA1 (d : Env → Res) (Ci j : Nat) (e1 : Env) : Option T → Out
  | some t => fpA2 Ci j t (d e1)
  | none => .no
def fpA (d : Env → Res) (Ci j : Nat) : Res → Out
  | .ok r e1 _ => fpA1 d Ci j e1 (tOf r)
  | .er C fs e1 => .er C fs e1
  | .no => .no
def faE (e2 : Env) (i : Rt) (q : List Stp) (Ci j : Nat) (z : Int) : Option T → Out
  | some (.o C2 ts2) => if C2 = Ci ∧ j < ts2.length then .nx (setE e2 i q (.o Ci (ts2.set j (.d (.int z))))) else .no
  | _ => .no
def faD (i : Rt) (q : List Stp) (Ci j : Nat) (f : Int → Int → Int) (x : Int) : RV → Out
  | .ok (.int y) _ e2 w2 => if stb w2 q = true then faE e2 i q Ci j (f x y) (getE e2 i q) else .no
  | .er C fs e2 => .er C fs e2
  | _ => .no
def faC (e1 : Env) (i : Rt) (q : List Stp) (Ci j : Nat) (f : Int → Int → Int) (dv : Env → RV) : Option T → Out
  | some (.d (.int x)) => faD i q Ci j f x (dv e1)
  | _ => .no
def faB2 (e1 : Env) (i : Rt) (q : List Stp) (Ci j : Nat) (f : Int → Int → Int) (dv : Env → RV) : Option T → Out
  | some (.o C' ts) => if C' = Ci then faC e1 i q Ci j f dv ts[j]? else .no
  | _ => .no
def faB (e1 : Env) (Ci j : Nat) (f : Int → Int → Int) (dv : Env → RV) : Option (Rt × List Stp) → Out
  | some (i, q) => faB2 e1 i q Ci j f dv (getE e1 i q)
  | none => .no
def faA (Ci j : Nat) (f : Int → Int → Int) (dv : Env → RV) : Res → Out
  | .ok r e1 _ => faB e1 Ci j f dv (plc r)
  | .er C fs e1 => .er C fs e1
  | .no => .no
def nnB (neg : Bool) (e1 : Env) (w : Bool) : Option Bool → RV
  | some b => .ok (.bool (neg ^^ b)) false e1 w
  | none => .no
def nnA (neg : Bool) : Res → RV
  | .ok r e1 w => nnB neg e1 w (noneW r)
  | .er C fs e1 => .er C fs e1
  | .no => .no
def truB (e1 : Env) (w : Bool) : Option Bool → RV
  | some b => .ok (.bool b) false e1 w
  | none => .no
def truA : Res → RV
  | .ok r e1 w => truB e1 w (truW e1 r)
  | .er C fs e1 => .er C fs e1
  | .no => .no
def movB (e1 : Env) (i : Rt) (q : List Stp) : Option T → Res
  | some t => .ok (.t t) (setE e1 i q .z) true
  | none => .no
def movA : Res → Res
  | .ok (.p i q) e1 _ => movB e1 i q (getE e1 i q)
  | r => r
def difA : RV → (Env → Res) → (Env → Res) → Res
  | .ok (.bool y) _ e1 w, d1, d2 => if y = true then orE w (d1 e1) else orE w (d2 e1)
  | .ok _ _ _ _, _, _ => .no
  | .er C fs e1, _, _ => .er C fs e1
  | .no, _, _ => .no
def iTp (e1 : Env) (w : Bool) (i : Rt) (q : List Stp) (en : Bool) : Option T → RJ
  | some (.l _) => .ok (.pl i q en) e1 w
  | _ => .no
def iTA : Res → RJ
  | .ok (.v (.list xs)) e1 w => .ok (.fx (xs.map T.d)) e1 w
  | .ok (.v (.tuple xs)) e1 w => .ok (.fx (xs.map T.d)) e1 w
  | .ok (.t (.l ts)) e1 w => if cpL ts = true then .ok (.fx ts) e1 w else .no
  | .ok (.t (.t ts)) e1 w => if cpL ts = true then .ok (.fx ts) e1 w else .no
  | .ok (.t (.r n)) e1 w => iTp e1 w (.c n) [] false (getE e1 (.c n) [])
  | .ok (.p i q) e1 w => iTp e1 w i q false (getE e1 i q)
  | .ok _ _ _ => .no
  | .er C fs e1 => .er C fs e1
  | .no => .no
def iEnA : Res → RJ
  | .ok (.v (.list xs)) e1 w => .ok (.fx (enumT 0 (xs.map T.d))) e1 w
  | .ok (.t (.l ts)) e1 w => if cpL ts = true then .ok (.fx (enumT 0 ts)) e1 w else .no
  | .ok (.t (.r n)) e1 w => iTp e1 w (.c n) [] true (getE e1 (.c n) [])
  | .ok (.p i q) e1 w => iTp e1 w i q true (getE e1 i q)
  | .ok _ _ _ => .no
  | .er C fs e1 => .er C fs e1
  | .no => .no
def forJA (bd : T → Env → Out) : RJ → Out
  | .ok src e1 _ => forW bd e1 src
  | .er C fs e1 => .er C fs e1
  | .no => .no
def lcJA (vs : List Nat) (tg : T → Env → Option Env) (tt : Env → RV) (el : Env → Res) : RJ → Res
  | .ok src e1 _ => lcE (lcS src vs tg tt el SZ 0 (wipeE e1 vs) false)
  | .er C fs e1 => .er C fs e1
  | .no => .no
section
variable {t : Env → RV} {d d1 d2 : Env → Res} {dv : Env → RV} {ds : List (Env → Res)} {e : Env} {fn : List T → List T → FO} {Ci j : Nat} {b : Env → Out} {dj : Env → RJ}
theorem x_meth : dMeth fn Ci d ds e = metA fn Ci ds (d e) := by
  unfold dMeth
  cases d e with
  | ok r e1 w =>
    cases r with
    | t t =>
      cases t with
      | r n =>
        simp only [metA]
        cases e1.m[n]? with
        | none => rfl
        | some t0 => cases t0 with
          | o C' ts =>
            simp only [metB]
            by_cases hC : C' = Ci
            · rw [if_pos hC, if_pos hC]
              cases dArgs ds e1 with
              | ok ts e2 w2 =>
                simp only [metC]
                cases frzA ts with
                | none => rfl
                | some us => simp only [metD]; cases fn (.r n :: us) e2.m <;> rfl
              | _ => rfl
            · rw [if_neg hC, if_neg hC]
          | _ => rfl
      | _ => rfl
    | _ => rfl
  | _ => rfl
theorem x_make : dMake fn Ci ds e = makA fn Ci (dArgs ds e) := by
  unfold dMake
  cases dArgs ds e with
  | ok ts e1 w =>
    simp only [makA]
    cases frzA ts with
    | none => rfl
    | some us =>
      simp only [makB]
      cases fn (.r e1.m.length :: us) (e1.m ++ [.o Ci []]) with
      | rt r m => cases r with
        | d x => cases x <;> rfl
        | _ => rfl
      | _ => rfl
  | _ => rfl
theorem x_prop : dProp fn Ci d e = prpA fn Ci (d e) := by
  unfold dProp
  cases d e with
  | ok r e1 w =>
    cases r with
    | t t =>
      cases t with
      | r n =>
        simp only [prpA]
        cases e1.m[n]? with
        | none => rfl
        | some t0 => cases t0 with
          | o C' ts =>
            simp only [prpB]
            by_cases hC : C' = Ci
            · rw [if_pos hC, if_pos hC]; cases fn [.r n] e1.m <;> rfl
            · rw [if_neg hC, if_neg hC]
          | _ => rfl
      | _ => rfl
    | _ => rfl
  | _ => rfl
theorem x_box : dBox d e = boxA (d e) := nr rfl
theorem x_fldP : sFldP d Ci j d1 e = fpA d Ci j (d1 e) := by
  unfold sFldP
  cases d1 e with
  | er C fs e1 => rfl
  | no => rfl
  | ok r e1 w =>
    simp only [fpA]
    cases tOf r with
    | none => rfl
    | some t =>
      simp only [fpA1]
      cases d e1 with
      | er C fs e1 => rfl
      | no => rfl
      | ok r2 e2 w2 =>
        simp only [fpA2]
        cases plc r2 with
        | none => rfl
        | some iq =>
          obtain ⟨i, q⟩ := iq
          simp only [fpB]
          cases getE e2 i q with
          | none => rfl
          | some t0 => cases t0 with
            | o C' ts =>
              simp only [fpC]
              by_cases hC : C' = Ci
              · rw [if_pos hC, if_pos hC]; cases putO ts j t <;> rfl
              · rw [if_neg hC, if_neg hC]
            | _ => rfl
theorem x_fldA {f : Int → Int → Int} : sFldA Ci j f d dv e = faA Ci j f dv (d e) := by
  unfold sFldA
  cases d e with
  | er C fs e1 => rfl
  | no => rfl
  | ok r e1 w =>
    simp only [faA]
    cases plc r with
    | none => rfl
    | some iq =>
      obtain ⟨i, q⟩ := iq
      simp only [faB]
      cases getE e1 i q with
      | none => rfl
      | some t0 => cases t0 with
        | o C' ts =>
          simp only [faB2]
          by_cases hC : C' = Ci
          · rw [if_pos hC, if_pos hC]
            cases ts[j]? with
            | none => rfl
            | some t => cases t with
              | d x => cases x with
                | int x =>
                  simp only [faC]
                  cases dv e1 with
                  | er C fs e1 => rfl
                  | no => rfl
                  | ok y bb e2 w2 => cases y with
                    | int y =>
                      simp only [faD]
                      by_cases hs : stb w2 q = true
                      · rw [if_pos hs, if_pos hs]
                        cases getE e2 i q with
                        | none => rfl
                        | some t2 => cases t2 <;> rfl
                      · rw [if_neg hs, if_neg hs]
                    | _ => rfl
                | _ => rfl
              | _ => rfl
          · rw [if_neg hC, if_neg hC]
        | _ => rfl
theorem x_isN {neg : Bool} : vIsNT neg d e = nnA neg (d e) := by
  unfold vIsNT
  cases d e with
  | ok r e1 w => simp only [nnA]; cases noneW r <;> rfl
  | _ => rfl
theorem x_tru : vTru d e = truA (d e) := by
  unfold vTru
  cases d e with
  | ok r e1 w => simp only [truA]; cases truW e1 r <;> rfl
  | _ => rfl
theorem x_mov : dMov d e = movA (d e) := by
  unfold dMov
  cases d e with
  | ok r e1 w => cases r with
    | p i q => simp only [movA]; cases getE e1 i q <;> rfl
    | _ => rfl
  | _ => rfl
theorem x_dif : dIf t d1 d2 e = difA (t e) d1 d2 := by
  unfold dIf
  cases t e with
  | ok x bb e1 w => cases x with
    | bool y => cases y <;> rfl
    | _ => rfl
  | _ => rfl
theorem x_iT : iT d e = iTA (d e) := by
  unfold iT
  cases d e with
  | ok r e1 w => cases r with
    | t t => cases t with
      | r n => simp only [iTA]; cases getE e1 (.c n) [] with
        | none => rfl
        | some t0 => cases t0 <;> rfl
      | _ => rfl
    | p i q => simp only [iTA]; cases getE e1 i q with
      | none => rfl
      | some t0 => cases t0 <;> rfl
    | v x => cases x <;> rfl
    | b xs => rfl
  | _ => rfl
theorem x_iEn : iEnT d e = iEnA (d e) := by
  unfold iEnT
  cases d e with
  | ok r e1 w => cases r with
    | t t => cases t with
      | r n => simp only [iEnA]; cases getE e1 (.c n) [] with
        | none => rfl
        | some t0 => cases t0 <;> rfl
      | _ => rfl
    | p i q => simp only [iEnA]; cases getE e1 i q with
      | none => rfl
      | some t0 => cases t0 <;> rfl
    | v x => cases x <;> rfl
    | b xs => rfl
  | _ => rfl
theorem x_lcJ {vs : List Nat} {tg : T → Env → Option Env} : dLcJ dj vs tg t d e = lcJA vs tg t d (dj e) := by
  unfold dLcJ
  cases dj e <;> rfl
end
theorem x_forJ {dj : Env → RJ} {tg : T → Env → Option Env} {b : Env → Out} {e : Env} : sForJ dj tg b e = forJA (bdy tg b) (dj e) := by
  unfold sForJ
  cases dj e <;> rfl
end En
namespace En
open PySem PySem.Spec PyProof.Rows L2
/-- a def of a class, that others call -/
structure CalM (P : Program) (w : World) (K : PySem.W.Frag) (mg : Str → Option Value) (base : Heap) (CX : CXT) (k : Nat) (f : Addr) (fd : FuncData) (ps : List Str) (sp : Sp) : Prop where
  ok : FnOk P w K mg base CX k f fd ps sp
  b : Binds K fd ps []
theorem dBox_ok {c : Ctx} {d : Env → Res} {σ : L2.St} {H : Hp} {Q : VK} (h : tD c (dBox d) σ H Q) : tD c d σ H Q := by
  obtain ⟨e, R, F, s, p⟩ := h
  refine ⟨e, R, F, s, ?_⟩
  unfold dBox at p
  cases h1 : d e with
  | no => simp only [h1] at p; exact p
  | er C fs e1 => simp only [h1] at p; exact p
  | ok r e1 w =>
    intro R1 H1 F1 G v s1 rw1 nd rf ex hw
    cases r with
    | t t =>
      simp only [h1] at p
      by_cases b : isBx t = true
      · rw [if_pos b] at p
        obtain ⟨q, rfl⟩ := isBx_ref rw1 b
        obtain ⟨s2, le, hn⟩ := sr_box s1 rw1 nd rf
        exact p _ H1 (F1 ++ G) [] _ s2 ⟨rfl, q, hn, rfl⟩ (by simpa using s2.nd) (by simp) (by simpa using Ex.box (p := q) ex) (fun z => by cases z)
      · rw [if_neg b] at p; exact p.elim
    | _ => simp only [h1] at p; exact p.elim
section
variable {X : Cx} {c : Ctx} {elt tgt iter : Expr} {ifs : List Expr} {scope : Scope} {own : List (Str × Nat)} {pos py spos : Pos} {dj : Env → RJ} {di : Env → RI} {g : TG} {tg : T → Env → Option Env} {tt : Env → RV} {el : Env → Res} {ev : Env → RV} {ttt : TT} {i : Nat} {y : Str}
theorem se_setLcJV (hc : X.calm = true) (hN : X.N.Nodup) (hy : X.N[i]? = some y) (hyl : X.env.scope.names.lookup y = some .local) (hsw : swapsWith (.ListComp elt [⟨tgt, iter, ifs, 0⟩] scope pos) (some (.Name y py)) spos.line X.env = pure true) (hp : NoPin c.pn i) (hi : PI X tgt iter (tJ c dj)) (ok : BlkOk X.N X.env.scope scope own)
    (hg : ∀ (s : Shared) (H : Hp) (C : Addr) (cl : List (Str × Addr)) (fp : List Addr), PG (X.blk s H scope (compEnvC scope cl C X.env) fp) tgt g) (htg : TgOk (c0 c) (own.map (·.2)) g tg)
    (ht : ∀ (s : Shared) (H : Hp) (C : Addr) (cl : List (Str × Addr)) (fp : List Addr), PTs (X.blk s H scope (compEnvC scope cl C X.env) fp) ifs ttt) (htt : ∀ σ H Q, tT (c0 c) tt σ H Q → ttt σ H Q)
    (he : ∀ (s : Shared) (H : Hp) (C : Addr) (cl : List (Str × Addr)) (fp : List Addr), PE (X.blk s H scope (compEnvC scope cl C X.env) fp) elt (tD (c0 c) el)) (hs : ∀ x, foldedSetIterable iter X.env x = pure x := by intro _; rfl) :
    PS X (.Assign [.Name y py] (.ListComp elt [⟨tgt, iter, ifs, 0⟩] scope pos) spos) (tS c (sSetV i (vD (dLcJ dj (own.map (·.2)) tg tt el)))) :=
  PS.imp (ps_setLc hc hN hy hyl hsw hi ok hg ht he hs) fun D σ H h => dLcJ_ok htg htt (sSetV_D hp h)
theorem se_setLcJB (hc : X.calm = true) (hN : X.N.Nodup) (hy : X.N[i]? = some y) (hyl : X.env.scope.names.lookup y = some .local) (hsw : swapsWith (.ListComp elt [⟨tgt, iter, ifs, 0⟩] scope pos) (some (.Name y py)) spos.line X.env = pure true) (hp : NoPin c.pn i) (hi : PI X tgt iter (tJ c dj)) (ok : BlkOk X.N X.env.scope scope own)
    (hg : ∀ (s : Shared) (H : Hp) (C : Addr) (cl : List (Str × Addr)) (fp : List Addr), PG (X.blk s H scope (compEnvC scope cl C X.env) fp) tgt g) (htg : TgOk (c0 c) (own.map (·.2)) g tg)
    (ht : ∀ (s : Shared) (H : Hp) (C : Addr) (cl : List (Str × Addr)) (fp : List Addr), PTs (X.blk s H scope (compEnvC scope cl C X.env) fp) ifs ttt) (htt : ∀ σ H Q, tT (c0 c) tt σ H Q → ttt σ H Q)
    (he : ∀ (s : Shared) (H : Hp) (C : Addr) (cl : List (Str × Addr)) (fp : List Addr), PE (X.blk s H scope (compEnvC scope cl C X.env) fp) elt (tD (c0 c) el)) (hs : ∀ x, foldedSetIterable iter X.env x = pure x := by intro _; rfl) :
    PS X (.Assign [.Name y py] (.ListComp elt [⟨tgt, iter, ifs, 0⟩] scope pos) spos) (tS c (sSet i (dBox (dLcJ dj (own.map (·.2)) tg tt el)))) :=
  PS.imp (ps_setLc hc hN hy hyl hsw hi ok hg ht he hs) fun D σ H h => dLcJ_ok htg htt (dBox_ok (sSet_ok hp h))
theorem se_setLcB (hc : X.calm = true) (hN : X.N.Nodup) (hy : X.N[i]? = some y) (hyl : X.env.scope.names.lookup y = some .local) (hsw : swapsWith (.ListComp elt [⟨tgt, iter, ifs, 0⟩] scope pos) (some (.Name y py)) spos.line X.env = pure true) (hp : NoPin c.pn i) (hi : PI X tgt iter (tI c di)) (ok : BlkOk X.N X.env.scope scope own)
    (hg : ∀ (s : Shared) (H : Hp) (C : Addr) (cl : List (Str × Addr)) (fp : List Addr), PG (X.blk s H scope (compEnvC scope cl C X.env) fp) tgt g) (htg : TgOk (c0 c) (own.map (·.2)) g tg)
    (ht : ∀ (s : Shared) (H : Hp) (C : Addr) (cl : List (Str × Addr)) (fp : List Addr), PTs (X.blk s H scope (compEnvC scope cl C X.env) fp) ifs ttt) (htt : ∀ σ H Q, tT (c0 c) tt σ H Q → ttt σ H Q)
    (he : ∀ (s : Shared) (H : Hp) (C : Addr) (cl : List (Str × Addr)) (fp : List Addr), PE (X.blk s H scope (compEnvC scope cl C X.env) fp) elt (tV (c0 c) ev)) (hs : ∀ x, foldedSetIterable iter X.env x = pure x := by intro _; rfl) :
    PS X (.Assign [.Name y py] (.ListComp elt [⟨tgt, iter, ifs, 0⟩] scope pos) spos) (tS c (sSet i (dBox (dLc di (own.map (·.2)) tg tt ev)))) :=
  PS.imp (ps_setLc hc hN hy hyl hsw hi ok hg ht he hs) fun D σ H h => dLc_ok htg htt (dBox_ok (sSet_ok hp h))
end
/-! ## data walked as anything -/
def iOf (d : Env → RI) : Env → RJ := fun e => match d e with
  | .ok xs e1 w => .ok (.fx xs) e1 w
  | .er C fs e1 => .er C fs e1
  | .no => .no
theorem ie_of {X : Cx} {c : Ctx} {tg l : Expr} {d : Env → RI} (h : PI X tg l (tI c d)) : PI X tg l (tJ c (iOf d)) := PI.imp h fun σ H Q ⟨e, R, F, s, p⟩ => by
  refine ⟨e, R, F, s, ?_⟩
  unfold iOf at p
  cases h1 : d e with
  | no => simp only [h1] at p; exact p
  | er C fs e1 => simp only [h1] at p; exact p
  | ok xs e1 w => simp only [h1] at p; exact fun R' H' F' J s' wd ex hw => p R' H' F' J s' wd ex hw
/-! ## list(e) of what can be handed on -/
def dLsT (d : Env → Res) : Env → Res := fun e => match d e with
  | .ok (.t (.l ts)) e1 w => if cpL ts = true then .ok (.t (.l ts)) e1 w else .no
  | .ok r e1 w => match plc r with
    | some (i, q) => match getE e1 i q with
      | some (.l ts) => if cpL ts = true then .ok (.t (.l ts)) e1 w else .no
      | _ => .no
    | none => .no
  | .er C fs e1 => .er C fs e1
  | .no => .no
theorem de_lsT {X : Cx} {c : Ctx} {a : Expr} {d : Env → Res} {x : Str} {p0 pos : Pos} (hg : Gl X x) (hm : X.mg x = none) (h : PE X a (tD c d)) (hK : X.K = c.K := by rfl) (hv : bootBuiltins x = some (.type "list") := by decide +kernel) (hs : starEach [a] X.env = (false, eval a X.env) :: starEach [] X.env := by rfl) (hpl : (backTo pos (starEach [] X.env)).any (·.1) = false := by rfl) (hn : x ≠ "__name__" := by decide) (hdb : (x == ("__debug__" : Str)) = false := by decide) :
    PE X (.Call (.Name x p0) [a] [] pos) (tD c (dLsT d)) := by
  refine PE.imp (pe_callTy call_list_of hg hm hv (pa_cons h pa_nil hs) hn hdb hs hpl) fun σ H Q ⟨e, R, F, s, p⟩ => ⟨e, R, F, s, ?_⟩
  rw [hK]
  unfold dLsT at p
  cases h1 : d e with
  | no => simp only [h1] at p; exact p
  | er C fs e1 => simp only [h1] at p; exact p
  | ok r e1 w =>
    intro R1 H1 F1 G v s1 rw1 nd rf ex hw
    -- what a list of what can be handed on gives
    have main : ∀ {ts : List T} {pa : Addr} {vs : List V} {Gv : List Addr}, v = .ref pa → H1 pa = some (.lst vs) → RpL c.K R1 H1 ts vs Gv → cpL ts = true → PostE c σ R H F Q (.ok (.t (.l ts)) e1 w) → ∃ p ys, [v] = [V.ref p] ∧ (SqL c.K H1 p ys ∨ SqT c.K H1 p ys) ∧ ∀ l, H1 l = none → Q (.ref l) (upd H1 l (.lst ys)) := by
      intro ts pa vs Gv e0 q2 q3 cp p
      subst e0
      refine ⟨pa, vs, rfl, .inl (.of q2), fun l hl => ?_⟩
      obtain ⟨n1, n2, n3, n4, n5⟩ := new_own (o := .lst vs) s1 hl
      have q4 := (cpl_up (H' := upd H1 l (.lst vs)) (RR.Le.refl R1) _ _ _ cp q3).2
      exact p R1 _ F1 [l] _ n1 ⟨l, vs, [], rfl, .refl _, upd_same, q4⟩ n2 n3 ((ex.mono fun a ha => List.mem_append_left _ ha).trans n4) (fun z => ⟨(hw z).1.trans n5, fun a ha => by simp at ha; subst ha; exact (hw z).1.hh.free hl⟩)
    have place : ∀ {i : Rt} {q : List Stp}, plc r = some (i, q) → PostE c σ R H F Q (match getE e1 i q with | some (.l ts) => (if cpL ts = true then .ok (.t (.l ts)) e1 w else .no) | _ => .no) → ∃ p ys, [v] = [V.ref p] ∧ (SqL c.K H1 p ys ∨ SqT c.K H1 p ys) ∧ ∀ l, H1 l = none → Q (.ref l) (upd H1 l (.lst ys)) := by
      intro i q hp p
      obtain ⟨rfl, u, hu, k1⟩ := plc_ok rw1 hp
      cases h3 : getE e1 i q with
      | none => simp only [h3] at p; exact p.elim
      | some t =>
        cases t with
        | l ts =>
          simp only [h3] at p
          by_cases cp : cpL ts = true
          · rw [if_pos cp] at p
            obtain ⟨K1, K2, pm, kk, _⟩ := sr_focus s1 h3 hu k1
            obtain ⟨pa, vs, Gv, e0, q1, q2, q3⟩ := kk
            exact main e0 q2 q3 cp p
          · rw [if_neg cp] at p; exact p.elim
        | _ => simp only [h3] at p; exact p.elim
    cases r with
    | p i q => exact place rfl (by simpa only [h1, plc] using p)
    | v x => simp only [h1, plc] at p; exact p.elim
    | b ds => simp only [h1, plc] at p; exact p.elim
    | t t =>
      cases t with
      | r n => exact place rfl (by simpa only [h1, plc] using p)
      | l ts =>
        simp only [h1] at p
        by_cases cp : cpL ts = true
        · rw [if_pos cp] at p
          obtain ⟨pa, vs, Gv, e0, pm, q2, q3⟩ := rw1
          exact main e0 q2 q3 cp p
        · rw [if_neg cp] at p; exact p.elim
      | _ => simp only [h1, plc] at p; exact p.elim
/-! ## displays of anything -/
theorem rpl_allD {K : PySem.W.Frag} {R : RR} {H : Hp} {ts : List T} {ds : List PyData} {vs : List V} {G : List Addr} (h : RpL K R H ts vs G) (e : allD ts = some ds) : DpAll K R vs ds ∧ G = [] := by
  have := allD_of e
  subst this
  exact rpl_d' h
def dLstD (ds : List (Env → Res)) : Env → Res := fun e => match dArgs ds e with
  | .ok ts e1 w => if ts.length ≤ SZ then .ok (.t (.l ts)) e1 w else .no
  | .er C fs e1 => .er C fs e1
  | .no => .no
def dTupD (ds : List (Env → Res)) : Env → Res := fun e => match dArgs ds e with
  | .ok ts e1 w => if ts.length ≤ SZ then .ok (.t (.t ts)) e1 w else .no
  | .er C fs e1 => .er C fs e1
  | .no => .no
section
variable {X : Cx} {c : Ctx} {ds : List (Env → Res)} {es : List Expr} {pos : Pos} {k : Nat}
theorem de_lstD (h : PA X es (tAD c ds)) : PE X (.List es pos) (tD c (dLstD ds)) := by
  refine PE.imp (pe_lst h) fun σ H Q ⟨e, R, F, s, p⟩ => ⟨e, R, F, s, ?_⟩
  unfold dLstD at p
  cases h1 : dArgs ds e with
  | no => simp only [h1] at p; exact p
  | er C fs e1 => simp only [h1] at p; exact p
  | ok ts e1 w =>
    simp only [h1] at p
    intro R1 H1 F1 G vs s1 rl nd rf ex hw
    by_cases hl : ts.length ≤ SZ
    · rw [if_pos hl] at p
      refine ⟨by rw [rpl_len rl, ← sz_eq]; exact hl, fun q hq => ?_⟩
      have nq : q ∉ F1 ++ G := fun z => (List.mem_append.mp z).elim (fun z => rpe_dom s1.sl q z hq) fun z => rpl_dom _ _ _ rl q z hq
      obtain ⟨n1, n2, n3, n4, n5⟩ := new_own (o := .lst vs) s1 hq
      have nn := List.nodup_append.mp nd
      refine p R1 _ F1 (q :: G) _ n1 ⟨q, vs, G, rfl, .refl _, upd_same, rpl_up (RR.Le.refl _) _ _ _ (fun a ha o h => by rw [upd_ne (fun z => nq (by rw [← z]; simp [ha]))]; exact h) rl⟩ ?_ ?_ ?_ (fun z => ⟨(hw z).1.trans n5, fun a ha => ?_⟩)
      · refine List.nodup_append.mpr ⟨nn.1, List.nodup_cons.mpr ⟨fun z => nq (by simp [z]), nn.2.1⟩, fun x hx y hy z => ?_⟩
        subst z
        rcases List.mem_cons.mp hy with rfl | hy
        · exact nq (by simp [hx])
        · exact nn.2.2 x hx x hy rfl
      · intro a ha
        rcases List.mem_cons.mp ha with rfl | ha
        · exact s1.rh.free hq
        · exact rf a ha
      · refine ex.trans ⟨RR.Le.refl _, fun a o h _ => same_new hq a o h, fun _ h => .inl h, fun a ha => ?_⟩
        rcases List.mem_append.mp ha with ha | ha
        · exact .inl (by simp [ha])
        · rcases List.mem_cons.mp ha with rfl | ha
          · exact .inr hq
          · exact .inl (by simp [ha])
      · rcases List.mem_cons.mp ha with rfl | ha
        · exact (hw z).1.hh.free hq
        · exact (hw z).2 a ha
    · rw [if_neg hl] at p; exact p.elim
theorem de_tupD (h : PA X es (tAD c ds)) : PE X (.Tuple es k pos) (tD c (dTupD ds)) := by
  refine PE.imp (pe_tup h) fun σ H Q ⟨e, R, F, s, p⟩ => ⟨e, R, F, s, ?_⟩
  unfold dTupD at p
  cases h1 : dArgs ds e with
  | no => simp only [h1] at p; exact p
  | er C fs e1 => simp only [h1] at p; exact p
  | ok ts e1 w =>
    simp only [h1] at p
    intro R1 H1 F1 G vs s1 rl nd rf ex hw
    by_cases hl : ts.length ≤ SZ
    · rw [if_pos hl] at p
      refine ⟨by rw [rpl_len rl, ← sz_eq]; exact hl, fun q hq => ?_⟩
      have nq : q ∉ F1 ++ G := fun z => (List.mem_append.mp z).elim (fun z => rpe_dom s1.sl q z hq) fun z => rpl_dom _ _ _ rl q z hq
      have g := Gr.new (R := R1) (o := .tup vs) s1.rh hq
      have nn := List.nodup_append.mp nd
      refine p _ _ F1 G _ (g.sr s1) ⟨q, vs, rfl, .of upd_same, rpl_up g.rr _ _ _ (fun a _ o h => g.hh a o h) rl⟩ nd (fun a ha => ?_) (ex.trans g.ex) (fun z => ⟨(hw z).1.trans g, (hw z).2⟩)
      show upd R1.h q _ a = none
      rw [upd_ne (fun z => nq (by rw [← z]; simp [ha]))]
      exact rf a ha
    · rw [if_neg hl] at p; exact p.elim
end
/-- t[k] of a tuple that holds objects -/
def dIxT (d : Env → Res) (dk : Env → RV) : Env → Res := fun e => match d e with
  | .ok (.t (.t ts)) e1 w1 => if cpL ts = true then match dk e1 with
      | .ok (.int z) _ e2 w2 => match (ixN ts.length z).bind (ts[·]?) with
        | some t => .ok (wOf t) e2 (w1 || w2)
        | none => .no
      | .er C fs e2 => .er C fs e2
      | _ => .no
    else .no
  | .ok _ _ _ => .no
  | .er C fs e1 => .er C fs e1
  | .no => .no
theorem de_ixT {X : Cx} {c : Ctx} {a b : Expr} {d : Env → Res} {dk : Env → RV} {pos : Pos} (ha : PE X a (tD c d)) (hb : PE X b (tV c dk)) (hp : PlainIx b) (hK : X.K = c.K := by rfl) : PE X (.Subscript a b pos) (tD c (dIxT d dk)) := by
  refine PE.imp (pe_ix ix_tup ha hb hp) fun σ H Q ⟨e, R, F, s, p⟩ => ⟨e, R, F, s, ?_⟩
  rw [hK]
  unfold dIxT at p
  cases h1 : d e with
  | no => simp only [h1] at p; exact p
  | er C fs e1 => simp only [h1] at p; exact p
  | ok r e1 w1 =>
    intro R1 H1 F1 G v s1 rw1 nd rf ex hw
    cases r with
    | t t =>
      cases t with
      | t ts =>
        simp only [h1] at p
        by_cases cp : cpL ts = true
        rotate_left
        · rw [if_neg cp] at p; exact p.elim
        rw [if_pos cp] at p
        obtain ⟨pa, vs, rfl, q2, q3⟩ := rw1
        obtain ⟨hG, q4⟩ := cpl_up (H' := H1) (RR.Le.refl R1) _ _ _ cp q3
        subst hG
        have ex := ex.zero
        refine ⟨e1, R1, F1, s1, ?_⟩
        cases h2 : dk e1 with
        | no => simp only [h2] at p; exact p.elim
        | er C fs e2 =>
          simp only [h2] at p
          exact fun R2 H2 F2 dd s2 rx ex2 => p R2 H2 F2 dd s2 rx (ex.trans ex2)
        | ok x bb e2 w2 =>
          cases x with
          | int z =>
            simp only [h2] at p
            intro R2 H2 F2 y s2 sd2 ex2 hw2
            cases h3 : ixN ts.length z with
            | none => simp only [h3, Option.bind_none] at p; exact p.elim
            | some j =>
              simp only [h3, Option.bind_some] at p
              cases h4 : ts[j]? with
              | none => simp only [h4] at p; exact p.elim
              | some t =>
                simp only [h4] at p
                have hl := rpl_len q4
                have hj := (List.getElem?_eq_some_iff.mp h4).1
                have hv : vs[j]? = some vs[j] := List.getElem?_eq_getElem (by omega)
                obtain ⟨t', e4, r4⟩ := rpl_get (cpl_up (H' := H2) ex2.rr _ _ _ cp q4).2 hv
                rw [h4] at e4
                cases e4
                refine ⟨pa, vs, z, vs[j], rfl, sd_int sd2, sqt_up (ex2.rr.s.trans s2.rh) q2, ?_, p R2 H2 F2 [] _ s2 (rw_wOf r4) (by simpa using s2.nd) (by simp) (by simpa using ex.trans ex2) (fun q => ⟨(hw (or_ff q).1).1.trans (hw2 (or_ff q).2), by simp⟩)⟩
                unfold atI
                rw [show ixN vs.length z = some j by rw [hl]; exact h3]
                exact hv
          | _ => simp only [h2] at p; exact p.elim
      | _ => simp only [h1] at p; exact p.elim
    | _ => simp only [h1] at p; exact p.elim
/-! ## a, b = e of anything -/
def sAsgD (is : List Nat) (d : Env → Res) : Env → Out := fun e => match d e with
  | .ok (.v (.tuple ds)) e1 _ => if ds.length = is.length then .nx (tgS is (ds.map T.d) e1) else .no
  | .ok (.t (.t ts)) e1 _ => if ts.length = is.length then .nx (tgS is ts e1) else .no
  | .ok _ _ _ => .no
  | .er C fs e1 => .er C fs e1
  | .no => .no
theorem tg_namesD {c : Ctx} : ∀ (is : List Nat), (∀ i ∈ is, NoPin c.pn i) → ∀ (R : RR) (H : Hp) e σ F vs ts G (Q : L2.St → Hp → Prop), Sr c R H e σ F → RpL c.K R H ts vs G → (F ++ G).Nodup → (∀ a ∈ G, R a = none) → ts.length = is.length →
    (∀ σ' F', Sr c R H (tgS is ts e) σ' F' → (∀ a ∈ F', a ∈ F ++ G) → Q σ' H) → gNames is vs σ H Q
  | [], _, R, H, e, σ, F, vs, ds, G, Q, s, d, nd, rf, hl, q => by
    cases ds with
    | nil => obtain ⟨rfl, _⟩ := d; exact ⟨rfl, q σ F s (fun _ h => List.mem_append_left _ h)⟩
    | cons x xs => cases hl
  | i :: is, hp, R, H, e, σ, F, vs, ds, G, Q, s, d, nd, rf, hl, q => by
    cases ds with
    | nil => cases hl
    | cons x xs =>
      obtain ⟨v, r, G1, G2, rfl, pm, d1, d2⟩ := d
      have nd' : (F ++ (G1 ++ G2)).Nodup := (List.Perm.append_left F pm).nodup_iff.mp nd
      have rf' : ∀ a ∈ G1 ++ G2, R a = none := fun a ha => rf a (pm.mem_iff.mpr ha)
      have nd1 : (F ++ G1).Nodup := by rw [← List.append_assoc] at nd'; exact (List.nodup_append.mp nd').1
      obtain ⟨F', s', h⟩ := sr_set (i := i) s d1 nd1 (fun a ha => rf' a (List.mem_append_left _ ha)) (hp i (by simp))
      refine ⟨_, _, rfl, ?_⟩
      refine tg_namesD is (fun j hj => hp j (by simp [hj])) R H _ _ F' r xs G2 Q s' d2 ?_ (fun a ha => rf' a (List.mem_append_right _ ha)) (by simpa using hl) fun σ2 F2 s2 f2 => ?_
      · refine List.nodup_append.mpr ⟨s'.nd, (List.nodup_append.mp (List.nodup_append.mp nd').2.1).2.1, fun x hx y hy z => ?_⟩
        subst z
        rw [← List.append_assoc] at nd'
        exact (List.nodup_append.mp nd').2.2 x (h x hx) x hy rfl
      · refine q σ2 F2 s2 fun a ha => ?_
        rcases List.mem_append.mp (f2 a ha) with z | z
        · rcases List.mem_append.mp (h a z) with z | z
          · exact List.mem_append_left _ z
          · exact List.mem_append_right _ (pm.mem_iff.mpr (List.mem_append_left _ z))
        · exact List.mem_append_right _ (pm.mem_iff.mpr (List.mem_append_right _ z))
theorem se_asgD {X : Cx} {c : Ctx} {a tgt : Expr} {d : Env → Res} {is : List Nat} {pos : Pos} {n : Nat} (h : PE X a (tD c d)) (hg : PG X tgt (gTup X.K n (gNames is))) (hn : n = is.length) (hK : X.K = c.K) (hp : ∀ i ∈ is, NoPin c.pn i) (hs : swapsWithSole [tgt] a pos.line X.env = pure false := by rfl) (hw : swappedStores [tgt] a X.env = pure none := by rfl)
    (h1 : (assignEach [tgt] X.env).map (·.2) = [assign tgt X.env] := by rfl) : PS X (.Assign [tgt] a pos) (tS c (sAsgD is d)) := by
  refine PS.imp (ps_asg h hg hs hw h1) fun D σ H ⟨e, R, F, s, p⟩ => ⟨e, R, F, s, ?_⟩
  subst hn
  rw [hK]
  unfold sAsgD at p
  cases h1 : d e with
  | no => simp only [h1] at p; exact p
  | er C fs e1 =>
    simp only [h1] at p
    exact fun R' H' F' x s' rx ex => p σ R' H' F' x s' rx ex
  | ok r e1 w =>
    intro R' H' F' G v s' rw' nd rf ex _
    cases r with
    | v x =>
      cases x with
      | tuple ds =>
        simp only [h1] at p
        by_cases hl : ds.length = is.length
        · rw [if_pos hl] at p
          obtain ⟨rfl, dx⟩ := rw'
          cases dx with
          | tup hs ha => exact ⟨_, _, rfl, sqt_up s'.rh hs, by rw [dpa_len ha, hl], tg_namesD is hp R' H' e1 σ F' _ _ [] _ s' (rpl_d ha) (by simpa using s'.nd) (by simp) (by simpa using hl) fun σ2 F2 s2 f2 => p σ2 R' H' F2 s2 (ex.mono fun a ha => f2 a ha)⟩
        · rw [if_neg hl] at p; exact p.elim
      | _ => simp only [h1] at p; exact p.elim
    | t t =>
      cases t with
      | t ts =>
        simp only [h1] at p
        by_cases hl : ts.length = is.length
        · rw [if_pos hl] at p
          obtain ⟨pa, vs, rfl, hs, ha⟩ := rw'
          exact ⟨_, _, rfl, sqt_up s'.rh hs, by rw [rpl_len ha, hl], tg_namesD is hp R' H' e1 σ F' _ _ G _ s' ha nd rf hl fun σ2 F2 s2 f2 => p σ2 R' H' F2 s2 (ex.mono f2)⟩
        · rw [if_neg hl] at p; exact p.elim
      | _ => simp only [h1] at p; exact p.elim
    | _ => simp only [h1] at p; exact p.elim
end En
namespace En
open PySem PySem.Spec PyProof.Rows L2
/-! ## reading, continued -/
def rs1A (C f : Str) : RV → Out
  | .ok x false e1 _ => .er C (some [(f, x)]) e1
  | .ok _ true _ _ => .no
  | .er C fs e1 => .er C fs e1
  | .no => .no
def tyB (i : Nat) (su : Str → Xd → Env → Out) (C : Str) (fs : Xd) (e1 : Env) : Option Bool → Out
  | some true => if i < e1.s.length then delA i (su C fs (e1.set i none)) else .no
  | some false => .er C fs e1
  | none => .no
def tyA (i : Nat) (tb : List (Str × Bool)) (su : Str → Xd → Env → Out) : Out → Out
  | .er C fs e1 => tyB i su C fs e1 (tb.lookup C)
  | o => o
def exDA : Res → Out
  | .ok _ e1 _ => .nx e1
  | .er C fs e1 => .er C fs e1
  | .no => .no
def rvC (e1 : Env) (i : Rt) (q : List Stp) : Option T → RV
  | some (.l ts) => .ok .none false (setE e1 i q (.l ts.reverse)) true
  | _ => .no
def rvB (e1 : Env) : Option (Rt × List Stp) → RV
  | some (i, q) => rvC e1 i q (getE e1 i q)
  | none => .no
def rvA' : Res → RV
  | .ok r e1 _ => rvB e1 (plc r)
  | .er C fs e1 => .er C fs e1
  | .no => .no
def fzB (i : Nat) (e : Env) : Option PyData → RV
  | some x => .ok x false (e.set i (some (.d x))) true
  | none => .no
def fzA (i : Nat) (e : Env) : Option (Option T) → RV
  | some (some t) => fzB i e t.data
  | _ => .no
def lsC (e1 : Env) (w : Bool) : Option T → Res
  | some (.l ts) => if cpL ts = true then .ok (.t (.l ts)) e1 w else .no
  | _ => .no
def lsB (e1 : Env) (w : Bool) : Option (Rt × List Stp) → Res
  | some (i, q) => lsC e1 w (getE e1 i q)
  | none => .no
def lsA : Res → Res
  | .ok (.t (.l ts)) e1 w => if cpL ts = true then .ok (.t (.l ts)) e1 w else .no
  | .ok r e1 w => lsB e1 w (plc r)
  | .er C fs e1 => .er C fs e1
  | .no => .no
def lsDA : RD → Res
  | .ok ts e1 w => if ts.length ≤ SZ then .ok (.t (.l ts)) e1 w else .no
  | .er C fs e1 => .er C fs e1
  | .no => .no
def tpDA : RD → Res
  | .ok ts e1 w => if ts.length ≤ SZ then .ok (.t (.t ts)) e1 w else .no
  | .er C fs e1 => .er C fs e1
  | .no => .no
def ixTC (e2 : Env) (w : Bool) : Option T → Res
  | some t => .ok (wOf t) e2 w
  | none => .no
def ixTB (ts : List T) (w1 : Bool) : RV → Res
  | .ok (.int z) _ e2 w2 => ixTC e2 (w1 || w2) ((ixN ts.length z).bind (ts[·]?))
  | .er C fs e2 => .er C fs e2
  | _ => .no
def ixTA (dk : Env → RV) : Res → Res
  | .ok (.t (.t ts)) e1 w1 => if cpL ts = true then ixTB ts w1 (dk e1) else .no
  | .ok _ _ _ => .no
  | .er C fs e1 => .er C fs e1
  | .no => .no
def asDA (is : List Nat) : Res → Out
  | .ok (.v (.tuple ds)) e1 _ => if ds.length = is.length then .nx (tgS is (ds.map T.d) e1) else .no
  | .ok (.t (.t ts)) e1 _ => if ts.length = is.length then .nx (tgS is ts e1) else .no
  | .ok _ _ _ => .no
  | .er C fs e1 => .er C fs e1
  | .no => .no
def ofA : RI → RJ
  | .ok xs e1 w => .ok (.fx xs) e1 w
  | .er C fs e1 => .er C fs e1
  | .no => .no
section
variable {a : Env → RV} {d : Env → Res} {e : Env} {i : Nat} {ds : List (Env → Res)} {d1 : Env → Out}
theorem x_raise1 {C f : Str} : sRaise1 C f a e = rs1A C f (a e) := nr rfl
theorem x_tryA {tb : List (Str × Bool)} {su : Str → Xd → Env → Out} : sTryA i d1 tb su e = tyA i tb su (d1 e) := by
  unfold sTryA
  cases d1 e with
  | er C fs e1 =>
    simp only [tyA]
    cases tb.lookup C with
    | none => rfl
    | some q => cases q <;> rfl
  | _ => rfl
theorem x_expD : sExpD d e = exDA (d e) := nr rfl
theorem x_rvM : vRvM d e = rvA' (d e) := by
  unfold vRvM
  cases d e with
  | ok r e1 w =>
    simp only [rvA']
    cases plc r with
    | none => rfl
    | some iq =>
      obtain ⟨i, q⟩ := iq
      simp only [rvB]
      cases getE e1 i q with
      | none => rfl
      | some t => cases t <;> rfl
  | _ => rfl
theorem x_frz : vFrz i e = fzA i e e.s[i]? := by
  show (match e.s[i]? with | some (some t) => (match t.data with | some x => RV.ok x false (e.set i (some (.d x))) true | none => .no) | _ => .no) = _
  cases e.s[i]? with
  | none => rfl
  | some o => cases o with
    | none => rfl
    | some t => simp only [fzA]; cases t.data <;> rfl
theorem lsC_eq {e1 : Env} {w : Bool} {o : Option T} : (match o with | some (.l ts) => (if cpL ts = true then Res.ok (.t (.l ts)) e1 w else .no) | _ => .no) = lsC e1 w o := by
  cases o with
  | none => rfl
  | some t => cases t <;> rfl
theorem x_lsT : dLsT d e = lsA (d e) := by
  unfold dLsT
  cases d e with
  | ok r e1 w =>
    cases r with
    | t t =>
      cases t with
      | l ts => rfl
      | r n => exact lsC_eq (e1 := e1) (w := w) (o := getE e1 (.c n) [])
      | _ => rfl
    | p i q => exact lsC_eq (e1 := e1) (w := w) (o := getE e1 i q)
    | _ => rfl
  | _ => rfl
theorem x_lstD : dLstD ds e = lsDA (dArgs ds e) := nr rfl
theorem x_tupD : dTupD ds e = tpDA (dArgs ds e) := nr rfl
theorem x_ixT : dIxT d a e = ixTA a (d e) := by
  unfold dIxT
  cases d e with
  | ok r e1 w =>
    cases r with
    | t t =>
      cases t with
      | t ts =>
        simp only [ixTA]
        by_cases cp : cpL ts = true
        · rw [if_pos cp, if_pos cp]
          cases a e1 with
          | ok x bb e2 w2 =>
            cases x with
            | int z => simp only [ixTB]; cases (ixN ts.length z).bind (ts[·]?) <;> rfl
            | _ => rfl
          | _ => rfl
        · rw [if_neg cp, if_neg cp]
      | _ => rfl
    | _ => rfl
  | _ => rfl
theorem x_asgD {is : List Nat} : sAsgD is d e = asDA is (d e) := nr rfl
theorem x_of {di : Env → RI} : iOf di e = ofA (di e) := nr rfl
end
/-! ## small facts -/
theorem tyA_nx {i : Nat} {tb : List (Str × Bool)} {su : Str → Xd → Env → Out} {e : Env} : tyA i tb su (.nx e) = .nx e := rfl
theorem tyA_rt {i : Nat} {tb : List (Str × Bool)} {su : Str → Xd → Env → Out} {r : W} {e : Env} : tyA i tb su (.rt r e) = .rt r e := rfl
theorem tyA_bk {i : Nat} {tb : List (Str × Bool)} {su : Str → Xd → Env → Out} {e : Env} : tyA i tb su (.bk e) = .bk e := rfl
theorem tyA_ct {i : Nat} {tb : List (Str × Bool)} {su : Str → Xd → Env → Out} {e : Env} : tyA i tb su (.ct e) = .ct e := rfl
theorem tyB_t {i : Nat} {su : Str → Xd → Env → Out} {C : Str} {fs : Xd} {e1 : Env} (h : i < e1.s.length) : tyB i su C fs e1 (some true) = delA i (su C fs (e1.set i none)) := if_pos h
theorem tyB_f {i : Nat} {su : Str → Xd → Env → Out} {C : Str} {fs : Xd} {e1 : Env} : tyB i su C fs e1 (some false) = .er C fs e1 := rfl
theorem x_wh {c : Str} {x : PyData} {e : Env} : vWh c c (some [(("what" : Str), x)]) e = .ok x false e false := if_pos ⟨rfl, rfl⟩
theorem rdP_l {ts : List T} {i : Rt} {q : List Stp} : rdP (.l ts) i q = .p i q := rfl
theorem rdP_o {C : Nat} {ts : List T} {i : Rt} {q : List Stp} : rdP (.o C ts) i q = .p i q := rfl
theorem rdP_k {ks : List Key} {ts : List T} {i : Rt} {q : List Stp} : rdP (.k ks ts) i q = .p i q := rfl
theorem rdP_m {ks : List (List Key)} {ts : List T} {i : Rt} {q : List Stp} : rdP (.m ks ts) i q = .p i q := rfl
def rdJ (ts : List T) (i : Rt) (q : List Stp) : Option Nat → Option W
  | some j => (ts[j]?).map fun t => rdP t i (q ++ [Stp.i j])
  | none => none
theorem rdI_l {ts : List T} {i : Rt} {q : List Stp} {z : Int} : rdI (.l ts) i q z = rdJ ts i q (ixN ts.length z) := by
  show (match ixN ts.length z with | some j => (ts[j]?).map fun t => rdP t i (q ++ [Stp.i j]) | none => none) = _
  cases ixN ts.length z <;> rfl
def truP : Option T → Option Bool
  | some t => truT t
  | none => none
theorem truW_r {e : Env} {n : Nat} : truW e (.t (.r n)) = truP (getE e (.c n) []) := by
  show (match getE e (.c n) [] with | some t => truT t | none => none) = _
  cases getE e (.c n) [] <;> rfl
theorem truW_p {e : Env} {i : Rt} {q : List Stp} : truW e (.p i q) = truP (getE e i q) := by
  show (match getE e i q with | some t => truT t | none => none) = _
  cases getE e i q <;> rfl
theorem lcE_ok {ts : List T} {e : Env} {w : Bool} (h : ts.length < SZ) : lcE (.ok ts e w) = .ok (.t (.l ts)) e true := if_pos h
theorem frz_nil : frzA [] = some [] := rfl
theorem frz_d {x : PyData} {ts : List T} : frzA (.d x :: ts) = (frzA ts).map (.d x :: ·) := by
  show (match frzT (.d x), frzA ts with | some u, some us => some (u :: us) | _, _ => none) = _
  cases frzA ts <;> rfl
theorem frz_r {n : Nat} {ts : List T} : frzA (.r n :: ts) = (frzA ts).map (.r n :: ·) := by
  show (match frzT (.r n), frzA ts with | some u, some us => some (u :: us) | _, _ => none) = _
  cases frzA ts <;> rfl
theorem frz_l {ds : List PyData} {ts : List T} : frzA (.l (ds.map T.d) :: ts) = (frzA ts).map (.d (.list ds) :: ·) := by
  have h : frzT (.l (ds.map T.d)) = some (.d (.list ds)) := by
    unfold frzT
    rw [if_neg (by simp [cpT])]
    show ((dataL (ds.map T.d)).map PyData.list).map T.d = _
    rw [dataL_d]; rfl
  show (match frzT (.l (ds.map T.d)), frzA ts with | some u, some us => some (u :: us) | _, _ => none) = _
  rw [h]
  cases frzA ts <;> rfl
theorem frz_t {us ts : List T} (h : cpL us = true) : frzA (.t us :: ts) = (frzA ts).map (.t us :: ·) := by
  show (match (if cpT (.t us) = true then some (.t us) else (T.t us).data.map .d), frzA ts with | some u, some us => some (u :: us) | _, _ => none) = _
  rw [show cpT (.t us) = true from h, if_pos rfl]
  cases frzA ts <;> rfl
theorem cpL_r : ∀ ns : List Nat, cpL (ns.map T.r) = true
  | [] => rfl
  | n :: ns => by
    show (true && cpL (ns.map T.r)) = true
    rw [cpL_r ns]; rfl
theorem gc_self {M : List T} {n : Nat} {t t' : T} (h : M[n]? = some t) : (M.set n t')[n]? = some t' := List.getElem?_set_self (List.getElem?_eq_some_iff.mp h).1
theorem gc_ne {M : List T} {n k : Nat} {t' : T} (h : n ≠ k) : (M.set n t')[k]? = M[k]? := List.getElem?_set_ne h
theorem gc_new {M : List T} {t : T} : (M ++ [t])[M.length]? = some t := by rw [List.getElem?_append_right (by omega)]; simp
theorem gc_old {M : List T} {n : Nat} {t x : T} (h : M[n]? = some x) : (M ++ [t])[n]? = some x := by
  rw [List.getElem?_append_left (List.getElem?_eq_some_iff.mp h).1, h]
/-! ## texts that are written out -/
theorem ofS_inj {a b : String} : (Str.ofString a = Str.ofString b) = (a = b) := by
  apply propext
  constructor
  · intro h
    rw [Str.ofString_eq_toList, Str.ofString_eq_toList] at h
    have h1 : a.toList.map Char.toNat = b.toList.map Char.toNat := by
      have := congrArg Str.cps h
      simpa using this
    have h2 : a.toList = b.toList := by
      have inj : ∀ (l m : List Char), l.map Char.toNat = m.map Char.toNat → l = m := by
        intro l
        induction l with
        | nil => intro m h; cases m with
          | nil => rfl
          | cons c m => simp at h
        | cons c l ih => intro m h; cases m with
          | nil => simp at h
          | cons d m =>
            simp only [List.map_cons, List.cons.injEq] at h
            have : c = d := Char.ext (UInt32.toNat_inj.mp h.1)
            rw [this, ih m h.2]
      exact inj _ _ h1
    exact String.toList_injective h2
  · rintro rfl; rfl
theorem ofS_beq {a b : String} : (Str.ofString a == Str.ofString b) = decide (a = b) := by
  rw [show (Str.ofString a == Str.ofString b) = decide (Str.ofString a = Str.ofString b) from rfl]
  simp only [ofS_inj]
theorem ofS_ok (a : String) : (Str.ofString a).cps.all (· < 0x110000) = true := by
  rw [Str.ofString_eq_toList, List.all_toArray]
  rw [List.all_eq_true]
  intro x hx
  obtain ⟨c, _, rfl⟩ := List.mem_map.mp hx
  have := c.valid
  simp only [decide_eq_true_eq]
  rcases this with h | h
  · exact Nat.lt_trans h (by decide)
  · exact h.2
theorem q_lit {a b : String} : fEq (.str (Str.ofString a)) (.str (Str.ofString b)) = some (.bool (decide (a = b))) := q_str (ofS_ok a) (ofS_ok b) ofS_beq
theorem n_lit {a b : String} : fNe (.str (Str.ofString a)) (.str (Str.ofString b)) = some (.bool (!decide (a = b))) := n_str (ofS_ok a) (ofS_ok b) ofS_beq
theorem lk_lit {a b : String} {v : Bool} {r : List (Str × Bool)} : List.lookup (Str.ofString a) ((Str.ofString b, v) :: r) = if a = b then some v else List.lookup (Str.ofString a) r := by
  rw [List.lookup_cons, ofS_beq]
  by_cases h : a = b
  · rw [if_pos h, decide_eq_true h]
  · rw [if_neg h, decide_eq_false h]
theorem in_nil {x : PyData} : inD x [] = false := rfl
theorem in_cons {x y : PyData} {ds : List PyData} : inD x (y :: ds) = (eqV (sv y) (sv x) || inD x ds) := rfl
theorem ev_s {a b : String} : eqV (sv (.str (Str.ofString a))) (sv (.str (Str.ofString b))) = decide (a = b) := ofS_beq
theorem ev_i {i j : Int} : eqV (sv (.int i)) (sv (.int j)) = decide (i = j) := rfl
theorem fl_i {i : Int} : flatD (.int i) = true := rfl
theorem fl_s {s : Str} : flatD (.str s) = true := rfl
theorem fl_n : flatD .none = true := rfl
theorem fl_b {b : Bool} : flatD (.bool b) = true := rfl
theorem in_l {neg : Bool} {x : PyData} {ds : List PyData} (h : flatD x = true) (h2 : ds.all flatD = true) : fIn neg x (.list ds) = some (.bool (neg ^^ inD x ds)) := by
  have e : fIn neg x (.list ds) = if flatD x && ds.all flatD then some (.bool (neg ^^ inD x ds)) else none := by cases x <;> rfl
  rw [e, h, h2]; rfl
theorem in_t {neg : Bool} {x : PyData} {ds : List PyData} (h : flatD x = true) (h2 : ds.all flatD = true) : fIn neg x (.tuple ds) = some (.bool (neg ^^ inD x ds)) := by
  have e : fIn neg x (.tuple ds) = if flatD x && ds.all flatD then some (.bool (neg ^^ inD x ds)) else none := by cases x <;> rfl
  rw [e, h, h2]; rfl
/-! ## None against others -/
theorem sh_n : SeqAt.shaped .none = true := by decide +kernel
theorem sh_b {b : Bool} : SeqAt.shaped (.bool b) = true := by cases b <;> decide +kernel
theorem sh_i {i : Int} : SeqAt.shaped (.int i) = true := by
  unfold SeqAt.shaped
  rw [PyData.canLay0, PyData.depth]
  rfl
theorem q_nn : fEq .none .none = some (.bool true) := by rw [q_gen sh_n sh_n]; rfl
theorem q_in {i : Int} : fEq (.int i) .none = some (.bool false) := by rw [q_gen sh_i sh_n]; rfl
theorem q_ni {i : Int} : fEq .none (.int i) = some (.bool false) := by rw [q_gen sh_n sh_i]; rfl
theorem n_nn : fNe .none .none = some (.bool false) := by rw [n_gen sh_n sh_n]; rfl
theorem n_in {i : Int} : fNe (.int i) .none = some (.bool true) := by rw [n_gen sh_i sh_n]; rfl
theorem n_ni {i : Int} : fNe .none (.int i) = some (.bool true) := by rw [n_gen sh_n sh_i]; rfl
theorem q_bb {a b : Bool} : fEq (.bool a) (.bool b) = some (.bool (a == b)) := by rw [q_gen sh_b sh_b]; rfl
theorem n_bb {a b : Bool} : fNe (.bool a) (.bool b) = some (.bool (!(a == b))) := by rw [n_gen sh_b sh_b]; rfl
theorem isNone_n : isNone .none = true := rfl
theorem isi_n {t : String} (h : t = "list" ∨ t = "int" ∨ t = "bool" ∨ t = "str" ∨ t = "tuple") : fIsi t .none = some (.bool false) := by
  rcases h with rfl | rfl | rfl | rfl | rfl <;> rfl
end En
namespace En
open PySem PySem.Spec PyProof.Rows L2
/-! ## walks, read by what holds at each turn -/
/-- what a turn must give -/
def stO (I : Nat → Env → Prop) (Q : Out → Prop) (i : Nat) : Out → Prop
  | .nx e => I (i + 1) e
  | .ct e => I (i + 1) e
  | .bk e => Q (.nx e)
  | .rt r e => Q (.rt r e)
  | .er C fs e => Q (.er C fs e)
  | .no => False
theorem forL_out {bd : T → Env → Out} (I : Nat → Env → Prop) (Q : Out → Prop) : ∀ (xs : List T) (k : Nat) (e : Env), I k e → (∀ i x e, xs[i]? = some x → I (k + i) e → stO I Q (k + i) (bd x e)) → (∀ e, I (k + xs.length) e → Q (.nx e)) → Q (forL bd xs e)
  | [], k, e, h, _, hd => hd e h
  | x :: r, k, e, h, hs, hd => by
    have h1 := hs 0 x e rfl h
    have ih : ∀ e1, I (k + 1) e1 → Q (forL bd r e1) := fun e1 g => forL_out I Q r (k + 1) e1 g
      (fun i y e q z => by
        have := hs (i + 1) y e q (by rw [show k + (i + 1) = k + 1 + i from by omega]; exact z)
        rw [show k + (i + 1) = k + 1 + i from by omega] at this; exact this)
      (fun e z => hd e (by rw [List.length_cons, show k + (r.length + 1) = k + 1 + r.length from by omega]; exact z))
    unfold forL
    cases hb : bd x e with
    | nx e1 => rw [hb] at h1; exact ih e1 h1
    | ct e1 => rw [hb] at h1; exact ih e1 h1
    | bk e1 => rw [hb] at h1; exact h1
    | rt r e1 => rw [hb] at h1; exact h1
    | er C fs e1 => rw [hb] at h1; exact h1
    | no => rw [hb] at h1; exact h1.elim
theorem for_out {bd : T → Env → Out} {xs : List T} {e : Env} (I : Nat → Env → Prop) (Q : Out → Prop) (h0 : I 0 e) (hs : ∀ i x e, xs[i]? = some x → I i e → stO I Q i (bd x e)) (hd : ∀ e, I xs.length e → Q (.nx e)) : Q (forL bd xs e) :=
  forL_out I Q xs 0 e h0 (fun i x e q z => by rw [Nat.zero_add] at z ⊢; exact hs i x e q z) (fun e z => hd e (by rw [Nat.zero_add] at z; exact z))
theorem forS_out' {src : Src} {bd : T → Env → Out} (N : Nat) (I : Nat → Env → Prop) (Q : Out → Prop) (stop : ∀ e, I N e → srcAt src N e true = some none) (go : ∀ k e, k < N → I k e → ∃ x, srcAt src k e true = some (some x) ∧ stO I Q k (bd x e)) (hd : ∀ e, I N e → Q (.nx e)) : ∀ (f k : Nat) (e : Env), N - k < f → k ≤ N → I k e → Q (forS src bd f k e)
  | 0, _, _, h, _, _ => by omega
  | f + 1, k, e, hf, hk, h => by
    unfold forS
    by_cases hN : k = N
    · subst hN
      rw [stop e h]; exact hd e h
    · obtain ⟨x, h1, h2⟩ := go k e (by omega) h
      rw [h1]
      show Q (match bd x e with | .nx e1 => forS src bd f (k + 1) e1 | .ct e1 => forS src bd f (k + 1) e1 | .bk e1 => .nx e1 | o => o)
      have ih : ∀ e1, I (k + 1) e1 → Q (forS src bd f (k + 1) e1) := fun e1 g => forS_out' N I Q stop go hd f (k + 1) e1 (by omega) (by omega) g
      cases hb : bd x e with
      | nx e1 => rw [hb] at h2; exact ih e1 h2
      | ct e1 => rw [hb] at h2; exact ih e1 h2
      | bk e1 => rw [hb] at h2; exact h2
      | rt r e1 => rw [hb] at h2; exact h2
      | er C fs e1 => rw [hb] at h2; exact h2
      | no => rw [hb] at h2; exact h2.elim
theorem srcAt_c {n : Nat} {en : Bool} {k : Nat} {e : Env} {w : Bool} {ts : List T} (h : e.m[n]? = some (.l ts)) : srcAt (.pl (.c n) [] en) k e w = match ts[k]? with | none => some none | some t => if cpT t = true then some (some (itm en k t)) else none := by
  have g : getE e (.c n) [] = some (.l ts) := by rw [getE_q]; show gQ e.m[n]? [] = _; rw [h]; rfl
  show (if stb w [] = true then (match getE e (.c n) [] with | some (.l ts) => (match ts[k]? with | none => some none | some t => if cpT t = true then some (some (itm en k t)) else none) | _ => none) else none) = _
  rw [show stb w [] = true from by cases w <;> rfl, if_pos rfl, g]
/-- a walk over a list that stands in a cell and is not changed while it is walked: as over the list itself -/
theorem forS_out {n : Nat} {bd : T → Env → Out} {e : Env} (N : Nat) (I : Nat → Env → Prop) (Q : Out → Prop) {en : Bool} {f : Nat} (hN : N < f) (h0 : I 0 e)
    (hm : ∀ k e, k ≤ N → I k e → ∃ ts, e.m[n]? = some (.l ts) ∧ (k = N → ts.length = N) ∧ (k < N → ∃ t, ts[k]? = some t ∧ cpT t = true ∧ stO I Q k (bd (itm en k t) e)))
    (hd : ∀ e, I N e → Q (.nx e)) : Q (forS (.pl (.c n) [] en) bd f 0 e) := by
  refine forS_out' N I Q (fun e h => ?_) (fun k e hk h => ?_) hd f 0 e (by omega) (by omega) h0
  · obtain ⟨ts, h1, h2, _⟩ := hm N e (Nat.le_refl _) h
    rw [srcAt_c h1, List.getElem?_eq_none (by rw [h2 rfl]; omega)]
  · obtain ⟨ts, h1, _, h3⟩ := hm k e (by omega) h
    obtain ⟨t, h4, h5, h6⟩ := h3 hk
    exact ⟨_, by rw [srcAt_c h1, h4]; show (if cpT t = true then _ else _) = _; rw [if_pos h5], h6⟩
/-! ## comprehensions, read by what each turn gives -/
def gsC : RV → Option (Option PyData)
  | .ok y false _ false => some (some y)
  | _ => none
def gsB (el : Env → RV) : RV → Option (Option PyData)
  | .ok (.bool true) _ e2 false => gsC (el e2)
  | .ok (.bool false) _ _ false => some none
  | _ => none
def gsA (tt el : Env → RV) : Option Env → Option (Option PyData)
  | some e1 => gsB el (tt e1)
  | none => none
theorem lcG_out {tg : T → Env → Option Env} {tt el : Env → RV} {e0 : Env} (o : T → Option PyData) : ∀ (xs : List T), (∀ x ∈ xs, gsA tt el (tg x e0) = some (o x)) → lcG tg tt el e0 xs = some (xs.filterMap o)
  | [], _ => rfl
  | x :: r, h => by
    have h1 := h x (by simp)
    have ih := lcG_out o r (fun y hy => h y (by simp [hy]))
    unfold lcG
    cases h2 : tg x e0 with
    | none => rw [h2] at h1; cases h1
    | some e1 =>
      rw [h2] at h1
      have h1 : gsB el (tt e1) = some (o x) := h1
      show (match tt e1 with
        | .ok (.bool true) _ e2 false => (match el e2 with
          | .ok y false _ false => (lcG tg tt el e0 r).map (y :: ·)
          | _ => none)
        | .ok (.bool false) _ _ false => lcG tg tt el e0 r
        | _ => none) = _
      cases h3 : tt e1 with
      | no => rw [h3] at h1; cases h1
      | er C fs e2 => rw [h3] at h1; cases h1
      | ok x1 b e2 w =>
        rw [h3] at h1
        cases x1 with
        | bool bb =>
          cases w with
          | true => cases bb <;> cases h1
          | false =>
            cases bb with
            | false =>
              have h4 : o x = none := (Option.some.inj h1).symm
              rw [List.filterMap_cons_none h4]; exact ih
            | true =>
              have h1 : gsC (el e2) = some (o x) := h1
              show (match el e2 with | .ok y false _ false => (lcG tg tt el e0 r).map (y :: ·) | _ => none) = _
              cases h5 : el e2 with
              | no => rw [h5] at h1; cases h1
              | er C fs e3 => rw [h5] at h1; cases h1
              | ok y b3 e3 w3 =>
                rw [h5] at h1
                cases b3 with
                | true => cases h1
                | false => cases w3 with
                  | true => cases h1
                  | false =>
                    have h4 : o x = some y := (Option.some.inj h1).symm
                    rw [List.filterMap_cons_some h4, ih]; rfl
        | _ => cases w <;> cases h1
theorem lcG_outD {tg : T → Env → Option Env} {tt el : Env → RV} {e0 : Env} (o : PyData → Option PyData) (xs : List PyData) (h : ∀ x ∈ xs, gsA tt el (tg (.d x) e0) = some (o x)) : lcG tg tt el e0 (xs.map T.d) = some (xs.filterMap o) := by
  rw [lcG_out (fun t => match t with | .d x => o x | _ => none) (xs.map T.d), List.filterMap_map]
  · rfl
  · intro x hx
    obtain ⟨y, hy, rfl⟩ := List.mem_map.mp hx
    exact h y hy
/-- one turn of a comprehension that may write: the item, what stands, whether it wrote -/
def jsD (vs : List Nat) (w2 : Bool) (e3 : Env) (w3 : Bool) : Option T → Option (Option T × Env × Bool)
  | some t => some (some t, wipeE e3 vs, w2 || w3)
  | none => none
def jsC (vs : List Nat) (w2 : Bool) : Res → Option (Option T × Env × Bool)
  | .ok y e3 w3 => jsD vs w2 e3 w3 (tOf y)
  | _ => none
def jsB (vs : List Nat) (el : Env → Res) : RV → Option (Option T × Env × Bool)
  | .ok (.bool true) _ e2 w2 => jsC vs w2 (el e2)
  | .ok (.bool false) _ e2 w2 => some (none, wipeE e2 vs, w2)
  | _ => none
def jsA (vs : List Nat) (tt : Env → RV) (el : Env → Res) : Option Env → Option (Option T × Env × Bool)
  | some e1 => jsB vs el (tt e1)
  | none => none
theorem lcC_ok {t : T} {ts : List T} {e : Env} {w : Bool} : lcC t (.ok ts e w) = .ok (t :: ts) e w := rfl
theorem lcS_out {src : Src} {vs : List Nat} {tg : T → Env → Option Env} {tt : Env → RV} {el : Env → Res} (N : Nat) (I : Nat → List T → Env → Bool → Prop)
    (stop : ∀ ys e w, I N ys e w → srcAt src N e w = some none)
    (go : ∀ k ys e w, k < N → I k ys e w → ∃ x o e' w', srcAt src k e w = some (some x) ∧ jsA vs tt el (tg x e) = some (o, e', w') ∧ I (k + 1) (ys ++ o.toList) e' (w || w')) :
    ∀ (f k : Nat) (ys : List T) (e : Env) (w : Bool), N - k < f → k ≤ N → I k ys e w → ∃ zs e' w', lcS src vs tg tt el f k e w = .ok zs e' w' ∧ I N (ys ++ zs) e' w'
  | 0, _, _, _, _, h, _, _ => by omega
  | f + 1, k, ys, e, w, hf, hk, h => by
    by_cases hN : k = N
    · subst hN
      unfold lcS
      rw [stop ys e w h]
      exact ⟨[], e, w, rfl, by rw [List.append_nil]; exact h⟩
    · obtain ⟨x, o, e', w', h1, h2, h3⟩ := go k ys e w (by omega) h
      obtain ⟨zs, e9, w9, i1, i2⟩ := lcS_out N I stop go f (k + 1) (ys ++ o.toList) e' (w || w') (by omega) (by omega) h3
      unfold lcS
      rw [h1]
      show ∃ zs e' w', (match tg x e with
        | none => RD.no
        | some e1 => match tt e1 with
          | .ok (.bool true) _ e2 w2 => match el e2 with
            | .ok y e3 w3 => match tOf y with
              | some t => lcC t (lcS src vs tg tt el f (k + 1) (wipeE e3 vs) (w || (w2 || w3)))
              | none => .no
            | _ => .no
          | .ok (.bool false) _ e2 w2 => lcS src vs tg tt el f (k + 1) (wipeE e2 vs) (w || w2)
          | _ => .no) = .ok zs e' w' ∧ _
      cases h4 : tg x e with
      | none => rw [h4] at h2; cases h2
      | some e1 =>
        rw [h4] at h2
        have h2 : jsB vs el (tt e1) = some (o, e', w') := h2
        show ∃ zs e' w', (match tt e1 with
          | .ok (.bool true) _ e2 w2 => match el e2 with
            | .ok y e3 w3 => match tOf y with
              | some t => lcC t (lcS src vs tg tt el f (k + 1) (wipeE e3 vs) (w || (w2 || w3)))
              | none => RD.no
            | _ => .no
          | .ok (.bool false) _ e2 w2 => lcS src vs tg tt el f (k + 1) (wipeE e2 vs) (w || w2)
          | _ => .no) = .ok zs e' w' ∧ _
        cases h5 : tt e1 with
        | no => rw [h5] at h2; cases h2
        | er C fs e2 => rw [h5] at h2; cases h2
        | ok x1 b e2 w2 =>
          rw [h5] at h2
          cases x1 with
          | bool bb =>
            cases bb with
            | false =>
              cases (show some ((none : Option T), wipeE e2 vs, w2) = some (o, e', w') from h2)
              refine ⟨zs, e9, w9, i1, ?_⟩
              rw [show (none : Option T).toList = [] from rfl, List.append_nil] at i2; exact i2
            | true =>
              have h2 : jsC vs w2 (el e2) = some (o, e', w') := h2
              show ∃ zs e' w', (match el e2 with
                | .ok y e3 w3 => match tOf y with
                  | some t => lcC t (lcS src vs tg tt el f (k + 1) (wipeE e3 vs) (w || (w2 || w3)))
                  | none => RD.no
                | _ => .no) = .ok zs e' w' ∧ _
              cases h6 : el e2 with
              | no => rw [h6] at h2; cases h2
              | er C fs e3 => rw [h6] at h2; cases h2
              | ok y e3 w3 =>
                rw [h6] at h2
                have h2 : jsD vs w2 e3 w3 (tOf y) = some (o, e', w') := h2
                show ∃ zs e' w', (match tOf y with
                  | some t => lcC t (lcS src vs tg tt el f (k + 1) (wipeE e3 vs) (w || (w2 || w3)))
                  | none => RD.no) = .ok zs e' w' ∧ _
                cases h7 : tOf y with
                | none => rw [h7] at h2; cases h2
                | some t =>
                  rw [h7] at h2
                  cases (show some (some t, wipeE e3 vs, w2 || w3) = some (o, e', w') from h2)
                  refine ⟨t :: zs, e9, w9, by show lcC t _ = _; rw [i1]; rfl, ?_⟩
                  rw [show (some t).toList = [t] from rfl, List.append_assoc] at i2
                  exact i2
          | _ => cases h2
theorem cpL_get : ∀ {ts : List T} {k : Nat} {t : T}, cpL ts = true → ts[k]? = some t → cpT t = true
  | [], _, _, _, h => by cases h
  | t :: ts, 0, u, c, h => by
    have c : (cpT t && cpL ts) = true := c
    rw [Bool.and_eq_true] at c
    cases h; exact c.1
  | t :: ts, k + 1, u, c, h => by
    have c : (cpT t && cpL ts) = true := c
    rw [Bool.and_eq_true] at c
    exact cpL_get c.2 h
/-- a comprehension over a list that stands somewhere, no turn of which writes -/
theorem lcS_pl {i : Rt} {q : List Stp} {vs : List Nat} {tg : T → Env → Option Env} {tt : Env → RV} {el : Env → Res} {e : Env} {ts : List T} (g : getE e i q = some (.l ts)) (hc : cpL ts = true) {f : Nat} (hn : ts.length < f) (o : T → Option T) (h : ∀ t ∈ ts, jsA vs tt el (tg t e) = some (o t, e, false)) :
    lcS (.pl i q false) vs tg tt el f 0 e false = .ok (ts.filterMap o) e false := by
  have at_ : ∀ k, srcAt (.pl i q false) k e false = match ts[k]? with | none => some none | some t => if cpT t = true then some (some t) else none := by
    intro k
    show (if stb false q = true then (match getE e i q with | some (.l ts) => (match ts[k]? with | none => some none | some t => if cpT t = true then some (some (itm false k t)) else none) | _ => none) else none) = _
    rw [show stb false q = true from rfl, if_pos rfl, g]
    rfl
  obtain ⟨zs, e', w', h1, h2, h3, h4⟩ := lcS_out (src := .pl i q false) (vs := vs) (tg := tg) (tt := tt) (el := el) ts.length (fun k ys e' w => e' = e ∧ w = false ∧ ys = (ts.take k).filterMap o)
    (by intro ys e1 w1 ⟨h1, h2, _⟩; rw [h1, h2, at_, List.getElem?_eq_none (Nat.le_refl _)])
    (by
      intro k ys e1 w1 hk ⟨h1, h2, hy⟩
      rw [h1, h2]
      have hx := List.getElem?_eq_getElem hk
      refine ⟨ts[k], o ts[k], e, false, ?_, h _ (List.getElem_mem hk), rfl, rfl, ?_⟩
      · rw [at_, hx]
        show (if cpT ts[k] = true then _ else _) = _
        rw [if_pos (cpL_get hc hx)]
      · rw [hy, List.take_succ, hx, List.filterMap_append]
        congr 1)
    f 0 [] e false (by omega) (by omega) ⟨rfl, rfl, by simp⟩
  rw [h1, h2, h3]
  rw [List.nil_append, List.take_length] at h4
  rw [h4]
/-- a comprehension over values that stand for themselves -/
theorem lcS_fx {vs : List Nat} {tg : T → Env → Option Env} {tt : Env → RV} {el : Env → Res} {e : Env} {ts : List T} {f : Nat} (hn : ts.length < f) (o : T → Option T) (h : ∀ t ∈ ts, jsA vs tt el (tg t e) = some (o t, e, false)) :
    lcS (.fx ts) vs tg tt el f 0 e false = .ok (ts.filterMap o) e false := by
  obtain ⟨zs, e', w', h1, h2, h3, h4⟩ := lcS_out (src := .fx ts) (vs := vs) (tg := tg) (tt := tt) (el := el) ts.length (fun k ys e' w => e' = e ∧ w = false ∧ ys = (ts.take k).filterMap o)
    (by intro ys e1 w1 ⟨h1, h2, _⟩; show some ts[ts.length]? = _; rw [List.getElem?_eq_none (Nat.le_refl _)])
    (by
      intro k ys e1 w1 hk ⟨h1, h2, hy⟩
      rw [h1, h2]
      have hx := List.getElem?_eq_getElem hk
      refine ⟨ts[k], o ts[k], e, false, ?_, h _ (List.getElem_mem hk), rfl, rfl, ?_⟩
      · show some ts[k]? = _
        rw [hx]
      · rw [hy, List.take_succ, hx, List.filterMap_append]
        congr 1)
    f 0 [] e false (by omega) (by omega) ⟨rfl, rfl, by simp⟩
  rw [h1, h2, h3]
  rw [List.nil_append, List.take_length] at h4
  rw [h4]
theorem snoc_d {xs : List PyData} {y : PyData} : xs.map T.d ++ [T.d y] = (xs ++ [y]).map T.d := by simp
theorem set_d {xs : List PyData} {n : Nat} {y : PyData} : (xs.map T.d).set n (T.d y) = (xs.set n y).map T.d := by rw [List.map_set]
theorem get_d {xs : List PyData} {n : Nat} : (xs.map T.d)[n]? = (xs[n]?).map T.d := List.getElem?_map
end En
namespace En
open PySem PySem.Spec PyProof.Rows L2
/-! ## the object in a cell, read as a place -/
def rdA : Res → Res
  | .ok (.t (.r n)) e w => .ok (.p (.c n) []) e w
  | r => r
def dRd (d : Env → Res) : Env → Res := fun e => rdA (d e)
theorem rdA_ok {c : Ctx} {σ : L2.St} {R : RR} {H : Hp} {F : List Addr} {Q : VK} {r : Res} (h : PostE c σ R H F Q (rdA r)) : PostE c σ R H F Q r := by
  cases r with
  | no => exact h
  | er C fs e => exact h
  | ok r e w =>
    cases r with
    | t t =>
      cases t with
      | r n =>
        intro R' H' F' G v s' rw_ nd hg ex hw
        have := plc_ok (σ := σ) rw_ (show plc (.t (.r n)) = some (.c n, []) from rfl)
        exact h R' H' F' G v s' this nd hg ex hw
      | _ => exact h
    | _ => exact h
theorem de_rd {X : Cx} {c : Ctx} {ex : Expr} {d : Env → Res} (h : PE X ex (tD c d)) : PE X ex (tD c (dRd d)) := PE.imp h fun σ H Q ⟨e, R, F, s, p⟩ => ⟨e, R, F, s, rdA_ok p⟩
theorem x_rd {d : Env → Res} {e : Env} : dRd d e = rdA (d e) := rfl
theorem rdA_r {n : Nat} {e : Env} {w : Bool} : rdA (.ok (.t (.r n)) e w) = .ok (.p (.c n) []) e w := rfl
theorem rdA_p {i : Rt} {q : List Stp} {e : Env} {w : Bool} : rdA (.ok (.p i q) e w) = .ok (.p i q) e w := rfl
theorem rdA_v {x : PyData} {e : Env} {w : Bool} : rdA (.ok (.v x) e w) = .ok (.v x) e w := rfl
theorem rdA_l {ts : List T} {e : Env} {w : Bool} : rdA (.ok (.t (.l ts)) e w) = .ok (.t (.l ts)) e w := rfl
theorem rdA_er {C : Str} {fs : Xd} {e : Env} : rdA (.er C fs e) = .er C fs e := rfl
theorem bb_t {b : Bool} : (b == true) = b := by cases b <;> rfl
theorem bb_f {b : Bool} : (b == false) = !b := by cases b <;> rfl
end En
namespace En
open PySem PySem.Spec PyProof.Rows L2
/-! ## data of small depth, whose equality may be asked -/
def Sh (n : Nat) (x : PyData) : Prop := x.canLay0 = true ∧ x.depth ≤ n
def ShA (n : Nat) (xs : List PyData) : Prop := PyData.canLayAll0 xs = true ∧ PyData.depthAll xs ≤ n
theorem sh_of {n : Nat} {x : PyData} (h : Sh n x) (k : n ≤ 64) : SeqAt.shaped x = true := by
  unfold SeqAt.shaped
  rw [h.1, decide_eq_true (Nat.le_trans h.2 k)]; rfl
theorem Sh.int {n : Nat} {i : Int} : Sh n (.int i) := ⟨rfl, by rw [PyData.depth]; omega⟩
theorem Sh.none {n : Nat} : Sh n .none := ⟨rfl, by rw [PyData.depth]; omega⟩
theorem Sh.bool {n : Nat} {b : Bool} : Sh n (.bool b) := ⟨rfl, by rw [PyData.depth]; omega⟩
theorem Sh.str {n : Nat} {s : Str} (h : s.cps.all (· < 0x110000) = true) : Sh n (.str s) := ⟨SeqAt.canLay_of_shaped (sh_s s h), by rw [PyData.depth]; omega⟩
theorem Sh.lit {n : Nat} {s : String} : Sh n (.str (Str.ofString s)) := .str (ofS_ok s)
theorem ShA.nil {n : Nat} : ShA n [] := ⟨rfl, by rw [PyData.depthAll]; omega⟩
theorem ShA.cons {n : Nat} {x : PyData} {xs : List PyData} (h : Sh n x) (h2 : ShA n xs) : ShA n (x :: xs) := ⟨by rw [PyData.canLayAll0, h.1, h2.1]; rfl, by rw [PyData.depthAll]; exact Nat.max_le.mpr ⟨h.2, h2.2⟩⟩
theorem ShA.of {n : Nat} : ∀ {xs : List PyData}, (∀ x ∈ xs, Sh n x) → ShA n xs
  | [], _ => .nil
  | x :: xs, h => .cons (h x (by simp)) (.of fun y hy => h y (by simp [hy]))
theorem ShA.map {α : Type} {n : Nat} {f : α → PyData} {xs : List α} (h : ∀ x ∈ xs, Sh n (f x)) : ShA n (xs.map f) := .of fun y hy => by
  obtain ⟨x, hx, rfl⟩ := List.mem_map.mp hy
  exact h x hx
theorem ShA.iL {n : Nat} {l : List Int} : ShA n (iL l) := .map fun _ _ => .int
theorem ShA.app {n : Nat} {xs ys : List PyData} (h : ShA n xs) (h2 : ShA n ys) : ShA n (xs ++ ys) := by
  induction xs with
  | nil => exact h2
  | cons x xs ih =>
    have h1 := h.1; have h3 := h.2
    rw [PyData.canLayAll0, Bool.and_eq_true] at h1
    rw [PyData.depthAll] at h3
    exact .cons ⟨h1.1, Nat.le_trans (Nat.le_max_left _ _) h3⟩ (ih ⟨h1.2, Nat.le_trans (Nat.le_max_right _ _) h3⟩)
theorem Sh.list {n : Nat} {xs : List PyData} (h : ShA n xs) : Sh (n + 1) (.list xs) := ⟨by rw [PyData.canLay0]; exact h.1, by rw [PyData.depth]; have := h.2; omega⟩
theorem Sh.tuple {n : Nat} {xs : List PyData} (h : ShA n xs) : Sh (n + 1) (.tuple xs) := ⟨by rw [PyData.canLay0]; exact h.1, by rw [PyData.depth]; have := h.2; omega⟩
theorem Sh.up {n m : Nat} {x : PyData} (h : Sh n x) (k : n ≤ m) : Sh m x := ⟨h.1, Nat.le_trans h.2 k⟩
/-! ## values written as constants: tuples of literals compared with one another -/
theorem evA_nil : PyData.eqvAll [] [] = true := rfl
theorem evA_cons {x y : PyData} {xs ys : List PyData} : PyData.eqvAll (x :: xs) (y :: ys) = (PyData.eqv x y && PyData.eqvAll xs ys) := by rw [PyData.eqvAll]
theorem evA_nc {y : PyData} {ys : List PyData} : PyData.eqvAll [] (y :: ys) = false := rfl
theorem evA_cn {y : PyData} {ys : List PyData} : PyData.eqvAll (y :: ys) [] = false := rfl
theorem ev_tt {xs ys : List PyData} : PyData.eqv (.tuple xs) (.tuple ys) = PyData.eqvAll xs ys := by rw [PyData.eqv]
theorem ev_ll {xs ys : List PyData} : PyData.eqv (.list xs) (.list ys) = PyData.eqvAll xs ys := by rw [PyData.eqv]
theorem ev_ii {a b : Int} : PyData.eqv (.int a) (.int b) = decide (a = b) := by
  rw [PyData.eqv, Bool.eq_iff_iff]; simp
theorem ev_ss {a b : String} : PyData.eqv (.str (Str.ofString a)) (.str (Str.ofString b)) = decide (a = b) := by rw [PyData.eqv]; exact ofS_beq
theorem ev_nn : PyData.eqv .none .none = true := by rw [PyData.eqv]
theorem ev_ni {a : Int} : PyData.eqv .none (.int a) = false := by rw [PyData.eqv] <;> simp
theorem ev_in {a : Int} : PyData.eqv (.int a) .none = false := by rw [PyData.eqv] <;> simp
theorem ev_ns {s : Str} : PyData.eqv .none (.str s) = false := by rw [PyData.eqv] <;> simp
theorem ev_sn {s : Str} : PyData.eqv (.str s) .none = false := by rw [PyData.eqv] <;> simp
theorem ev_bb {a b : Bool} : PyData.eqv (.bool a) (.bool b) = (a == b) := by rw [PyData.eqv]
theorem is_bool_i {i : Int} : fIsi "bool" (.int i) = some (.bool false) := by
  show (kitB "int" "bool").map _ = _
  rfl
theorem is_str_i {i : Int} : fIsi "str" (.int i) = some (.bool false) := by
  show (kitB "int" "str").map _ = _
  rfl
theorem is_list_i {i : Int} : fIsi "list" (.int i) = some (.bool false) := by
  show (kitB "int" "list").map _ = _
  rfl
theorem is_tuple_i {i : Int} : fIsi "tuple" (.int i) = some (.bool false) := by
  show (kitB "int" "tuple").map _ = _
  rfl
theorem is_dict_i {i : Int} : fIsi "dict" (.int i) = some (.bool false) := by
  show (kitB "int" "dict").map _ = _
  rfl
theorem is_int_b {b : Bool} : fIsi "int" (.bool b) = some (.bool true) := by
  show (kitB "bool" "int").map _ = _
  rfl
theorem is_str_b {b : Bool} : fIsi "str" (.bool b) = some (.bool false) := by
  show (kitB "bool" "str").map _ = _
  rfl
theorem is_list_b {b : Bool} : fIsi "list" (.bool b) = some (.bool false) := by
  show (kitB "bool" "list").map _ = _
  rfl
theorem is_tuple_b {b : Bool} : fIsi "tuple" (.bool b) = some (.bool false) := by
  show (kitB "bool" "tuple").map _ = _
  rfl
theorem is_dict_b {b : Bool} : fIsi "dict" (.bool b) = some (.bool false) := by
  show (kitB "bool" "dict").map _ = _
  rfl
theorem is_int_s {s : Str} : fIsi "int" (.str s) = some (.bool false) := by
  show (kitB "str" "int").map _ = _
  rfl
theorem is_bool_s {s : Str} : fIsi "bool" (.str s) = some (.bool false) := by
  show (kitB "str" "bool").map _ = _
  rfl
theorem is_list_s {s : Str} : fIsi "list" (.str s) = some (.bool false) := by
  show (kitB "str" "list").map _ = _
  rfl
theorem is_tuple_s {s : Str} : fIsi "tuple" (.str s) = some (.bool false) := by
  show (kitB "str" "tuple").map _ = _
  rfl
theorem is_dict_s {s : Str} : fIsi "dict" (.str s) = some (.bool false) := by
  show (kitB "str" "dict").map _ = _
  rfl
theorem is_int_l {xs : List PyData} : fIsi "int" (.list xs) = some (.bool false) := by
  show (kitB "list" "int").map _ = _
  rfl
theorem is_bool_l {xs : List PyData} : fIsi "bool" (.list xs) = some (.bool false) := by
  show (kitB "list" "bool").map _ = _
  rfl
theorem is_str_l {xs : List PyData} : fIsi "str" (.list xs) = some (.bool false) := by
  show (kitB "list" "str").map _ = _
  rfl
theorem is_tuple_l {xs : List PyData} : fIsi "tuple" (.list xs) = some (.bool false) := by
  show (kitB "list" "tuple").map _ = _
  rfl
theorem is_dict_l {xs : List PyData} : fIsi "dict" (.list xs) = some (.bool false) := by
  show (kitB "list" "dict").map _ = _
  rfl
theorem is_int_t {xs : List PyData} : fIsi "int" (.tuple xs) = some (.bool false) := by
  show (kitB "tuple" "int").map _ = _
  rfl
theorem is_bool_t {xs : List PyData} : fIsi "bool" (.tuple xs) = some (.bool false) := by
  show (kitB "tuple" "bool").map _ = _
  rfl
theorem is_str_t {xs : List PyData} : fIsi "str" (.tuple xs) = some (.bool false) := by
  show (kitB "tuple" "str").map _ = _
  rfl
theorem is_list_t {xs : List PyData} : fIsi "list" (.tuple xs) = some (.bool false) := by
  show (kitB "tuple" "list").map _ = _
  rfl
theorem is_dict_t {xs : List PyData} : fIsi "dict" (.tuple xs) = some (.bool false) := by
  show (kitB "tuple" "dict").map _ = _
  rfl
theorem is_int_n  : fIsi "int" .none = some (.bool false) := by
  show (kitB "NoneType" "int").map _ = _
  rfl
theorem is_bool_n  : fIsi "bool" .none = some (.bool false) := by
  show (kitB "NoneType" "bool").map _ = _
  rfl
theorem is_str_n  : fIsi "str" .none = some (.bool false) := by
  show (kitB "NoneType" "str").map _ = _
  rfl
theorem is_list_n  : fIsi "list" .none = some (.bool false) := by
  show (kitB "NoneType" "list").map _ = _
  rfl
theorem is_tuple_n  : fIsi "tuple" .none = some (.bool false) := by
  show (kitB "NoneType" "tuple").map _ = _
  rfl
theorem is_dict_n  : fIsi "dict" .none = some (.bool false) := by
  show (kitB "NoneType" "dict").map _ = _
  rfl
theorem ixN_last {n : Nat} : ixN (n + 1) (-1) = some n := by
  unfold ixN
  rw [if_neg (by omega), if_pos (by omega)]
  congr 1; omega
end En
namespace En
open PySem PySem.Spec PyProof.Rows L2
/-! ## is True, is False -/
def isB (b : Bool) : PyData → Bool
  | .bool c => c == b
  | _ => false
section
variable {K : PySem.W.Frag} {R : RR} {H : Hp} {v : V} {x : PyData} {b : Bool}
theorem sd_isB {b2 : Bool} (h : Sd K R H v x b) : decide (v = .bl b2) = isB b2 x := by
  cases b with
  | false => cases h with
    | bl y => cases y <;> cases b2 <;> rfl
    | _ => rfl
  | true => obtain ⟨p, _, ds, rfl, rfl, _⟩ := h; rfl
end
def fIsB : PyData → PyData → Option PyData
  | x, .bool b => some (.bool (isB b x))
  | _, _ => none
def fNotB : PyData → PyData → Option PyData
  | x, .bool b => some (.bool (!isB b x))
  | _, _ => none
theorem op_isB {X : Cx} : OpR X (compareOp .Is) (fun x y H Q => ∃ b, y = .bl b ∧ Q (.bl (decide (x = .bl b))) H) := by
  intro pins s σ H x y v u Q I rx ry h
  obtain ⟨b, rfl, q⟩ := h
  cases (show u = Value.bool b from ry)
  by_cases e : x = .bl b
  · subst e
    cases (show v = Value.bool b from rx)
    exact wpAny_is_self rfl ⟨.bl true, H, I, rfl, by simpa using q⟩
  · refine wpAny_is_other (by cases x <;> first | (cases rx; rfl) | (obtain ⟨t, rfl⟩ := rx; rfl)) (fun z => e ?_) ⟨.bl false, H, I, rfl, by simpa [e] using q⟩
    subst z
    cases x <;> first | (cases rx; rfl) | (obtain ⟨t, z⟩ := rx; cases z) | cases rx
theorem op_notB {X : Cx} : OpR X (compareOp .IsNot) (fun x y H Q => ∃ b, y = .bl b ∧ Q (.bl (!decide (x = .bl b))) H) := by
  intro pins s σ H x y v u Q I rx ry h
  obtain ⟨b, rfl, q⟩ := h
  cases (show u = Value.bool b from ry)
  by_cases e : x = .bl b
  · subst e
    cases (show v = Value.bool b from rx)
    exact wpAny_isNot_self rfl ⟨.bl false, H, I, rfl, by simpa using q⟩
  · refine wpAny_isNot_other (by cases x <;> first | (cases rx; rfl) | (obtain ⟨t, rfl⟩ := rx; rfl)) (fun z => e ?_) ⟨.bl true, H, I, rfl, by simpa [e] using q⟩
    subst z
    cases x <;> first | (cases rx; rfl) | (obtain ⟨t, z⟩ := rx; cases z) | cases rx
theorem sc_isB {K : PySem.W.Frag} : Sc2 K (fun x y H Q => ∃ b, y = .bl b ∧ Q (.bl (decide (x = .bl b))) H) fIsB := by
  intro R H v1 v2 x y b b' z Q rh s1 s2 e k
  unfold fIsB at e
  split at e
  · cases e
    refine ⟨_, sd_bool s2, ?_⟩
    rw [sd_isB s1]
    exact sc_here rh k (.bl _)
  · cases e
theorem sc_notB {K : PySem.W.Frag} : Sc2 K (fun x y H Q => ∃ b, y = .bl b ∧ Q (.bl (!decide (x = .bl b))) H) fNotB := by
  intro R H v1 v2 x y b b' z Q rh s1 s2 e k
  unfold fNotB at e
  split at e
  · cases e
    refine ⟨_, sd_bool s2, ?_⟩
    rw [sd_isB s1]
    exact sc_here rh k (.bl _)
  · cases e
theorem isB_b {b c : Bool} : fIsB (.bool c) (.bool b) = some (.bool (c == b)) := rfl
theorem notB_b {b c : Bool} : fNotB (.bool c) (.bool b) = some (.bool (!(c == b))) := rfl
theorem isB_i {b : Bool} {i : Int} : fIsB (.int i) (.bool b) = some (.bool false) := rfl
theorem notB_i {b : Bool} {i : Int} : fNotB (.int i) (.bool b) = some (.bool true) := rfl
theorem isB_n {b : Bool} : fIsB .none (.bool b) = some (.bool false) := rfl
theorem notB_n {b : Bool} : fNotB .none (.bool b) = some (.bool true) := rfl
theorem isB_l {b : Bool} {xs : List PyData} : fIsB (.list xs) (.bool b) = some (.bool false) := rfl
theorem notB_l {b : Bool} {xs : List PyData} : fNotB (.list xs) (.bool b) = some (.bool true) := rfl
/-! ## xs[i], ys[j] = v, w -/
def putR (t : T) (e3 : Env) (i : Rt) (q : List Stp) (k : Env → Out) : Option Nat → List T → Out
  | some j, ts => k (setE e3 i q (.l (ts.set j t)))
  | none, _ => .no
def putQ (t : T) (i : Rt) (q : List Stp) (z : Int) (e3 : Env) (k : Env → Out) : Option T → Out
  | some (.l ts) => putR t e3 i q k (ixN ts.length z) ts
  | _ => .no
def putO2 (t : T) (i : Rt) (q : List Stp) (k : Env → Out) : RV → Out
  | .ok (.int z) _ e3 w3 => if stb w3 q = true then putQ t i q z e3 k (getE e3 i q) else .no
  | .er C fs e3 => .er C fs e3
  | _ => .no
def putN (t : T) (dk : Env → RV) (e2 : Env) (k : Env → Out) : Option (Rt × List Stp) → Out
  | some (i, q) => putO2 t i q k (dk e2)
  | none => .no
def putM (dk : Env → RV) (t : T) (k : Env → Out) : Res → Out
  | .ok r2 e2 _ => putN t dk e2 k (plc r2)
  | .er C fs e2 => .er C fs e2
  | .no => .no
theorem put_go {c : Ctx} {R R1 : RR} {H H1 : Hp} {F F1 : List Addr} {D : Ends} {σ : L2.St} {d : Env → Res} {dk : Env → RV} {x : PyData} {y : V} {e1 : Env} {k : Env → Out} {Q : L2.St → Hp → Prop}
    (s1 : Sr c R1 H1 e1 σ F1) (hv : Dp c.K R1 y x) (ex1 : Ex R H F R1 H1 F1) (p : PostS c R H F D (putM dk (.d x) k (d e1)))
    (nx : ∀ R3 H3 e3 F3, R1.Le R3 → Sr c R3 H3 e3 σ F3 → Ex R H F R3 H3 F3 → PostS c R H F D (k e3) → Q σ H3) : gSub (tD c d) (tV c dk) rSetL y σ H1 Q := by
  refine ⟨e1, R1, F1, s1, ?_⟩
  cases h3 : d e1 with
  | no => rw [h3] at p; exact p.elim
  | er C fs e2 =>
    rw [h3] at p
    exact fun R2 H2 F2 x s2 rx ex2 => p σ R2 H2 F2 x s2 rx (ex1.trans ex2)
  | ok r2 e2 w2 =>
    rw [h3] at p
    intro R2 H2 F2 G2 ov s2 rw2 nd2 rf2 ex2 hw2
    replace p : PostS c R H F D (putN (.d x) dk e2 k (plc r2)) := p
    cases hp : plc r2 with
    | none => rw [hp] at p; exact p.elim
    | some iq =>
      obtain ⟨i, q⟩ := iq
      rw [hp] at p
      obtain ⟨rfl, u, hu, k1⟩ := plc_ok rw2 hp
      have ex2 := ex2.zero
      refine ⟨e2, R2, F2, s2, ?_⟩
      replace p : PostS c R H F D (putO2 (.d x) i q k (dk e2)) := p
      cases h4 : dk e2 with
      | no => rw [h4] at p; exact p.elim
      | er C fs e3 =>
        rw [h4] at p
        exact fun R3 H3 F3 x s3 rx ex3 => p σ R3 H3 F3 x s3 rx ((ex1.trans ex2).trans ex3)
      | ok x1 bb e3 w3 =>
        rw [h4] at p
        cases x1 with
        | int z =>
          replace p : PostS c R H F D (if stb w3 q = true then putQ (.d x) i q z e3 k (getE e3 i q) else .no) := p
          intro R3 H3 F3 kv s3 sd3 ex3 hw3
          by_cases hst : stb w3 q = true
          rotate_left
          · rw [if_neg hst] at p; exact p.elim
          rw [if_pos hst] at p
          have k2 := stay hst hw3 k1
          cases h5 : getE e3 i q with
          | none => rw [h5] at p; exact p.elim
          | some t0 =>
            cases t0 with
            | l ts =>
              rw [h5] at p
              replace p : PostS c R H F D (putR (.d x) e3 i q k (ixN ts.length z) ts) := p
              cases h6 : ixN ts.length z with
              | none => rw [h6] at p; exact p.elim
              | some j =>
                rw [h6] at p
                replace p : PostS c R H F D (k (setE e3 i q (.l (ts.set j (.d x))))) := p
                obtain ⟨j1, j2, j3⟩ := ixN_seq h6
                have rp : Rp c.K R3 H3 (.d x) y [] := ⟨rfl, dp_up (ex2.rr.trans ex3.rr).s _ _ hv⟩
                obtain ⟨pa, vs, rfl, q2, hl, _, kk⟩ := sr_list (ts' := ts.set j (.d x)) s3 h5 (rootV_up ex3.rr hu) k2 (Gt := []) (by simpa using s3.nd) (by simp) (by simp)
                obtain ⟨F4, s4, f4, ex4⟩ := kk (vs.set j y) fun Gw m3 n1 n2 => by
                  obtain ⟨A1, A2, pm, l1⟩ := rpl_set m3 j2 rp
                  have nn := List.nodup_append.mp (pm.nodup_iff.mp n1)
                  exact ⟨[] ++ A2, l1, nn.2.1, fun a ha => (List.mem_append.mp ha).elim (fun z => by simp at z) fun z => .inl (pm.mem_iff.mpr (List.mem_append_right _ z))⟩
                cases sd_int sd3
                exact ⟨pa, vs, z, j, rfl, rfl, q2, by rw [hl]; exact h6, nx R3 _ _ F4 (ex2.rr.trans ex3.rr) s4 (Ex.upd (G2 := []) (by simpa using (ex1.trans ex2).trans ex3) f4 ex4) p⟩
            | _ => rw [h5] at p; exact p.elim
        | _ => exact p.elim
def swpA (d1 : Env → Res) (k1 : Env → RV) (d2 : Env → Res) (k2 : Env → RV) : RV → Out
  | .ok (.tuple [x, y]) _ e1 _ => putM k1 (.d x) (fun e2 => putM k2 (.d y) .nx (d2 e2)) (d1 e1)
  | .er C fs e1 => .er C fs e1
  | _ => .no
def sSwp (dv : Env → RV) (d1 : Env → Res) (k1 : Env → RV) (d2 : Env → Res) (k2 : Env → RV) : Env → Out := fun e => swpA d1 k1 d2 k2 (dv e)
section
variable {X : Cx} {c : Ctx} {a o1 k1 o2 k2 : Expr} {dv : Env → RV} {d1 d2 : Env → Res} {dk1 dk2 : Env → RV} {pos p1 p2 p3 : Pos} {kt : Nat}
theorem se_swp (hv : PE X a (tV c dv)) (ho1 : PE X o1 (tD c d1)) (hk1 : PE X k1 (tV c dk1)) (ho2 : PE X o2 (tD c d2)) (hk2 : PE X k2 (tV c dk2)) (hc : X.calm = true) (hK : X.K = c.K := by rfl)
    (ha1 : ∀ v, assign (.Subscript o1 k1 p1) X.env v = (do
      let ov ← holding [v] (eval o1 X.env)
      let iv ← holding [v, ov] (eval k1 X.env)
      standAt p1
      holding [v, ov, iv] (setItem ov iv v)
      release [v, ov, iv] []) := by intro _; rfl)
    (ha2 : ∀ v, assign (.Subscript o2 k2 p2) X.env v = (do
      let ov ← holding [v] (eval o2 X.env)
      let iv ← holding [v, ov] (eval k2 X.env)
      standAt p2
      holding [v, ov, iv] (setItem ov iv v)
      release [v, ov, iv] []) := by intro _; rfl)
    (hs : swapsWithSole [.Tuple [.Subscript o1 k1 p1, .Subscript o2 k2 p2] kt p3] a pos.line X.env = pure false := by rfl) (hw : swappedStores [.Tuple [.Subscript o1 k1 p1, .Subscript o2 k2 p2] kt p3] a X.env = pure none := by rfl)
    (h1 : (assignEach [.Tuple [.Subscript o1 k1 p1, .Subscript o2 k2 p2] kt p3] X.env).map (·.2) = [assign (.Tuple [.Subscript o1 k1 p1, .Subscript o2 k2 p2] kt p3) X.env] := by rfl)
    (hs1 : (assignEach [.Subscript o1 k1 p1, .Subscript o2 k2 p2] X.env).map (·.2) = assign (.Subscript o1 k1 p1) X.env :: (assignEach [.Subscript o2 k2 p2] X.env).map (·.2) := by rfl)
    (hs2 : (assignEach [.Subscript o2 k2 p2] X.env).map (·.2) = assign (.Subscript o2 k2 p2) X.env :: (assignEach [] X.env).map (·.2) := by rfl)
    (hn : (assignEach [.Subscript o1 k1 p1, .Subscript o2 k2 p2] X.env).length = 2 := by rfl) (hst : (assignEach [.Subscript o1 k1 p1, .Subscript o2 k2 p2] X.env).findIdx? (·.1) = none := by rfl) :
    PS X (.Assign [.Tuple [.Subscript o1 k1 p1, .Subscript o2 k2 p2] kt p3] a pos) (tS c (sSwp dv d1 dk1 d2 dk2)) := by
  refine PS.imp (ps_asg hv (pg_tup hc (pgs_cons (pg_sub ho1 hk1 set_list ha1) (pgs_cons (pg_sub ho2 hk2 set_list ha2) pgs_nil hs2) hs1) hn hst) hs hw h1) fun D σ H ⟨e, R, F, s, p⟩ => ⟨e, R, F, s, ?_⟩
  unfold sSwp at p
  cases h1 : dv e with
  | no => rw [h1] at p; exact p
  | er C fs e1 =>
    rw [h1] at p
    exact fun R' H' F' x s' rx ex => p σ R' H' F' x s' rx ex
  | ok x b e1 w =>
    rw [h1] at p
    intro R1 H1 F1 v s1 sd ex1 _
    cases x with
    | tuple ds =>
      match ds, p with
      | [x, y], p =>
        obtain ⟨pa, vs, rfl, q1, q2, ha⟩ := sd_tup sd s1.rh
        rw [hK]
        cases ha with
        | cons hx ha =>
          cases ha with
          | cons hy ha =>
            cases ha
            refine ⟨_, _, rfl, q1, rfl, _, _, rfl, put_go (D := D) s1 hx ex1 p fun R3 H3 e3 F3 le s3 ex3 p3 => ⟨_, _, rfl, put_go (D := D) s3 (dp_up le.s _ _ hy) ex3 p3 fun R4 H4 e4 F4 le4 s4 ex4 p4 => ⟨rfl, p4 σ R4 H4 F4 s4 ex4⟩⟩⟩
      | [], p => exact p.elim
      | [_], p => exact p.elim
      | _ :: _ :: _ :: _, p => exact p.elim
    | _ => exact p.elim
end
end En
namespace En
open PySem PySem.Spec PyProof.Rows L2
/-! ## xs.pop(), xs.pop(k) -/
theorem rpl_erase {K : PySem.W.Frag} {R : RR} {H : Hp} : ∀ {ts : List T} {vs : List V} {F : List Addr} {j : Nat}, RpL K R H ts vs F → F.Nodup → ∃ G, RpL K R H (ts.eraseIdx j) (vs.eraseIdx j) G ∧ G.Nodup ∧ ∀ a ∈ G, a ∈ F
  | [], _, F, j, h, n => by
    obtain ⟨rfl, rfl⟩ := h
    exact ⟨[], ⟨by simp, rfl⟩, n, by simp⟩
  | t0 :: ts, vs, F, 0, h, n => by
    obtain ⟨v, r, F1, F2, rfl, pm, _, h2⟩ := h
    exact ⟨F2, h2, (List.nodup_append.mp (pm.nodup_iff.mp n)).2.1, fun a ha => pm.mem_iff.mpr (List.mem_append_right _ ha)⟩
  | t0 :: ts, vs, F, j + 1, h, n => by
    obtain ⟨v, r, F1, F2, rfl, pm, h1, h2⟩ := h
    have nn := List.nodup_append.mp (pm.nodup_iff.mp n)
    obtain ⟨G, g1, g2, g3⟩ := rpl_erase (j := j) h2 nn.2.1
    refine ⟨F1 ++ G, ⟨v, r.eraseIdx j, F1, G, rfl, List.Perm.refl _, h1, g1⟩, List.nodup_append.mpr ⟨nn.1, g2, fun x hx y hy z => nn.2.2 x hx y (g3 y hy) z⟩, fun a ha => pm.mem_iff.mpr ?_⟩
    rcases List.mem_append.mp ha with ha | ha
    · exact List.mem_append_left _ ha
    · exact List.mem_append_right _ (g3 a ha)
def popE (e : Env) (i : Rt) (q : List Stp) (ts : List T) (j : Nat) : Option T → Res
  | some t => if cpT t = true then .ok (wOf t) (setE e i q (.l (ts.eraseIdx j))) true else .no
  | none => .no
def popD (e : Env) (i : Rt) (q : List Stp) (ts : List T) : Option Nat → Res
  | some j => popE e i q ts j ts[j]?
  | none => .no
def popC (e : Env) (i : Rt) (q : List Stp) (z : Int) : Option T → Res
  | some (.l ts) => if ts.length ≤ SZ then popD e i q ts (ixN ts.length z) else .no
  | _ => .no
def popB (i : Rt) (q : List Stp) : RV → Res
  | .ok (.int z) _ e2 w2 => if stb w2 q = true then popC e2 i q z (getE e2 i q) else .no
  | .er C fs e2 => .er C fs e2
  | _ => .no
def popL (dk : Env → RV) (e1 : Env) (i : Rt) (q : List Stp) : Bool → Res
  | true => popB i q (dk e1)
  | false => .no
def popA2 (dk : Env → RV) (e1 : Env) : Option (Rt × List Stp) → Res
  | some (i, q) => popL dk e1 i q (isL (getE e1 i q))
  | none => .no
def popA (dk : Env → RV) : Res → Res
  | .ok r e1 _ => popA2 dk e1 (plc r)
  | .er C fs e1 => .er C fs e1
  | .no => .no
def dPop (d : Env → Res) (dk : Env → RV) : Env → Res := fun e => popA dk (d e)
def popZ (e1 : Env) : Option (Rt × List Stp) → Res
  | some (i, q) => popC e1 i q (-1) (getE e1 i q)
  | none => .no
def popA0 : Res → Res
  | .ok r e1 _ => popZ e1 (plc r)
  | .er C fs e1 => .er C fs e1
  | .no => .no
def dPop0 (d : Env → Res) : Env → Res := fun e => popA0 (d e)
theorem popC_ok {e : Env} {i : Rt} {q : List Stp} {z : Int} {ts : List T} (h : ts.length ≤ SZ) : popC e i q z (some (.l ts)) = popD e i q ts (ixN ts.length z) := if_pos h
theorem x_pop {d : Env → Res} {dk : Env → RV} {e : Env} : dPop d dk e = popA dk (d e) := rfl
theorem x_pop0 {d : Env → Res} {e : Env} : dPop0 d e = popA0 (d e) := rfl
section
variable {c : Ctx} {R R1 : RR} {H H1 : Hp} {F F1 : List Addr} {σ : L2.St} {Q : VK} {e1 : Env} {i : Rt} {q : List Stp} {u v : V} {z : Int}
theorem pop_ok (s : Sr c R1 H1 e1 σ F1) (hu : rootV R1 σ i = some u) (k : wk H1 u q v) (ex : Ex R H F R1 H1 F1) (p : PostE c σ R H F Q (popC e1 i q z (getE e1 i q))) :
    ∃ pa vs j y, v = .ref pa ∧ H1 pa = some (.lst vs) ∧ ixN vs.length z = some j ∧ vs[j]? = some y ∧ vs.length ≤ SZ ∧ Q y (upd H1 pa (.lst (vs.eraseIdx j))) := by
  cases h5 : getE e1 i q with
  | none => rw [h5] at p; exact p.elim
  | some t0 =>
    cases t0 with
    | l ts =>
      rw [h5] at p
      replace p : PostE c σ R H F Q (if ts.length ≤ SZ then popD e1 i q ts (ixN ts.length z) else .no) := p
      by_cases hz : ts.length ≤ SZ
      rotate_left
      · rw [if_neg hz] at p; exact p.elim
      rw [if_pos hz] at p
      cases h6 : ixN ts.length z with
      | none => rw [h6] at p; exact p.elim
      | some j =>
        rw [h6] at p
        replace p : PostE c σ R H F Q (popE e1 i q ts j ts[j]?) := p
        cases h7 : ts[j]? with
        | none => rw [h7] at p; exact p.elim
        | some t =>
          rw [h7] at p
          replace p : PostE c σ R H F Q (if cpT t = true then .ok (wOf t) (setE e1 i q (.l (ts.eraseIdx j))) true else .no) := p
          by_cases hc : cpT t = true
          rotate_left
          · rw [if_neg hc] at p; exact p.elim
          rw [if_pos hc] at p
          obtain ⟨pa, vs, rfl, q2, hl, ⟨Gw, hw⟩, kk⟩ := sr_list (ts' := ts.eraseIdx j) (Gt := []) s h5 hu k (by simpa using s.nd) (by simp) (by simp)
          obtain ⟨y, G, _, hy, _, ry, _⟩ := rpl_focus hw h7
          obtain ⟨F3, s3, f3, ex3⟩ := kk (vs.eraseIdx j) fun Gw m3 n1 n2 => by
            obtain ⟨G', g1, g2, g3⟩ := rpl_erase (j := j) m3 n1
            exact ⟨G', g1, g2, fun a ha => .inl (g3 a ha)⟩
          have ry := (cp_up (H' := upd H1 pa (.lst (vs.eraseIdx j))) (RR.Le.refl R1) t y G hc ry).2
          refine ⟨pa, vs, j, y, rfl, q2, by rw [hl]; exact h6, hy, by rw [hl]; exact hz, p R1 _ F3 [] y s3 (rw_wOf ry) (by simpa using s3.nd) (by simp) ?_ (fun z => by cases z)⟩
          simpa using Ex.upd (G2 := []) (by simpa using ex) f3 ex3
    | _ => rw [h5] at p; exact p.elim
end
section
variable {X : Cx} {c : Ctx} {a k : Expr} {d dx : Env → Res} {dk : Env → RV} {pos apos cpos : Pos}
theorem de_pop (ha : PE X a (tD c d)) (hb : PE X k (tV c dk)) (hK : X.K = c.K := by rfl) (hbase : attributeBase a "pop" X.env (eval a X.env) = eval a X.env := by rfl)
    (hfew : ((backTo cpos (starEach [k] X.env)).all (fun x => !x.1) && (backToKw cpos (keywordEach [] X.env)).all (fun x => x.1.isSome)
      && decide ([k].length + ([] : List Keyword).length + (if ([] : List Keyword).isEmpty then 0 else 1) < 30)) = true := by rfl)
    (hline : (apos.endLine == cpos.line) = true := by rfl) (hs : starEach [k] X.env = (false, eval k X.env) :: starEach [] X.env := by rfl) (hplain : (backTo cpos (starEach [] X.env)).any (·.1) = false := by rfl) :
    PE X (.Call (.Attribute a "pop" apos) [k] [] cpos) (tD c (dPop d dk)) := by
  refine PE.imp (pe_bm PySem.F.plainAttrs_list PySem.F.slot_list_pop PySem.F.type_list_pop mt_popAt ha (pa_cons hb pa_nil hs) hbase hfew hline hs hplain) fun σ H Q ⟨e, R, F, s, p⟩ => ⟨e, R, F, s, ?_⟩
  unfold dPop at p
  cases h1 : d e with
  | no => rw [h1] at p; exact p
  | er C fs e1 => rw [h1] at p; exact p
  | ok r e1 w =>
    rw [h1] at p
    intro R1 H1 F1 G v s1 rw1 nd rf ex hw
    replace p : PostE c σ R H F Q (popA2 dk e1 (plc r)) := p
    cases hp : plc r with
    | none => rw [hp] at p; exact p.elim
    | some iq =>
      obtain ⟨i, q⟩ := iq
      rw [hp] at p
      replace p : PostE c σ R H F Q (popL dk e1 i q (isL (getE e1 i q))) := p
      obtain ⟨rfl, u, hu, k1⟩ := plc_ok rw1 hp
      by_cases hL : isL (getE e1 i q) = true
      rotate_left
      · rw [Bool.eq_false_iff.mpr hL] at p; exact p.elim
      rw [hL] at p
      replace p : PostE c σ R H F Q (popB i q (dk e1)) := p
      rw [hK]
      have ty := isL_ok s1 hL hu k1
      refine ⟨ty, e1, R1, F1, s1, ?_⟩
      cases h2 : dk e1 with
      | no => rw [h2] at p; exact p.elim
      | er C fs e2 =>
        rw [h2] at p
        exact fun R2 H2 F2 dd s2 rx ex2 => p R2 H2 F2 dd s2 rx (ex.zero.trans ex2)
      | ok x b e2 w2 =>
        rw [h2] at p
        cases x with
        | int z =>
          intro R2 H2 F2 y s2 sd2 ex2 hw2
          replace p : PostE c σ R H F Q (if stb w2 q = true then popC e2 i q z (getE e2 i q) else .no) := p
          by_cases hs : stb w2 q = true
          rotate_left
          · rw [if_neg hs] at p; exact p.elim
          rw [if_pos hs] at p
          cases sd_int sd2
          obtain ⟨pa, vs, j, y, rfl, q2, h6, hy, hl, hq⟩ := pop_ok s2 (rootV_up ex2.rr hu) (stay hs hw2 k1) (ex.zero.trans ex2) p
          obtain ⟨j1, j2, j3, j4⟩ := ixN_seq h6
          unfold SZ at hl
          exact ⟨pa, vs, z, j, y, rfl, rfl, q2, by omega, by omega, j1, hy, hq⟩
        | _ => exact p.elim
theorem de_pop0 (ha : PE X a (tD c d)) (hK : X.K = c.K := by rfl) (hbase : attributeBase a "pop" X.env (eval a X.env) = eval a X.env := by rfl) (hline : (apos.endLine == cpos.line) = true := by rfl) :
    PE X (.Call (.Attribute a "pop" apos) [] [] cpos) (tD c (dPop0 d)) := by
  refine PE.imp (pe_bm0 PySem.F.plainAttrs_list PySem.F.slot_list_pop PySem.F.type_list_pop mt_pop ha hbase hline) fun σ H Q ⟨e, R, F, s, p⟩ => ⟨e, R, F, s, ?_⟩
  unfold dPop0 at p
  cases h1 : d e with
  | no => rw [h1] at p; exact p
  | er C fs e1 => rw [h1] at p; exact p
  | ok r e1 w =>
    rw [h1] at p
    intro R1 H1 F1 G v s1 rw1 nd rf ex hw
    replace p : PostE c σ R H F Q (popZ e1 (plc r)) := p
    cases hp : plc r with
    | none => rw [hp] at p; exact p.elim
    | some iq =>
      obtain ⟨i, q⟩ := iq
      rw [hp] at p
      replace p : PostE c σ R H F Q (popC e1 i q (-1) (getE e1 i q)) := p
      obtain ⟨rfl, u, hu, k1⟩ := plc_ok rw1 hp
      rw [hK]
      have ty := isL_ok s1 (c := c) (i := i) (q := q) (by
        cases h4 : getE e1 i q with
        | none => rw [h4] at p; exact p.elim
        | some t0 =>
          cases t0 with
          | l ts => rfl
          | _ => rw [h4] at p; exact p.elim) hu k1
      obtain ⟨pa, vs, j, y, rfl, q2, h6, hy, hl, hq⟩ := pop_ok s1 hu k1 ex.zero p
      refine ⟨ty, pa, vs, y, rfl, rfl, q2, ?_, ?_⟩
      · unfold ixN at h6
        rw [if_neg (by omega)] at h6
        by_cases h0 : -(vs.length : Int) ≤ -1
        · rw [if_pos h0] at h6
          cases h6
          rw [show vs.length - 1 = ((-1 : Int) + (vs.length : Int)).toNat from by omega]; exact hy
        · rw [if_neg h0] at h6; cases h6
      · unfold ixN at h6
        rw [if_neg (by omega)] at h6
        by_cases h0 : -(vs.length : Int) ≤ -1
        · rw [if_pos h0] at h6
          cases h6
          rw [show ((-1 : Int) + (vs.length : Int)).toNat = vs.length - 1 from by omega, PyProof.Rows.Copied.eraseIdx_last] at hq; exact hq
        · rw [if_neg h0] at h6; cases h6
end
/-! ## xs.extend(ys) -/
theorem rpl_app {K : PySem.W.Frag} {R : RR} {H : Hp} {us : List T} {ws : List V} {G : List Addr} (h : RpL K R H us ws G) : ∀ {ts : List T} {vs : List V} {F : List Addr}, RpL K R H ts vs F → RpL K R H (ts ++ us) (vs ++ ws) (F ++ G)
  | [], vs, F, h' => by
    rw [h'.1, h'.2]; exact h
  | t :: ts, vs, F, h' => by
    obtain ⟨v, r, F1, F2, rfl, pm, h1, h2⟩ := h'
    exact ⟨v, r ++ ws, F1, F2 ++ G, rfl, by rw [← List.append_assoc]; exact pm.append_right G, h1, rpl_app h h2⟩
/-- the items of a list that is at hand, free to be put elsewhere -/
def itsP : Option T → Option (List T)
  | some (.l us) => if cpL us = true then some us else none
  | _ => none
def itsQ (e : Env) : Option (Rt × List Stp) → Option (List T)
  | some (i, q) => itsP (getE e i q)
  | none => none
def itsW (e : Env) : W → Option (List T)
  | .t (.l us) => some us
  | .b ds => some (ds.map T.d)
  | r => itsQ e (plc r)
theorem itsQ_ok {c : Ctx} {R : RR} {H : Hp} {e : Env} {σ : L2.St} {F G : List Addr} {r : W} {v : V} {us : List T} (s : Sr c R H e σ F) (rw_ : Rw c.K R H σ r v G) (h : itsQ e (plc r) = some us) : ∃ b zs G', v = .ref b ∧ H b = some (.lst zs) ∧ RpL c.K R H us zs G' ∧ (∀ a ∈ G', a ∈ G) ∧ G'.Nodup := by
  cases hp : plc r with
  | none => rw [hp] at h; cases h
  | some iq =>
    obtain ⟨i, q⟩ := iq
    rw [hp] at h
    obtain ⟨rfl, u, hu, k⟩ := plc_ok rw_ hp
    replace h : itsP (getE e i q) = some us := h
    cases h5 : getE e i q with
    | none => rw [h5] at h; cases h
    | some t0 =>
      cases t0 with
      | l ts =>
        rw [h5] at h
        replace h : (if cpL ts = true then some ts else none) = some us := h
        by_cases hc : cpL ts = true
        · rw [if_pos hc] at h
          cases h
          obtain ⟨pa, vs, rfl, q2, hl, ⟨Gw, hw⟩, _⟩ := sr_list (ts' := []) (Gt := []) s h5 hu k (by simpa using s.nd) (by simp) (by simp)
          exact ⟨pa, vs, [], rfl, q2, (cpl_up (RR.Le.refl R) us vs Gw hc hw).2, by simp, by simp⟩
        · rw [if_neg hc] at h; cases h
      | _ => rw [h5] at h; cases h
theorem itsW_ok {c : Ctx} {R : RR} {H : Hp} {e : Env} {σ : L2.St} {F G : List Addr} {r : W} {v : V} {us : List T} (s : Sr c R H e σ F) (rw_ : Rw c.K R H σ r v G) (nd : G.Nodup) (h : itsW e r = some us) : ∃ b zs G', v = .ref b ∧ H b = some (.lst zs) ∧ RpL c.K R H us zs G' ∧ (∀ a ∈ G', a ∈ G) ∧ G'.Nodup := by
  cases r with
  | t t =>
    cases t with
    | l ts =>
      cases (show some ts = some us from h)
      obtain ⟨p, vs, G', rfl, pm, h1, h2⟩ := rw_
      exact ⟨p, vs, G', rfl, h1, h2, fun a ha => pm.mem_iff.mpr (List.mem_cons_of_mem _ ha), (List.nodup_cons.mp (pm.nodup_iff.mp nd)).2⟩
    | r n => exact itsQ_ok s rw_ h
    | _ => cases h
  | b ds =>
    cases (show some (ds.map T.d) = some us from h)
    obtain ⟨rfl, p, vs, rfl, h1, h2⟩ := rw_
    exact ⟨p, vs, [], rfl, h1, rpl_d h2, by simp, by simp⟩
  | p i q => exact itsQ_ok s rw_ h
  | v x => cases h
def extE (e2 : Env) (i : Rt) (q : List Stp) (us : List T) : Option T → RV
  | some (.l ts) => if ts.length + us.length ≤ SZ then .ok .none false (setE e2 i q (.l (ts ++ us))) true else .no
  | _ => .no
def extD (e2 : Env) (i : Rt) (q : List Stp) : Option (List T) → RV
  | some us => extE e2 i q us (getE e2 i q)
  | none => .no
def extB (i : Rt) (q : List Stp) : Res → RV
  | .ok r e2 w2 => if stb w2 q = true then extD e2 i q (itsW e2 r) else .no
  | .er C fs e2 => .er C fs e2
  | .no => .no
def extL (dx : Env → Res) (e1 : Env) (i : Rt) (q : List Stp) : Bool → RV
  | true => extB i q (dx e1)
  | false => .no
def extP (dx : Env → Res) (e1 : Env) : Option (Rt × List Stp) → RV
  | some (i, q) => extL dx e1 i q (isL (getE e1 i q))
  | none => .no
def extA (dx : Env → Res) : Res → RV
  | .ok r e1 _ => extP dx e1 (plc r)
  | .er C fs e1 => .er C fs e1
  | .no => .no
def vExt (d : Env → Res) (dx : Env → Res) : Env → RV := fun e => extA dx (d e)
theorem x_ext {d dx : Env → Res} {e : Env} : vExt d dx e = extA dx (d e) := rfl
theorem extE_ok {e : Env} {i : Rt} {q : List Stp} {us ts : List T} (h : ts.length + us.length ≤ SZ) : extE e i q us (some (.l ts)) = .ok .none false (setE e i q (.l (ts ++ us))) true := if_pos h
section
variable {X : Cx} {c : Ctx} {a b : Expr} {d dx : Env → Res} {pos apos cpos : Pos}
theorem ve_extend (ha : PE X a (tD c d)) (hb : PE X b (tD c dx)) (hK : X.K = c.K := by rfl) (hbase : attributeBase a "extend" X.env (eval a X.env) = eval a X.env := by rfl)
    (hfew : ((backTo cpos (starEach [b] X.env)).all (fun x => !x.1) && (backToKw cpos (keywordEach [] X.env)).all (fun x => x.1.isSome)
      && decide ([b].length + ([] : List Keyword).length + (if ([] : List Keyword).isEmpty then 0 else 1) < 30)) = true := by rfl)
    (hline : (apos.endLine == cpos.line) = true := by rfl) (hs : starEach [b] X.env = (false, eval b X.env) :: starEach [] X.env := by rfl) (hplain : (backTo cpos (starEach [] X.env)).any (·.1) = false := by rfl) :
    PE X (.Call (.Attribute a "extend" apos) [b] [] cpos) (tV c (vExt d dx)) := by
  refine PE.imp (pe_bm PySem.F.plainAttrs_list PySem.F.slot_list_extend PySem.F.type_list_extend mt_extend ha (pa_cons hb pa_nil hs) hbase hfew hline hs hplain) fun σ H Q ⟨e, R, F, s, p⟩ => ⟨e, R, F, s, ?_⟩
  unfold vExt at p
  cases h1 : d e with
  | no => rw [h1] at p; exact p
  | er C fs e1 => rw [h1] at p; exact p
  | ok r e1 w =>
    rw [h1] at p
    intro R1 H1 F1 G v s1 rw1 nd rf ex hw
    replace p : PostV c σ R H F Q (extP dx e1 (plc r)) := p
    cases hp : plc r with
    | none => rw [hp] at p; exact p.elim
    | some iq =>
      obtain ⟨i, q⟩ := iq
      rw [hp] at p
      replace p : PostV c σ R H F Q (extL dx e1 i q (isL (getE e1 i q))) := p
      obtain ⟨rfl, u, hu, k1⟩ := plc_ok rw1 hp
      by_cases hL : isL (getE e1 i q) = true
      rotate_left
      · rw [Bool.eq_false_iff.mpr hL] at p; exact p.elim
      rw [hL] at p
      replace p : PostV c σ R H F Q (extB i q (dx e1)) := p
      rw [hK]
      have ty := isL_ok s1 hL hu k1
      refine ⟨ty, e1, R1, F1, s1, ?_⟩
      cases h2 : dx e1 with
      | no => rw [h2] at p; exact p.elim
      | er C fs e2 =>
        rw [h2] at p
        exact fun R2 H2 F2 dd s2 rx ex2 => p R2 H2 F2 dd s2 rx (ex.zero.trans ex2)
      | ok r2 e2 w2 =>
        rw [h2] at p
        intro R2 H2 F2 G2 y s2 rw2 nd2 rf2 ex2 hw2
        replace p : PostV c σ R H F Q (if stb w2 q = true then extD e2 i q (itsW e2 r2) else .no) := p
        by_cases hs : stb w2 q = true
        rotate_left
        · rw [if_neg hs] at p; exact p.elim
        rw [if_pos hs] at p
        cases h3 : itsW e2 r2 with
        | none => rw [h3] at p; exact p.elim
        | some us =>
          rw [h3] at p
          replace p : PostV c σ R H F Q (extE e2 i q us (getE e2 i q)) := p
          have nd3 := List.nodup_append.mp nd2
          obtain ⟨b1, zs, G', rfl, hb1, rz, g1, g2⟩ := itsW_ok s2 rw2 nd3.2.1 h3
          cases h4 : getE e2 i q with
          | none => rw [h4] at p; exact p.elim
          | some t0 =>
            cases t0 with
            | l ts =>
              rw [h4] at p
              replace p : PostV c σ R H F Q (if ts.length + us.length ≤ SZ then .ok .none false (setE e2 i q (.l (ts ++ us))) true else .no) := p
              by_cases hz : ts.length + us.length ≤ SZ
              · rw [if_pos hz] at p
                have k2 := stay hs (fun z => (hw2 z).1) k1
                obtain ⟨pa, vs, rfl, q2, hl, _, kk⟩ := sr_list (ts' := ts ++ us) (Gt := G') s2 h4 (rootV_up ex2.rr hu) k2 (List.nodup_append.mpr ⟨nd3.1, g2, fun x hx y hy => nd3.2.2 x hx y (g1 y hy)⟩) (fun a ha => rf2 a (g1 a ha)) (fun a ha => rpl_dom _ _ _ rz a ha)
                refine ⟨pa, b1, vs, zs, rfl, rfl, q2, hb1, by rw [hl, rpl_len rz, ← sz_eq]; exact hz, ?_⟩
                obtain ⟨F3, s3, f3, ex3⟩ := kk (vs ++ zs) fun Gw m3 n1 n2 => ⟨Gw ++ G', rpl_app rz m3, List.nodup_append.mpr ⟨n1, g2, fun a ha b hb z => n2 b hb (z ▸ ha)⟩, fun a ha => List.mem_append.mp ha⟩
                exact p R2 _ F3 .non s3 .non (Ex.upd (ex.zero.trans ex2) (fun a ha => (f3 a ha).elim .inl fun z => .inr (g1 a z)) ex3) (fun z => by cases z)
              · rw [if_neg hz] at p; exact p.elim
            | _ => rw [h4] at p; exact p.elim
end
theorem gc_lt {M : List T} {n : Nat} {t : T} (h : n < M.length) : (M.set n t)[n]? = some t := List.getElem?_set_self h
theorem itsW_p {e : Env} {i : Rt} {q : List Stp} : itsW e (.p i q) = itsP (getE e i q) := rfl
theorem itsW_r {e : Env} {n : Nat} : itsW e (.t (.r n)) = itsP (getE e (.c n) []) := rfl
theorem x_swp {dv : Env → RV} {d1 d2 : Env → Res} {k1 k2 : Env → RV} {e : Env} : sSwp dv d1 k1 d2 k2 e = swpA d1 k1 d2 k2 (dv e) := rfl
theorem cz {k : Nat} : (((k + 1 : Nat) : Int) = 0) = False := eq_false (by omega)
theorem cp0 {k : Nat} : (0 < ((k + 1 : Nat) : Int)) = True := eq_true (by omega)
theorem cn0 {k : Nat} : (0 ≤ (k : Int)) = True := eq_true (by omega)
theorem rngC_get {a b : Int} {n k : Nat} {x : PyData} (h : (rngC a b n)[k]? = some x) : k < n ∧ x = .int (a + (k : Nat) * b) := by
  unfold rngC at h
  rw [List.getElem?_map] at h
  obtain ⟨i, h1, rfl⟩ := Option.map_eq_some_iff.mp h
  obtain ⟨h2, h3⟩ := List.getElem?_eq_some_iff.mp h1
  rw [List.getElem_range] at h3
  rw [List.length_range] at h2
  exact ⟨h2, by rw [← h3]⟩
theorem for_outD {bd : T → Env → Out} {xs : List PyData} {e : Env} (I : Nat → Env → Prop) (Q : Out → Prop) (h0 : I 0 e) (hs : ∀ i x e, xs[i]? = some x → I i e → stO I Q i (bd (.d x) e)) (hd : ∀ e, I xs.length e → Q (.nx e)) : Q (forL bd (xs.map T.d) e) :=
  for_out I Q h0 (fun i x e q z => by
    rw [List.getElem?_map] at q
    obtain ⟨y, h1, rfl⟩ := Option.map_eq_some_iff.mp q
    exact hs i y e h1 z) (fun e z => hd e (by rw [List.length_map] at z; exact z))
theorem in_ti1 {neg : Bool} {x x0 : Int} : fIn neg (.int x) (.tuple [.int x0]) = some (.bool (neg ^^ (decide (x0 = x) || false))) := by
  rw [in_t rfl rfl]
  simp only [in_cons, in_nil, ev_i]
theorem in_li1 {neg : Bool} {x x0 : Int} : fIn neg (.int x) (.list [.int x0]) = some (.bool (neg ^^ (decide (x0 = x) || false))) := by
  rw [in_l rfl rfl]
  simp only [in_cons, in_nil, ev_i]
theorem in_ts1 {neg : Bool} {x x0 : String} : fIn neg (.str (Str.ofString x)) (.tuple [.str (Str.ofString x0)]) = some (.bool (neg ^^ (decide (x0 = x) || false))) := by
  rw [in_t rfl rfl]
  simp only [in_cons, in_nil, ev_s]
theorem in_ls1 {neg : Bool} {x x0 : String} : fIn neg (.str (Str.ofString x)) (.list [.str (Str.ofString x0)]) = some (.bool (neg ^^ (decide (x0 = x) || false))) := by
  rw [in_l rfl rfl]
  simp only [in_cons, in_nil, ev_s]
theorem in_ti2 {neg : Bool} {x x0 x1 : Int} : fIn neg (.int x) (.tuple [.int x0, .int x1]) = some (.bool (neg ^^ (decide (x0 = x) || (decide (x1 = x) || false)))) := by
  rw [in_t rfl rfl]
  simp only [in_cons, in_nil, ev_i]
theorem in_li2 {neg : Bool} {x x0 x1 : Int} : fIn neg (.int x) (.list [.int x0, .int x1]) = some (.bool (neg ^^ (decide (x0 = x) || (decide (x1 = x) || false)))) := by
  rw [in_l rfl rfl]
  simp only [in_cons, in_nil, ev_i]
theorem in_ts2 {neg : Bool} {x x0 x1 : String} : fIn neg (.str (Str.ofString x)) (.tuple [.str (Str.ofString x0), .str (Str.ofString x1)]) = some (.bool (neg ^^ (decide (x0 = x) || (decide (x1 = x) || false)))) := by
  rw [in_t rfl rfl]
  simp only [in_cons, in_nil, ev_s]
theorem in_ls2 {neg : Bool} {x x0 x1 : String} : fIn neg (.str (Str.ofString x)) (.list [.str (Str.ofString x0), .str (Str.ofString x1)]) = some (.bool (neg ^^ (decide (x0 = x) || (decide (x1 = x) || false)))) := by
  rw [in_l rfl rfl]
  simp only [in_cons, in_nil, ev_s]
theorem in_ti3 {neg : Bool} {x x0 x1 x2 : Int} : fIn neg (.int x) (.tuple [.int x0, .int x1, .int x2]) = some (.bool (neg ^^ (decide (x0 = x) || (decide (x1 = x) || (decide (x2 = x) || false))))) := by
  rw [in_t rfl rfl]
  simp only [in_cons, in_nil, ev_i]
theorem in_li3 {neg : Bool} {x x0 x1 x2 : Int} : fIn neg (.int x) (.list [.int x0, .int x1, .int x2]) = some (.bool (neg ^^ (decide (x0 = x) || (decide (x1 = x) || (decide (x2 = x) || false))))) := by
  rw [in_l rfl rfl]
  simp only [in_cons, in_nil, ev_i]
theorem in_ts3 {neg : Bool} {x x0 x1 x2 : String} : fIn neg (.str (Str.ofString x)) (.tuple [.str (Str.ofString x0), .str (Str.ofString x1), .str (Str.ofString x2)]) = some (.bool (neg ^^ (decide (x0 = x) || (decide (x1 = x) || (decide (x2 = x) || false))))) := by
  rw [in_t rfl rfl]
  simp only [in_cons, in_nil, ev_s]
theorem in_ls3 {neg : Bool} {x x0 x1 x2 : String} : fIn neg (.str (Str.ofString x)) (.list [.str (Str.ofString x0), .str (Str.ofString x1), .str (Str.ofString x2)]) = some (.bool (neg ^^ (decide (x0 = x) || (decide (x1 = x) || (decide (x2 = x) || false))))) := by
  rw [in_l rfl rfl]
  simp only [in_cons, in_nil, ev_s]
theorem in_ti4 {neg : Bool} {x x0 x1 x2 x3 : Int} : fIn neg (.int x) (.tuple [.int x0, .int x1, .int x2, .int x3]) = some (.bool (neg ^^ (decide (x0 = x) || (decide (x1 = x) || (decide (x2 = x) || (decide (x3 = x) || false)))))) := by
  rw [in_t rfl rfl]
  simp only [in_cons, in_nil, ev_i]
theorem in_li4 {neg : Bool} {x x0 x1 x2 x3 : Int} : fIn neg (.int x) (.list [.int x0, .int x1, .int x2, .int x3]) = some (.bool (neg ^^ (decide (x0 = x) || (decide (x1 = x) || (decide (x2 = x) || (decide (x3 = x) || false)))))) := by
  rw [in_l rfl rfl]
  simp only [in_cons, in_nil, ev_i]
theorem in_ts4 {neg : Bool} {x x0 x1 x2 x3 : String} : fIn neg (.str (Str.ofString x)) (.tuple [.str (Str.ofString x0), .str (Str.ofString x1), .str (Str.ofString x2), .str (Str.ofString x3)]) = some (.bool (neg ^^ (decide (x0 = x) || (decide (x1 = x) || (decide (x2 = x) || (decide (x3 = x) || false)))))) := by
  rw [in_t rfl rfl]
  simp only [in_cons, in_nil, ev_s]
theorem in_ls4 {neg : Bool} {x x0 x1 x2 x3 : String} : fIn neg (.str (Str.ofString x)) (.list [.str (Str.ofString x0), .str (Str.ofString x1), .str (Str.ofString x2), .str (Str.ofString x3)]) = some (.bool (neg ^^ (decide (x0 = x) || (decide (x1 = x) || (decide (x2 = x) || (decide (x3 = x) || false)))))) := by
  rw [in_l rfl rfl]
  simp only [in_cons, in_nil, ev_s]
theorem in_ti5 {neg : Bool} {x x0 x1 x2 x3 x4 : Int} : fIn neg (.int x) (.tuple [.int x0, .int x1, .int x2, .int x3, .int x4]) = some (.bool (neg ^^ (decide (x0 = x) || (decide (x1 = x) || (decide (x2 = x) || (decide (x3 = x) || (decide (x4 = x) || false))))))) := by
  rw [in_t rfl rfl]
  simp only [in_cons, in_nil, ev_i]
theorem in_li5 {neg : Bool} {x x0 x1 x2 x3 x4 : Int} : fIn neg (.int x) (.list [.int x0, .int x1, .int x2, .int x3, .int x4]) = some (.bool (neg ^^ (decide (x0 = x) || (decide (x1 = x) || (decide (x2 = x) || (decide (x3 = x) || (decide (x4 = x) || false))))))) := by
  rw [in_l rfl rfl]
  simp only [in_cons, in_nil, ev_i]
theorem in_ts5 {neg : Bool} {x x0 x1 x2 x3 x4 : String} : fIn neg (.str (Str.ofString x)) (.tuple [.str (Str.ofString x0), .str (Str.ofString x1), .str (Str.ofString x2), .str (Str.ofString x3), .str (Str.ofString x4)]) = some (.bool (neg ^^ (decide (x0 = x) || (decide (x1 = x) || (decide (x2 = x) || (decide (x3 = x) || (decide (x4 = x) || false))))))) := by
  rw [in_t rfl rfl]
  simp only [in_cons, in_nil, ev_s]
theorem in_ls5 {neg : Bool} {x x0 x1 x2 x3 x4 : String} : fIn neg (.str (Str.ofString x)) (.list [.str (Str.ofString x0), .str (Str.ofString x1), .str (Str.ofString x2), .str (Str.ofString x3), .str (Str.ofString x4)]) = some (.bool (neg ^^ (decide (x0 = x) || (decide (x1 = x) || (decide (x2 = x) || (decide (x3 = x) || (decide (x4 = x) || false))))))) := by
  rw [in_l rfl rfl]
  simp only [in_cons, in_nil, ev_s]
theorem in_ti6 {neg : Bool} {x x0 x1 x2 x3 x4 x5 : Int} : fIn neg (.int x) (.tuple [.int x0, .int x1, .int x2, .int x3, .int x4, .int x5]) = some (.bool (neg ^^ (decide (x0 = x) || (decide (x1 = x) || (decide (x2 = x) || (decide (x3 = x) || (decide (x4 = x) || (decide (x5 = x) || false)))))))) := by
  rw [in_t rfl rfl]
  simp only [in_cons, in_nil, ev_i]
theorem in_li6 {neg : Bool} {x x0 x1 x2 x3 x4 x5 : Int} : fIn neg (.int x) (.list [.int x0, .int x1, .int x2, .int x3, .int x4, .int x5]) = some (.bool (neg ^^ (decide (x0 = x) || (decide (x1 = x) || (decide (x2 = x) || (decide (x3 = x) || (decide (x4 = x) || (decide (x5 = x) || false)))))))) := by
  rw [in_l rfl rfl]
  simp only [in_cons, in_nil, ev_i]
theorem in_ts6 {neg : Bool} {x x0 x1 x2 x3 x4 x5 : String} : fIn neg (.str (Str.ofString x)) (.tuple [.str (Str.ofString x0), .str (Str.ofString x1), .str (Str.ofString x2), .str (Str.ofString x3), .str (Str.ofString x4), .str (Str.ofString x5)]) = some (.bool (neg ^^ (decide (x0 = x) || (decide (x1 = x) || (decide (x2 = x) || (decide (x3 = x) || (decide (x4 = x) || (decide (x5 = x) || false)))))))) := by
  rw [in_t rfl rfl]
  simp only [in_cons, in_nil, ev_s]
theorem in_ls6 {neg : Bool} {x x0 x1 x2 x3 x4 x5 : String} : fIn neg (.str (Str.ofString x)) (.list [.str (Str.ofString x0), .str (Str.ofString x1), .str (Str.ofString x2), .str (Str.ofString x3), .str (Str.ofString x4), .str (Str.ofString x5)]) = some (.bool (neg ^^ (decide (x0 = x) || (decide (x1 = x) || (decide (x2 = x) || (decide (x3 = x) || (decide (x4 = x) || (decide (x5 = x) || false)))))))) := by
  rw [in_l rfl rfl]
  simp only [in_cons, in_nil, ev_s]
/-- a walk over a list that is written out -/
def fwA (bd : T → Env → Out) (r : List T) : Out → Out
  | .nx e1 => forL bd r e1
  | .ct e1 => forL bd r e1
  | .bk e1 => .nx e1
  | .rt x e1 => .rt x e1
  | .er C fs e1 => .er C fs e1
  | .no => .no
theorem forL_nil {bd : T → Env → Out} {e : Env} : forL bd [] e = .nx e := rfl
theorem forL_c {bd : T → Env → Out} {x : T} {r : List T} {e : Env} : forL bd (x :: r) e = fwA bd r (bd x e) := by
  show (match bd x e with | .nx e1 => forL bd r e1 | .ct e1 => forL bd r e1 | .bk e1 => .nx e1 | o => o) = _
  cases bd x e <;> rfl
end En
namespace En
open PySem PySem.Spec PyProof.Rows L2
/-! ## list(reversed(a list)) -/
section
variable {prog : Program} {w : World} {A : Around} {E : Value → Shared → Prop} {s : Shared}
theorem init_rev {R : Result → Shared → Prop} {it l S : Addr} {items : Array Value} (hh : A.in1.handled = none) (hS : s.heap.get? S = some { cls := .type "list", data := .seq #[] }) (hit : s.heap.IsRevIter it l ((items.size : Int) - 1)) (hl : s.heap.IsList l items) (hne : l ≠ it) (hSi : S ≠ it) (hSl : S ≠ l) (hn : items.size ≤ sizeLine)
    (hR : ∀ (h' : Heap) (tk : Nat) (acc : Array Value) (c : Nat), (∀ b o, b ≠ it → b ≠ S → s.heap.get? b = some o → h'.get? b = some o) → h'.get? S = some { cls := .type "list", dict := none, data := .seq acc c, slots := #[] } → ItemsOf (fun i v => items[items.size - 1 - i]? = some v) acc items.size → R (.ok (.ret .none)) { s with heap := h', toks := tk }) :
    wpAny (model prog w) A.in1 (Builtin.«list.__init__» ⟨[.ref S, .ref it], []⟩)
      (fun fin s' => match fin with | .done f => R (.ok f) s' | .again c' => c'.quiet = true ∧ codeAny (model prog w) A c' R s') (fun e s' => R (.error e) s') s := by
  have W := (Walks.listRev (prog := prog) (w := w) (A := A.in1) hh it l hne items).toS
  have hSf : S ∉ [it, l] := by simp only [List.mem_cons, List.not_mem_nil, or_false, not_or]; exact ⟨hSi, hSl⟩
  show wpAny _ A.in1 (do let old ← Builtin.List.listItems (.ref S); Builtin.List.listUpdate (.ref S) (fun _ => #[]); letGo old.toList.reverse; Builtin.List.listExtendWith (.ref S) (.ref it) .none) _ _ s
  refine wpAny_bind ?_
  unfold Builtin.List.listItems
  refine wpAny_bind (wpAny_seqItems hS rfl (wpAny_pure ?_))
  show wpAny _ A.in1 (updateSeq S (fun _ => #[]) >>= fun _ => letGo (#[] : Array Value).toList.reverse >>= fun _ => Builtin.List.listExtendWith (.ref S) (.ref it) .none) _ _ s
  refine wpAny_bind (wpAny_updateSeq hS rfl ?_)
  have hS₂ := Heap.get?_update_self (Obj.mapSeq (fun _ => (#[] : Array Value))) hS rfl
  have oth : ∀ b o, b ≠ S → s.heap.get? b = some o → (s.heap.update S (Obj.mapSeq (fun _ => (#[] : Array Value)))).get? b = some o :=
    fun b o hb e => (Heap.get?_update_other _ _ (Ne.symm hb)).trans e
  refine wpAny_bind (wpAny_letGo ?_)
  have hit1 : (s.heap.update S (Obj.mapSeq (fun _ => (#[] : Array Value)))).IsRevIter it l ((items.size : Int) - 1) := hit.at fun o e => oth it o (Ne.symm hSi) e
  have hl1 : (s.heap.update S (Obj.mapSeq (fun _ => (#[] : Array Value)))).IsList l items := hl.at fun o e => oth l o (Ne.symm hSl) e
  have hT : ({ s with heap := s.heap.update S (Obj.mapSeq (fun _ => (#[] : Array Value))) } : Shared).TypeIs (.ref it) "list_reverseiterator" := Heap.IsRevIter.typeIs (s := { s with heap := s.heap.update S (Obj.mapSeq (fun _ => (#[] : Array Value))) }) hit1
  have h1 : Builtin.List.listSameRef (.ref S) (.ref it) = false := by simp [Builtin.List.listSameRef, hSi]
  unfold Builtin.List.listExtendWith
  refine wpAny_bind (wpAny_typeOf hT ?_)
  rw [if_neg (by rw [h1]; decide)]
  refine wpAny_bind (wpAny_pyIter_revIter (s := { s with heap := s.heap.update S (Obj.mapSeq (fun _ => (#[] : Array Value))) }) hit1 ?_)
  refine wpAny_bind (wpAny_holding ?_)
  unfold Builtin.List.listLengthHint
  refine wpAny_bind (wpAny_specialOf hT RT.nolen_lri ?_)
  show wpAny _ A.in1 (specialOf (Value.ref it) (Str.ofString "__length_hint__") >>= _) _ _ _
  refine wpAny_bind (wpAny_specialOf hT RT.hint_lri ?_)
  generalize hid : ("list_reverseiterator.__length_hint__" : String) = id0
  wp_delta
  rw [show splitId id0 = some ("list_reverseiterator", "__length_hint__") from by subst hid; decide +kernel]
  subst hid
  refine wpAny_bind (wpAny_isInstance (b := true) hT (by rw [isSubtype_type]; kernel_rfl) ?_)
  refine wpAny_pure ?_
  rw [if_neg (by decide)]
  have e0 : ((items.size : Nat) : Int) - 1 - ((0 : Nat) : Int) = (items.size : Int) - 1 := by omega
  refine wpAny_pure ⟨plainId_quiet F.plain_extend_loop _, codeAny_extend_loopS W hn _ hSf _ items.size 0 _ _ _ rfl (Nat.zero_le _) ⟨Nat.zero_le _, by rw [e0]; exact hit1, hl1⟩ hS₂ (ItemsOf.nil _) fun s' acc' c' hm hS' hacc => ?_⟩
  rw [Moved.eq_with hm]
  refine hR s'.heap s'.toks acc' c' (fun b o hb hb2 e => hm.heap b o (fun hmem => ?_) (oth b o hb2 e)) hS' hacc
  rcases List.mem_cons.mp hmem with e' | hmem
  · exact hb2 e'
  · exact hb (List.mem_singleton.mp hmem)
theorem call_list_rev {it l : Addr} {items : Array Value} {Q : Value → Shared → Prop} (hh : A.handled = none) (hit : s.heap.IsRevIter it l ((items.size : Int) - 1)) (hl : s.heap.IsList l items) (hne : l ≠ it) (hn : items.size ≤ sizeLine)
    (hQ : ∀ (h' : Heap) (tk : Nat) (acc : Array Value) (c : Nat), (∀ b o, b ≠ it → s.heap.get? b = some o → h'.get? b = some o) → h'.get? s.heap.objs.size = some { cls := .type "list", dict := none, data := .seq acc c, slots := #[] } → ItemsOf (fun i v => items[items.size - 1 - i]? = some v) acc items.size →
      Q (.ref s.heap.objs.size) { s with heap := h', toks := tk }) :
    wpAny (model prog w) A (call (.type "list") [.ref it]) Q E s := by
  obtain ⟨oi, hoi, _⟩ := id hit
  obtain ⟨ol, hol, _⟩ := id hl
  have hSi : s.heap.objs.size ≠ it := Nat.ne_of_gt (Heap.lt_size hoi)
  have hSl : s.heap.objs.size ≠ l := Nat.ne_of_gt (Heap.lt_size hol)
  refine callType_codes (Q₁ := fun obj s₁ => obj = .ref s.heap.objs.size ∧ s₁ = { s with heap := s.heap.push { cls := .type "list", data := .seq #[] } }) F.called_list (F.typeCall_list_1 _) F.entry_list_init
    (code_list_new _ ⟨rfl, rfl⟩) fun obj s₁ h₁ => ?_
  obtain ⟨rfl, rfl⟩ := h₁
  have hS : (s.heap.push { cls := .type "list", data := .seq #[] }).get? s.heap.objs.size = some { cls := .type "list", data := .seq #[] } := Heap.get?_push_size _ rfl
  refine ⟨⟨_, hS, rfl⟩, F.args_list_init_2 _ _, init_rev (A := A.in1) hh hS (hit.at fun o e => Heap.get?_push_of_some _ e) (hl.push _) hne hSi hSl hn fun h' tk acc c k hS' hacc => ?_⟩
  refine ⟨rfl, hQ h' tk acc c (fun b o hb e => k b o hb (fun z => ?_) (Heap.get?_push_of_some _ e)) hS' hacc⟩
  subst z
  exact Nat.lt_irrefl _ (Heap.lt_size e)
end
section
variable {X : Cx}
theorem pe_listRev {e : Expr} {te : TE} {p p2 pos pos2 : Pos} (hc : X.calm = true) (hg : Gl X "list") (hm : X.mg "list" = none) (hg2 : Gl X "reversed") (hm2 : X.mg "reversed" = none) (he : PE X e te)
    (hs : starEach [e] X.env = (false, eval e X.env) :: starEach [] X.env := by rfl)
    (hs2 : starEach [.Call (.Name "reversed" p2) [e] [] pos2] X.env = (false, eval (.Call (.Name "reversed" p2) [e] [] pos2) X.env) :: starEach [] X.env := by rfl) :
    PE X (.Call (.Name "list" p) [.Call (.Name "reversed" p2) [e] [] pos2] [] pos) (fun σ H Q => te σ H fun v H1 => ∃ (a : Addr) (xs : List V), v = .ref a ∧ SqL X.K H1 a xs ∧ ∀ q, H1 q = none → Q (.ref q) (upd H1 q (.lst xs.reverse))) := by
  refine ⟨fun pins s σ H Q I h => ?_⟩
  refine Call_ (ld_blt I hg hm boot_list (PyProof.Rows.callWith_type1 (args_cons (Call_ (ld_blt I hg2 hm2 PyProof.Rows.boot_reversed (PyProof.Rows.callWith_type1 (args_cons (thn (he.run pins s σ H _ I h) fun u s1 ⟨v, H1, I1, r1, q1⟩ => args_nil ?_) hs) hs rfl))) hs2) hs2 rfl))
  obtain ⟨a, xs, ev, hq, q⟩ := q1
  subst ev
  obtain rfl : u = Value.ref a := r1
  obtain ⟨its, rv, p', hz⟩ := I1.list hq
  refine call_reversed_list p'.isList (args_nil ?_)
  have k0 : ∀ b o, s1.heap.get? b = some o → (s1.heap.push (revObj a ((its.toArray.size : Int) - 1))).get? b = some o := fun b o e => Heap.get?_push_of_some _ e
  have I2 : Inv X pins σ H1 { s1 with heap := s1.heap.push (revObj a ((its.toArray.size : Int) - 1)) } := I1.kept (t' := s1.toks) k0
  have fp := I1.fpOk (H' := H1) (b := s1.heap.objs.size) (Nat.le_refl _) (I1.hok.fresh (Nat.le_refl _))
  have hl := p'.isList
  obtain ⟨ol, hol, _⟩ := id hl
  have hne : a ≠ s1.heap.objs.size := Nat.ne_of_lt (Heap.lt_size hol)
  have hn : its.toArray.size ≤ sizeLine := by rw [List.size_toArray, ← rv.length]; exact hz
  refine call_list_rev (s := { s1 with heap := s1.heap.push (revObj a ((its.toArray.size : Int) - 1)) }) (I1.ok.hd hc) ⟨_, Heap.get?_push_size _ rfl, rfl, rfl⟩ (hl.push _) hne hn fun h' tk acc c hk hS hi => ?_
  have fr : H1 (s1.heap.push (revObj a ((its.toArray.size : Int) - 1))).objs.size = none := I2.hok.fresh (Nat.le_refl _)
  have I3 := I2.turnedNew (t' := tk) (ch := [s1.heap.objs.size]) (T := (s1.heap.push (revObj a ((its.toArray.size : Int) - 1))).objs.size) (ob := .lst xs.reverse) (h' := h') (fun b o hb e => hk b o (fun z => hb (by simp [z])) e) (fun b hb => by
    simp only [List.mem_cons, List.not_mem_nil, or_false] at hb
    subst hb
    exact fp) (Nat.le_refl _) (show ObjOk X.prog X.w _ _ _ (.lst xs.reverse) from ⟨by rw [List.length_reverse]; exact hz, acc.toList, c, RT.vals_rev rv hi, by rw [Array.toArray_toList]; exact hS⟩)
  exact ⟨.ref (s1.heap.push (revObj a ((its.toArray.size : Int) - 1))).objs.size, _, I3, rfl, q _ fr⟩
end
theorem de_lsRv {X : Cx} {c : Ctx} {e : Expr} {d : Env → RV} {p p2 pos pos2 : Pos} (hc : X.calm = true) (hg : Gl X "list") (hm : X.mg "list" = none) (hg2 : Gl X "reversed") (hm2 : X.mg "reversed" = none) (he : PE X e (tV c d)) (hK : X.K = c.K := by rfl) (hs : starEach [e] X.env = (false, eval e X.env) :: starEach [] X.env := by rfl)
    (hs2 : starEach [.Call (.Name "reversed" p2) [e] [] pos2] X.env = (false, eval (.Call (.Name "reversed" p2) [e] [] pos2) X.env) :: starEach [] X.env := by rfl) :
    PE X (.Call (.Name "list" p) [.Call (.Name "reversed" p2) [e] [] pos2] [] pos) (tD c (d1L fRv d)) := by
  refine PE.imp (pe_listRev hc hg hm hg2 hm2 he hs hs2) fun σ H Q h => ?_
  rw [hK]
  exact d1L_ok sl_rev h
end En
namespace Lw
open PySem PySem.Spec PyProof.Rows L2 En
def topS (i : Nat) : Stmt := PySem.Challenge.pw_mobileair_k50_access.main.body.getD i (.Pass ⟨0, 0, 0, 0⟩)
abbrev s_may_ask : Stmt := topS 3
abbrev s_heard : Stmt := topS 4
abbrev s__law_mixed : Stmt := topS 6
abbrev s__law_heard : Stmt := topS 7
abbrev s__law_asks : Stmt := topS 8
abbrev s_law : Stmt := topS 9
theorem sc_may_ask : FnScope ["number", "tries", "tick"] ["number", "tries", "tick"] (defScope s_may_ask) := ⟨rfl, rfl, rfl, by decide +kernel, rfl, by decide +kernel, by decide +kernel⟩
theorem sc_heard : FnScope ["asks", "phone", "level", "others", "other", "loud"] ["asks"] (defScope s_heard) := ⟨rfl, rfl, rfl, by decide +kernel, rfl, by decide +kernel, by decide +kernel⟩
theorem sc__law_mixed : FnScope ["cell", "turn", "value", "first", "second", "third"] ["cell", "turn"] (defScope s__law_mixed) := ⟨rfl, rfl, rfl, by decide +kernel, rfl, by decide +kernel, by decide +kernel⟩
theorem sc__law_heard : FnScope ["asks", "k", "ahead", "j"] ["asks"] (defScope s__law_heard) := ⟨rfl, rfl, rfl, by decide +kernel, rfl, by decide +kernel, by decide +kernel⟩
theorem sc__law_asks : FnScope ["value", "many", "asks", "level", "k", "step", "turn"] ["value"] (defScope s__law_asks) := ⟨rfl, rfl, rfl, by decide +kernel, rfl, by decide +kernel, by decide +kernel⟩
theorem sc_law : FnScope ["script", "turn", "cell", "value", "asks", "at", "kept", "back", "tick", "many", "number", "free", "later"] ["script"] (defScope s_law) := ⟨rfl, rfl, rfl, by decide +kernel, rfl, by decide +kernel, by decide +kernel⟩
structure BI (mg : Str → Option Value) : Prop where
  all_ : mg "all" = none
  int_ : mg "int" = none
  len_ : mg "len" = none
  range_ : mg "range" = none
  min_ : mg "min" = none
  max_ : mg "max" = none
  enumerate_ : mg "enumerate" = none
  list_ : mg "list" = none
  isinstance_ : mg "isinstance" = none
  bool_ : mg "bool" = none
  reversed_ : mg "reversed" = none
structure CI (K : PySem.W.Frag) (mg : Str → Option Value) : Prop where
  g_MOST_PHONES : ∃ t, mg "MOST_PHONES" = some (.int 8 t)
  g_CAPTURE : ∃ t, mg "CAPTURE" = some (.int 8 t)
def b_may_ask : En.Env → Out :=
    (sRetV (vOr (v2 fEq (vVar 1) (vC (.int 0))) (v2 fEq (v2 fMod (vVar 2) (vC (.int 8))) (vVar 0))))
def f_may_ask : List T → List T → FO := fnD ["number", "tries", "tick"].length b_may_ask
def b_heard_1 : En.Env → Out :=
    (sSeq (sSetV 3 (vD (dLc (iP (vVar 0)) [4, 5] (tgT [4, 5]) (v2 fNe (vVar 4) (vVar 1)) (vVar 5))))
    (sIf (v1 fAll (vD (dLc (iP (vVar 3)) [5] (tgN 5) (vC (.bool true)) (v2 fGe (vVar 2) (v2 fAdd (vVar 5) (vC (.int 8)))))))
    (sRetV (vVar 1))
    sNil))
def b_heard : En.Env → Out :=
    (sSeq (sFor (iP (vVar 0)) (tgT [1, 2]) b_heard_1)
    (sRetV (vC .none)))
def f_heard : List T → List T → FO := fnD ["asks", "phone", "level", "others", "other", "loud"].length b_heard
def b__law_mixed : En.Env → Out :=
    (sSeq (sSetV 2 (v1 fInt (vVar 0)))
    (sSeq (sIf (v2 fGe (vVar 2) (v2 fPow (vC (.int 10)) (vC (.int 18))))
    (sRetV (vVar 2))
    sNil)
    (sSeq (sSetV 3 (v2 fMod (v2 fAdd (v2 fMul (v2 fMod (vVar 2) (vC (.int 1000003))) (vC (.int 48271))) (v2 fMul (vC (.int 69621)) (v2 fAdd (vVar 1) (vC (.int 1))))) (vC (.int 2147483647))))
    (sSeq (sSetV 4 (v2 fMod (v2 fAdd (v2 fMul (vVar 3) (vC (.int 48271))) (v2 fMod (vVar 2) (vC (.int 999983)))) (vC (.int 2147483647))))
    (sSeq (sSetV 5 (v2 fMod (v2 fAdd (v2 fMul (vVar 4) (vC (.int 69621))) (vVar 3)) (vC (.int 2147483647))))
    (sRetV (v2 fAdd (v2 fAdd (vVar 3) (v2 fMul (vC (.int 2147483647)) (vVar 4))) (v2 fMul (vC (.int 4611686014132420609)) (vVar 5)))))))))
def f__law_mixed : List T → List T → FO := fnD ["cell", "turn", "value", "first", "second", "third"].length b__law_mixed
def b__law_heard_1 : En.Env → Out :=
    (sIf (vAnd (v2 fNe (vVar 3) (vVar 1)) (v2 fLt (v2 fSub (v2 fIx (v2 fIx (vVar 0) (vVar 1)) (vC (.int 1))) (v2 fIx (v2 fIx (vVar 0) (vVar 3)) (vC (.int 1)))) (vC (.int 8))))
    (sSetV 2 (vC (.bool false)))
    sNil)
def b__law_heard_2 : En.Env → Out :=
    (sSeq (sSetV 2 (vC (.bool true)))
    (sSeq (sFor (iRg1 (v1 fLen (vVar 0))) (tgN 3) b__law_heard_1)
    (sIf (vVar 2)
    (sRetV (v2 fIx (v2 fIx (vVar 0) (vVar 1)) (vC (.int 0))))
    sNil)))
def b__law_heard : En.Env → Out :=
    (sSeq (sFor (iRg1 (v1 fLen (vVar 0))) (tgN 1) b__law_heard_2)
    (sRetV (vC .none)))
def f__law_heard : List T → List T → FO := fnD ["asks", "k", "ahead", "j"].length b__law_heard
def b__law_asks_1 : En.Env → Out :=
    (sSeq (sExp (vApp (dVar 2) (dV (vTup [(v2 fMod (v2 fAdd (v2 fMul (vVar 4) (vC (.int 3))) (v2 fDiv (vVar 0) (vC (.int 512)))) (vC (.int 8))), (v2 fMin (vVar 3) (vC (.int 63)))]))))
    (sSeq (sSetV 5 (v2 fMod (v2 fDiv (vVar 0) (v2 fAdd (vC (.int 512)) (v2 fMul (vC (.int 97)) (vVar 4)))) (vC (.int 5))))
    (sSetV 3 (v2 fMax (vC (.int 0)) (v2 fSub (vVar 3) (v2 fIx (vD (dLst [(vC (.int 0)), (vC (.int 7)), (vC (.int 8)), (vC (.int 9)), (vC (.int 20))])) (vVar 5)))))))
def b__law_asks : En.Env → Out :=
    (sSeq (sSetV 1 (v2 fAdd (vC (.int 1)) (v2 fMod (vVar 0) (vC (.int 8)))))
    (sSeq (sSet 2 (dLst []))
    (sSeq (sSetV 3 (v2 fMod (v2 fDiv (vVar 0) (vC (.int 8))) (vC (.int 64))))
    (sSeq (sFor (iRg1 (vVar 1)) (tgN 4) b__law_asks_1)
    (sSeq (sSetV 6 (v2 fMod (v2 fDiv (vVar 0) (vC (.int 4096))) (vVar 1)))
    (sRet (d2L fCat (vSlP (vD (dVar 2)) (some (vVar 6)) none) (vSlP (vD (dVar 2)) none (some (vVar 6))))))))))
def f__law_asks : List T → List T → FO := fnD ["value", "many", "asks", "level", "k", "step", "turn"].length b__law_asks
def b_law_1 : En.Env → Out :=
    (sSeq (sSetV 11 (vD (dCall f_may_ask [(dVar 10), (dV (vC (.int 0))), (dVar 8)])))
    (sSeq (sSetV 12 (vD (dCall f_may_ask [(dVar 10), (dV (v2 fAdd (vC (.int 1)) (v2 fMod (vVar 3) (vC (.int 2))))), (dVar 8)])))
    (sSeq (sIf (vOr (v2 fNotB (vVar 11) (vC (.bool true))) (vOr (vNot (v1 (fIsi "bool") (vVar 12))) (v2 fNe (vVar 12) (v2 fEq (v2 fMod (vVar 8) (vC (.int 8))) (vVar 10)))))
    (sRetV (vC (.bool false)))
    sNil)
    (sSetV 9 (v2 fAdd (vVar 9) (v1 fInt (vVar 12)))))))
def b_law_2 : En.Env → Out :=
    (sSeq (sSetV 3 (vD (dCall f__law_mixed [(dVar 2), (dVar 1)])))
    (sSeq (sSet 4 (dCall f__law_asks [(dVar 3)]))
    (sSeq (sSetV 5 (v2 fMod (v2 fDiv (vVar 3) (vC (.int 11))) (v1 fLen (vD (dVar 4)))))
    (sSeq (sSwp (vTup [(vD (dPix (dVar 4) (vVar 5))), (vD (dPix (dVar 4) (vC (.int 0))))]) (dVar 4) (vC (.int 0)) (dVar 4) (vVar 5))
    (sSeq (sSetV 6 (vD (d1L fLs (vD (dVar 4)))))
    (sSeq (sSetV 7 (vD (dCall f_heard [(dVar 6)])))
    (sSeq (sIf (vOr (v1 (fIsi "bool") (vVar 7)) (vOr (v2 fNe (vVar 7) (vD (dCall f__law_heard [(dV (vFrz 4))]))) (v2 fNe (vVar 6) (vD (dVar 4)))))
    (sRetV (vC (.bool false)))
    sNil)
    (sSeq (sIf (v2 fNe (vD (dCall f_heard [(d1L fRv (vD (dVar 4)))])) (vVar 7))
    (sRetV (vC (.bool false)))
    sNil)
    (sSeq (sSetV 8 (v2 fDiv (vVar 3) (vC (.int 3))))
    (sSeq (sIf (v2 fLt (vVar 8) (vC (.int 0)))
    (sSetV 8 (v1 fNeg (vVar 8)))
    sNil)
    (sSeq (sSetV 9 (vC (.int 0)))
    (sSeq (sFor (iRg1 (vC (.int 8))) (tgN 10) b_law_1)
    (sIf (v2 fNe (vVar 9) (vC (.int 1)))
    (sRetV (vC (.bool false)))
    sNil)))))))))))))
def b_law : En.Env → Out :=
    (sSeq (sIf (v2 fNotN (vD (dCall f_heard [(dLst [])])) (vC .none))
    (sRetV (vC (.bool false)))
    sNil)
    (sSeq (sFor (iEn (vSlP (vVar 0) none (some (vC (.int 40))))) (tgT [1, 2]) b_law_2)
    (sRetV (vC (.bool true)))))
def f_law : List T → List T → FO := fnD ["script", "turn", "cell", "value", "asks", "at", "kept", "back", "tick", "many", "number", "free", "later"].length b_law
/-! ### _law_mixed -/
def mixF (c t : Int) : Int := (c % 1000003 * 48271 + 69621 * (t + 1)) % 2147483647
def mixS (c t : Int) : Int := (mixF c t * 48271 + c % 999983) % 2147483647
def mixT (c t : Int) : Int := (mixS c t * 69621 + mixF c t) % 2147483647
/-- what is made of a cell -/
def mixed (c t : Int) : Int := if 1000000000000000000 ≤ c then c else mixF c t + 2147483647 * mixS c t + 4611686014132420609 * mixT c t
theorem mixed_nn (c t : Int) : 0 ≤ mixed c t := by
  unfold mixed mixT mixS mixF
  split <;> omega
theorem f_mixed (c t : Int) (m : List T) : f__law_mixed [.d (.int c), .d (.int t)] m = .rt (.d (.int (mixed c t))) m := by
  unfold f__law_mixed
  simp (disch := (first | with_reducible assumption | omega | (simp only [iL_len, rngD_len, rngC_len, List.length_append, List.length_replicate, List.length_cons, List.length_nil, List.length_map, List.length_take, List.length_drop, List.length_range, SZ] <;> omega) | (simp only [iL_len, rngD_len, rngC_len, List.length_append, List.length_replicate, List.length_cons, List.length_nil, List.length_map, List.length_take, List.length_drop, List.length_range, SZ] at * <;> omega) | fail)) only [↓x_seq, ↓x_nil, ↓x_if, ↓x_set, ↓x_setV, ↓x_asg, ↓x_exp, ↓x_ret, ↓x_retV, ↓x_retN, ↓x_brk, ↓x_cnt, ↓x_for, ↓x_bdy, ↓x_C, ↓x_var, ↓x_dvar, ↓x_v1, ↓x_v2, ↓x_d1L, ↓x_d2L, ↓x_and, ↓x_or, ↓x_not, ↓x_ifx, ↓x_args0, ↓x_args1, ↓x_tup, ↓x_lst, ↓x_call, ↓x_vD, ↓x_dV, ↓x_slP, ↓x_opt0, ↓x_opt1, ↓x_iP, ↓x_rg1, ↓x_rg2, ↓x_rg3, ↓x_en, ↓x_zp, ↓x_rv, ↓x_ch, ↓x_lc, ↓x_aug, ↓x_app, ↓x_put, ↓x_pix, ↓x_try, ↓x_rep, ↓x_raise0, y_sq, y_sif, y_retV, y_setV, y_toV, y_ofV, y_orw, y_and, y_or, y_not, y_v1, y_v2a, y_v2b, y_finW, y_calB, sq_nx, sq_rt, sq_bk, sq_ct, sq_er, sq_no, dataL_d, allD_d, fnD, SZ, List.getElem?_cons_zero, List.getElem?_cons_succ, List.getElem?_nil, List.set_cons_zero, List.set_cons_succ, List.map_cons, List.map_nil, List.length_cons, List.length_nil, List.length_map, List.length_append, List.cons_append, List.nil_append, List.append_nil, Nat.reduceAdd, Nat.reduceSub, Nat.zero_add, Nat.add_zero, Option.map_some, Option.map_none, Option.getD_some, Option.getD_none, Bool.false_eq_true, Bool.true_eq_false, Bool.and_false, Bool.false_and, Bool.and_true, Bool.true_and, Bool.or_false, Bool.false_or, Bool.or_true, Bool.true_or, Bool.not_true, Bool.not_false, if_true, if_false, ite_true, ite_false, decide_eq_true_eq, Bool.and_eq_true, Bool.or_eq_true, Bool.not_eq_true', decide_eq_false_iff_not, decide_true, decide_false, true_and, and_true, reduceCtorEq, Int.reduceNeg, Int.reduceLT, Int.reduceLE, Int.reduceToNat, Nat.reduceLeDiff, Int.reduceAbs, Int.reduceSub, Int.reduceAdd, Int.reduceMul, Int.reduceEq, Nat.reduceMul, Nat.reduceEqDiff, Nat.reduceLT, Nat.reducePow, Int.reducePow, ↓reduceIte, ite_not, sif.eq_1, sif.eq_3, sif.eq_4, andA.eq_1, andA.eq_3, andA.eq_4, orA.eq_1, orA.eq_3, orA.eq_4, notA.eq_1, notA.eq_3, notA.eq_4, ifA.eq_1, ifA.eq_3, ifA.eq_4, orw.eq_1, orw.eq_2, orw.eq_3, v1r.eq_1, v1r.eq_2, v1a.eq_1, v1a.eq_2, v1a.eq_3, v2a.eq_1, v2a.eq_2, v2a.eq_3, v2b.eq_1, v2b.eq_2, v2b.eq_3, dlr.eq_1, dlr.eq_2, d1a.eq_1, d1a.eq_2, d1a.eq_3, d2a.eq_1, d2a.eq_2, d2a.eq_3, d2b.eq_1, d2b.eq_2, d2b.eq_3, ar1.eq_1, ar1.eq_2, ar1.eq_3, ar1.eq_4, ar2.eq_1, ar2.eq_2, ar2.eq_3, tupA.eq_1, tupA.eq_2, tupA.eq_3, lstA.eq_1, lstA.eq_2, lstA.eq_3, calA.eq_1, calA.eq_2, calA.eq_3, calB.eq_1, calB.eq_2, calB.eq_3, wOf.eq_1, varV.eq_1, varR.eq_1, varR.eq_2, varD.eq_1, setA.eq_1, setA.eq_2, setA.eq_4, setA.eq_5, setVA.eq_1, setVA.eq_2, setVA.eq_3, setVA.eq_4, asgA.eq_1, asgA.eq_2, asgA.eq_3, asgA.eq_4, asgB.eq_1, asgB.eq_2, expA.eq_1, expA.eq_2, expA.eq_3, retA.eq_1, retA.eq_2, retA.eq_3, retVA.eq_1, retVA.eq_2, retVA.eq_3, retVA.eq_4, forA.eq_1, forA.eq_2, forA.eq_3, sl0.eq_1, sl0.eq_2, sl0.eq_3, sl1.eq_1, sl1.eq_2, sl2.eq_1, sl2.eq_2, sl3.eq_1, sl3.eq_2, optA.eq_1, bdyA.eq_1, bdyA.eq_2, iPA.eq_1, iPA.eq_2, iPA.eq_3, iPA.eq_5, iPA.eq_6, enA.eq_1, enA.eq_3, enA.eq_4, zpA.eq_1, zpA.eq_3, zpA.eq_4, rvA.eq_1, rvA.eq_3, rvA.eq_4, ch1.eq_1, ch1.eq_2, ch1.eq_3, ch2.eq_1, ch2.eq_2, ch2.eq_3, chA.eq_1, chB.eq_1, chB.eq_2, chB.eq_3, chC.eq_1, chC.eq_2, lc0.eq_2, lc0.eq_3, lcA.eq_1, lcA.eq_2, augA.eq_1, augB.eq_1, augB.eq_3, augB.eq_4, appA.eq_1, appB.eq_1, appB.eq_2, appB.eq_3, putA.eq_1, putA.eq_2, putA.eq_3, putA2.eq_1, putA2.eq_2, putB.eq_1, putC.eq_1, putD.eq_1, pixA.eq_1, pixA2.eq_1, pixB.eq_1, tryA.eq_1, tryB.eq_1, tryB.eq_2, tryB.eq_3, noEr.eq_1, repA.eq_1, repA2.eq_1, repA2.eq_2, repB.eq_1, rdT.eq_1, rdT.eq_2, toV.eq_1, toV.eq_2, toV.eq_3, toV.eq_4, toV.eq_5, toV.eq_6, ofV.eq_1, ofV.eq_2, ofV.eq_4, ofV.eq_5, tOf.eq_1, tOf.eq_2, isL.eq_1, getT.eq_1, getT.eq_2, getT.eq_3, setT.eq_1, setT.eq_2, setT.eq_3, T.data.eq_1, T.data.eq_2, finW.eq_1, finW.eq_2, finW.eq_3, finW.eq_4, finW.eq_6, tgS.eq_1, wipeE.eq_1, fAdd.eq_1, fAdd.eq_2, fI2.eq_1, fB2.eq_1, fU.eq_1, fLen.eq_1, fLen.eq_2, fLen.eq_3, fIx.eq_1, fIx.eq_2, fIx.eq_3, fIsN.eq_1, fNotN.eq_1, isNone.eq_1, fInt.eq_1, fInt.eq_2, fInt.eq_3, fLs.eq_1, fLs.eq_2, fTp.eq_1, fTp.eq_2, fSlP.eq_3, wOf_l, wOf_o, tryA_nx, tryA_rt, tryA_bk, tryA_ct, noEr_nx, noEr_rt, noEr_bk, noEr_ct, isNone_i, isNone_b, isNone_s, isNone_l, isNone_t, iL_app, iL_len, iL_rep, iL_rev, allD_iL, dataL_iL, q_int, q_t, q_l, n_t, n_l, n_int, q_self, n_self, s_to, s_from, s_mid, sl_to, sl_from, sl_mid, add_t, add_l, cat_l, isi_t, isi_b, isi_i, isi_l, isi_s, at_0, at_1, at_2, at_3, at_4, at_5, at_6, ai_0, ai_1, ai_2, ai_3, ai_4, ai_5, ai_6, tgN_a, tgT_a, apd_ok, lc_ok, rg1_ok, rg2_ok, iL_snoc, iL_mapd, lc_const, rngD_len, iL_take, iL_drop, Int.toNat_natCast, dataL_nil, dataL_cons, allD.eq_1, allD.eq_2, ixN_ok, rep_l, tgS_nil, rep_none, rep_none0, List.take_left, List.drop_left, any_false, all_true, eq_self, set_iL, at_last, List.drop_succ_cons, List.drop_zero, List.take_succ_cons, List.take_zero, List.getLast?_cons_cons, List.getLast?_singleton, Int.cast_ofNat_Int, rg3_ok, rngC_len, fRv_l, Env.set.eq_1, T.data.eq_3, ad1.eq_1, ad1.eq_2, ad1.eq_3, ad2.eq_1, ad2.eq_2, ad3.eq_1, ad3.eq_2, ad3.eq_3, appA.eq_2, appA.eq_3, appP.eq_1, appP.eq_2, appT.eq_1, appT.eq_2, asDA.eq_1, asDA.eq_2, asDA.eq_4, asDA.eq_5, boxA.eq_1, boxA.eq_3, boxA.eq_4, calF.eq_1, calF.eq_2, calM.eq_1, calM.eq_2, calM.eq_3, cpL.eq_1, cpL.eq_2, cpT.eq_1, cpT.eq_2, cpT.eq_3, delA.eq_1, delA.eq_2, delA.eq_3, delA.eq_4, delA.eq_5, delA.eq_6, difA.eq_1, difA.eq_3, difA.eq_4, exDA.eq_1, exDA.eq_2, exDA.eq_3, extA.eq_1, extA.eq_2, extA.eq_3, extB.eq_1, extB.eq_2, extB.eq_3, extD.eq_1, extD.eq_2, extL.eq_1, extL.eq_2, extP.eq_1, extP.eq_2, faA.eq_1, faA.eq_2, faA.eq_3, faB.eq_1, faB.eq_2, faB2.eq_1, faC.eq_1, faD.eq_1, faD.eq_2, faE.eq_1, fldA.eq_1, fldA.eq_2, fldA.eq_3, fldB.eq_1, fldC.eq_1, fldC.eq_2, fldP.eq_1, fldP.eq_2, forJA.eq_1, forJA.eq_2, forJA.eq_3, forW.eq_1, forW.eq_2, fpA.eq_1, fpA.eq_2, fpA.eq_3, fpA1.eq_1, fpA1.eq_2, fpA2.eq_1, fpA2.eq_2, fpA2.eq_3, fpB.eq_1, fpB.eq_2, fpC.eq_1, fpD.eq_1, fpD.eq_2, fwA.eq_1, fwA.eq_2, fwA.eq_3, fwA.eq_4, fwA.eq_5, fwA.eq_6, fzA.eq_1, fzB.eq_1, fzB.eq_2, gQ.eq_1, gQ.eq_2, getR.eq_1, getR.eq_2, getT.eq_4, getT.eq_5, gsA.eq_1, gsA.eq_2, gsB.eq_1, gsB.eq_2, gsC.eq_1, iEnA.eq_1, iEnA.eq_2, iEnA.eq_3, iEnA.eq_4, iEnA.eq_6, iEnA.eq_7, iTA.eq_1, iTA.eq_2, iTA.eq_3, iTA.eq_4, iTA.eq_5, iTA.eq_6, iTA.eq_8, iTA.eq_9, iTp.eq_1, isBx.eq_1, isBx.eq_2, isBx.eq_3, isFix.eq_1, isFix.eq_2, itm.eq_1, itsP.eq_1, itsQ.eq_1, itsQ.eq_2, itsW.eq_1, itsW.eq_2, ixTA.eq_1, ixTA.eq_3, ixTA.eq_4, ixTB.eq_1, ixTB.eq_2, ixTC.eq_1, ixTC.eq_2, jsA.eq_1, jsA.eq_2, jsB.eq_1, jsB.eq_2, jsC.eq_1, jsD.eq_1, jsD.eq_2, lcC.eq_1, lcJA.eq_1, lcJA.eq_2, lcJA.eq_3, lsA.eq_1, lsA.eq_3, lsA.eq_4, lsB.eq_1, lsB.eq_2, lsC.eq_1, lsDA.eq_1, lsDA.eq_2, lsDA.eq_3, makA.eq_1, makA.eq_2, makA.eq_3, makB.eq_1, makB.eq_2, makC.eq_1, makC.eq_3, makC.eq_4, metA.eq_1, metA.eq_3, metA.eq_4, metB.eq_1, metC.eq_1, metC.eq_2, metC.eq_3, metD.eq_1, metD.eq_2, movA.eq_1, movB.eq_1, movB.eq_2, nnA.eq_1, nnA.eq_2, nnA.eq_3, nnB.eq_1, nnB.eq_2, noneW.eq_1, noneW.eq_2, noneW.eq_3, noneW.eq_4, noneW.eq_5, noneW.eq_6, ofA.eq_1, ofA.eq_2, ofA.eq_3, orE.eq_1, orE.eq_2, orE.eq_3, pixA.eq_2, pixA.eq_3, pixA2.eq_2, pixB.eq_2, pixC.eq_1, pixC.eq_2, pixP.eq_1, pixP.eq_2, plc.eq_1, plc.eq_2, popA.eq_1, popA.eq_2, popA.eq_3, popA0.eq_1, popA0.eq_2, popA0.eq_3, popA2.eq_1, popA2.eq_2, popB.eq_1, popB.eq_2, popD.eq_1, popD.eq_2, popE.eq_1, popE.eq_2, popL.eq_1, popL.eq_2, popZ.eq_1, popZ.eq_2, prpA.eq_1, prpA.eq_3, prpA.eq_4, prpB.eq_1, prpC.eq_1, putB.eq_2, putB.eq_3, putC.eq_2, putE.eq_1, putE.eq_2, putM.eq_1, putM.eq_2, putM.eq_3, putN.eq_1, putN.eq_2, putO.eq_1, putO2.eq_1, putO2.eq_2, putP.eq_1, putP.eq_2, putQ.eq_1, putR.eq_1, putR.eq_2, rdJ.eq_1, rdJ.eq_2, rdP.eq_1, rdP.eq_2, rdP.eq_3, rs1A.eq_1, rs1A.eq_2, rs1A.eq_3, rs1A.eq_4, rvA'.eq_1, rvA'.eq_2, rvA'.eq_3, rvB.eq_1, rvB.eq_2, rvC.eq_1, sQ.eq_1, sQ.eq_2, setR.eq_1, setR.eq_2, setT.eq_4, setT.eq_5, stO.eq_1, stO.eq_2, stO.eq_3, stO.eq_4, stO.eq_5, stO.eq_6, stb.eq_1, swpA.eq_1, swpA.eq_2, tpDA.eq_1, tpDA.eq_2, tpDA.eq_3, truA.eq_1, truA.eq_2, truA.eq_3, truB.eq_1, truB.eq_2, truD.eq_1, truD.eq_2, truD.eq_3, truD.eq_4, truD.eq_5, truD.eq_6, truP.eq_1, truP.eq_2, truT.eq_1, truT.eq_2, tyA.eq_1, wipeS.eq_1, wipeS.eq_2, ↓x_ad0, ↓x_ad1, ↓x_fld, ↓x_meth, ↓x_make, ↓x_prop, ↓x_box, ↓x_fldP, ↓x_fldA, ↓x_isN, ↓x_tru, ↓x_mov, ↓x_dif, ↓x_iT, ↓x_iEn, ↓x_forJ, ↓x_lcJ, ↓x_raise1, ↓x_tryA, ↓x_expD, ↓x_rvM, ↓x_frz, ↓x_lsT, ↓x_lstD, ↓x_tupD, ↓x_ixT, ↓x_asgD, ↓x_of, getE_q, setE_q, rdI_l, tyA_nx, tyA_rt, tyA_bk, tyA_ct, tyB_t, tyB_f, x_wh, rdP_l, rdP_o, rdP_k, rdP_m, truW_r, truW_p, lcE_ok, frz_nil, frz_d, frz_r, frz_l, cpL_r, gc_ne, gc_new, ofS_inj, q_lit, n_lit, lk_lit, in_nil, in_cons, ev_s, ev_i, fl_i, fl_s, fl_n, fl_b, in_l, in_t, q_nn, q_in, q_ni, n_nn, n_in, n_ni, q_bb, n_bb, isNone_n, isi_n, String.reduceEq, Option.bind_some, Option.bind_none, List.isEmpty_nil, List.isEmpty_cons, tgT_t, cpL_d, Option.toList_some, Option.toList_none, Int.add_zero, Int.zero_add, Int.sub_zero, Int.reduceMod, Int.reduceDiv, Nat.reduceMod, Nat.reduceDiv, beq_self_eq_true, Bool.true_beq, Bool.false_beq, bb_t, bb_f, ↓x_rd, rdA_r, rdA_p, rdA_v, rdA_l, rdA_er, wOf_r, wOf_t, wOf_d, or_true, true_or, or_false, false_or, and_false, false_and, not_true_eq_false, not_false_eq_true, and_self, or_self, evA_nil, evA_cons, evA_nc, evA_cn, ev_tt, ev_ll, ev_ii, ev_ss, ev_nn, ev_ni, ev_in, ev_ns, ev_sn, ev_bb, ixN_last, gc_lt, List.set_set, isB_b, notB_b, isB_i, notB_i, isB_n, notB_n, isB_l, notB_l, ↓x_pop, ↓x_pop0, ↓x_ext, ↓x_swp, forL_nil, forL_c, in_ti1, in_li1, in_ts1, in_ls1, in_ti2, in_li2, in_ts2, in_ls2, in_ti3, in_li3, in_ts3, in_ls3, in_ti4, in_li4, in_ts4, in_ls4, in_ti5, in_li5, in_ts5, in_ls5, in_ti6, in_li6, in_ts6, in_ls6, cz, cp0, cn0, Bool.false_xor, Bool.true_xor, Bool.xor_false, Bool.xor_true, Option.isNone_none, Option.isNone_some, Option.isSome_none, Option.isSome_some, itsW_p, itsW_r, popC_ok, extE_ok, is_bool_i, is_str_i, is_list_i, is_tuple_i, is_dict_i, is_int_b, is_str_b, is_list_b, is_tuple_b, is_dict_b, is_int_s, is_bool_s, is_list_s, is_tuple_s, is_dict_s, is_int_l, is_bool_l, is_str_l, is_tuple_l, is_dict_l, is_int_t, is_bool_t, is_str_t, is_list_t, is_dict_t, is_int_n, is_bool_n, is_str_n, is_list_n, is_tuple_n, is_dict_n, Option.join_some, Option.join_none, b__law_mixed]
  unfold mixed mixT mixS mixF
  split <;> rfl

/-! ### who is heard -/
def pk (a : Int × Int) : PyData := .tuple [.int a.1, .int a.2]
def pkL (l : List (Int × Int)) : List PyData := l.map pk
theorem pkL_len {l : List (Int × Int)} : (pkL l).length = l.length := by simp [pkL]
theorem pkL_app {l m : List (Int × Int)} : pkL l ++ pkL m = pkL (l ++ m) := by simp [pkL]
theorem pkL_rev {l : List (Int × Int)} : (pkL l).reverse = pkL l.reverse := by simp [pkL]
theorem pkL_get {l : List (Int × Int)} {k : Nat} : (pkL l)[k]? = (l[k]?).map pk := by simp [pkL]
/-- the one whose level is so much more -/
def win (l : List (Int × Int)) (a : Int × Int) : Prop := a ∈ l ∧ ∀ b ∈ l, b.1 ≠ a.1 → b.2 + 8 ≤ a.2
def winB (l : List (Int × Int)) (a : Int × Int) : Bool := l.all fun b => decide (b.1 ≠ a.1 → b.2 + 8 ≤ a.2)
theorem winB_iff {l : List (Int × Int)} {a : Int × Int} (h : a ∈ l) : winB l a = true ↔ win l a := by
  unfold winB win
  rw [List.all_eq_true]
  constructor
  · intro z
    exact ⟨h, fun b hb => of_decide_eq_true (z b hb)⟩
  · intro z b hb
    exact decide_eq_true (z.2 b hb)
/-- what is heard -/
def oD : Option (Int × Int) → PyData
  | some a => .int a.1
  | none => .none
def isW (l : List (Int × Int)) (r : Option (Int × Int)) : Prop := (∀ a, r = some a → win l a) ∧ (r = none → ∀ a, ¬ win l a)
theorem isW_eq {l : List (Int × Int)} (hd : ∀ a b, a ∈ l → b ∈ l → a.1 = b.1 → a = b) {r r' : Option (Int × Int)} (h : isW l r) (h' : isW l r') : r = r' := by
  cases r with
  | none =>
    cases r' with
    | none => rfl
    | some b => exact absurd (h'.1 b rfl) (h.2 rfl b)
  | some a =>
    cases r' with
    | none => exact absurd (h.1 a rfl) (h'.2 rfl a)
    | some b =>
      obtain ⟨w1, w2⟩ := h.1 a rfl
      obtain ⟨w3, w4⟩ := h'.1 b rfl
      by_cases e : a.1 = b.1
      · rw [hd a b w1 w3 e]
      · have e1 := w2 b w3 (fun z => e z.symm)
        have e2 := w4 a w1 e
        omega
theorem isW_rev {l : List (Int × Int)} {r : Option (Int × Int)} (h : isW l.reverse r) : isW l r := by
  refine ⟨fun a e => ?_, fun e a w => h.2 e a ?_⟩
  · obtain ⟨w1, w2⟩ := h.1 a e
    exact ⟨List.mem_reverse.mp w1, fun b hb => w2 b (List.mem_reverse.mpr hb)⟩
  · exact ⟨List.mem_reverse.mpr w.1, fun b hb => w.2 b (List.mem_reverse.mp hb)⟩
theorem heard_ok (l : List (Int × Int)) (m : List T) (hl : l.length < 1000) : ∃ r, f_heard [.d (.list (pkL l))] m = .rt (.d (oD r)) m ∧ isW l r := by
  have hpl : (pkL l).length < 1000 := by rw [pkL_len]; exact hl
  unfold f_heard
  simp (disch := (first | with_reducible assumption | omega | (simp only [iL_len, rngD_len, rngC_len, List.length_append, List.length_replicate, List.length_cons, List.length_nil, List.length_map, List.length_take, List.length_drop, List.length_range, SZ] <;> omega) | (simp only [iL_len, rngD_len, rngC_len, List.length_append, List.length_replicate, List.length_cons, List.length_nil, List.length_map, List.length_take, List.length_drop, List.length_range, SZ] at * <;> omega) | fail)) only [↓x_seq, ↓x_nil, ↓x_if, ↓x_set, ↓x_setV, ↓x_asg, ↓x_exp, ↓x_ret, ↓x_retV, ↓x_retN, ↓x_brk, ↓x_cnt, ↓x_for, ↓x_bdy, ↓x_C, ↓x_var, ↓x_dvar, ↓x_v1, ↓x_v2, ↓x_d1L, ↓x_d2L, ↓x_and, ↓x_or, ↓x_not, ↓x_ifx, ↓x_args0, ↓x_args1, ↓x_tup, ↓x_lst, ↓x_call, ↓x_vD, ↓x_dV, ↓x_slP, ↓x_opt0, ↓x_opt1, ↓x_iP, ↓x_rg1, ↓x_rg2, ↓x_rg3, ↓x_en, ↓x_zp, ↓x_rv, ↓x_ch, ↓x_lc, ↓x_aug, ↓x_app, ↓x_put, ↓x_pix, ↓x_try, ↓x_rep, ↓x_raise0, y_sq, y_sif, y_retV, y_setV, y_toV, y_ofV, y_orw, y_and, y_or, y_not, y_v1, y_v2a, y_v2b, y_finW, y_calB, sq_nx, sq_rt, sq_bk, sq_ct, sq_er, sq_no, dataL_d, allD_d, fnD, SZ, List.getElem?_cons_zero, List.getElem?_cons_succ, List.getElem?_nil, List.set_cons_zero, List.set_cons_succ, List.map_cons, List.map_nil, List.length_cons, List.length_nil, List.length_map, List.length_append, List.cons_append, List.nil_append, List.append_nil, Nat.reduceAdd, Nat.reduceSub, Nat.zero_add, Nat.add_zero, Option.map_some, Option.map_none, Option.getD_some, Option.getD_none, Bool.false_eq_true, Bool.true_eq_false, Bool.and_false, Bool.false_and, Bool.and_true, Bool.true_and, Bool.or_false, Bool.false_or, Bool.or_true, Bool.true_or, Bool.not_true, Bool.not_false, if_true, if_false, ite_true, ite_false, decide_eq_true_eq, Bool.and_eq_true, Bool.or_eq_true, Bool.not_eq_true', decide_eq_false_iff_not, decide_true, decide_false, true_and, and_true, reduceCtorEq, Int.reduceNeg, Int.reduceLT, Int.reduceLE, Int.reduceToNat, Nat.reduceLeDiff, Int.reduceAbs, Int.reduceSub, Int.reduceAdd, Int.reduceMul, Int.reduceEq, Nat.reduceMul, Nat.reduceEqDiff, Nat.reduceLT, Nat.reducePow, Int.reducePow, ↓reduceIte, ite_not, sif.eq_1, sif.eq_3, sif.eq_4, andA.eq_1, andA.eq_3, andA.eq_4, orA.eq_1, orA.eq_3, orA.eq_4, notA.eq_1, notA.eq_3, notA.eq_4, ifA.eq_1, ifA.eq_3, ifA.eq_4, orw.eq_1, orw.eq_2, orw.eq_3, v1r.eq_1, v1r.eq_2, v1a.eq_1, v1a.eq_2, v1a.eq_3, v2a.eq_1, v2a.eq_2, v2a.eq_3, v2b.eq_1, v2b.eq_2, v2b.eq_3, dlr.eq_1, dlr.eq_2, d1a.eq_1, d1a.eq_2, d1a.eq_3, d2a.eq_1, d2a.eq_2, d2a.eq_3, d2b.eq_1, d2b.eq_2, d2b.eq_3, ar1.eq_1, ar1.eq_2, ar1.eq_3, ar1.eq_4, ar2.eq_1, ar2.eq_2, ar2.eq_3, tupA.eq_1, tupA.eq_2, tupA.eq_3, lstA.eq_1, lstA.eq_2, lstA.eq_3, calA.eq_1, calA.eq_2, calA.eq_3, calB.eq_1, calB.eq_2, calB.eq_3, wOf.eq_1, varV.eq_1, varR.eq_1, varR.eq_2, varD.eq_1, setA.eq_1, setA.eq_2, setA.eq_4, setA.eq_5, setVA.eq_1, setVA.eq_2, setVA.eq_3, setVA.eq_4, asgA.eq_1, asgA.eq_2, asgA.eq_3, asgA.eq_4, asgB.eq_1, asgB.eq_2, expA.eq_1, expA.eq_2, expA.eq_3, retA.eq_1, retA.eq_2, retA.eq_3, retVA.eq_1, retVA.eq_2, retVA.eq_3, retVA.eq_4, forA.eq_1, forA.eq_2, forA.eq_3, sl0.eq_1, sl0.eq_2, sl0.eq_3, sl1.eq_1, sl1.eq_2, sl2.eq_1, sl2.eq_2, sl3.eq_1, sl3.eq_2, optA.eq_1, bdyA.eq_1, bdyA.eq_2, iPA.eq_1, iPA.eq_2, iPA.eq_3, iPA.eq_5, iPA.eq_6, enA.eq_1, enA.eq_3, enA.eq_4, zpA.eq_1, zpA.eq_3, zpA.eq_4, rvA.eq_1, rvA.eq_3, rvA.eq_4, ch1.eq_1, ch1.eq_2, ch1.eq_3, ch2.eq_1, ch2.eq_2, ch2.eq_3, chA.eq_1, chB.eq_1, chB.eq_2, chB.eq_3, chC.eq_1, chC.eq_2, lc0.eq_2, lc0.eq_3, lcA.eq_1, lcA.eq_2, augA.eq_1, augB.eq_1, augB.eq_3, augB.eq_4, appA.eq_1, appB.eq_1, appB.eq_2, appB.eq_3, putA.eq_1, putA.eq_2, putA.eq_3, putA2.eq_1, putA2.eq_2, putB.eq_1, putC.eq_1, putD.eq_1, pixA.eq_1, pixA2.eq_1, pixB.eq_1, tryA.eq_1, tryB.eq_1, tryB.eq_2, tryB.eq_3, noEr.eq_1, repA.eq_1, repA2.eq_1, repA2.eq_2, repB.eq_1, rdT.eq_1, rdT.eq_2, toV.eq_1, toV.eq_2, toV.eq_3, toV.eq_4, toV.eq_5, toV.eq_6, ofV.eq_1, ofV.eq_2, ofV.eq_4, ofV.eq_5, tOf.eq_1, tOf.eq_2, isL.eq_1, getT.eq_1, getT.eq_2, getT.eq_3, setT.eq_1, setT.eq_2, setT.eq_3, T.data.eq_1, T.data.eq_2, finW.eq_1, finW.eq_2, finW.eq_3, finW.eq_4, finW.eq_6, tgS.eq_1, wipeE.eq_1, fAdd.eq_1, fAdd.eq_2, fI2.eq_1, fB2.eq_1, fU.eq_1, fLen.eq_1, fLen.eq_2, fLen.eq_3, fIx.eq_1, fIx.eq_2, fIx.eq_3, fIsN.eq_1, fNotN.eq_1, isNone.eq_1, fInt.eq_1, fInt.eq_2, fInt.eq_3, fLs.eq_1, fLs.eq_2, fTp.eq_1, fTp.eq_2, fSlP.eq_3, wOf_l, wOf_o, tryA_nx, tryA_rt, tryA_bk, tryA_ct, noEr_nx, noEr_rt, noEr_bk, noEr_ct, isNone_i, isNone_b, isNone_s, isNone_l, isNone_t, iL_app, iL_len, iL_rep, iL_rev, allD_iL, dataL_iL, q_int, q_t, q_l, n_t, n_l, n_int, q_self, n_self, s_to, s_from, s_mid, sl_to, sl_from, sl_mid, add_t, add_l, cat_l, isi_t, isi_b, isi_i, isi_l, isi_s, at_0, at_1, at_2, at_3, at_4, at_5, at_6, ai_0, ai_1, ai_2, ai_3, ai_4, ai_5, ai_6, tgN_a, tgT_a, apd_ok, lc_ok, rg1_ok, rg2_ok, iL_snoc, iL_mapd, lc_const, rngD_len, iL_take, iL_drop, Int.toNat_natCast, dataL_nil, dataL_cons, allD.eq_1, allD.eq_2, ixN_ok, rep_l, tgS_nil, rep_none, rep_none0, List.take_left, List.drop_left, any_false, all_true, eq_self, set_iL, at_last, List.drop_succ_cons, List.drop_zero, List.take_succ_cons, List.take_zero, List.getLast?_cons_cons, List.getLast?_singleton, Int.cast_ofNat_Int, rg3_ok, rngC_len, fRv_l, Env.set.eq_1, T.data.eq_3, ad1.eq_1, ad1.eq_2, ad1.eq_3, ad2.eq_1, ad2.eq_2, ad3.eq_1, ad3.eq_2, ad3.eq_3, appA.eq_2, appA.eq_3, appP.eq_1, appP.eq_2, appT.eq_1, appT.eq_2, asDA.eq_1, asDA.eq_2, asDA.eq_4, asDA.eq_5, boxA.eq_1, boxA.eq_3, boxA.eq_4, calF.eq_1, calF.eq_2, calM.eq_1, calM.eq_2, calM.eq_3, cpL.eq_1, cpL.eq_2, cpT.eq_1, cpT.eq_2, cpT.eq_3, delA.eq_1, delA.eq_2, delA.eq_3, delA.eq_4, delA.eq_5, delA.eq_6, difA.eq_1, difA.eq_3, difA.eq_4, exDA.eq_1, exDA.eq_2, exDA.eq_3, extA.eq_1, extA.eq_2, extA.eq_3, extB.eq_1, extB.eq_2, extB.eq_3, extD.eq_1, extD.eq_2, extL.eq_1, extL.eq_2, extP.eq_1, extP.eq_2, faA.eq_1, faA.eq_2, faA.eq_3, faB.eq_1, faB.eq_2, faB2.eq_1, faC.eq_1, faD.eq_1, faD.eq_2, faE.eq_1, fldA.eq_1, fldA.eq_2, fldA.eq_3, fldB.eq_1, fldC.eq_1, fldC.eq_2, fldP.eq_1, fldP.eq_2, forJA.eq_1, forJA.eq_2, forJA.eq_3, forW.eq_1, forW.eq_2, fpA.eq_1, fpA.eq_2, fpA.eq_3, fpA1.eq_1, fpA1.eq_2, fpA2.eq_1, fpA2.eq_2, fpA2.eq_3, fpB.eq_1, fpB.eq_2, fpC.eq_1, fpD.eq_1, fpD.eq_2, fwA.eq_1, fwA.eq_2, fwA.eq_3, fwA.eq_4, fwA.eq_5, fwA.eq_6, fzA.eq_1, fzB.eq_1, fzB.eq_2, gQ.eq_1, gQ.eq_2, getR.eq_1, getR.eq_2, getT.eq_4, getT.eq_5, gsA.eq_1, gsA.eq_2, gsB.eq_1, gsB.eq_2, gsC.eq_1, iEnA.eq_1, iEnA.eq_2, iEnA.eq_3, iEnA.eq_4, iEnA.eq_6, iEnA.eq_7, iTA.eq_1, iTA.eq_2, iTA.eq_3, iTA.eq_4, iTA.eq_5, iTA.eq_6, iTA.eq_8, iTA.eq_9, iTp.eq_1, isBx.eq_1, isBx.eq_2, isBx.eq_3, isFix.eq_1, isFix.eq_2, itm.eq_1, itsP.eq_1, itsQ.eq_1, itsQ.eq_2, itsW.eq_1, itsW.eq_2, ixTA.eq_1, ixTA.eq_3, ixTA.eq_4, ixTB.eq_1, ixTB.eq_2, ixTC.eq_1, ixTC.eq_2, jsA.eq_1, jsA.eq_2, jsB.eq_1, jsB.eq_2, jsC.eq_1, jsD.eq_1, jsD.eq_2, lcC.eq_1, lcJA.eq_1, lcJA.eq_2, lcJA.eq_3, lsA.eq_1, lsA.eq_3, lsA.eq_4, lsB.eq_1, lsB.eq_2, lsC.eq_1, lsDA.eq_1, lsDA.eq_2, lsDA.eq_3, makA.eq_1, makA.eq_2, makA.eq_3, makB.eq_1, makB.eq_2, makC.eq_1, makC.eq_3, makC.eq_4, metA.eq_1, metA.eq_3, metA.eq_4, metB.eq_1, metC.eq_1, metC.eq_2, metC.eq_3, metD.eq_1, metD.eq_2, movA.eq_1, movB.eq_1, movB.eq_2, nnA.eq_1, nnA.eq_2, nnA.eq_3, nnB.eq_1, nnB.eq_2, noneW.eq_1, noneW.eq_2, noneW.eq_3, noneW.eq_4, noneW.eq_5, noneW.eq_6, ofA.eq_1, ofA.eq_2, ofA.eq_3, orE.eq_1, orE.eq_2, orE.eq_3, pixA.eq_2, pixA.eq_3, pixA2.eq_2, pixB.eq_2, pixC.eq_1, pixC.eq_2, pixP.eq_1, pixP.eq_2, plc.eq_1, plc.eq_2, popA.eq_1, popA.eq_2, popA.eq_3, popA0.eq_1, popA0.eq_2, popA0.eq_3, popA2.eq_1, popA2.eq_2, popB.eq_1, popB.eq_2, popD.eq_1, popD.eq_2, popE.eq_1, popE.eq_2, popL.eq_1, popL.eq_2, popZ.eq_1, popZ.eq_2, prpA.eq_1, prpA.eq_3, prpA.eq_4, prpB.eq_1, prpC.eq_1, putB.eq_2, putB.eq_3, putC.eq_2, putE.eq_1, putE.eq_2, putM.eq_1, putM.eq_2, putM.eq_3, putN.eq_1, putN.eq_2, putO.eq_1, putO2.eq_1, putO2.eq_2, putP.eq_1, putP.eq_2, putQ.eq_1, putR.eq_1, putR.eq_2, rdJ.eq_1, rdJ.eq_2, rdP.eq_1, rdP.eq_2, rdP.eq_3, rs1A.eq_1, rs1A.eq_2, rs1A.eq_3, rs1A.eq_4, rvA'.eq_1, rvA'.eq_2, rvA'.eq_3, rvB.eq_1, rvB.eq_2, rvC.eq_1, sQ.eq_1, sQ.eq_2, setR.eq_1, setR.eq_2, setT.eq_4, setT.eq_5, stO.eq_1, stO.eq_2, stO.eq_3, stO.eq_4, stO.eq_5, stO.eq_6, stb.eq_1, swpA.eq_1, swpA.eq_2, tpDA.eq_1, tpDA.eq_2, tpDA.eq_3, truA.eq_1, truA.eq_2, truA.eq_3, truB.eq_1, truB.eq_2, truD.eq_1, truD.eq_2, truD.eq_3, truD.eq_4, truD.eq_5, truD.eq_6, truP.eq_1, truP.eq_2, truT.eq_1, truT.eq_2, tyA.eq_1, wipeS.eq_1, wipeS.eq_2, ↓x_ad0, ↓x_ad1, ↓x_fld, ↓x_meth, ↓x_make, ↓x_prop, ↓x_box, ↓x_fldP, ↓x_fldA, ↓x_isN, ↓x_tru, ↓x_mov, ↓x_dif, ↓x_iT, ↓x_iEn, ↓x_forJ, ↓x_lcJ, ↓x_raise1, ↓x_tryA, ↓x_expD, ↓x_rvM, ↓x_frz, ↓x_lsT, ↓x_lstD, ↓x_tupD, ↓x_ixT, ↓x_asgD, ↓x_of, getE_q, setE_q, rdI_l, tyA_nx, tyA_rt, tyA_bk, tyA_ct, tyB_t, tyB_f, x_wh, rdP_l, rdP_o, rdP_k, rdP_m, truW_r, truW_p, lcE_ok, frz_nil, frz_d, frz_r, frz_l, cpL_r, gc_ne, gc_new, ofS_inj, q_lit, n_lit, lk_lit, in_nil, in_cons, ev_s, ev_i, fl_i, fl_s, fl_n, fl_b, in_l, in_t, q_nn, q_in, q_ni, n_nn, n_in, n_ni, q_bb, n_bb, isNone_n, isi_n, String.reduceEq, Option.bind_some, Option.bind_none, List.isEmpty_nil, List.isEmpty_cons, tgT_t, cpL_d, Option.toList_some, Option.toList_none, Int.add_zero, Int.zero_add, Int.sub_zero, Int.reduceMod, Int.reduceDiv, Nat.reduceMod, Nat.reduceDiv, beq_self_eq_true, Bool.true_beq, Bool.false_beq, bb_t, bb_f, ↓x_rd, rdA_r, rdA_p, rdA_v, rdA_l, rdA_er, wOf_r, wOf_t, wOf_d, or_true, true_or, or_false, false_or, and_false, false_and, not_true_eq_false, not_false_eq_true, and_self, or_self, evA_nil, evA_cons, evA_nc, evA_cn, ev_tt, ev_ll, ev_ii, ev_ss, ev_nn, ev_ni, ev_in, ev_ns, ev_sn, ev_bb, ixN_last, gc_lt, List.set_set, isB_b, notB_b, isB_i, notB_i, isB_n, notB_n, isB_l, notB_l, ↓x_pop, ↓x_pop0, ↓x_ext, ↓x_swp, forL_nil, forL_c, in_ti1, in_li1, in_ts1, in_ls1, in_ti2, in_li2, in_ts2, in_ls2, in_ti3, in_li3, in_ts3, in_ls3, in_ti4, in_li4, in_ts4, in_ls4, in_ti5, in_li5, in_ts5, in_ls5, in_ti6, in_li6, in_ts6, in_ls6, cz, cp0, cn0, Bool.false_xor, Bool.true_xor, Bool.xor_false, Bool.xor_true, Option.isNone_none, Option.isNone_some, Option.isSome_none, Option.isSome_some, itsW_p, itsW_r, popC_ok, extE_ok, is_bool_i, is_str_i, is_list_i, is_tuple_i, is_dict_i, is_int_b, is_str_b, is_list_b, is_tuple_b, is_dict_b, is_int_s, is_bool_s, is_list_s, is_tuple_s, is_dict_s, is_int_l, is_bool_l, is_str_l, is_tuple_l, is_dict_l, is_int_t, is_bool_t, is_str_t, is_list_t, is_dict_t, is_int_n, is_bool_n, is_str_n, is_list_n, is_tuple_n, is_dict_n, Option.join_some, Option.join_none, b_heard]
  refine for_outD (fun k e => (∀ j a, j < k → l[j]? = some a → ¬ win l a) ∧ ∃ a b c d e', e = ⟨[some (T.d (PyData.list (pkL l))), a, b, c, d, e'], m⟩) (fun o => ∃ r, finW (sq o (sRetV (vC PyData.none))) = .rt (.d (oD r)) m ∧ isW l r) ⟨fun j a hj => by omega, _, _, _, _, _, rfl⟩ ?_ ?_
  · rintro k x e hx ⟨hn, a1, a2, a3, a4, a5, rfl⟩
    rw [pkL_get] at hx
    obtain ⟨a, ha, rfl⟩ := Option.map_eq_some_iff.mp hx
    have hm : a ∈ l := List.mem_of_getElem? ha
    unfold pk
    have e1 : lcG (tgT [4, 5]) (v2 fNe (vVar 4) (vVar 1)) (vVar 5) ⟨[some (T.d (PyData.list (pkL l))), some (T.d (PyData.int a.1)), some (T.d (PyData.int a.2)), a3, none, none], m⟩ ((pkL l).map T.d) = some ((pkL l).filterMap fun y => match y with | .tuple [.int p, .int q] => if p = a.1 then none else some (.int q) | _ => none) := by
      refine lcG_outD _ _ ?_
      intro y hy
      obtain ⟨b, hb, rfl⟩ := List.mem_map.mp hy
      unfold pk
      by_cases h : b.1 = a.1 <;> simp (disch := (first | with_reducible assumption | omega | (simp only [iL_len, rngD_len, rngC_len, List.length_append, List.length_replicate, List.length_cons, List.length_nil, List.length_map, List.length_take, List.length_drop, List.length_range, SZ] <;> omega) | (simp only [iL_len, rngD_len, rngC_len, List.length_append, List.length_replicate, List.length_cons, List.length_nil, List.length_map, List.length_take, List.length_drop, List.length_range, SZ] at * <;> omega) | fail)) only [↓x_seq, ↓x_nil, ↓x_if, ↓x_set, ↓x_setV, ↓x_asg, ↓x_exp, ↓x_ret, ↓x_retV, ↓x_retN, ↓x_brk, ↓x_cnt, ↓x_for, ↓x_bdy, ↓x_C, ↓x_var, ↓x_dvar, ↓x_v1, ↓x_v2, ↓x_d1L, ↓x_d2L, ↓x_and, ↓x_or, ↓x_not, ↓x_ifx, ↓x_args0, ↓x_args1, ↓x_tup, ↓x_lst, ↓x_call, ↓x_vD, ↓x_dV, ↓x_slP, ↓x_opt0, ↓x_opt1, ↓x_iP, ↓x_rg1, ↓x_rg2, ↓x_rg3, ↓x_en, ↓x_zp, ↓x_rv, ↓x_ch, ↓x_lc, ↓x_aug, ↓x_app, ↓x_put, ↓x_pix, ↓x_try, ↓x_rep, ↓x_raise0, y_sq, y_sif, y_retV, y_setV, y_toV, y_ofV, y_orw, y_and, y_or, y_not, y_v1, y_v2a, y_v2b, y_finW, y_calB, sq_nx, sq_rt, sq_bk, sq_ct, sq_er, sq_no, dataL_d, allD_d, fnD, SZ, List.getElem?_cons_zero, List.getElem?_cons_succ, List.getElem?_nil, List.set_cons_zero, List.set_cons_succ, List.map_cons, List.map_nil, List.length_cons, List.length_nil, List.length_map, List.length_append, List.cons_append, List.nil_append, List.append_nil, Nat.reduceAdd, Nat.reduceSub, Nat.zero_add, Nat.add_zero, Option.map_some, Option.map_none, Option.getD_some, Option.getD_none, Bool.false_eq_true, Bool.true_eq_false, Bool.and_false, Bool.false_and, Bool.and_true, Bool.true_and, Bool.or_false, Bool.false_or, Bool.or_true, Bool.true_or, Bool.not_true, Bool.not_false, if_true, if_false, ite_true, ite_false, decide_eq_true_eq, Bool.and_eq_true, Bool.or_eq_true, Bool.not_eq_true', decide_eq_false_iff_not, decide_true, decide_false, true_and, and_true, reduceCtorEq, Int.reduceNeg, Int.reduceLT, Int.reduceLE, Int.reduceToNat, Nat.reduceLeDiff, Int.reduceAbs, Int.reduceSub, Int.reduceAdd, Int.reduceMul, Int.reduceEq, Nat.reduceMul, Nat.reduceEqDiff, Nat.reduceLT, Nat.reducePow, Int.reducePow, ↓reduceIte, ite_not, sif.eq_1, sif.eq_3, sif.eq_4, andA.eq_1, andA.eq_3, andA.eq_4, orA.eq_1, orA.eq_3, orA.eq_4, notA.eq_1, notA.eq_3, notA.eq_4, ifA.eq_1, ifA.eq_3, ifA.eq_4, orw.eq_1, orw.eq_2, orw.eq_3, v1r.eq_1, v1r.eq_2, v1a.eq_1, v1a.eq_2, v1a.eq_3, v2a.eq_1, v2a.eq_2, v2a.eq_3, v2b.eq_1, v2b.eq_2, v2b.eq_3, dlr.eq_1, dlr.eq_2, d1a.eq_1, d1a.eq_2, d1a.eq_3, d2a.eq_1, d2a.eq_2, d2a.eq_3, d2b.eq_1, d2b.eq_2, d2b.eq_3, ar1.eq_1, ar1.eq_2, ar1.eq_3, ar1.eq_4, ar2.eq_1, ar2.eq_2, ar2.eq_3, tupA.eq_1, tupA.eq_2, tupA.eq_3, lstA.eq_1, lstA.eq_2, lstA.eq_3, calA.eq_1, calA.eq_2, calA.eq_3, calB.eq_1, calB.eq_2, calB.eq_3, wOf.eq_1, varV.eq_1, varR.eq_1, varR.eq_2, varD.eq_1, setA.eq_1, setA.eq_2, setA.eq_4, setA.eq_5, setVA.eq_1, setVA.eq_2, setVA.eq_3, setVA.eq_4, asgA.eq_1, asgA.eq_2, asgA.eq_3, asgA.eq_4, asgB.eq_1, asgB.eq_2, expA.eq_1, expA.eq_2, expA.eq_3, retA.eq_1, retA.eq_2, retA.eq_3, retVA.eq_1, retVA.eq_2, retVA.eq_3, retVA.eq_4, forA.eq_1, forA.eq_2, forA.eq_3, sl0.eq_1, sl0.eq_2, sl0.eq_3, sl1.eq_1, sl1.eq_2, sl2.eq_1, sl2.eq_2, sl3.eq_1, sl3.eq_2, optA.eq_1, bdyA.eq_1, bdyA.eq_2, iPA.eq_1, iPA.eq_2, iPA.eq_3, iPA.eq_5, iPA.eq_6, enA.eq_1, enA.eq_3, enA.eq_4, zpA.eq_1, zpA.eq_3, zpA.eq_4, rvA.eq_1, rvA.eq_3, rvA.eq_4, ch1.eq_1, ch1.eq_2, ch1.eq_3, ch2.eq_1, ch2.eq_2, ch2.eq_3, chA.eq_1, chB.eq_1, chB.eq_2, chB.eq_3, chC.eq_1, chC.eq_2, lc0.eq_2, lc0.eq_3, lcA.eq_1, lcA.eq_2, augA.eq_1, augB.eq_1, augB.eq_3, augB.eq_4, appA.eq_1, appB.eq_1, appB.eq_2, appB.eq_3, putA.eq_1, putA.eq_2, putA.eq_3, putA2.eq_1, putA2.eq_2, putB.eq_1, putC.eq_1, putD.eq_1, pixA.eq_1, pixA2.eq_1, pixB.eq_1, tryA.eq_1, tryB.eq_1, tryB.eq_2, tryB.eq_3, noEr.eq_1, repA.eq_1, repA2.eq_1, repA2.eq_2, repB.eq_1, rdT.eq_1, rdT.eq_2, toV.eq_1, toV.eq_2, toV.eq_3, toV.eq_4, toV.eq_5, toV.eq_6, ofV.eq_1, ofV.eq_2, ofV.eq_4, ofV.eq_5, tOf.eq_1, tOf.eq_2, isL.eq_1, getT.eq_1, getT.eq_2, getT.eq_3, setT.eq_1, setT.eq_2, setT.eq_3, T.data.eq_1, T.data.eq_2, finW.eq_1, finW.eq_2, finW.eq_3, finW.eq_4, finW.eq_6, tgS.eq_1, wipeE.eq_1, fAdd.eq_1, fAdd.eq_2, fI2.eq_1, fB2.eq_1, fU.eq_1, fLen.eq_1, fLen.eq_2, fLen.eq_3, fIx.eq_1, fIx.eq_2, fIx.eq_3, fIsN.eq_1, fNotN.eq_1, isNone.eq_1, fInt.eq_1, fInt.eq_2, fInt.eq_3, fLs.eq_1, fLs.eq_2, fTp.eq_1, fTp.eq_2, fSlP.eq_3, wOf_l, wOf_o, tryA_nx, tryA_rt, tryA_bk, tryA_ct, noEr_nx, noEr_rt, noEr_bk, noEr_ct, isNone_i, isNone_b, isNone_s, isNone_l, isNone_t, iL_app, iL_len, iL_rep, iL_rev, allD_iL, dataL_iL, q_int, q_t, q_l, n_t, n_l, n_int, q_self, n_self, s_to, s_from, s_mid, sl_to, sl_from, sl_mid, add_t, add_l, cat_l, isi_t, isi_b, isi_i, isi_l, isi_s, at_0, at_1, at_2, at_3, at_4, at_5, at_6, ai_0, ai_1, ai_2, ai_3, ai_4, ai_5, ai_6, tgN_a, tgT_a, apd_ok, lc_ok, rg1_ok, rg2_ok, iL_snoc, iL_mapd, lc_const, rngD_len, iL_take, iL_drop, Int.toNat_natCast, dataL_nil, dataL_cons, allD.eq_1, allD.eq_2, ixN_ok, rep_l, tgS_nil, rep_none, rep_none0, List.take_left, List.drop_left, any_false, all_true, eq_self, set_iL, at_last, List.drop_succ_cons, List.drop_zero, List.take_succ_cons, List.take_zero, List.getLast?_cons_cons, List.getLast?_singleton, Int.cast_ofNat_Int, rg3_ok, rngC_len, fRv_l, Env.set.eq_1, T.data.eq_3, ad1.eq_1, ad1.eq_2, ad1.eq_3, ad2.eq_1, ad2.eq_2, ad3.eq_1, ad3.eq_2, ad3.eq_3, appA.eq_2, appA.eq_3, appP.eq_1, appP.eq_2, appT.eq_1, appT.eq_2, asDA.eq_1, asDA.eq_2, asDA.eq_4, asDA.eq_5, boxA.eq_1, boxA.eq_3, boxA.eq_4, calF.eq_1, calF.eq_2, calM.eq_1, calM.eq_2, calM.eq_3, cpL.eq_1, cpL.eq_2, cpT.eq_1, cpT.eq_2, cpT.eq_3, delA.eq_1, delA.eq_2, delA.eq_3, delA.eq_4, delA.eq_5, delA.eq_6, difA.eq_1, difA.eq_3, difA.eq_4, exDA.eq_1, exDA.eq_2, exDA.eq_3, extA.eq_1, extA.eq_2, extA.eq_3, extB.eq_1, extB.eq_2, extB.eq_3, extD.eq_1, extD.eq_2, extL.eq_1, extL.eq_2, extP.eq_1, extP.eq_2, faA.eq_1, faA.eq_2, faA.eq_3, faB.eq_1, faB.eq_2, faB2.eq_1, faC.eq_1, faD.eq_1, faD.eq_2, faE.eq_1, fldA.eq_1, fldA.eq_2, fldA.eq_3, fldB.eq_1, fldC.eq_1, fldC.eq_2, fldP.eq_1, fldP.eq_2, forJA.eq_1, forJA.eq_2, forJA.eq_3, forW.eq_1, forW.eq_2, fpA.eq_1, fpA.eq_2, fpA.eq_3, fpA1.eq_1, fpA1.eq_2, fpA2.eq_1, fpA2.eq_2, fpA2.eq_3, fpB.eq_1, fpB.eq_2, fpC.eq_1, fpD.eq_1, fpD.eq_2, fwA.eq_1, fwA.eq_2, fwA.eq_3, fwA.eq_4, fwA.eq_5, fwA.eq_6, fzA.eq_1, fzB.eq_1, fzB.eq_2, gQ.eq_1, gQ.eq_2, getR.eq_1, getR.eq_2, getT.eq_4, getT.eq_5, gsA.eq_1, gsA.eq_2, gsB.eq_1, gsB.eq_2, gsC.eq_1, iEnA.eq_1, iEnA.eq_2, iEnA.eq_3, iEnA.eq_4, iEnA.eq_6, iEnA.eq_7, iTA.eq_1, iTA.eq_2, iTA.eq_3, iTA.eq_4, iTA.eq_5, iTA.eq_6, iTA.eq_8, iTA.eq_9, iTp.eq_1, isBx.eq_1, isBx.eq_2, isBx.eq_3, isFix.eq_1, isFix.eq_2, itm.eq_1, itsP.eq_1, itsQ.eq_1, itsQ.eq_2, itsW.eq_1, itsW.eq_2, ixTA.eq_1, ixTA.eq_3, ixTA.eq_4, ixTB.eq_1, ixTB.eq_2, ixTC.eq_1, ixTC.eq_2, jsA.eq_1, jsA.eq_2, jsB.eq_1, jsB.eq_2, jsC.eq_1, jsD.eq_1, jsD.eq_2, lcC.eq_1, lcJA.eq_1, lcJA.eq_2, lcJA.eq_3, lsA.eq_1, lsA.eq_3, lsA.eq_4, lsB.eq_1, lsB.eq_2, lsC.eq_1, lsDA.eq_1, lsDA.eq_2, lsDA.eq_3, makA.eq_1, makA.eq_2, makA.eq_3, makB.eq_1, makB.eq_2, makC.eq_1, makC.eq_3, makC.eq_4, metA.eq_1, metA.eq_3, metA.eq_4, metB.eq_1, metC.eq_1, metC.eq_2, metC.eq_3, metD.eq_1, metD.eq_2, movA.eq_1, movB.eq_1, movB.eq_2, nnA.eq_1, nnA.eq_2, nnA.eq_3, nnB.eq_1, nnB.eq_2, noneW.eq_1, noneW.eq_2, noneW.eq_3, noneW.eq_4, noneW.eq_5, noneW.eq_6, ofA.eq_1, ofA.eq_2, ofA.eq_3, orE.eq_1, orE.eq_2, orE.eq_3, pixA.eq_2, pixA.eq_3, pixA2.eq_2, pixB.eq_2, pixC.eq_1, pixC.eq_2, pixP.eq_1, pixP.eq_2, plc.eq_1, plc.eq_2, popA.eq_1, popA.eq_2, popA.eq_3, popA0.eq_1, popA0.eq_2, popA0.eq_3, popA2.eq_1, popA2.eq_2, popB.eq_1, popB.eq_2, popD.eq_1, popD.eq_2, popE.eq_1, popE.eq_2, popL.eq_1, popL.eq_2, popZ.eq_1, popZ.eq_2, prpA.eq_1, prpA.eq_3, prpA.eq_4, prpB.eq_1, prpC.eq_1, putB.eq_2, putB.eq_3, putC.eq_2, putE.eq_1, putE.eq_2, putM.eq_1, putM.eq_2, putM.eq_3, putN.eq_1, putN.eq_2, putO.eq_1, putO2.eq_1, putO2.eq_2, putP.eq_1, putP.eq_2, putQ.eq_1, putR.eq_1, putR.eq_2, rdJ.eq_1, rdJ.eq_2, rdP.eq_1, rdP.eq_2, rdP.eq_3, rs1A.eq_1, rs1A.eq_2, rs1A.eq_3, rs1A.eq_4, rvA'.eq_1, rvA'.eq_2, rvA'.eq_3, rvB.eq_1, rvB.eq_2, rvC.eq_1, sQ.eq_1, sQ.eq_2, setR.eq_1, setR.eq_2, setT.eq_4, setT.eq_5, stO.eq_1, stO.eq_2, stO.eq_3, stO.eq_4, stO.eq_5, stO.eq_6, stb.eq_1, swpA.eq_1, swpA.eq_2, tpDA.eq_1, tpDA.eq_2, tpDA.eq_3, truA.eq_1, truA.eq_2, truA.eq_3, truB.eq_1, truB.eq_2, truD.eq_1, truD.eq_2, truD.eq_3, truD.eq_4, truD.eq_5, truD.eq_6, truP.eq_1, truP.eq_2, truT.eq_1, truT.eq_2, tyA.eq_1, wipeS.eq_1, wipeS.eq_2, ↓x_ad0, ↓x_ad1, ↓x_fld, ↓x_meth, ↓x_make, ↓x_prop, ↓x_box, ↓x_fldP, ↓x_fldA, ↓x_isN, ↓x_tru, ↓x_mov, ↓x_dif, ↓x_iT, ↓x_iEn, ↓x_forJ, ↓x_lcJ, ↓x_raise1, ↓x_tryA, ↓x_expD, ↓x_rvM, ↓x_frz, ↓x_lsT, ↓x_lstD, ↓x_tupD, ↓x_ixT, ↓x_asgD, ↓x_of, getE_q, setE_q, rdI_l, tyA_nx, tyA_rt, tyA_bk, tyA_ct, tyB_t, tyB_f, x_wh, rdP_l, rdP_o, rdP_k, rdP_m, truW_r, truW_p, lcE_ok, frz_nil, frz_d, frz_r, frz_l, cpL_r, gc_ne, gc_new, ofS_inj, q_lit, n_lit, lk_lit, in_nil, in_cons, ev_s, ev_i, fl_i, fl_s, fl_n, fl_b, in_l, in_t, q_nn, q_in, q_ni, n_nn, n_in, n_ni, q_bb, n_bb, isNone_n, isi_n, String.reduceEq, Option.bind_some, Option.bind_none, List.isEmpty_nil, List.isEmpty_cons, tgT_t, cpL_d, Option.toList_some, Option.toList_none, Int.add_zero, Int.zero_add, Int.sub_zero, Int.reduceMod, Int.reduceDiv, Nat.reduceMod, Nat.reduceDiv, beq_self_eq_true, Bool.true_beq, Bool.false_beq, bb_t, bb_f, ↓x_rd, rdA_r, rdA_p, rdA_v, rdA_l, rdA_er, wOf_r, wOf_t, wOf_d, or_true, true_or, or_false, false_or, and_false, false_and, not_true_eq_false, not_false_eq_true, and_self, or_self, evA_nil, evA_cons, evA_nc, evA_cn, ev_tt, ev_ll, ev_ii, ev_ss, ev_nn, ev_ni, ev_in, ev_ns, ev_sn, ev_bb, ixN_last, gc_lt, List.set_set, isB_b, notB_b, isB_i, notB_i, isB_n, notB_n, isB_l, notB_l, ↓x_pop, ↓x_pop0, ↓x_ext, ↓x_swp, forL_nil, forL_c, in_ti1, in_li1, in_ts1, in_ls1, in_ti2, in_li2, in_ts2, in_ls2, in_ti3, in_li3, in_ts3, in_ls3, in_ti4, in_li4, in_ts4, in_ls4, in_ti5, in_li5, in_ts5, in_ls5, in_ti6, in_li6, in_ts6, in_ls6, cz, cp0, cn0, Bool.false_xor, Bool.true_xor, Bool.xor_false, Bool.xor_true, Option.isNone_none, Option.isNone_some, Option.isSome_none, Option.isSome_some, itsW_p, itsW_r, popC_ok, extE_ok, is_bool_i, is_str_i, is_list_i, is_tuple_i, is_dict_i, is_int_b, is_str_b, is_list_b, is_tuple_b, is_dict_b, is_int_s, is_bool_s, is_list_s, is_tuple_s, is_dict_s, is_int_l, is_bool_l, is_str_l, is_tuple_l, is_dict_l, is_int_t, is_bool_t, is_str_t, is_list_t, is_dict_t, is_int_n, is_bool_n, is_str_n, is_list_n, is_tuple_n, is_dict_n, Option.join_some, Option.join_none, h]
    have e2 : ((pkL l).filterMap fun y => match y with | .tuple [.int p, .int q] => if p = a.1 then none else some (PyData.int q) | _ => none) = iL ((l.filter fun b => decide (b.1 ≠ a.1)).map (·.2)) := by
      unfold pkL iL
      rw [List.filterMap_map, List.map_map, ← List.filterMap_eq_map, List.filterMap_filter]
      congr 1
      funext b
      by_cases h : b.1 = a.1 <;> simp [pk, h]
    have hl2 : ((l.filter fun b => decide (b.1 ≠ a.1)).map (·.2)).length < 1000 := by
      rw [List.length_map]
      exact Nat.lt_of_le_of_lt (List.length_filter_le _ _) hl
    have e4 : ∀ (L : List Int) (s0 s1 s3 s4 s5 : Option T), lcG (tgN 5) (vC (.bool true)) (v2 fGe (vVar 2) (v2 fAdd (vVar 5) (vC (.int 8)))) ⟨[s0, s1, some (.d (.int a.2)), s3, s4, s5], m⟩ ((iL L).map T.d) = some (L.map fun q => PyData.bool (decide (q + 8 ≤ a.2))) := by
      intro L s0 s1 s3 s4 s5
      have : (iL L).map T.d = L.map fun q => T.d (.int q) := by simp [iL]
      rw [this]
      induction L with
      | nil => rfl
      | cons q L ih =>
        rw [List.map_cons, List.map_cons]
        unfold lcG
        simp (disch := (first | with_reducible assumption | omega | (simp only [iL_len, rngD_len, rngC_len, List.length_append, List.length_replicate, List.length_cons, List.length_nil, List.length_map, List.length_take, List.length_drop, List.length_range, SZ] <;> omega) | (simp only [iL_len, rngD_len, rngC_len, List.length_append, List.length_replicate, List.length_cons, List.length_nil, List.length_map, List.length_take, List.length_drop, List.length_range, SZ] at * <;> omega) | fail)) only [↓x_seq, ↓x_nil, ↓x_if, ↓x_set, ↓x_setV, ↓x_asg, ↓x_exp, ↓x_ret, ↓x_retV, ↓x_retN, ↓x_brk, ↓x_cnt, ↓x_for, ↓x_bdy, ↓x_C, ↓x_var, ↓x_dvar, ↓x_v1, ↓x_v2, ↓x_d1L, ↓x_d2L, ↓x_and, ↓x_or, ↓x_not, ↓x_ifx, ↓x_args0, ↓x_args1, ↓x_tup, ↓x_lst, ↓x_call, ↓x_vD, ↓x_dV, ↓x_slP, ↓x_opt0, ↓x_opt1, ↓x_iP, ↓x_rg1, ↓x_rg2, ↓x_rg3, ↓x_en, ↓x_zp, ↓x_rv, ↓x_ch, ↓x_lc, ↓x_aug, ↓x_app, ↓x_put, ↓x_pix, ↓x_try, ↓x_rep, ↓x_raise0, y_sq, y_sif, y_retV, y_setV, y_toV, y_ofV, y_orw, y_and, y_or, y_not, y_v1, y_v2a, y_v2b, y_finW, y_calB, sq_nx, sq_rt, sq_bk, sq_ct, sq_er, sq_no, dataL_d, allD_d, fnD, SZ, List.getElem?_cons_zero, List.getElem?_cons_succ, List.getElem?_nil, List.set_cons_zero, List.set_cons_succ, List.map_cons, List.map_nil, List.length_cons, List.length_nil, List.length_map, List.length_append, List.cons_append, List.nil_append, List.append_nil, Nat.reduceAdd, Nat.reduceSub, Nat.zero_add, Nat.add_zero, Option.map_some, Option.map_none, Option.getD_some, Option.getD_none, Bool.false_eq_true, Bool.true_eq_false, Bool.and_false, Bool.false_and, Bool.and_true, Bool.true_and, Bool.or_false, Bool.false_or, Bool.or_true, Bool.true_or, Bool.not_true, Bool.not_false, if_true, if_false, ite_true, ite_false, decide_eq_true_eq, Bool.and_eq_true, Bool.or_eq_true, Bool.not_eq_true', decide_eq_false_iff_not, decide_true, decide_false, true_and, and_true, reduceCtorEq, Int.reduceNeg, Int.reduceLT, Int.reduceLE, Int.reduceToNat, Nat.reduceLeDiff, Int.reduceAbs, Int.reduceSub, Int.reduceAdd, Int.reduceMul, Int.reduceEq, Nat.reduceMul, Nat.reduceEqDiff, Nat.reduceLT, Nat.reducePow, Int.reducePow, ↓reduceIte, ite_not, sif.eq_1, sif.eq_3, sif.eq_4, andA.eq_1, andA.eq_3, andA.eq_4, orA.eq_1, orA.eq_3, orA.eq_4, notA.eq_1, notA.eq_3, notA.eq_4, ifA.eq_1, ifA.eq_3, ifA.eq_4, orw.eq_1, orw.eq_2, orw.eq_3, v1r.eq_1, v1r.eq_2, v1a.eq_1, v1a.eq_2, v1a.eq_3, v2a.eq_1, v2a.eq_2, v2a.eq_3, v2b.eq_1, v2b.eq_2, v2b.eq_3, dlr.eq_1, dlr.eq_2, d1a.eq_1, d1a.eq_2, d1a.eq_3, d2a.eq_1, d2a.eq_2, d2a.eq_3, d2b.eq_1, d2b.eq_2, d2b.eq_3, ar1.eq_1, ar1.eq_2, ar1.eq_3, ar1.eq_4, ar2.eq_1, ar2.eq_2, ar2.eq_3, tupA.eq_1, tupA.eq_2, tupA.eq_3, lstA.eq_1, lstA.eq_2, lstA.eq_3, calA.eq_1, calA.eq_2, calA.eq_3, calB.eq_1, calB.eq_2, calB.eq_3, wOf.eq_1, varV.eq_1, varR.eq_1, varR.eq_2, varD.eq_1, setA.eq_1, setA.eq_2, setA.eq_4, setA.eq_5, setVA.eq_1, setVA.eq_2, setVA.eq_3, setVA.eq_4, asgA.eq_1, asgA.eq_2, asgA.eq_3, asgA.eq_4, asgB.eq_1, asgB.eq_2, expA.eq_1, expA.eq_2, expA.eq_3, retA.eq_1, retA.eq_2, retA.eq_3, retVA.eq_1, retVA.eq_2, retVA.eq_3, retVA.eq_4, forA.eq_1, forA.eq_2, forA.eq_3, sl0.eq_1, sl0.eq_2, sl0.eq_3, sl1.eq_1, sl1.eq_2, sl2.eq_1, sl2.eq_2, sl3.eq_1, sl3.eq_2, optA.eq_1, bdyA.eq_1, bdyA.eq_2, iPA.eq_1, iPA.eq_2, iPA.eq_3, iPA.eq_5, iPA.eq_6, enA.eq_1, enA.eq_3, enA.eq_4, zpA.eq_1, zpA.eq_3, zpA.eq_4, rvA.eq_1, rvA.eq_3, rvA.eq_4, ch1.eq_1, ch1.eq_2, ch1.eq_3, ch2.eq_1, ch2.eq_2, ch2.eq_3, chA.eq_1, chB.eq_1, chB.eq_2, chB.eq_3, chC.eq_1, chC.eq_2, lc0.eq_2, lc0.eq_3, lcA.eq_1, lcA.eq_2, augA.eq_1, augB.eq_1, augB.eq_3, augB.eq_4, appA.eq_1, appB.eq_1, appB.eq_2, appB.eq_3, putA.eq_1, putA.eq_2, putA.eq_3, putA2.eq_1, putA2.eq_2, putB.eq_1, putC.eq_1, putD.eq_1, pixA.eq_1, pixA2.eq_1, pixB.eq_1, tryA.eq_1, tryB.eq_1, tryB.eq_2, tryB.eq_3, noEr.eq_1, repA.eq_1, repA2.eq_1, repA2.eq_2, repB.eq_1, rdT.eq_1, rdT.eq_2, toV.eq_1, toV.eq_2, toV.eq_3, toV.eq_4, toV.eq_5, toV.eq_6, ofV.eq_1, ofV.eq_2, ofV.eq_4, ofV.eq_5, tOf.eq_1, tOf.eq_2, isL.eq_1, getT.eq_1, getT.eq_2, getT.eq_3, setT.eq_1, setT.eq_2, setT.eq_3, T.data.eq_1, T.data.eq_2, finW.eq_1, finW.eq_2, finW.eq_3, finW.eq_4, finW.eq_6, tgS.eq_1, wipeE.eq_1, fAdd.eq_1, fAdd.eq_2, fI2.eq_1, fB2.eq_1, fU.eq_1, fLen.eq_1, fLen.eq_2, fLen.eq_3, fIx.eq_1, fIx.eq_2, fIx.eq_3, fIsN.eq_1, fNotN.eq_1, isNone.eq_1, fInt.eq_1, fInt.eq_2, fInt.eq_3, fLs.eq_1, fLs.eq_2, fTp.eq_1, fTp.eq_2, fSlP.eq_3, wOf_l, wOf_o, tryA_nx, tryA_rt, tryA_bk, tryA_ct, noEr_nx, noEr_rt, noEr_bk, noEr_ct, isNone_i, isNone_b, isNone_s, isNone_l, isNone_t, iL_app, iL_len, iL_rep, iL_rev, allD_iL, dataL_iL, q_int, q_t, q_l, n_t, n_l, n_int, q_self, n_self, s_to, s_from, s_mid, sl_to, sl_from, sl_mid, add_t, add_l, cat_l, isi_t, isi_b, isi_i, isi_l, isi_s, at_0, at_1, at_2, at_3, at_4, at_5, at_6, ai_0, ai_1, ai_2, ai_3, ai_4, ai_5, ai_6, tgN_a, tgT_a, apd_ok, lc_ok, rg1_ok, rg2_ok, iL_snoc, iL_mapd, lc_const, rngD_len, iL_take, iL_drop, Int.toNat_natCast, dataL_nil, dataL_cons, allD.eq_1, allD.eq_2, ixN_ok, rep_l, tgS_nil, rep_none, rep_none0, List.take_left, List.drop_left, any_false, all_true, eq_self, set_iL, at_last, List.drop_succ_cons, List.drop_zero, List.take_succ_cons, List.take_zero, List.getLast?_cons_cons, List.getLast?_singleton, Int.cast_ofNat_Int, rg3_ok, rngC_len, fRv_l, Env.set.eq_1, T.data.eq_3, ad1.eq_1, ad1.eq_2, ad1.eq_3, ad2.eq_1, ad2.eq_2, ad3.eq_1, ad3.eq_2, ad3.eq_3, appA.eq_2, appA.eq_3, appP.eq_1, appP.eq_2, appT.eq_1, appT.eq_2, asDA.eq_1, asDA.eq_2, asDA.eq_4, asDA.eq_5, boxA.eq_1, boxA.eq_3, boxA.eq_4, calF.eq_1, calF.eq_2, calM.eq_1, calM.eq_2, calM.eq_3, cpL.eq_1, cpL.eq_2, cpT.eq_1, cpT.eq_2, cpT.eq_3, delA.eq_1, delA.eq_2, delA.eq_3, delA.eq_4, delA.eq_5, delA.eq_6, difA.eq_1, difA.eq_3, difA.eq_4, exDA.eq_1, exDA.eq_2, exDA.eq_3, extA.eq_1, extA.eq_2, extA.eq_3, extB.eq_1, extB.eq_2, extB.eq_3, extD.eq_1, extD.eq_2, extL.eq_1, extL.eq_2, extP.eq_1, extP.eq_2, faA.eq_1, faA.eq_2, faA.eq_3, faB.eq_1, faB.eq_2, faB2.eq_1, faC.eq_1, faD.eq_1, faD.eq_2, faE.eq_1, fldA.eq_1, fldA.eq_2, fldA.eq_3, fldB.eq_1, fldC.eq_1, fldC.eq_2, fldP.eq_1, fldP.eq_2, forJA.eq_1, forJA.eq_2, forJA.eq_3, forW.eq_1, forW.eq_2, fpA.eq_1, fpA.eq_2, fpA.eq_3, fpA1.eq_1, fpA1.eq_2, fpA2.eq_1, fpA2.eq_2, fpA2.eq_3, fpB.eq_1, fpB.eq_2, fpC.eq_1, fpD.eq_1, fpD.eq_2, fwA.eq_1, fwA.eq_2, fwA.eq_3, fwA.eq_4, fwA.eq_5, fwA.eq_6, fzA.eq_1, fzB.eq_1, fzB.eq_2, gQ.eq_1, gQ.eq_2, getR.eq_1, getR.eq_2, getT.eq_4, getT.eq_5, gsA.eq_1, gsA.eq_2, gsB.eq_1, gsB.eq_2, gsC.eq_1, iEnA.eq_1, iEnA.eq_2, iEnA.eq_3, iEnA.eq_4, iEnA.eq_6, iEnA.eq_7, iTA.eq_1, iTA.eq_2, iTA.eq_3, iTA.eq_4, iTA.eq_5, iTA.eq_6, iTA.eq_8, iTA.eq_9, iTp.eq_1, isBx.eq_1, isBx.eq_2, isBx.eq_3, isFix.eq_1, isFix.eq_2, itm.eq_1, itsP.eq_1, itsQ.eq_1, itsQ.eq_2, itsW.eq_1, itsW.eq_2, ixTA.eq_1, ixTA.eq_3, ixTA.eq_4, ixTB.eq_1, ixTB.eq_2, ixTC.eq_1, ixTC.eq_2, jsA.eq_1, jsA.eq_2, jsB.eq_1, jsB.eq_2, jsC.eq_1, jsD.eq_1, jsD.eq_2, lcC.eq_1, lcJA.eq_1, lcJA.eq_2, lcJA.eq_3, lsA.eq_1, lsA.eq_3, lsA.eq_4, lsB.eq_1, lsB.eq_2, lsC.eq_1, lsDA.eq_1, lsDA.eq_2, lsDA.eq_3, makA.eq_1, makA.eq_2, makA.eq_3, makB.eq_1, makB.eq_2, makC.eq_1, makC.eq_3, makC.eq_4, metA.eq_1, metA.eq_3, metA.eq_4, metB.eq_1, metC.eq_1, metC.eq_2, metC.eq_3, metD.eq_1, metD.eq_2, movA.eq_1, movB.eq_1, movB.eq_2, nnA.eq_1, nnA.eq_2, nnA.eq_3, nnB.eq_1, nnB.eq_2, noneW.eq_1, noneW.eq_2, noneW.eq_3, noneW.eq_4, noneW.eq_5, noneW.eq_6, ofA.eq_1, ofA.eq_2, ofA.eq_3, orE.eq_1, orE.eq_2, orE.eq_3, pixA.eq_2, pixA.eq_3, pixA2.eq_2, pixB.eq_2, pixC.eq_1, pixC.eq_2, pixP.eq_1, pixP.eq_2, plc.eq_1, plc.eq_2, popA.eq_1, popA.eq_2, popA.eq_3, popA0.eq_1, popA0.eq_2, popA0.eq_3, popA2.eq_1, popA2.eq_2, popB.eq_1, popB.eq_2, popD.eq_1, popD.eq_2, popE.eq_1, popE.eq_2, popL.eq_1, popL.eq_2, popZ.eq_1, popZ.eq_2, prpA.eq_1, prpA.eq_3, prpA.eq_4, prpB.eq_1, prpC.eq_1, putB.eq_2, putB.eq_3, putC.eq_2, putE.eq_1, putE.eq_2, putM.eq_1, putM.eq_2, putM.eq_3, putN.eq_1, putN.eq_2, putO.eq_1, putO2.eq_1, putO2.eq_2, putP.eq_1, putP.eq_2, putQ.eq_1, putR.eq_1, putR.eq_2, rdJ.eq_1, rdJ.eq_2, rdP.eq_1, rdP.eq_2, rdP.eq_3, rs1A.eq_1, rs1A.eq_2, rs1A.eq_3, rs1A.eq_4, rvA'.eq_1, rvA'.eq_2, rvA'.eq_3, rvB.eq_1, rvB.eq_2, rvC.eq_1, sQ.eq_1, sQ.eq_2, setR.eq_1, setR.eq_2, setT.eq_4, setT.eq_5, stO.eq_1, stO.eq_2, stO.eq_3, stO.eq_4, stO.eq_5, stO.eq_6, stb.eq_1, swpA.eq_1, swpA.eq_2, tpDA.eq_1, tpDA.eq_2, tpDA.eq_3, truA.eq_1, truA.eq_2, truA.eq_3, truB.eq_1, truB.eq_2, truD.eq_1, truD.eq_2, truD.eq_3, truD.eq_4, truD.eq_5, truD.eq_6, truP.eq_1, truP.eq_2, truT.eq_1, truT.eq_2, tyA.eq_1, wipeS.eq_1, wipeS.eq_2, ↓x_ad0, ↓x_ad1, ↓x_fld, ↓x_meth, ↓x_make, ↓x_prop, ↓x_box, ↓x_fldP, ↓x_fldA, ↓x_isN, ↓x_tru, ↓x_mov, ↓x_dif, ↓x_iT, ↓x_iEn, ↓x_forJ, ↓x_lcJ, ↓x_raise1, ↓x_tryA, ↓x_expD, ↓x_rvM, ↓x_frz, ↓x_lsT, ↓x_lstD, ↓x_tupD, ↓x_ixT, ↓x_asgD, ↓x_of, getE_q, setE_q, rdI_l, tyA_nx, tyA_rt, tyA_bk, tyA_ct, tyB_t, tyB_f, x_wh, rdP_l, rdP_o, rdP_k, rdP_m, truW_r, truW_p, lcE_ok, frz_nil, frz_d, frz_r, frz_l, cpL_r, gc_ne, gc_new, ofS_inj, q_lit, n_lit, lk_lit, in_nil, in_cons, ev_s, ev_i, fl_i, fl_s, fl_n, fl_b, in_l, in_t, q_nn, q_in, q_ni, n_nn, n_in, n_ni, q_bb, n_bb, isNone_n, isi_n, String.reduceEq, Option.bind_some, Option.bind_none, List.isEmpty_nil, List.isEmpty_cons, tgT_t, cpL_d, Option.toList_some, Option.toList_none, Int.add_zero, Int.zero_add, Int.sub_zero, Int.reduceMod, Int.reduceDiv, Nat.reduceMod, Nat.reduceDiv, beq_self_eq_true, Bool.true_beq, Bool.false_beq, bb_t, bb_f, ↓x_rd, rdA_r, rdA_p, rdA_v, rdA_l, rdA_er, wOf_r, wOf_t, wOf_d, or_true, true_or, or_false, false_or, and_false, false_and, not_true_eq_false, not_false_eq_true, and_self, or_self, evA_nil, evA_cons, evA_nc, evA_cn, ev_tt, ev_ll, ev_ii, ev_ss, ev_nn, ev_ni, ev_in, ev_ns, ev_sn, ev_bb, ixN_last, gc_lt, List.set_set, isB_b, notB_b, isB_i, notB_i, isB_n, notB_n, isB_l, notB_l, ↓x_pop, ↓x_pop0, ↓x_ext, ↓x_swp, forL_nil, forL_c, in_ti1, in_li1, in_ts1, in_ls1, in_ti2, in_li2, in_ts2, in_ls2, in_ti3, in_li3, in_ts3, in_ls3, in_ti4, in_li4, in_ts4, in_ls4, in_ti5, in_li5, in_ts5, in_ls5, in_ti6, in_li6, in_ts6, in_ls6, cz, cp0, cn0, Bool.false_xor, Bool.true_xor, Bool.xor_false, Bool.xor_true, Option.isNone_none, Option.isNone_some, Option.isSome_none, Option.isSome_some, itsW_p, itsW_r, popC_ok, extE_ok, is_bool_i, is_str_i, is_list_i, is_tuple_i, is_dict_i, is_int_b, is_str_b, is_list_b, is_tuple_b, is_dict_b, is_int_s, is_bool_s, is_list_s, is_tuple_s, is_dict_s, is_int_l, is_bool_l, is_str_l, is_tuple_l, is_dict_l, is_int_t, is_bool_t, is_str_t, is_list_t, is_dict_t, is_int_n, is_bool_n, is_str_n, is_list_n, is_tuple_n, is_dict_n, Option.join_some, Option.join_none, ih (by simp [iL])]
    have e5 : fAll (.list (((l.filter fun b => decide (b.1 ≠ a.1)).map (·.2)).map fun q => PyData.bool (decide (q + 8 ≤ a.2)))) = some (.bool (winB l a)) := by
      rw [all_map (fun q => decide (q + 8 ≤ a.2))]
      congr 2
      unfold winB
      rw [List.all_map, List.all_filter]
      congr 1
      funext b
      by_cases h : b.1 = a.1 <;> simp [h]
    by_cases hw : winB l a = true
    · simp (disch := (first | with_reducible assumption | omega | (simp only [iL_len, rngD_len, rngC_len, List.length_append, List.length_replicate, List.length_cons, List.length_nil, List.length_map, List.length_take, List.length_drop, List.length_range, SZ] <;> omega) | (simp only [iL_len, rngD_len, rngC_len, List.length_append, List.length_replicate, List.length_cons, List.length_nil, List.length_map, List.length_take, List.length_drop, List.length_range, SZ] at * <;> omega) | fail)) only [↓x_seq, ↓x_nil, ↓x_if, ↓x_set, ↓x_setV, ↓x_asg, ↓x_exp, ↓x_ret, ↓x_retV, ↓x_retN, ↓x_brk, ↓x_cnt, ↓x_for, ↓x_bdy, ↓x_C, ↓x_var, ↓x_dvar, ↓x_v1, ↓x_v2, ↓x_d1L, ↓x_d2L, ↓x_and, ↓x_or, ↓x_not, ↓x_ifx, ↓x_args0, ↓x_args1, ↓x_tup, ↓x_lst, ↓x_call, ↓x_vD, ↓x_dV, ↓x_slP, ↓x_opt0, ↓x_opt1, ↓x_iP, ↓x_rg1, ↓x_rg2, ↓x_rg3, ↓x_en, ↓x_zp, ↓x_rv, ↓x_ch, ↓x_lc, ↓x_aug, ↓x_app, ↓x_put, ↓x_pix, ↓x_try, ↓x_rep, ↓x_raise0, y_sq, y_sif, y_retV, y_setV, y_toV, y_ofV, y_orw, y_and, y_or, y_not, y_v1, y_v2a, y_v2b, y_finW, y_calB, sq_nx, sq_rt, sq_bk, sq_ct, sq_er, sq_no, dataL_d, allD_d, fnD, SZ, List.getElem?_cons_zero, List.getElem?_cons_succ, List.getElem?_nil, List.set_cons_zero, List.set_cons_succ, List.map_cons, List.map_nil, List.length_cons, List.length_nil, List.length_map, List.length_append, List.cons_append, List.nil_append, List.append_nil, Nat.reduceAdd, Nat.reduceSub, Nat.zero_add, Nat.add_zero, Option.map_some, Option.map_none, Option.getD_some, Option.getD_none, Bool.false_eq_true, Bool.true_eq_false, Bool.and_false, Bool.false_and, Bool.and_true, Bool.true_and, Bool.or_false, Bool.false_or, Bool.or_true, Bool.true_or, Bool.not_true, Bool.not_false, if_true, if_false, ite_true, ite_false, decide_eq_true_eq, Bool.and_eq_true, Bool.or_eq_true, Bool.not_eq_true', decide_eq_false_iff_not, decide_true, decide_false, true_and, and_true, reduceCtorEq, Int.reduceNeg, Int.reduceLT, Int.reduceLE, Int.reduceToNat, Nat.reduceLeDiff, Int.reduceAbs, Int.reduceSub, Int.reduceAdd, Int.reduceMul, Int.reduceEq, Nat.reduceMul, Nat.reduceEqDiff, Nat.reduceLT, Nat.reducePow, Int.reducePow, ↓reduceIte, ite_not, sif.eq_1, sif.eq_3, sif.eq_4, andA.eq_1, andA.eq_3, andA.eq_4, orA.eq_1, orA.eq_3, orA.eq_4, notA.eq_1, notA.eq_3, notA.eq_4, ifA.eq_1, ifA.eq_3, ifA.eq_4, orw.eq_1, orw.eq_2, orw.eq_3, v1r.eq_1, v1r.eq_2, v1a.eq_1, v1a.eq_2, v1a.eq_3, v2a.eq_1, v2a.eq_2, v2a.eq_3, v2b.eq_1, v2b.eq_2, v2b.eq_3, dlr.eq_1, dlr.eq_2, d1a.eq_1, d1a.eq_2, d1a.eq_3, d2a.eq_1, d2a.eq_2, d2a.eq_3, d2b.eq_1, d2b.eq_2, d2b.eq_3, ar1.eq_1, ar1.eq_2, ar1.eq_3, ar1.eq_4, ar2.eq_1, ar2.eq_2, ar2.eq_3, tupA.eq_1, tupA.eq_2, tupA.eq_3, lstA.eq_1, lstA.eq_2, lstA.eq_3, calA.eq_1, calA.eq_2, calA.eq_3, calB.eq_1, calB.eq_2, calB.eq_3, wOf.eq_1, varV.eq_1, varR.eq_1, varR.eq_2, varD.eq_1, setA.eq_1, setA.eq_2, setA.eq_4, setA.eq_5, setVA.eq_1, setVA.eq_2, setVA.eq_3, setVA.eq_4, asgA.eq_1, asgA.eq_2, asgA.eq_3, asgA.eq_4, asgB.eq_1, asgB.eq_2, expA.eq_1, expA.eq_2, expA.eq_3, retA.eq_1, retA.eq_2, retA.eq_3, retVA.eq_1, retVA.eq_2, retVA.eq_3, retVA.eq_4, forA.eq_1, forA.eq_2, forA.eq_3, sl0.eq_1, sl0.eq_2, sl0.eq_3, sl1.eq_1, sl1.eq_2, sl2.eq_1, sl2.eq_2, sl3.eq_1, sl3.eq_2, optA.eq_1, bdyA.eq_1, bdyA.eq_2, iPA.eq_1, iPA.eq_2, iPA.eq_3, iPA.eq_5, iPA.eq_6, enA.eq_1, enA.eq_3, enA.eq_4, zpA.eq_1, zpA.eq_3, zpA.eq_4, rvA.eq_1, rvA.eq_3, rvA.eq_4, ch1.eq_1, ch1.eq_2, ch1.eq_3, ch2.eq_1, ch2.eq_2, ch2.eq_3, chA.eq_1, chB.eq_1, chB.eq_2, chB.eq_3, chC.eq_1, chC.eq_2, lc0.eq_2, lc0.eq_3, lcA.eq_1, lcA.eq_2, augA.eq_1, augB.eq_1, augB.eq_3, augB.eq_4, appA.eq_1, appB.eq_1, appB.eq_2, appB.eq_3, putA.eq_1, putA.eq_2, putA.eq_3, putA2.eq_1, putA2.eq_2, putB.eq_1, putC.eq_1, putD.eq_1, pixA.eq_1, pixA2.eq_1, pixB.eq_1, tryA.eq_1, tryB.eq_1, tryB.eq_2, tryB.eq_3, noEr.eq_1, repA.eq_1, repA2.eq_1, repA2.eq_2, repB.eq_1, rdT.eq_1, rdT.eq_2, toV.eq_1, toV.eq_2, toV.eq_3, toV.eq_4, toV.eq_5, toV.eq_6, ofV.eq_1, ofV.eq_2, ofV.eq_4, ofV.eq_5, tOf.eq_1, tOf.eq_2, isL.eq_1, getT.eq_1, getT.eq_2, getT.eq_3, setT.eq_1, setT.eq_2, setT.eq_3, T.data.eq_1, T.data.eq_2, finW.eq_1, finW.eq_2, finW.eq_3, finW.eq_4, finW.eq_6, tgS.eq_1, wipeE.eq_1, fAdd.eq_1, fAdd.eq_2, fI2.eq_1, fB2.eq_1, fU.eq_1, fLen.eq_1, fLen.eq_2, fLen.eq_3, fIx.eq_1, fIx.eq_2, fIx.eq_3, fIsN.eq_1, fNotN.eq_1, isNone.eq_1, fInt.eq_1, fInt.eq_2, fInt.eq_3, fLs.eq_1, fLs.eq_2, fTp.eq_1, fTp.eq_2, fSlP.eq_3, wOf_l, wOf_o, tryA_nx, tryA_rt, tryA_bk, tryA_ct, noEr_nx, noEr_rt, noEr_bk, noEr_ct, isNone_i, isNone_b, isNone_s, isNone_l, isNone_t, iL_app, iL_len, iL_rep, iL_rev, allD_iL, dataL_iL, q_int, q_t, q_l, n_t, n_l, n_int, q_self, n_self, s_to, s_from, s_mid, sl_to, sl_from, sl_mid, add_t, add_l, cat_l, isi_t, isi_b, isi_i, isi_l, isi_s, at_0, at_1, at_2, at_3, at_4, at_5, at_6, ai_0, ai_1, ai_2, ai_3, ai_4, ai_5, ai_6, tgN_a, tgT_a, apd_ok, lc_ok, rg1_ok, rg2_ok, iL_snoc, iL_mapd, lc_const, rngD_len, iL_take, iL_drop, Int.toNat_natCast, dataL_nil, dataL_cons, allD.eq_1, allD.eq_2, ixN_ok, rep_l, tgS_nil, rep_none, rep_none0, List.take_left, List.drop_left, any_false, all_true, eq_self, set_iL, at_last, List.drop_succ_cons, List.drop_zero, List.take_succ_cons, List.take_zero, List.getLast?_cons_cons, List.getLast?_singleton, Int.cast_ofNat_Int, rg3_ok, rngC_len, fRv_l, Env.set.eq_1, T.data.eq_3, ad1.eq_1, ad1.eq_2, ad1.eq_3, ad2.eq_1, ad2.eq_2, ad3.eq_1, ad3.eq_2, ad3.eq_3, appA.eq_2, appA.eq_3, appP.eq_1, appP.eq_2, appT.eq_1, appT.eq_2, asDA.eq_1, asDA.eq_2, asDA.eq_4, asDA.eq_5, boxA.eq_1, boxA.eq_3, boxA.eq_4, calF.eq_1, calF.eq_2, calM.eq_1, calM.eq_2, calM.eq_3, cpL.eq_1, cpL.eq_2, cpT.eq_1, cpT.eq_2, cpT.eq_3, delA.eq_1, delA.eq_2, delA.eq_3, delA.eq_4, delA.eq_5, delA.eq_6, difA.eq_1, difA.eq_3, difA.eq_4, exDA.eq_1, exDA.eq_2, exDA.eq_3, extA.eq_1, extA.eq_2, extA.eq_3, extB.eq_1, extB.eq_2, extB.eq_3, extD.eq_1, extD.eq_2, extL.eq_1, extL.eq_2, extP.eq_1, extP.eq_2, faA.eq_1, faA.eq_2, faA.eq_3, faB.eq_1, faB.eq_2, faB2.eq_1, faC.eq_1, faD.eq_1, faD.eq_2, faE.eq_1, fldA.eq_1, fldA.eq_2, fldA.eq_3, fldB.eq_1, fldC.eq_1, fldC.eq_2, fldP.eq_1, fldP.eq_2, forJA.eq_1, forJA.eq_2, forJA.eq_3, forW.eq_1, forW.eq_2, fpA.eq_1, fpA.eq_2, fpA.eq_3, fpA1.eq_1, fpA1.eq_2, fpA2.eq_1, fpA2.eq_2, fpA2.eq_3, fpB.eq_1, fpB.eq_2, fpC.eq_1, fpD.eq_1, fpD.eq_2, fwA.eq_1, fwA.eq_2, fwA.eq_3, fwA.eq_4, fwA.eq_5, fwA.eq_6, fzA.eq_1, fzB.eq_1, fzB.eq_2, gQ.eq_1, gQ.eq_2, getR.eq_1, getR.eq_2, getT.eq_4, getT.eq_5, gsA.eq_1, gsA.eq_2, gsB.eq_1, gsB.eq_2, gsC.eq_1, iEnA.eq_1, iEnA.eq_2, iEnA.eq_3, iEnA.eq_4, iEnA.eq_6, iEnA.eq_7, iTA.eq_1, iTA.eq_2, iTA.eq_3, iTA.eq_4, iTA.eq_5, iTA.eq_6, iTA.eq_8, iTA.eq_9, iTp.eq_1, isBx.eq_1, isBx.eq_2, isBx.eq_3, isFix.eq_1, isFix.eq_2, itm.eq_1, itsP.eq_1, itsQ.eq_1, itsQ.eq_2, itsW.eq_1, itsW.eq_2, ixTA.eq_1, ixTA.eq_3, ixTA.eq_4, ixTB.eq_1, ixTB.eq_2, ixTC.eq_1, ixTC.eq_2, jsA.eq_1, jsA.eq_2, jsB.eq_1, jsB.eq_2, jsC.eq_1, jsD.eq_1, jsD.eq_2, lcC.eq_1, lcJA.eq_1, lcJA.eq_2, lcJA.eq_3, lsA.eq_1, lsA.eq_3, lsA.eq_4, lsB.eq_1, lsB.eq_2, lsC.eq_1, lsDA.eq_1, lsDA.eq_2, lsDA.eq_3, makA.eq_1, makA.eq_2, makA.eq_3, makB.eq_1, makB.eq_2, makC.eq_1, makC.eq_3, makC.eq_4, metA.eq_1, metA.eq_3, metA.eq_4, metB.eq_1, metC.eq_1, metC.eq_2, metC.eq_3, metD.eq_1, metD.eq_2, movA.eq_1, movB.eq_1, movB.eq_2, nnA.eq_1, nnA.eq_2, nnA.eq_3, nnB.eq_1, nnB.eq_2, noneW.eq_1, noneW.eq_2, noneW.eq_3, noneW.eq_4, noneW.eq_5, noneW.eq_6, ofA.eq_1, ofA.eq_2, ofA.eq_3, orE.eq_1, orE.eq_2, orE.eq_3, pixA.eq_2, pixA.eq_3, pixA2.eq_2, pixB.eq_2, pixC.eq_1, pixC.eq_2, pixP.eq_1, pixP.eq_2, plc.eq_1, plc.eq_2, popA.eq_1, popA.eq_2, popA.eq_3, popA0.eq_1, popA0.eq_2, popA0.eq_3, popA2.eq_1, popA2.eq_2, popB.eq_1, popB.eq_2, popD.eq_1, popD.eq_2, popE.eq_1, popE.eq_2, popL.eq_1, popL.eq_2, popZ.eq_1, popZ.eq_2, prpA.eq_1, prpA.eq_3, prpA.eq_4, prpB.eq_1, prpC.eq_1, putB.eq_2, putB.eq_3, putC.eq_2, putE.eq_1, putE.eq_2, putM.eq_1, putM.eq_2, putM.eq_3, putN.eq_1, putN.eq_2, putO.eq_1, putO2.eq_1, putO2.eq_2, putP.eq_1, putP.eq_2, putQ.eq_1, putR.eq_1, putR.eq_2, rdJ.eq_1, rdJ.eq_2, rdP.eq_1, rdP.eq_2, rdP.eq_3, rs1A.eq_1, rs1A.eq_2, rs1A.eq_3, rs1A.eq_4, rvA'.eq_1, rvA'.eq_2, rvA'.eq_3, rvB.eq_1, rvB.eq_2, rvC.eq_1, sQ.eq_1, sQ.eq_2, setR.eq_1, setR.eq_2, setT.eq_4, setT.eq_5, stO.eq_1, stO.eq_2, stO.eq_3, stO.eq_4, stO.eq_5, stO.eq_6, stb.eq_1, swpA.eq_1, swpA.eq_2, tpDA.eq_1, tpDA.eq_2, tpDA.eq_3, truA.eq_1, truA.eq_2, truA.eq_3, truB.eq_1, truB.eq_2, truD.eq_1, truD.eq_2, truD.eq_3, truD.eq_4, truD.eq_5, truD.eq_6, truP.eq_1, truP.eq_2, truT.eq_1, truT.eq_2, tyA.eq_1, wipeS.eq_1, wipeS.eq_2, ↓x_ad0, ↓x_ad1, ↓x_fld, ↓x_meth, ↓x_make, ↓x_prop, ↓x_box, ↓x_fldP, ↓x_fldA, ↓x_isN, ↓x_tru, ↓x_mov, ↓x_dif, ↓x_iT, ↓x_iEn, ↓x_forJ, ↓x_lcJ, ↓x_raise1, ↓x_tryA, ↓x_expD, ↓x_rvM, ↓x_frz, ↓x_lsT, ↓x_lstD, ↓x_tupD, ↓x_ixT, ↓x_asgD, ↓x_of, getE_q, setE_q, rdI_l, tyA_nx, tyA_rt, tyA_bk, tyA_ct, tyB_t, tyB_f, x_wh, rdP_l, rdP_o, rdP_k, rdP_m, truW_r, truW_p, lcE_ok, frz_nil, frz_d, frz_r, frz_l, cpL_r, gc_ne, gc_new, ofS_inj, q_lit, n_lit, lk_lit, in_nil, in_cons, ev_s, ev_i, fl_i, fl_s, fl_n, fl_b, in_l, in_t, q_nn, q_in, q_ni, n_nn, n_in, n_ni, q_bb, n_bb, isNone_n, isi_n, String.reduceEq, Option.bind_some, Option.bind_none, List.isEmpty_nil, List.isEmpty_cons, tgT_t, cpL_d, Option.toList_some, Option.toList_none, Int.add_zero, Int.zero_add, Int.sub_zero, Int.reduceMod, Int.reduceDiv, Nat.reduceMod, Nat.reduceDiv, beq_self_eq_true, Bool.true_beq, Bool.false_beq, bb_t, bb_f, ↓x_rd, rdA_r, rdA_p, rdA_v, rdA_l, rdA_er, wOf_r, wOf_t, wOf_d, or_true, true_or, or_false, false_or, and_false, false_and, not_true_eq_false, not_false_eq_true, and_self, or_self, evA_nil, evA_cons, evA_nc, evA_cn, ev_tt, ev_ll, ev_ii, ev_ss, ev_nn, ev_ni, ev_in, ev_ns, ev_sn, ev_bb, ixN_last, gc_lt, List.set_set, isB_b, notB_b, isB_i, notB_i, isB_n, notB_n, isB_l, notB_l, ↓x_pop, ↓x_pop0, ↓x_ext, ↓x_swp, forL_nil, forL_c, in_ti1, in_li1, in_ts1, in_ls1, in_ti2, in_li2, in_ts2, in_ls2, in_ti3, in_li3, in_ts3, in_ls3, in_ti4, in_li4, in_ts4, in_ls4, in_ti5, in_li5, in_ts5, in_ls5, in_ti6, in_li6, in_ts6, in_ls6, cz, cp0, cn0, Bool.false_xor, Bool.true_xor, Bool.xor_false, Bool.xor_true, Option.isNone_none, Option.isNone_some, Option.isSome_none, Option.isSome_some, itsW_p, itsW_r, popC_ok, extE_ok, is_bool_i, is_str_i, is_list_i, is_tuple_i, is_dict_i, is_int_b, is_str_b, is_list_b, is_tuple_b, is_dict_b, is_int_s, is_bool_s, is_list_s, is_tuple_s, is_dict_s, is_int_l, is_bool_l, is_str_l, is_tuple_l, is_dict_l, is_int_t, is_bool_t, is_str_t, is_list_t, is_dict_t, is_int_n, is_bool_n, is_str_n, is_list_n, is_tuple_n, is_dict_n, Option.join_some, Option.join_none, b_heard_1, e1, e2, e4, e5, hw]
      exact ⟨some a, rfl, fun b e => by cases e; exact (winB_iff hm).mp hw, fun e => by cases e⟩
    · have hw2 : winB l a = false := by simpa using hw
      simp (disch := (first | with_reducible assumption | omega | (simp only [iL_len, rngD_len, rngC_len, List.length_append, List.length_replicate, List.length_cons, List.length_nil, List.length_map, List.length_take, List.length_drop, List.length_range, SZ] <;> omega) | (simp only [iL_len, rngD_len, rngC_len, List.length_append, List.length_replicate, List.length_cons, List.length_nil, List.length_map, List.length_take, List.length_drop, List.length_range, SZ] at * <;> omega) | fail)) only [↓x_seq, ↓x_nil, ↓x_if, ↓x_set, ↓x_setV, ↓x_asg, ↓x_exp, ↓x_ret, ↓x_retV, ↓x_retN, ↓x_brk, ↓x_cnt, ↓x_for, ↓x_bdy, ↓x_C, ↓x_var, ↓x_dvar, ↓x_v1, ↓x_v2, ↓x_d1L, ↓x_d2L, ↓x_and, ↓x_or, ↓x_not, ↓x_ifx, ↓x_args0, ↓x_args1, ↓x_tup, ↓x_lst, ↓x_call, ↓x_vD, ↓x_dV, ↓x_slP, ↓x_opt0, ↓x_opt1, ↓x_iP, ↓x_rg1, ↓x_rg2, ↓x_rg3, ↓x_en, ↓x_zp, ↓x_rv, ↓x_ch, ↓x_lc, ↓x_aug, ↓x_app, ↓x_put, ↓x_pix, ↓x_try, ↓x_rep, ↓x_raise0, y_sq, y_sif, y_retV, y_setV, y_toV, y_ofV, y_orw, y_and, y_or, y_not, y_v1, y_v2a, y_v2b, y_finW, y_calB, sq_nx, sq_rt, sq_bk, sq_ct, sq_er, sq_no, dataL_d, allD_d, fnD, SZ, List.getElem?_cons_zero, List.getElem?_cons_succ, List.getElem?_nil, List.set_cons_zero, List.set_cons_succ, List.map_cons, List.map_nil, List.length_cons, List.length_nil, List.length_map, List.length_append, List.cons_append, List.nil_append, List.append_nil, Nat.reduceAdd, Nat.reduceSub, Nat.zero_add, Nat.add_zero, Option.map_some, Option.map_none, Option.getD_some, Option.getD_none, Bool.false_eq_true, Bool.true_eq_false, Bool.and_false, Bool.false_and, Bool.and_true, Bool.true_and, Bool.or_false, Bool.false_or, Bool.or_true, Bool.true_or, Bool.not_true, Bool.not_false, if_true, if_false, ite_true, ite_false, decide_eq_true_eq, Bool.and_eq_true, Bool.or_eq_true, Bool.not_eq_true', decide_eq_false_iff_not, decide_true, decide_false, true_and, and_true, reduceCtorEq, Int.reduceNeg, Int.reduceLT, Int.reduceLE, Int.reduceToNat, Nat.reduceLeDiff, Int.reduceAbs, Int.reduceSub, Int.reduceAdd, Int.reduceMul, Int.reduceEq, Nat.reduceMul, Nat.reduceEqDiff, Nat.reduceLT, Nat.reducePow, Int.reducePow, ↓reduceIte, ite_not, sif.eq_1, sif.eq_3, sif.eq_4, andA.eq_1, andA.eq_3, andA.eq_4, orA.eq_1, orA.eq_3, orA.eq_4, notA.eq_1, notA.eq_3, notA.eq_4, ifA.eq_1, ifA.eq_3, ifA.eq_4, orw.eq_1, orw.eq_2, orw.eq_3, v1r.eq_1, v1r.eq_2, v1a.eq_1, v1a.eq_2, v1a.eq_3, v2a.eq_1, v2a.eq_2, v2a.eq_3, v2b.eq_1, v2b.eq_2, v2b.eq_3, dlr.eq_1, dlr.eq_2, d1a.eq_1, d1a.eq_2, d1a.eq_3, d2a.eq_1, d2a.eq_2, d2a.eq_3, d2b.eq_1, d2b.eq_2, d2b.eq_3, ar1.eq_1, ar1.eq_2, ar1.eq_3, ar1.eq_4, ar2.eq_1, ar2.eq_2, ar2.eq_3, tupA.eq_1, tupA.eq_2, tupA.eq_3, lstA.eq_1, lstA.eq_2, lstA.eq_3, calA.eq_1, calA.eq_2, calA.eq_3, calB.eq_1, calB.eq_2, calB.eq_3, wOf.eq_1, varV.eq_1, varR.eq_1, varR.eq_2, varD.eq_1, setA.eq_1, setA.eq_2, setA.eq_4, setA.eq_5, setVA.eq_1, setVA.eq_2, setVA.eq_3, setVA.eq_4, asgA.eq_1, asgA.eq_2, asgA.eq_3, asgA.eq_4, asgB.eq_1, asgB.eq_2, expA.eq_1, expA.eq_2, expA.eq_3, retA.eq_1, retA.eq_2, retA.eq_3, retVA.eq_1, retVA.eq_2, retVA.eq_3, retVA.eq_4, forA.eq_1, forA.eq_2, forA.eq_3, sl0.eq_1, sl0.eq_2, sl0.eq_3, sl1.eq_1, sl1.eq_2, sl2.eq_1, sl2.eq_2, sl3.eq_1, sl3.eq_2, optA.eq_1, bdyA.eq_1, bdyA.eq_2, iPA.eq_1, iPA.eq_2, iPA.eq_3, iPA.eq_5, iPA.eq_6, enA.eq_1, enA.eq_3, enA.eq_4, zpA.eq_1, zpA.eq_3, zpA.eq_4, rvA.eq_1, rvA.eq_3, rvA.eq_4, ch1.eq_1, ch1.eq_2, ch1.eq_3, ch2.eq_1, ch2.eq_2, ch2.eq_3, chA.eq_1, chB.eq_1, chB.eq_2, chB.eq_3, chC.eq_1, chC.eq_2, lc0.eq_2, lc0.eq_3, lcA.eq_1, lcA.eq_2, augA.eq_1, augB.eq_1, augB.eq_3, augB.eq_4, appA.eq_1, appB.eq_1, appB.eq_2, appB.eq_3, putA.eq_1, putA.eq_2, putA.eq_3, putA2.eq_1, putA2.eq_2, putB.eq_1, putC.eq_1, putD.eq_1, pixA.eq_1, pixA2.eq_1, pixB.eq_1, tryA.eq_1, tryB.eq_1, tryB.eq_2, tryB.eq_3, noEr.eq_1, repA.eq_1, repA2.eq_1, repA2.eq_2, repB.eq_1, rdT.eq_1, rdT.eq_2, toV.eq_1, toV.eq_2, toV.eq_3, toV.eq_4, toV.eq_5, toV.eq_6, ofV.eq_1, ofV.eq_2, ofV.eq_4, ofV.eq_5, tOf.eq_1, tOf.eq_2, isL.eq_1, getT.eq_1, getT.eq_2, getT.eq_3, setT.eq_1, setT.eq_2, setT.eq_3, T.data.eq_1, T.data.eq_2, finW.eq_1, finW.eq_2, finW.eq_3, finW.eq_4, finW.eq_6, tgS.eq_1, wipeE.eq_1, fAdd.eq_1, fAdd.eq_2, fI2.eq_1, fB2.eq_1, fU.eq_1, fLen.eq_1, fLen.eq_2, fLen.eq_3, fIx.eq_1, fIx.eq_2, fIx.eq_3, fIsN.eq_1, fNotN.eq_1, isNone.eq_1, fInt.eq_1, fInt.eq_2, fInt.eq_3, fLs.eq_1, fLs.eq_2, fTp.eq_1, fTp.eq_2, fSlP.eq_3, wOf_l, wOf_o, tryA_nx, tryA_rt, tryA_bk, tryA_ct, noEr_nx, noEr_rt, noEr_bk, noEr_ct, isNone_i, isNone_b, isNone_s, isNone_l, isNone_t, iL_app, iL_len, iL_rep, iL_rev, allD_iL, dataL_iL, q_int, q_t, q_l, n_t, n_l, n_int, q_self, n_self, s_to, s_from, s_mid, sl_to, sl_from, sl_mid, add_t, add_l, cat_l, isi_t, isi_b, isi_i, isi_l, isi_s, at_0, at_1, at_2, at_3, at_4, at_5, at_6, ai_0, ai_1, ai_2, ai_3, ai_4, ai_5, ai_6, tgN_a, tgT_a, apd_ok, lc_ok, rg1_ok, rg2_ok, iL_snoc, iL_mapd, lc_const, rngD_len, iL_take, iL_drop, Int.toNat_natCast, dataL_nil, dataL_cons, allD.eq_1, allD.eq_2, ixN_ok, rep_l, tgS_nil, rep_none, rep_none0, List.take_left, List.drop_left, any_false, all_true, eq_self, set_iL, at_last, List.drop_succ_cons, List.drop_zero, List.take_succ_cons, List.take_zero, List.getLast?_cons_cons, List.getLast?_singleton, Int.cast_ofNat_Int, rg3_ok, rngC_len, fRv_l, Env.set.eq_1, T.data.eq_3, ad1.eq_1, ad1.eq_2, ad1.eq_3, ad2.eq_1, ad2.eq_2, ad3.eq_1, ad3.eq_2, ad3.eq_3, appA.eq_2, appA.eq_3, appP.eq_1, appP.eq_2, appT.eq_1, appT.eq_2, asDA.eq_1, asDA.eq_2, asDA.eq_4, asDA.eq_5, boxA.eq_1, boxA.eq_3, boxA.eq_4, calF.eq_1, calF.eq_2, calM.eq_1, calM.eq_2, calM.eq_3, cpL.eq_1, cpL.eq_2, cpT.eq_1, cpT.eq_2, cpT.eq_3, delA.eq_1, delA.eq_2, delA.eq_3, delA.eq_4, delA.eq_5, delA.eq_6, difA.eq_1, difA.eq_3, difA.eq_4, exDA.eq_1, exDA.eq_2, exDA.eq_3, extA.eq_1, extA.eq_2, extA.eq_3, extB.eq_1, extB.eq_2, extB.eq_3, extD.eq_1, extD.eq_2, extL.eq_1, extL.eq_2, extP.eq_1, extP.eq_2, faA.eq_1, faA.eq_2, faA.eq_3, faB.eq_1, faB.eq_2, faB2.eq_1, faC.eq_1, faD.eq_1, faD.eq_2, faE.eq_1, fldA.eq_1, fldA.eq_2, fldA.eq_3, fldB.eq_1, fldC.eq_1, fldC.eq_2, fldP.eq_1, fldP.eq_2, forJA.eq_1, forJA.eq_2, forJA.eq_3, forW.eq_1, forW.eq_2, fpA.eq_1, fpA.eq_2, fpA.eq_3, fpA1.eq_1, fpA1.eq_2, fpA2.eq_1, fpA2.eq_2, fpA2.eq_3, fpB.eq_1, fpB.eq_2, fpC.eq_1, fpD.eq_1, fpD.eq_2, fwA.eq_1, fwA.eq_2, fwA.eq_3, fwA.eq_4, fwA.eq_5, fwA.eq_6, fzA.eq_1, fzB.eq_1, fzB.eq_2, gQ.eq_1, gQ.eq_2, getR.eq_1, getR.eq_2, getT.eq_4, getT.eq_5, gsA.eq_1, gsA.eq_2, gsB.eq_1, gsB.eq_2, gsC.eq_1, iEnA.eq_1, iEnA.eq_2, iEnA.eq_3, iEnA.eq_4, iEnA.eq_6, iEnA.eq_7, iTA.eq_1, iTA.eq_2, iTA.eq_3, iTA.eq_4, iTA.eq_5, iTA.eq_6, iTA.eq_8, iTA.eq_9, iTp.eq_1, isBx.eq_1, isBx.eq_2, isBx.eq_3, isFix.eq_1, isFix.eq_2, itm.eq_1, itsP.eq_1, itsQ.eq_1, itsQ.eq_2, itsW.eq_1, itsW.eq_2, ixTA.eq_1, ixTA.eq_3, ixTA.eq_4, ixTB.eq_1, ixTB.eq_2, ixTC.eq_1, ixTC.eq_2, jsA.eq_1, jsA.eq_2, jsB.eq_1, jsB.eq_2, jsC.eq_1, jsD.eq_1, jsD.eq_2, lcC.eq_1, lcJA.eq_1, lcJA.eq_2, lcJA.eq_3, lsA.eq_1, lsA.eq_3, lsA.eq_4, lsB.eq_1, lsB.eq_2, lsC.eq_1, lsDA.eq_1, lsDA.eq_2, lsDA.eq_3, makA.eq_1, makA.eq_2, makA.eq_3, makB.eq_1, makB.eq_2, makC.eq_1, makC.eq_3, makC.eq_4, metA.eq_1, metA.eq_3, metA.eq_4, metB.eq_1, metC.eq_1, metC.eq_2, metC.eq_3, metD.eq_1, metD.eq_2, movA.eq_1, movB.eq_1, movB.eq_2, nnA.eq_1, nnA.eq_2, nnA.eq_3, nnB.eq_1, nnB.eq_2, noneW.eq_1, noneW.eq_2, noneW.eq_3, noneW.eq_4, noneW.eq_5, noneW.eq_6, ofA.eq_1, ofA.eq_2, ofA.eq_3, orE.eq_1, orE.eq_2, orE.eq_3, pixA.eq_2, pixA.eq_3, pixA2.eq_2, pixB.eq_2, pixC.eq_1, pixC.eq_2, pixP.eq_1, pixP.eq_2, plc.eq_1, plc.eq_2, popA.eq_1, popA.eq_2, popA.eq_3, popA0.eq_1, popA0.eq_2, popA0.eq_3, popA2.eq_1, popA2.eq_2, popB.eq_1, popB.eq_2, popD.eq_1, popD.eq_2, popE.eq_1, popE.eq_2, popL.eq_1, popL.eq_2, popZ.eq_1, popZ.eq_2, prpA.eq_1, prpA.eq_3, prpA.eq_4, prpB.eq_1, prpC.eq_1, putB.eq_2, putB.eq_3, putC.eq_2, putE.eq_1, putE.eq_2, putM.eq_1, putM.eq_2, putM.eq_3, putN.eq_1, putN.eq_2, putO.eq_1, putO2.eq_1, putO2.eq_2, putP.eq_1, putP.eq_2, putQ.eq_1, putR.eq_1, putR.eq_2, rdJ.eq_1, rdJ.eq_2, rdP.eq_1, rdP.eq_2, rdP.eq_3, rs1A.eq_1, rs1A.eq_2, rs1A.eq_3, rs1A.eq_4, rvA'.eq_1, rvA'.eq_2, rvA'.eq_3, rvB.eq_1, rvB.eq_2, rvC.eq_1, sQ.eq_1, sQ.eq_2, setR.eq_1, setR.eq_2, setT.eq_4, setT.eq_5, stO.eq_1, stO.eq_2, stO.eq_3, stO.eq_4, stO.eq_5, stO.eq_6, stb.eq_1, swpA.eq_1, swpA.eq_2, tpDA.eq_1, tpDA.eq_2, tpDA.eq_3, truA.eq_1, truA.eq_2, truA.eq_3, truB.eq_1, truB.eq_2, truD.eq_1, truD.eq_2, truD.eq_3, truD.eq_4, truD.eq_5, truD.eq_6, truP.eq_1, truP.eq_2, truT.eq_1, truT.eq_2, tyA.eq_1, wipeS.eq_1, wipeS.eq_2, ↓x_ad0, ↓x_ad1, ↓x_fld, ↓x_meth, ↓x_make, ↓x_prop, ↓x_box, ↓x_fldP, ↓x_fldA, ↓x_isN, ↓x_tru, ↓x_mov, ↓x_dif, ↓x_iT, ↓x_iEn, ↓x_forJ, ↓x_lcJ, ↓x_raise1, ↓x_tryA, ↓x_expD, ↓x_rvM, ↓x_frz, ↓x_lsT, ↓x_lstD, ↓x_tupD, ↓x_ixT, ↓x_asgD, ↓x_of, getE_q, setE_q, rdI_l, tyA_nx, tyA_rt, tyA_bk, tyA_ct, tyB_t, tyB_f, x_wh, rdP_l, rdP_o, rdP_k, rdP_m, truW_r, truW_p, lcE_ok, frz_nil, frz_d, frz_r, frz_l, cpL_r, gc_ne, gc_new, ofS_inj, q_lit, n_lit, lk_lit, in_nil, in_cons, ev_s, ev_i, fl_i, fl_s, fl_n, fl_b, in_l, in_t, q_nn, q_in, q_ni, n_nn, n_in, n_ni, q_bb, n_bb, isNone_n, isi_n, String.reduceEq, Option.bind_some, Option.bind_none, List.isEmpty_nil, List.isEmpty_cons, tgT_t, cpL_d, Option.toList_some, Option.toList_none, Int.add_zero, Int.zero_add, Int.sub_zero, Int.reduceMod, Int.reduceDiv, Nat.reduceMod, Nat.reduceDiv, beq_self_eq_true, Bool.true_beq, Bool.false_beq, bb_t, bb_f, ↓x_rd, rdA_r, rdA_p, rdA_v, rdA_l, rdA_er, wOf_r, wOf_t, wOf_d, or_true, true_or, or_false, false_or, and_false, false_and, not_true_eq_false, not_false_eq_true, and_self, or_self, evA_nil, evA_cons, evA_nc, evA_cn, ev_tt, ev_ll, ev_ii, ev_ss, ev_nn, ev_ni, ev_in, ev_ns, ev_sn, ev_bb, ixN_last, gc_lt, List.set_set, isB_b, notB_b, isB_i, notB_i, isB_n, notB_n, isB_l, notB_l, ↓x_pop, ↓x_pop0, ↓x_ext, ↓x_swp, forL_nil, forL_c, in_ti1, in_li1, in_ts1, in_ls1, in_ti2, in_li2, in_ts2, in_ls2, in_ti3, in_li3, in_ts3, in_ls3, in_ti4, in_li4, in_ts4, in_ls4, in_ti5, in_li5, in_ts5, in_ls5, in_ti6, in_li6, in_ts6, in_ls6, cz, cp0, cn0, Bool.false_xor, Bool.true_xor, Bool.xor_false, Bool.xor_true, Option.isNone_none, Option.isNone_some, Option.isSome_none, Option.isSome_some, itsW_p, itsW_r, popC_ok, extE_ok, is_bool_i, is_str_i, is_list_i, is_tuple_i, is_dict_i, is_int_b, is_str_b, is_list_b, is_tuple_b, is_dict_b, is_int_s, is_bool_s, is_list_s, is_tuple_s, is_dict_s, is_int_l, is_bool_l, is_str_l, is_tuple_l, is_dict_l, is_int_t, is_bool_t, is_str_t, is_list_t, is_dict_t, is_int_n, is_bool_n, is_str_n, is_list_n, is_tuple_n, is_dict_n, Option.join_some, Option.join_none, b_heard_1, e1, e2, e4, e5, hw2]
      refine ⟨fun j b hj hb w => ?_, _, _, _, _, _, rfl⟩
      by_cases hjk : j = k
      · subst hjk
        rw [ha] at hb
        cases hb
        exact hw ((winB_iff hm).mpr w)
      · exact hn j b (by omega) hb w
  · rintro e ⟨hn, a1, a2, a3, a4, a5, rfl⟩
    refine ⟨none, by simp (disch := (first | with_reducible assumption | omega | (simp only [iL_len, rngD_len, rngC_len, List.length_append, List.length_replicate, List.length_cons, List.length_nil, List.length_map, List.length_take, List.length_drop, List.length_range, SZ] <;> omega) | (simp only [iL_len, rngD_len, rngC_len, List.length_append, List.length_replicate, List.length_cons, List.length_nil, List.length_map, List.length_take, List.length_drop, List.length_range, SZ] at * <;> omega) | fail)) only [↓x_seq, ↓x_nil, ↓x_if, ↓x_set, ↓x_setV, ↓x_asg, ↓x_exp, ↓x_ret, ↓x_retV, ↓x_retN, ↓x_brk, ↓x_cnt, ↓x_for, ↓x_bdy, ↓x_C, ↓x_var, ↓x_dvar, ↓x_v1, ↓x_v2, ↓x_d1L, ↓x_d2L, ↓x_and, ↓x_or, ↓x_not, ↓x_ifx, ↓x_args0, ↓x_args1, ↓x_tup, ↓x_lst, ↓x_call, ↓x_vD, ↓x_dV, ↓x_slP, ↓x_opt0, ↓x_opt1, ↓x_iP, ↓x_rg1, ↓x_rg2, ↓x_rg3, ↓x_en, ↓x_zp, ↓x_rv, ↓x_ch, ↓x_lc, ↓x_aug, ↓x_app, ↓x_put, ↓x_pix, ↓x_try, ↓x_rep, ↓x_raise0, y_sq, y_sif, y_retV, y_setV, y_toV, y_ofV, y_orw, y_and, y_or, y_not, y_v1, y_v2a, y_v2b, y_finW, y_calB, sq_nx, sq_rt, sq_bk, sq_ct, sq_er, sq_no, dataL_d, allD_d, fnD, SZ, List.getElem?_cons_zero, List.getElem?_cons_succ, List.getElem?_nil, List.set_cons_zero, List.set_cons_succ, List.map_cons, List.map_nil, List.length_cons, List.length_nil, List.length_map, List.length_append, List.cons_append, List.nil_append, List.append_nil, Nat.reduceAdd, Nat.reduceSub, Nat.zero_add, Nat.add_zero, Option.map_some, Option.map_none, Option.getD_some, Option.getD_none, Bool.false_eq_true, Bool.true_eq_false, Bool.and_false, Bool.false_and, Bool.and_true, Bool.true_and, Bool.or_false, Bool.false_or, Bool.or_true, Bool.true_or, Bool.not_true, Bool.not_false, if_true, if_false, ite_true, ite_false, decide_eq_true_eq, Bool.and_eq_true, Bool.or_eq_true, Bool.not_eq_true', decide_eq_false_iff_not, decide_true, decide_false, true_and, and_true, reduceCtorEq, Int.reduceNeg, Int.reduceLT, Int.reduceLE, Int.reduceToNat, Nat.reduceLeDiff, Int.reduceAbs, Int.reduceSub, Int.reduceAdd, Int.reduceMul, Int.reduceEq, Nat.reduceMul, Nat.reduceEqDiff, Nat.reduceLT, Nat.reducePow, Int.reducePow, ↓reduceIte, ite_not, sif.eq_1, sif.eq_3, sif.eq_4, andA.eq_1, andA.eq_3, andA.eq_4, orA.eq_1, orA.eq_3, orA.eq_4, notA.eq_1, notA.eq_3, notA.eq_4, ifA.eq_1, ifA.eq_3, ifA.eq_4, orw.eq_1, orw.eq_2, orw.eq_3, v1r.eq_1, v1r.eq_2, v1a.eq_1, v1a.eq_2, v1a.eq_3, v2a.eq_1, v2a.eq_2, v2a.eq_3, v2b.eq_1, v2b.eq_2, v2b.eq_3, dlr.eq_1, dlr.eq_2, d1a.eq_1, d1a.eq_2, d1a.eq_3, d2a.eq_1, d2a.eq_2, d2a.eq_3, d2b.eq_1, d2b.eq_2, d2b.eq_3, ar1.eq_1, ar1.eq_2, ar1.eq_3, ar1.eq_4, ar2.eq_1, ar2.eq_2, ar2.eq_3, tupA.eq_1, tupA.eq_2, tupA.eq_3, lstA.eq_1, lstA.eq_2, lstA.eq_3, calA.eq_1, calA.eq_2, calA.eq_3, calB.eq_1, calB.eq_2, calB.eq_3, wOf.eq_1, varV.eq_1, varR.eq_1, varR.eq_2, varD.eq_1, setA.eq_1, setA.eq_2, setA.eq_4, setA.eq_5, setVA.eq_1, setVA.eq_2, setVA.eq_3, setVA.eq_4, asgA.eq_1, asgA.eq_2, asgA.eq_3, asgA.eq_4, asgB.eq_1, asgB.eq_2, expA.eq_1, expA.eq_2, expA.eq_3, retA.eq_1, retA.eq_2, retA.eq_3, retVA.eq_1, retVA.eq_2, retVA.eq_3, retVA.eq_4, forA.eq_1, forA.eq_2, forA.eq_3, sl0.eq_1, sl0.eq_2, sl0.eq_3, sl1.eq_1, sl1.eq_2, sl2.eq_1, sl2.eq_2, sl3.eq_1, sl3.eq_2, optA.eq_1, bdyA.eq_1, bdyA.eq_2, iPA.eq_1, iPA.eq_2, iPA.eq_3, iPA.eq_5, iPA.eq_6, enA.eq_1, enA.eq_3, enA.eq_4, zpA.eq_1, zpA.eq_3, zpA.eq_4, rvA.eq_1, rvA.eq_3, rvA.eq_4, ch1.eq_1, ch1.eq_2, ch1.eq_3, ch2.eq_1, ch2.eq_2, ch2.eq_3, chA.eq_1, chB.eq_1, chB.eq_2, chB.eq_3, chC.eq_1, chC.eq_2, lc0.eq_2, lc0.eq_3, lcA.eq_1, lcA.eq_2, augA.eq_1, augB.eq_1, augB.eq_3, augB.eq_4, appA.eq_1, appB.eq_1, appB.eq_2, appB.eq_3, putA.eq_1, putA.eq_2, putA.eq_3, putA2.eq_1, putA2.eq_2, putB.eq_1, putC.eq_1, putD.eq_1, pixA.eq_1, pixA2.eq_1, pixB.eq_1, tryA.eq_1, tryB.eq_1, tryB.eq_2, tryB.eq_3, noEr.eq_1, repA.eq_1, repA2.eq_1, repA2.eq_2, repB.eq_1, rdT.eq_1, rdT.eq_2, toV.eq_1, toV.eq_2, toV.eq_3, toV.eq_4, toV.eq_5, toV.eq_6, ofV.eq_1, ofV.eq_2, ofV.eq_4, ofV.eq_5, tOf.eq_1, tOf.eq_2, isL.eq_1, getT.eq_1, getT.eq_2, getT.eq_3, setT.eq_1, setT.eq_2, setT.eq_3, T.data.eq_1, T.data.eq_2, finW.eq_1, finW.eq_2, finW.eq_3, finW.eq_4, finW.eq_6, tgS.eq_1, wipeE.eq_1, fAdd.eq_1, fAdd.eq_2, fI2.eq_1, fB2.eq_1, fU.eq_1, fLen.eq_1, fLen.eq_2, fLen.eq_3, fIx.eq_1, fIx.eq_2, fIx.eq_3, fIsN.eq_1, fNotN.eq_1, isNone.eq_1, fInt.eq_1, fInt.eq_2, fInt.eq_3, fLs.eq_1, fLs.eq_2, fTp.eq_1, fTp.eq_2, fSlP.eq_3, wOf_l, wOf_o, tryA_nx, tryA_rt, tryA_bk, tryA_ct, noEr_nx, noEr_rt, noEr_bk, noEr_ct, isNone_i, isNone_b, isNone_s, isNone_l, isNone_t, iL_app, iL_len, iL_rep, iL_rev, allD_iL, dataL_iL, q_int, q_t, q_l, n_t, n_l, n_int, q_self, n_self, s_to, s_from, s_mid, sl_to, sl_from, sl_mid, add_t, add_l, cat_l, isi_t, isi_b, isi_i, isi_l, isi_s, at_0, at_1, at_2, at_3, at_4, at_5, at_6, ai_0, ai_1, ai_2, ai_3, ai_4, ai_5, ai_6, tgN_a, tgT_a, apd_ok, lc_ok, rg1_ok, rg2_ok, iL_snoc, iL_mapd, lc_const, rngD_len, iL_take, iL_drop, Int.toNat_natCast, dataL_nil, dataL_cons, allD.eq_1, allD.eq_2, ixN_ok, rep_l, tgS_nil, rep_none, rep_none0, List.take_left, List.drop_left, any_false, all_true, eq_self, set_iL, at_last, List.drop_succ_cons, List.drop_zero, List.take_succ_cons, List.take_zero, List.getLast?_cons_cons, List.getLast?_singleton, Int.cast_ofNat_Int, rg3_ok, rngC_len, fRv_l, Env.set.eq_1, T.data.eq_3, ad1.eq_1, ad1.eq_2, ad1.eq_3, ad2.eq_1, ad2.eq_2, ad3.eq_1, ad3.eq_2, ad3.eq_3, appA.eq_2, appA.eq_3, appP.eq_1, appP.eq_2, appT.eq_1, appT.eq_2, asDA.eq_1, asDA.eq_2, asDA.eq_4, asDA.eq_5, boxA.eq_1, boxA.eq_3, boxA.eq_4, calF.eq_1, calF.eq_2, calM.eq_1, calM.eq_2, calM.eq_3, cpL.eq_1, cpL.eq_2, cpT.eq_1, cpT.eq_2, cpT.eq_3, delA.eq_1, delA.eq_2, delA.eq_3, delA.eq_4, delA.eq_5, delA.eq_6, difA.eq_1, difA.eq_3, difA.eq_4, exDA.eq_1, exDA.eq_2, exDA.eq_3, extA.eq_1, extA.eq_2, extA.eq_3, extB.eq_1, extB.eq_2, extB.eq_3, extD.eq_1, extD.eq_2, extL.eq_1, extL.eq_2, extP.eq_1, extP.eq_2, faA.eq_1, faA.eq_2, faA.eq_3, faB.eq_1, faB.eq_2, faB2.eq_1, faC.eq_1, faD.eq_1, faD.eq_2, faE.eq_1, fldA.eq_1, fldA.eq_2, fldA.eq_3, fldB.eq_1, fldC.eq_1, fldC.eq_2, fldP.eq_1, fldP.eq_2, forJA.eq_1, forJA.eq_2, forJA.eq_3, forW.eq_1, forW.eq_2, fpA.eq_1, fpA.eq_2, fpA.eq_3, fpA1.eq_1, fpA1.eq_2, fpA2.eq_1, fpA2.eq_2, fpA2.eq_3, fpB.eq_1, fpB.eq_2, fpC.eq_1, fpD.eq_1, fpD.eq_2, fwA.eq_1, fwA.eq_2, fwA.eq_3, fwA.eq_4, fwA.eq_5, fwA.eq_6, fzA.eq_1, fzB.eq_1, fzB.eq_2, gQ.eq_1, gQ.eq_2, getR.eq_1, getR.eq_2, getT.eq_4, getT.eq_5, gsA.eq_1, gsA.eq_2, gsB.eq_1, gsB.eq_2, gsC.eq_1, iEnA.eq_1, iEnA.eq_2, iEnA.eq_3, iEnA.eq_4, iEnA.eq_6, iEnA.eq_7, iTA.eq_1, iTA.eq_2, iTA.eq_3, iTA.eq_4, iTA.eq_5, iTA.eq_6, iTA.eq_8, iTA.eq_9, iTp.eq_1, isBx.eq_1, isBx.eq_2, isBx.eq_3, isFix.eq_1, isFix.eq_2, itm.eq_1, itsP.eq_1, itsQ.eq_1, itsQ.eq_2, itsW.eq_1, itsW.eq_2, ixTA.eq_1, ixTA.eq_3, ixTA.eq_4, ixTB.eq_1, ixTB.eq_2, ixTC.eq_1, ixTC.eq_2, jsA.eq_1, jsA.eq_2, jsB.eq_1, jsB.eq_2, jsC.eq_1, jsD.eq_1, jsD.eq_2, lcC.eq_1, lcJA.eq_1, lcJA.eq_2, lcJA.eq_3, lsA.eq_1, lsA.eq_3, lsA.eq_4, lsB.eq_1, lsB.eq_2, lsC.eq_1, lsDA.eq_1, lsDA.eq_2, lsDA.eq_3, makA.eq_1, makA.eq_2, makA.eq_3, makB.eq_1, makB.eq_2, makC.eq_1, makC.eq_3, makC.eq_4, metA.eq_1, metA.eq_3, metA.eq_4, metB.eq_1, metC.eq_1, metC.eq_2, metC.eq_3, metD.eq_1, metD.eq_2, movA.eq_1, movB.eq_1, movB.eq_2, nnA.eq_1, nnA.eq_2, nnA.eq_3, nnB.eq_1, nnB.eq_2, noneW.eq_1, noneW.eq_2, noneW.eq_3, noneW.eq_4, noneW.eq_5, noneW.eq_6, ofA.eq_1, ofA.eq_2, ofA.eq_3, orE.eq_1, orE.eq_2, orE.eq_3, pixA.eq_2, pixA.eq_3, pixA2.eq_2, pixB.eq_2, pixC.eq_1, pixC.eq_2, pixP.eq_1, pixP.eq_2, plc.eq_1, plc.eq_2, popA.eq_1, popA.eq_2, popA.eq_3, popA0.eq_1, popA0.eq_2, popA0.eq_3, popA2.eq_1, popA2.eq_2, popB.eq_1, popB.eq_2, popD.eq_1, popD.eq_2, popE.eq_1, popE.eq_2, popL.eq_1, popL.eq_2, popZ.eq_1, popZ.eq_2, prpA.eq_1, prpA.eq_3, prpA.eq_4, prpB.eq_1, prpC.eq_1, putB.eq_2, putB.eq_3, putC.eq_2, putE.eq_1, putE.eq_2, putM.eq_1, putM.eq_2, putM.eq_3, putN.eq_1, putN.eq_2, putO.eq_1, putO2.eq_1, putO2.eq_2, putP.eq_1, putP.eq_2, putQ.eq_1, putR.eq_1, putR.eq_2, rdJ.eq_1, rdJ.eq_2, rdP.eq_1, rdP.eq_2, rdP.eq_3, rs1A.eq_1, rs1A.eq_2, rs1A.eq_3, rs1A.eq_4, rvA'.eq_1, rvA'.eq_2, rvA'.eq_3, rvB.eq_1, rvB.eq_2, rvC.eq_1, sQ.eq_1, sQ.eq_2, setR.eq_1, setR.eq_2, setT.eq_4, setT.eq_5, stO.eq_1, stO.eq_2, stO.eq_3, stO.eq_4, stO.eq_5, stO.eq_6, stb.eq_1, swpA.eq_1, swpA.eq_2, tpDA.eq_1, tpDA.eq_2, tpDA.eq_3, truA.eq_1, truA.eq_2, truA.eq_3, truB.eq_1, truB.eq_2, truD.eq_1, truD.eq_2, truD.eq_3, truD.eq_4, truD.eq_5, truD.eq_6, truP.eq_1, truP.eq_2, truT.eq_1, truT.eq_2, tyA.eq_1, wipeS.eq_1, wipeS.eq_2, ↓x_ad0, ↓x_ad1, ↓x_fld, ↓x_meth, ↓x_make, ↓x_prop, ↓x_box, ↓x_fldP, ↓x_fldA, ↓x_isN, ↓x_tru, ↓x_mov, ↓x_dif, ↓x_iT, ↓x_iEn, ↓x_forJ, ↓x_lcJ, ↓x_raise1, ↓x_tryA, ↓x_expD, ↓x_rvM, ↓x_frz, ↓x_lsT, ↓x_lstD, ↓x_tupD, ↓x_ixT, ↓x_asgD, ↓x_of, getE_q, setE_q, rdI_l, tyA_nx, tyA_rt, tyA_bk, tyA_ct, tyB_t, tyB_f, x_wh, rdP_l, rdP_o, rdP_k, rdP_m, truW_r, truW_p, lcE_ok, frz_nil, frz_d, frz_r, frz_l, cpL_r, gc_ne, gc_new, ofS_inj, q_lit, n_lit, lk_lit, in_nil, in_cons, ev_s, ev_i, fl_i, fl_s, fl_n, fl_b, in_l, in_t, q_nn, q_in, q_ni, n_nn, n_in, n_ni, q_bb, n_bb, isNone_n, isi_n, String.reduceEq, Option.bind_some, Option.bind_none, List.isEmpty_nil, List.isEmpty_cons, tgT_t, cpL_d, Option.toList_some, Option.toList_none, Int.add_zero, Int.zero_add, Int.sub_zero, Int.reduceMod, Int.reduceDiv, Nat.reduceMod, Nat.reduceDiv, beq_self_eq_true, Bool.true_beq, Bool.false_beq, bb_t, bb_f, ↓x_rd, rdA_r, rdA_p, rdA_v, rdA_l, rdA_er, wOf_r, wOf_t, wOf_d, or_true, true_or, or_false, false_or, and_false, false_and, not_true_eq_false, not_false_eq_true, and_self, or_self, evA_nil, evA_cons, evA_nc, evA_cn, ev_tt, ev_ll, ev_ii, ev_ss, ev_nn, ev_ni, ev_in, ev_ns, ev_sn, ev_bb, ixN_last, gc_lt, List.set_set, isB_b, notB_b, isB_i, notB_i, isB_n, notB_n, isB_l, notB_l, ↓x_pop, ↓x_pop0, ↓x_ext, ↓x_swp, forL_nil, forL_c, in_ti1, in_li1, in_ts1, in_ls1, in_ti2, in_li2, in_ts2, in_ls2, in_ti3, in_li3, in_ts3, in_ls3, in_ti4, in_li4, in_ts4, in_ls4, in_ti5, in_li5, in_ts5, in_ls5, in_ti6, in_li6, in_ts6, in_ls6, cz, cp0, cn0, Bool.false_xor, Bool.true_xor, Bool.xor_false, Bool.xor_true, Option.isNone_none, Option.isNone_some, Option.isSome_none, Option.isSome_some, itsW_p, itsW_r, popC_ok, extE_ok, is_bool_i, is_str_i, is_list_i, is_tuple_i, is_dict_i, is_int_b, is_str_b, is_list_b, is_tuple_b, is_dict_b, is_int_s, is_bool_s, is_list_s, is_tuple_s, is_dict_s, is_int_l, is_bool_l, is_str_l, is_tuple_l, is_dict_l, is_int_t, is_bool_t, is_str_t, is_list_t, is_dict_t, is_int_n, is_bool_n, is_str_n, is_list_n, is_tuple_n, is_dict_n, Option.join_some, Option.join_none, oD], (fun a e => by cases e), fun _ a w => ?_⟩
    obtain ⟨j, hj⟩ := List.mem_iff_getElem?.mp w.1
    have := (List.getElem?_eq_some_iff.mp hj).1
    exact hn j a (by rw [pkL_len]; exact this) hj w

/-! ### the law's own answer -/
theorem may_ok (n t c : Int) (m : List T) : f_may_ask [.d (.int n), .d (.int t), .d (.int c)] m = .rt (.d (.bool (decide (t = 0) || decide (c % 8 = n)))) m := by
  unfold f_may_ask
  by_cases h : t = 0 <;> simp (disch := (first | with_reducible assumption | omega | (simp only [iL_len, rngD_len, rngC_len, List.length_append, List.length_replicate, List.length_cons, List.length_nil, List.length_map, List.length_take, List.length_drop, List.length_range, SZ] <;> omega) | (simp only [iL_len, rngD_len, rngC_len, List.length_append, List.length_replicate, List.length_cons, List.length_nil, List.length_map, List.length_take, List.length_drop, List.length_range, SZ] at * <;> omega) | fail)) only [↓x_seq, ↓x_nil, ↓x_if, ↓x_set, ↓x_setV, ↓x_asg, ↓x_exp, ↓x_ret, ↓x_retV, ↓x_retN, ↓x_brk, ↓x_cnt, ↓x_for, ↓x_bdy, ↓x_C, ↓x_var, ↓x_dvar, ↓x_v1, ↓x_v2, ↓x_d1L, ↓x_d2L, ↓x_and, ↓x_or, ↓x_not, ↓x_ifx, ↓x_args0, ↓x_args1, ↓x_tup, ↓x_lst, ↓x_call, ↓x_vD, ↓x_dV, ↓x_slP, ↓x_opt0, ↓x_opt1, ↓x_iP, ↓x_rg1, ↓x_rg2, ↓x_rg3, ↓x_en, ↓x_zp, ↓x_rv, ↓x_ch, ↓x_lc, ↓x_aug, ↓x_app, ↓x_put, ↓x_pix, ↓x_try, ↓x_rep, ↓x_raise0, y_sq, y_sif, y_retV, y_setV, y_toV, y_ofV, y_orw, y_and, y_or, y_not, y_v1, y_v2a, y_v2b, y_finW, y_calB, sq_nx, sq_rt, sq_bk, sq_ct, sq_er, sq_no, dataL_d, allD_d, fnD, SZ, List.getElem?_cons_zero, List.getElem?_cons_succ, List.getElem?_nil, List.set_cons_zero, List.set_cons_succ, List.map_cons, List.map_nil, List.length_cons, List.length_nil, List.length_map, List.length_append, List.cons_append, List.nil_append, List.append_nil, Nat.reduceAdd, Nat.reduceSub, Nat.zero_add, Nat.add_zero, Option.map_some, Option.map_none, Option.getD_some, Option.getD_none, Bool.false_eq_true, Bool.true_eq_false, Bool.and_false, Bool.false_and, Bool.and_true, Bool.true_and, Bool.or_false, Bool.false_or, Bool.or_true, Bool.true_or, Bool.not_true, Bool.not_false, if_true, if_false, ite_true, ite_false, decide_eq_true_eq, Bool.and_eq_true, Bool.or_eq_true, Bool.not_eq_true', decide_eq_false_iff_not, decide_true, decide_false, true_and, and_true, reduceCtorEq, Int.reduceNeg, Int.reduceLT, Int.reduceLE, Int.reduceToNat, Nat.reduceLeDiff, Int.reduceAbs, Int.reduceSub, Int.reduceAdd, Int.reduceMul, Int.reduceEq, Nat.reduceMul, Nat.reduceEqDiff, Nat.reduceLT, Nat.reducePow, Int.reducePow, ↓reduceIte, ite_not, sif.eq_1, sif.eq_3, sif.eq_4, andA.eq_1, andA.eq_3, andA.eq_4, orA.eq_1, orA.eq_3, orA.eq_4, notA.eq_1, notA.eq_3, notA.eq_4, ifA.eq_1, ifA.eq_3, ifA.eq_4, orw.eq_1, orw.eq_2, orw.eq_3, v1r.eq_1, v1r.eq_2, v1a.eq_1, v1a.eq_2, v1a.eq_3, v2a.eq_1, v2a.eq_2, v2a.eq_3, v2b.eq_1, v2b.eq_2, v2b.eq_3, dlr.eq_1, dlr.eq_2, d1a.eq_1, d1a.eq_2, d1a.eq_3, d2a.eq_1, d2a.eq_2, d2a.eq_3, d2b.eq_1, d2b.eq_2, d2b.eq_3, ar1.eq_1, ar1.eq_2, ar1.eq_3, ar1.eq_4, ar2.eq_1, ar2.eq_2, ar2.eq_3, tupA.eq_1, tupA.eq_2, tupA.eq_3, lstA.eq_1, lstA.eq_2, lstA.eq_3, calA.eq_1, calA.eq_2, calA.eq_3, calB.eq_1, calB.eq_2, calB.eq_3, wOf.eq_1, varV.eq_1, varR.eq_1, varR.eq_2, varD.eq_1, setA.eq_1, setA.eq_2, setA.eq_4, setA.eq_5, setVA.eq_1, setVA.eq_2, setVA.eq_3, setVA.eq_4, asgA.eq_1, asgA.eq_2, asgA.eq_3, asgA.eq_4, asgB.eq_1, asgB.eq_2, expA.eq_1, expA.eq_2, expA.eq_3, retA.eq_1, retA.eq_2, retA.eq_3, retVA.eq_1, retVA.eq_2, retVA.eq_3, retVA.eq_4, forA.eq_1, forA.eq_2, forA.eq_3, sl0.eq_1, sl0.eq_2, sl0.eq_3, sl1.eq_1, sl1.eq_2, sl2.eq_1, sl2.eq_2, sl3.eq_1, sl3.eq_2, optA.eq_1, bdyA.eq_1, bdyA.eq_2, iPA.eq_1, iPA.eq_2, iPA.eq_3, iPA.eq_5, iPA.eq_6, enA.eq_1, enA.eq_3, enA.eq_4, zpA.eq_1, zpA.eq_3, zpA.eq_4, rvA.eq_1, rvA.eq_3, rvA.eq_4, ch1.eq_1, ch1.eq_2, ch1.eq_3, ch2.eq_1, ch2.eq_2, ch2.eq_3, chA.eq_1, chB.eq_1, chB.eq_2, chB.eq_3, chC.eq_1, chC.eq_2, lc0.eq_2, lc0.eq_3, lcA.eq_1, lcA.eq_2, augA.eq_1, augB.eq_1, augB.eq_3, augB.eq_4, appA.eq_1, appB.eq_1, appB.eq_2, appB.eq_3, putA.eq_1, putA.eq_2, putA.eq_3, putA2.eq_1, putA2.eq_2, putB.eq_1, putC.eq_1, putD.eq_1, pixA.eq_1, pixA2.eq_1, pixB.eq_1, tryA.eq_1, tryB.eq_1, tryB.eq_2, tryB.eq_3, noEr.eq_1, repA.eq_1, repA2.eq_1, repA2.eq_2, repB.eq_1, rdT.eq_1, rdT.eq_2, toV.eq_1, toV.eq_2, toV.eq_3, toV.eq_4, toV.eq_5, toV.eq_6, ofV.eq_1, ofV.eq_2, ofV.eq_4, ofV.eq_5, tOf.eq_1, tOf.eq_2, isL.eq_1, getT.eq_1, getT.eq_2, getT.eq_3, setT.eq_1, setT.eq_2, setT.eq_3, T.data.eq_1, T.data.eq_2, finW.eq_1, finW.eq_2, finW.eq_3, finW.eq_4, finW.eq_6, tgS.eq_1, wipeE.eq_1, fAdd.eq_1, fAdd.eq_2, fI2.eq_1, fB2.eq_1, fU.eq_1, fLen.eq_1, fLen.eq_2, fLen.eq_3, fIx.eq_1, fIx.eq_2, fIx.eq_3, fIsN.eq_1, fNotN.eq_1, isNone.eq_1, fInt.eq_1, fInt.eq_2, fInt.eq_3, fLs.eq_1, fLs.eq_2, fTp.eq_1, fTp.eq_2, fSlP.eq_3, wOf_l, wOf_o, tryA_nx, tryA_rt, tryA_bk, tryA_ct, noEr_nx, noEr_rt, noEr_bk, noEr_ct, isNone_i, isNone_b, isNone_s, isNone_l, isNone_t, iL_app, iL_len, iL_rep, iL_rev, allD_iL, dataL_iL, q_int, q_t, q_l, n_t, n_l, n_int, q_self, n_self, s_to, s_from, s_mid, sl_to, sl_from, sl_mid, add_t, add_l, cat_l, isi_t, isi_b, isi_i, isi_l, isi_s, at_0, at_1, at_2, at_3, at_4, at_5, at_6, ai_0, ai_1, ai_2, ai_3, ai_4, ai_5, ai_6, tgN_a, tgT_a, apd_ok, lc_ok, rg1_ok, rg2_ok, iL_snoc, iL_mapd, lc_const, rngD_len, iL_take, iL_drop, Int.toNat_natCast, dataL_nil, dataL_cons, allD.eq_1, allD.eq_2, ixN_ok, rep_l, tgS_nil, rep_none, rep_none0, List.take_left, List.drop_left, any_false, all_true, eq_self, set_iL, at_last, List.drop_succ_cons, List.drop_zero, List.take_succ_cons, List.take_zero, List.getLast?_cons_cons, List.getLast?_singleton, Int.cast_ofNat_Int, rg3_ok, rngC_len, fRv_l, Env.set.eq_1, T.data.eq_3, ad1.eq_1, ad1.eq_2, ad1.eq_3, ad2.eq_1, ad2.eq_2, ad3.eq_1, ad3.eq_2, ad3.eq_3, appA.eq_2, appA.eq_3, appP.eq_1, appP.eq_2, appT.eq_1, appT.eq_2, asDA.eq_1, asDA.eq_2, asDA.eq_4, asDA.eq_5, boxA.eq_1, boxA.eq_3, boxA.eq_4, calF.eq_1, calF.eq_2, calM.eq_1, calM.eq_2, calM.eq_3, cpL.eq_1, cpL.eq_2, cpT.eq_1, cpT.eq_2, cpT.eq_3, delA.eq_1, delA.eq_2, delA.eq_3, delA.eq_4, delA.eq_5, delA.eq_6, difA.eq_1, difA.eq_3, difA.eq_4, exDA.eq_1, exDA.eq_2, exDA.eq_3, extA.eq_1, extA.eq_2, extA.eq_3, extB.eq_1, extB.eq_2, extB.eq_3, extD.eq_1, extD.eq_2, extL.eq_1, extL.eq_2, extP.eq_1, extP.eq_2, faA.eq_1, faA.eq_2, faA.eq_3, faB.eq_1, faB.eq_2, faB2.eq_1, faC.eq_1, faD.eq_1, faD.eq_2, faE.eq_1, fldA.eq_1, fldA.eq_2, fldA.eq_3, fldB.eq_1, fldC.eq_1, fldC.eq_2, fldP.eq_1, fldP.eq_2, forJA.eq_1, forJA.eq_2, forJA.eq_3, forW.eq_1, forW.eq_2, fpA.eq_1, fpA.eq_2, fpA.eq_3, fpA1.eq_1, fpA1.eq_2, fpA2.eq_1, fpA2.eq_2, fpA2.eq_3, fpB.eq_1, fpB.eq_2, fpC.eq_1, fpD.eq_1, fpD.eq_2, fwA.eq_1, fwA.eq_2, fwA.eq_3, fwA.eq_4, fwA.eq_5, fwA.eq_6, fzA.eq_1, fzB.eq_1, fzB.eq_2, gQ.eq_1, gQ.eq_2, getR.eq_1, getR.eq_2, getT.eq_4, getT.eq_5, gsA.eq_1, gsA.eq_2, gsB.eq_1, gsB.eq_2, gsC.eq_1, iEnA.eq_1, iEnA.eq_2, iEnA.eq_3, iEnA.eq_4, iEnA.eq_6, iEnA.eq_7, iTA.eq_1, iTA.eq_2, iTA.eq_3, iTA.eq_4, iTA.eq_5, iTA.eq_6, iTA.eq_8, iTA.eq_9, iTp.eq_1, isBx.eq_1, isBx.eq_2, isBx.eq_3, isFix.eq_1, isFix.eq_2, itm.eq_1, itsP.eq_1, itsQ.eq_1, itsQ.eq_2, itsW.eq_1, itsW.eq_2, ixTA.eq_1, ixTA.eq_3, ixTA.eq_4, ixTB.eq_1, ixTB.eq_2, ixTC.eq_1, ixTC.eq_2, jsA.eq_1, jsA.eq_2, jsB.eq_1, jsB.eq_2, jsC.eq_1, jsD.eq_1, jsD.eq_2, lcC.eq_1, lcJA.eq_1, lcJA.eq_2, lcJA.eq_3, lsA.eq_1, lsA.eq_3, lsA.eq_4, lsB.eq_1, lsB.eq_2, lsC.eq_1, lsDA.eq_1, lsDA.eq_2, lsDA.eq_3, makA.eq_1, makA.eq_2, makA.eq_3, makB.eq_1, makB.eq_2, makC.eq_1, makC.eq_3, makC.eq_4, metA.eq_1, metA.eq_3, metA.eq_4, metB.eq_1, metC.eq_1, metC.eq_2, metC.eq_3, metD.eq_1, metD.eq_2, movA.eq_1, movB.eq_1, movB.eq_2, nnA.eq_1, nnA.eq_2, nnA.eq_3, nnB.eq_1, nnB.eq_2, noneW.eq_1, noneW.eq_2, noneW.eq_3, noneW.eq_4, noneW.eq_5, noneW.eq_6, ofA.eq_1, ofA.eq_2, ofA.eq_3, orE.eq_1, orE.eq_2, orE.eq_3, pixA.eq_2, pixA.eq_3, pixA2.eq_2, pixB.eq_2, pixC.eq_1, pixC.eq_2, pixP.eq_1, pixP.eq_2, plc.eq_1, plc.eq_2, popA.eq_1, popA.eq_2, popA.eq_3, popA0.eq_1, popA0.eq_2, popA0.eq_3, popA2.eq_1, popA2.eq_2, popB.eq_1, popB.eq_2, popD.eq_1, popD.eq_2, popE.eq_1, popE.eq_2, popL.eq_1, popL.eq_2, popZ.eq_1, popZ.eq_2, prpA.eq_1, prpA.eq_3, prpA.eq_4, prpB.eq_1, prpC.eq_1, putB.eq_2, putB.eq_3, putC.eq_2, putE.eq_1, putE.eq_2, putM.eq_1, putM.eq_2, putM.eq_3, putN.eq_1, putN.eq_2, putO.eq_1, putO2.eq_1, putO2.eq_2, putP.eq_1, putP.eq_2, putQ.eq_1, putR.eq_1, putR.eq_2, rdJ.eq_1, rdJ.eq_2, rdP.eq_1, rdP.eq_2, rdP.eq_3, rs1A.eq_1, rs1A.eq_2, rs1A.eq_3, rs1A.eq_4, rvA'.eq_1, rvA'.eq_2, rvA'.eq_3, rvB.eq_1, rvB.eq_2, rvC.eq_1, sQ.eq_1, sQ.eq_2, setR.eq_1, setR.eq_2, setT.eq_4, setT.eq_5, stO.eq_1, stO.eq_2, stO.eq_3, stO.eq_4, stO.eq_5, stO.eq_6, stb.eq_1, swpA.eq_1, swpA.eq_2, tpDA.eq_1, tpDA.eq_2, tpDA.eq_3, truA.eq_1, truA.eq_2, truA.eq_3, truB.eq_1, truB.eq_2, truD.eq_1, truD.eq_2, truD.eq_3, truD.eq_4, truD.eq_5, truD.eq_6, truP.eq_1, truP.eq_2, truT.eq_1, truT.eq_2, tyA.eq_1, wipeS.eq_1, wipeS.eq_2, ↓x_ad0, ↓x_ad1, ↓x_fld, ↓x_meth, ↓x_make, ↓x_prop, ↓x_box, ↓x_fldP, ↓x_fldA, ↓x_isN, ↓x_tru, ↓x_mov, ↓x_dif, ↓x_iT, ↓x_iEn, ↓x_forJ, ↓x_lcJ, ↓x_raise1, ↓x_tryA, ↓x_expD, ↓x_rvM, ↓x_frz, ↓x_lsT, ↓x_lstD, ↓x_tupD, ↓x_ixT, ↓x_asgD, ↓x_of, getE_q, setE_q, rdI_l, tyA_nx, tyA_rt, tyA_bk, tyA_ct, tyB_t, tyB_f, x_wh, rdP_l, rdP_o, rdP_k, rdP_m, truW_r, truW_p, lcE_ok, frz_nil, frz_d, frz_r, frz_l, cpL_r, gc_ne, gc_new, ofS_inj, q_lit, n_lit, lk_lit, in_nil, in_cons, ev_s, ev_i, fl_i, fl_s, fl_n, fl_b, in_l, in_t, q_nn, q_in, q_ni, n_nn, n_in, n_ni, q_bb, n_bb, isNone_n, isi_n, String.reduceEq, Option.bind_some, Option.bind_none, List.isEmpty_nil, List.isEmpty_cons, tgT_t, cpL_d, Option.toList_some, Option.toList_none, Int.add_zero, Int.zero_add, Int.sub_zero, Int.reduceMod, Int.reduceDiv, Nat.reduceMod, Nat.reduceDiv, beq_self_eq_true, Bool.true_beq, Bool.false_beq, bb_t, bb_f, ↓x_rd, rdA_r, rdA_p, rdA_v, rdA_l, rdA_er, wOf_r, wOf_t, wOf_d, or_true, true_or, or_false, false_or, and_false, false_and, not_true_eq_false, not_false_eq_true, and_self, or_self, evA_nil, evA_cons, evA_nc, evA_cn, ev_tt, ev_ll, ev_ii, ev_ss, ev_nn, ev_ni, ev_in, ev_ns, ev_sn, ev_bb, ixN_last, gc_lt, List.set_set, isB_b, notB_b, isB_i, notB_i, isB_n, notB_n, isB_l, notB_l, ↓x_pop, ↓x_pop0, ↓x_ext, ↓x_swp, forL_nil, forL_c, in_ti1, in_li1, in_ts1, in_ls1, in_ti2, in_li2, in_ts2, in_ls2, in_ti3, in_li3, in_ts3, in_ls3, in_ti4, in_li4, in_ts4, in_ls4, in_ti5, in_li5, in_ts5, in_ls5, in_ti6, in_li6, in_ts6, in_ls6, cz, cp0, cn0, Bool.false_xor, Bool.true_xor, Bool.xor_false, Bool.xor_true, Option.isNone_none, Option.isNone_some, Option.isSome_none, Option.isSome_some, itsW_p, itsW_r, popC_ok, extE_ok, is_bool_i, is_str_i, is_list_i, is_tuple_i, is_dict_i, is_int_b, is_str_b, is_list_b, is_tuple_b, is_dict_b, is_int_s, is_bool_s, is_list_s, is_tuple_s, is_dict_s, is_int_l, is_bool_l, is_str_l, is_tuple_l, is_dict_l, is_int_t, is_bool_t, is_str_t, is_list_t, is_dict_t, is_int_n, is_bool_n, is_str_n, is_list_n, is_tuple_n, is_dict_n, Option.join_some, Option.join_none, b_may_ask, h]
theorem at_nat {α : Type} (l : List α) (k : Nat) : atI l (k : Int) = l[k]? := by
  unfold atI ixN
  by_cases h : k < l.length
  · simp [h]
  · have : l[k]? = none := List.getElem?_eq_none (by omega)
    simp [h, this]
theorem lheard_ok (l : List (Int × Int)) (m : List T) (hl : l.length < 1000) (hn : ∀ (i j : Nat) (a b : Int × Int), l[i]? = some a → l[j]? = some b → a.1 = b.1 → i = j) : ∃ r, f__law_heard [.d (.list (pkL l))] m = .rt (.d (oD r)) m ∧ isW l r := by
  have hpl : (pkL l).length < 1000 := by rw [pkL_len]; exact hl
  have hp2 := @pkL_len l
  unfold f__law_heard
  simp (disch := (first | with_reducible assumption | omega | (simp only [iL_len, rngD_len, rngC_len, List.length_append, List.length_replicate, List.length_cons, List.length_nil, List.length_map, List.length_take, List.length_drop, List.length_range, SZ] <;> omega) | (simp only [iL_len, rngD_len, rngC_len, List.length_append, List.length_replicate, List.length_cons, List.length_nil, List.length_map, List.length_take, List.length_drop, List.length_range, SZ] at * <;> omega) | fail)) only [↓x_seq, ↓x_nil, ↓x_if, ↓x_set, ↓x_setV, ↓x_asg, ↓x_exp, ↓x_ret, ↓x_retV, ↓x_retN, ↓x_brk, ↓x_cnt, ↓x_for, ↓x_bdy, ↓x_C, ↓x_var, ↓x_dvar, ↓x_v1, ↓x_v2, ↓x_d1L, ↓x_d2L, ↓x_and, ↓x_or, ↓x_not, ↓x_ifx, ↓x_args0, ↓x_args1, ↓x_tup, ↓x_lst, ↓x_call, ↓x_vD, ↓x_dV, ↓x_slP, ↓x_opt0, ↓x_opt1, ↓x_iP, ↓x_rg1, ↓x_rg2, ↓x_rg3, ↓x_en, ↓x_zp, ↓x_rv, ↓x_ch, ↓x_lc, ↓x_aug, ↓x_app, ↓x_put, ↓x_pix, ↓x_try, ↓x_rep, ↓x_raise0, y_sq, y_sif, y_retV, y_setV, y_toV, y_ofV, y_orw, y_and, y_or, y_not, y_v1, y_v2a, y_v2b, y_finW, y_calB, sq_nx, sq_rt, sq_bk, sq_ct, sq_er, sq_no, dataL_d, allD_d, fnD, SZ, List.getElem?_cons_zero, List.getElem?_cons_succ, List.getElem?_nil, List.set_cons_zero, List.set_cons_succ, List.map_cons, List.map_nil, List.length_cons, List.length_nil, List.length_map, List.length_append, List.cons_append, List.nil_append, List.append_nil, Nat.reduceAdd, Nat.reduceSub, Nat.zero_add, Nat.add_zero, Option.map_some, Option.map_none, Option.getD_some, Option.getD_none, Bool.false_eq_true, Bool.true_eq_false, Bool.and_false, Bool.false_and, Bool.and_true, Bool.true_and, Bool.or_false, Bool.false_or, Bool.or_true, Bool.true_or, Bool.not_true, Bool.not_false, if_true, if_false, ite_true, ite_false, decide_eq_true_eq, Bool.and_eq_true, Bool.or_eq_true, Bool.not_eq_true', decide_eq_false_iff_not, decide_true, decide_false, true_and, and_true, reduceCtorEq, Int.reduceNeg, Int.reduceLT, Int.reduceLE, Int.reduceToNat, Nat.reduceLeDiff, Int.reduceAbs, Int.reduceSub, Int.reduceAdd, Int.reduceMul, Int.reduceEq, Nat.reduceMul, Nat.reduceEqDiff, Nat.reduceLT, Nat.reducePow, Int.reducePow, ↓reduceIte, ite_not, sif.eq_1, sif.eq_3, sif.eq_4, andA.eq_1, andA.eq_3, andA.eq_4, orA.eq_1, orA.eq_3, orA.eq_4, notA.eq_1, notA.eq_3, notA.eq_4, ifA.eq_1, ifA.eq_3, ifA.eq_4, orw.eq_1, orw.eq_2, orw.eq_3, v1r.eq_1, v1r.eq_2, v1a.eq_1, v1a.eq_2, v1a.eq_3, v2a.eq_1, v2a.eq_2, v2a.eq_3, v2b.eq_1, v2b.eq_2, v2b.eq_3, dlr.eq_1, dlr.eq_2, d1a.eq_1, d1a.eq_2, d1a.eq_3, d2a.eq_1, d2a.eq_2, d2a.eq_3, d2b.eq_1, d2b.eq_2, d2b.eq_3, ar1.eq_1, ar1.eq_2, ar1.eq_3, ar1.eq_4, ar2.eq_1, ar2.eq_2, ar2.eq_3, tupA.eq_1, tupA.eq_2, tupA.eq_3, lstA.eq_1, lstA.eq_2, lstA.eq_3, calA.eq_1, calA.eq_2, calA.eq_3, calB.eq_1, calB.eq_2, calB.eq_3, wOf.eq_1, varV.eq_1, varR.eq_1, varR.eq_2, varD.eq_1, setA.eq_1, setA.eq_2, setA.eq_4, setA.eq_5, setVA.eq_1, setVA.eq_2, setVA.eq_3, setVA.eq_4, asgA.eq_1, asgA.eq_2, asgA.eq_3, asgA.eq_4, asgB.eq_1, asgB.eq_2, expA.eq_1, expA.eq_2, expA.eq_3, retA.eq_1, retA.eq_2, retA.eq_3, retVA.eq_1, retVA.eq_2, retVA.eq_3, retVA.eq_4, forA.eq_1, forA.eq_2, forA.eq_3, sl0.eq_1, sl0.eq_2, sl0.eq_3, sl1.eq_1, sl1.eq_2, sl2.eq_1, sl2.eq_2, sl3.eq_1, sl3.eq_2, optA.eq_1, bdyA.eq_1, bdyA.eq_2, iPA.eq_1, iPA.eq_2, iPA.eq_3, iPA.eq_5, iPA.eq_6, enA.eq_1, enA.eq_3, enA.eq_4, zpA.eq_1, zpA.eq_3, zpA.eq_4, rvA.eq_1, rvA.eq_3, rvA.eq_4, ch1.eq_1, ch1.eq_2, ch1.eq_3, ch2.eq_1, ch2.eq_2, ch2.eq_3, chA.eq_1, chB.eq_1, chB.eq_2, chB.eq_3, chC.eq_1, chC.eq_2, lc0.eq_2, lc0.eq_3, lcA.eq_1, lcA.eq_2, augA.eq_1, augB.eq_1, augB.eq_3, augB.eq_4, appA.eq_1, appB.eq_1, appB.eq_2, appB.eq_3, putA.eq_1, putA.eq_2, putA.eq_3, putA2.eq_1, putA2.eq_2, putB.eq_1, putC.eq_1, putD.eq_1, pixA.eq_1, pixA2.eq_1, pixB.eq_1, tryA.eq_1, tryB.eq_1, tryB.eq_2, tryB.eq_3, noEr.eq_1, repA.eq_1, repA2.eq_1, repA2.eq_2, repB.eq_1, rdT.eq_1, rdT.eq_2, toV.eq_1, toV.eq_2, toV.eq_3, toV.eq_4, toV.eq_5, toV.eq_6, ofV.eq_1, ofV.eq_2, ofV.eq_4, ofV.eq_5, tOf.eq_1, tOf.eq_2, isL.eq_1, getT.eq_1, getT.eq_2, getT.eq_3, setT.eq_1, setT.eq_2, setT.eq_3, T.data.eq_1, T.data.eq_2, finW.eq_1, finW.eq_2, finW.eq_3, finW.eq_4, finW.eq_6, tgS.eq_1, wipeE.eq_1, fAdd.eq_1, fAdd.eq_2, fI2.eq_1, fB2.eq_1, fU.eq_1, fLen.eq_1, fLen.eq_2, fLen.eq_3, fIx.eq_1, fIx.eq_2, fIx.eq_3, fIsN.eq_1, fNotN.eq_1, isNone.eq_1, fInt.eq_1, fInt.eq_2, fInt.eq_3, fLs.eq_1, fLs.eq_2, fTp.eq_1, fTp.eq_2, fSlP.eq_3, wOf_l, wOf_o, tryA_nx, tryA_rt, tryA_bk, tryA_ct, noEr_nx, noEr_rt, noEr_bk, noEr_ct, isNone_i, isNone_b, isNone_s, isNone_l, isNone_t, iL_app, iL_len, iL_rep, iL_rev, allD_iL, dataL_iL, q_int, q_t, q_l, n_t, n_l, n_int, q_self, n_self, s_to, s_from, s_mid, sl_to, sl_from, sl_mid, add_t, add_l, cat_l, isi_t, isi_b, isi_i, isi_l, isi_s, at_0, at_1, at_2, at_3, at_4, at_5, at_6, ai_0, ai_1, ai_2, ai_3, ai_4, ai_5, ai_6, tgN_a, tgT_a, apd_ok, lc_ok, rg1_ok, rg2_ok, iL_snoc, iL_mapd, lc_const, rngD_len, iL_take, iL_drop, Int.toNat_natCast, dataL_nil, dataL_cons, allD.eq_1, allD.eq_2, ixN_ok, rep_l, tgS_nil, rep_none, rep_none0, List.take_left, List.drop_left, any_false, all_true, eq_self, set_iL, at_last, List.drop_succ_cons, List.drop_zero, List.take_succ_cons, List.take_zero, List.getLast?_cons_cons, List.getLast?_singleton, Int.cast_ofNat_Int, rg3_ok, rngC_len, fRv_l, Env.set.eq_1, T.data.eq_3, ad1.eq_1, ad1.eq_2, ad1.eq_3, ad2.eq_1, ad2.eq_2, ad3.eq_1, ad3.eq_2, ad3.eq_3, appA.eq_2, appA.eq_3, appP.eq_1, appP.eq_2, appT.eq_1, appT.eq_2, asDA.eq_1, asDA.eq_2, asDA.eq_4, asDA.eq_5, boxA.eq_1, boxA.eq_3, boxA.eq_4, calF.eq_1, calF.eq_2, calM.eq_1, calM.eq_2, calM.eq_3, cpL.eq_1, cpL.eq_2, cpT.eq_1, cpT.eq_2, cpT.eq_3, delA.eq_1, delA.eq_2, delA.eq_3, delA.eq_4, delA.eq_5, delA.eq_6, difA.eq_1, difA.eq_3, difA.eq_4, exDA.eq_1, exDA.eq_2, exDA.eq_3, extA.eq_1, extA.eq_2, extA.eq_3, extB.eq_1, extB.eq_2, extB.eq_3, extD.eq_1, extD.eq_2, extL.eq_1, extL.eq_2, extP.eq_1, extP.eq_2, faA.eq_1, faA.eq_2, faA.eq_3, faB.eq_1, faB.eq_2, faB2.eq_1, faC.eq_1, faD.eq_1, faD.eq_2, faE.eq_1, fldA.eq_1, fldA.eq_2, fldA.eq_3, fldB.eq_1, fldC.eq_1, fldC.eq_2, fldP.eq_1, fldP.eq_2, forJA.eq_1, forJA.eq_2, forJA.eq_3, forW.eq_1, forW.eq_2, fpA.eq_1, fpA.eq_2, fpA.eq_3, fpA1.eq_1, fpA1.eq_2, fpA2.eq_1, fpA2.eq_2, fpA2.eq_3, fpB.eq_1, fpB.eq_2, fpC.eq_1, fpD.eq_1, fpD.eq_2, fwA.eq_1, fwA.eq_2, fwA.eq_3, fwA.eq_4, fwA.eq_5, fwA.eq_6, fzA.eq_1, fzB.eq_1, fzB.eq_2, gQ.eq_1, gQ.eq_2, getR.eq_1, getR.eq_2, getT.eq_4, getT.eq_5, gsA.eq_1, gsA.eq_2, gsB.eq_1, gsB.eq_2, gsC.eq_1, iEnA.eq_1, iEnA.eq_2, iEnA.eq_3, iEnA.eq_4, iEnA.eq_6, iEnA.eq_7, iTA.eq_1, iTA.eq_2, iTA.eq_3, iTA.eq_4, iTA.eq_5, iTA.eq_6, iTA.eq_8, iTA.eq_9, iTp.eq_1, isBx.eq_1, isBx.eq_2, isBx.eq_3, isFix.eq_1, isFix.eq_2, itm.eq_1, itsP.eq_1, itsQ.eq_1, itsQ.eq_2, itsW.eq_1, itsW.eq_2, ixTA.eq_1, ixTA.eq_3, ixTA.eq_4, ixTB.eq_1, ixTB.eq_2, ixTC.eq_1, ixTC.eq_2, jsA.eq_1, jsA.eq_2, jsB.eq_1, jsB.eq_2, jsC.eq_1, jsD.eq_1, jsD.eq_2, lcC.eq_1, lcJA.eq_1, lcJA.eq_2, lcJA.eq_3, lsA.eq_1, lsA.eq_3, lsA.eq_4, lsB.eq_1, lsB.eq_2, lsC.eq_1, lsDA.eq_1, lsDA.eq_2, lsDA.eq_3, makA.eq_1, makA.eq_2, makA.eq_3, makB.eq_1, makB.eq_2, makC.eq_1, makC.eq_3, makC.eq_4, metA.eq_1, metA.eq_3, metA.eq_4, metB.eq_1, metC.eq_1, metC.eq_2, metC.eq_3, metD.eq_1, metD.eq_2, movA.eq_1, movB.eq_1, movB.eq_2, nnA.eq_1, nnA.eq_2, nnA.eq_3, nnB.eq_1, nnB.eq_2, noneW.eq_1, noneW.eq_2, noneW.eq_3, noneW.eq_4, noneW.eq_5, noneW.eq_6, ofA.eq_1, ofA.eq_2, ofA.eq_3, orE.eq_1, orE.eq_2, orE.eq_3, pixA.eq_2, pixA.eq_3, pixA2.eq_2, pixB.eq_2, pixC.eq_1, pixC.eq_2, pixP.eq_1, pixP.eq_2, plc.eq_1, plc.eq_2, popA.eq_1, popA.eq_2, popA.eq_3, popA0.eq_1, popA0.eq_2, popA0.eq_3, popA2.eq_1, popA2.eq_2, popB.eq_1, popB.eq_2, popD.eq_1, popD.eq_2, popE.eq_1, popE.eq_2, popL.eq_1, popL.eq_2, popZ.eq_1, popZ.eq_2, prpA.eq_1, prpA.eq_3, prpA.eq_4, prpB.eq_1, prpC.eq_1, putB.eq_2, putB.eq_3, putC.eq_2, putE.eq_1, putE.eq_2, putM.eq_1, putM.eq_2, putM.eq_3, putN.eq_1, putN.eq_2, putO.eq_1, putO2.eq_1, putO2.eq_2, putP.eq_1, putP.eq_2, putQ.eq_1, putR.eq_1, putR.eq_2, rdJ.eq_1, rdJ.eq_2, rdP.eq_1, rdP.eq_2, rdP.eq_3, rs1A.eq_1, rs1A.eq_2, rs1A.eq_3, rs1A.eq_4, rvA'.eq_1, rvA'.eq_2, rvA'.eq_3, rvB.eq_1, rvB.eq_2, rvC.eq_1, sQ.eq_1, sQ.eq_2, setR.eq_1, setR.eq_2, setT.eq_4, setT.eq_5, stO.eq_1, stO.eq_2, stO.eq_3, stO.eq_4, stO.eq_5, stO.eq_6, stb.eq_1, swpA.eq_1, swpA.eq_2, tpDA.eq_1, tpDA.eq_2, tpDA.eq_3, truA.eq_1, truA.eq_2, truA.eq_3, truB.eq_1, truB.eq_2, truD.eq_1, truD.eq_2, truD.eq_3, truD.eq_4, truD.eq_5, truD.eq_6, truP.eq_1, truP.eq_2, truT.eq_1, truT.eq_2, tyA.eq_1, wipeS.eq_1, wipeS.eq_2, ↓x_ad0, ↓x_ad1, ↓x_fld, ↓x_meth, ↓x_make, ↓x_prop, ↓x_box, ↓x_fldP, ↓x_fldA, ↓x_isN, ↓x_tru, ↓x_mov, ↓x_dif, ↓x_iT, ↓x_iEn, ↓x_forJ, ↓x_lcJ, ↓x_raise1, ↓x_tryA, ↓x_expD, ↓x_rvM, ↓x_frz, ↓x_lsT, ↓x_lstD, ↓x_tupD, ↓x_ixT, ↓x_asgD, ↓x_of, getE_q, setE_q, rdI_l, tyA_nx, tyA_rt, tyA_bk, tyA_ct, tyB_t, tyB_f, x_wh, rdP_l, rdP_o, rdP_k, rdP_m, truW_r, truW_p, lcE_ok, frz_nil, frz_d, frz_r, frz_l, cpL_r, gc_ne, gc_new, ofS_inj, q_lit, n_lit, lk_lit, in_nil, in_cons, ev_s, ev_i, fl_i, fl_s, fl_n, fl_b, in_l, in_t, q_nn, q_in, q_ni, n_nn, n_in, n_ni, q_bb, n_bb, isNone_n, isi_n, String.reduceEq, Option.bind_some, Option.bind_none, List.isEmpty_nil, List.isEmpty_cons, tgT_t, cpL_d, Option.toList_some, Option.toList_none, Int.add_zero, Int.zero_add, Int.sub_zero, Int.reduceMod, Int.reduceDiv, Nat.reduceMod, Nat.reduceDiv, beq_self_eq_true, Bool.true_beq, Bool.false_beq, bb_t, bb_f, ↓x_rd, rdA_r, rdA_p, rdA_v, rdA_l, rdA_er, wOf_r, wOf_t, wOf_d, or_true, true_or, or_false, false_or, and_false, false_and, not_true_eq_false, not_false_eq_true, and_self, or_self, evA_nil, evA_cons, evA_nc, evA_cn, ev_tt, ev_ll, ev_ii, ev_ss, ev_nn, ev_ni, ev_in, ev_ns, ev_sn, ev_bb, ixN_last, gc_lt, List.set_set, isB_b, notB_b, isB_i, notB_i, isB_n, notB_n, isB_l, notB_l, ↓x_pop, ↓x_pop0, ↓x_ext, ↓x_swp, forL_nil, forL_c, in_ti1, in_li1, in_ts1, in_ls1, in_ti2, in_li2, in_ts2, in_ls2, in_ti3, in_li3, in_ts3, in_ls3, in_ti4, in_li4, in_ts4, in_ls4, in_ti5, in_li5, in_ts5, in_ls5, in_ti6, in_li6, in_ts6, in_ls6, cz, cp0, cn0, Bool.false_xor, Bool.true_xor, Bool.xor_false, Bool.xor_true, Option.isNone_none, Option.isNone_some, Option.isSome_none, Option.isSome_some, itsW_p, itsW_r, popC_ok, extE_ok, is_bool_i, is_str_i, is_list_i, is_tuple_i, is_dict_i, is_int_b, is_str_b, is_list_b, is_tuple_b, is_dict_b, is_int_s, is_bool_s, is_list_s, is_tuple_s, is_dict_s, is_int_l, is_bool_l, is_str_l, is_tuple_l, is_dict_l, is_int_t, is_bool_t, is_str_t, is_list_t, is_dict_t, is_int_n, is_bool_n, is_str_n, is_list_n, is_tuple_n, is_dict_n, Option.join_some, Option.join_none, b__law_heard]
  refine for_outD (fun k e => (∀ j a, j < k → l[j]? = some a → ¬ win l a) ∧ ∃ a b c, e = ⟨[some (T.d (PyData.list (pkL l))), a, b, c], m⟩) (fun o => ∃ r, finW (sq o (sRetV (vC PyData.none))) = .rt (.d (oD r)) m ∧ isW l r) ⟨fun j a hj => by omega, _, _, _, rfl⟩ ?_ ?_
  · rintro k x e hx ⟨hw, a1, a2, a3, rfl⟩
    generalize ho : bdy (tgN 1) b__law_heard_2 (T.d x) _ = o
    have hi := (rngD_get hx).1
    have hxe := (rngD_get hx).2
    subst hxe
    have hk : k < l.length := by omega
    have ha0 : l[k]? = some l[k] := List.getElem?_eq_getElem hk
    generalize l[k] = a at ha0
    have ha := ha0
    have hm : a ∈ l := List.mem_of_getElem? ha
    have hga : (pkL l)[k]? = some (pk a) := by rw [pkL_get, ha]; rfl
    have key : ∃ c, forL (bdy (tgN 3) b__law_heard_1) ((rngD 0 (pkL l).length).map T.d) ⟨[some (T.d (PyData.list (pkL l))), some (T.d (PyData.int (k : Int))), some (T.d (PyData.bool true)), a3], m⟩ = .nx ⟨[some (T.d (PyData.list (pkL l))), some (T.d (PyData.int (k : Int))), some (T.d (PyData.bool (winB (l.take (rngD 0 (pkL l).length).length) a))), c], m⟩ := by
      suffices hs : ∃ e', forL (bdy (tgN 3) b__law_heard_1) ((rngD 0 (pkL l).length).map T.d) ⟨[some (T.d (PyData.list (pkL l))), some (T.d (PyData.int (k : Int))), some (T.d (PyData.bool true)), a3], m⟩ = .nx e' ∧ ∃ c, e' = ⟨[some (T.d (PyData.list (pkL l))), some (T.d (PyData.int (k : Int))), some (T.d (PyData.bool (winB (l.take (rngD 0 (pkL l).length).length) a))), c], m⟩ by
        obtain ⟨e', h1, c, rfl⟩ := hs
        exact ⟨c, h1⟩
      refine for_inv (fun j e => ∃ c, e = ⟨[some (T.d (PyData.list (pkL l))), some (T.d (PyData.int (k : Int))), some (T.d (PyData.bool (winB (l.take j) a))), c], m⟩) ⟨_, rfl⟩ ?_
      rintro j x e hx ⟨c, rfl⟩
      have hj := (rngD_get hx).1
      have hxe := (rngD_get hx).2
      subst hxe
      have hj2 : j < l.length := by omega
      have hb : l[j]? = some l[j] := List.getElem?_eq_getElem hj2
      generalize l[j] = b at hb
      have hgb : (pkL l)[j]? = some (pk b) := by rw [pkL_get, hb]; rfl
      have et : winB (l.take (j + 1)) a = (winB (l.take j) a && decide (b.1 ≠ a.1 → b.2 + 8 ≤ a.2)) := by
        unfold winB
        rw [List.take_add_one, hb, List.all_append]
        simp
      rw [et]
      by_cases hjk : j = k
      · subst hjk
        rw [ha] at hb
        cases hb
        have ed : decide (a.1 ≠ a.1 → a.2 + 8 ≤ a.2) = true := decide_eq_true fun z => absurd rfl z
        rw [ed, Bool.and_true]
        simp (disch := (first | with_reducible assumption | omega | (simp only [iL_len, rngD_len, rngC_len, List.length_append, List.length_replicate, List.length_cons, List.length_nil, List.length_map, List.length_take, List.length_drop, List.length_range, SZ] <;> omega) | (simp only [iL_len, rngD_len, rngC_len, List.length_append, List.length_replicate, List.length_cons, List.length_nil, List.length_map, List.length_take, List.length_drop, List.length_range, SZ] at * <;> omega) | fail)) only [↓x_seq, ↓x_nil, ↓x_if, ↓x_set, ↓x_setV, ↓x_asg, ↓x_exp, ↓x_ret, ↓x_retV, ↓x_retN, ↓x_brk, ↓x_cnt, ↓x_for, ↓x_bdy, ↓x_C, ↓x_var, ↓x_dvar, ↓x_v1, ↓x_v2, ↓x_d1L, ↓x_d2L, ↓x_and, ↓x_or, ↓x_not, ↓x_ifx, ↓x_args0, ↓x_args1, ↓x_tup, ↓x_lst, ↓x_call, ↓x_vD, ↓x_dV, ↓x_slP, ↓x_opt0, ↓x_opt1, ↓x_iP, ↓x_rg1, ↓x_rg2, ↓x_rg3, ↓x_en, ↓x_zp, ↓x_rv, ↓x_ch, ↓x_lc, ↓x_aug, ↓x_app, ↓x_put, ↓x_pix, ↓x_try, ↓x_rep, ↓x_raise0, y_sq, y_sif, y_retV, y_setV, y_toV, y_ofV, y_orw, y_and, y_or, y_not, y_v1, y_v2a, y_v2b, y_finW, y_calB, sq_nx, sq_rt, sq_bk, sq_ct, sq_er, sq_no, dataL_d, allD_d, fnD, SZ, List.getElem?_cons_zero, List.getElem?_cons_succ, List.getElem?_nil, List.set_cons_zero, List.set_cons_succ, List.map_cons, List.map_nil, List.length_cons, List.length_nil, List.length_map, List.length_append, List.cons_append, List.nil_append, List.append_nil, Nat.reduceAdd, Nat.reduceSub, Nat.zero_add, Nat.add_zero, Option.map_some, Option.map_none, Option.getD_some, Option.getD_none, Bool.false_eq_true, Bool.true_eq_false, Bool.and_false, Bool.false_and, Bool.and_true, Bool.true_and, Bool.or_false, Bool.false_or, Bool.or_true, Bool.true_or, Bool.not_true, Bool.not_false, if_true, if_false, ite_true, ite_false, decide_eq_true_eq, Bool.and_eq_true, Bool.or_eq_true, Bool.not_eq_true', decide_eq_false_iff_not, decide_true, decide_false, true_and, and_true, reduceCtorEq, Int.reduceNeg, Int.reduceLT, Int.reduceLE, Int.reduceToNat, Nat.reduceLeDiff, Int.reduceAbs, Int.reduceSub, Int.reduceAdd, Int.reduceMul, Int.reduceEq, Nat.reduceMul, Nat.reduceEqDiff, Nat.reduceLT, Nat.reducePow, Int.reducePow, ↓reduceIte, ite_not, sif.eq_1, sif.eq_3, sif.eq_4, andA.eq_1, andA.eq_3, andA.eq_4, orA.eq_1, orA.eq_3, orA.eq_4, notA.eq_1, notA.eq_3, notA.eq_4, ifA.eq_1, ifA.eq_3, ifA.eq_4, orw.eq_1, orw.eq_2, orw.eq_3, v1r.eq_1, v1r.eq_2, v1a.eq_1, v1a.eq_2, v1a.eq_3, v2a.eq_1, v2a.eq_2, v2a.eq_3, v2b.eq_1, v2b.eq_2, v2b.eq_3, dlr.eq_1, dlr.eq_2, d1a.eq_1, d1a.eq_2, d1a.eq_3, d2a.eq_1, d2a.eq_2, d2a.eq_3, d2b.eq_1, d2b.eq_2, d2b.eq_3, ar1.eq_1, ar1.eq_2, ar1.eq_3, ar1.eq_4, ar2.eq_1, ar2.eq_2, ar2.eq_3, tupA.eq_1, tupA.eq_2, tupA.eq_3, lstA.eq_1, lstA.eq_2, lstA.eq_3, calA.eq_1, calA.eq_2, calA.eq_3, calB.eq_1, calB.eq_2, calB.eq_3, wOf.eq_1, varV.eq_1, varR.eq_1, varR.eq_2, varD.eq_1, setA.eq_1, setA.eq_2, setA.eq_4, setA.eq_5, setVA.eq_1, setVA.eq_2, setVA.eq_3, setVA.eq_4, asgA.eq_1, asgA.eq_2, asgA.eq_3, asgA.eq_4, asgB.eq_1, asgB.eq_2, expA.eq_1, expA.eq_2, expA.eq_3, retA.eq_1, retA.eq_2, retA.eq_3, retVA.eq_1, retVA.eq_2, retVA.eq_3, retVA.eq_4, forA.eq_1, forA.eq_2, forA.eq_3, sl0.eq_1, sl0.eq_2, sl0.eq_3, sl1.eq_1, sl1.eq_2, sl2.eq_1, sl2.eq_2, sl3.eq_1, sl3.eq_2, optA.eq_1, bdyA.eq_1, bdyA.eq_2, iPA.eq_1, iPA.eq_2, iPA.eq_3, iPA.eq_5, iPA.eq_6, enA.eq_1, enA.eq_3, enA.eq_4, zpA.eq_1, zpA.eq_3, zpA.eq_4, rvA.eq_1, rvA.eq_3, rvA.eq_4, ch1.eq_1, ch1.eq_2, ch1.eq_3, ch2.eq_1, ch2.eq_2, ch2.eq_3, chA.eq_1, chB.eq_1, chB.eq_2, chB.eq_3, chC.eq_1, chC.eq_2, lc0.eq_2, lc0.eq_3, lcA.eq_1, lcA.eq_2, augA.eq_1, augB.eq_1, augB.eq_3, augB.eq_4, appA.eq_1, appB.eq_1, appB.eq_2, appB.eq_3, putA.eq_1, putA.eq_2, putA.eq_3, putA2.eq_1, putA2.eq_2, putB.eq_1, putC.eq_1, putD.eq_1, pixA.eq_1, pixA2.eq_1, pixB.eq_1, tryA.eq_1, tryB.eq_1, tryB.eq_2, tryB.eq_3, noEr.eq_1, repA.eq_1, repA2.eq_1, repA2.eq_2, repB.eq_1, rdT.eq_1, rdT.eq_2, toV.eq_1, toV.eq_2, toV.eq_3, toV.eq_4, toV.eq_5, toV.eq_6, ofV.eq_1, ofV.eq_2, ofV.eq_4, ofV.eq_5, tOf.eq_1, tOf.eq_2, isL.eq_1, getT.eq_1, getT.eq_2, getT.eq_3, setT.eq_1, setT.eq_2, setT.eq_3, T.data.eq_1, T.data.eq_2, finW.eq_1, finW.eq_2, finW.eq_3, finW.eq_4, finW.eq_6, tgS.eq_1, wipeE.eq_1, fAdd.eq_1, fAdd.eq_2, fI2.eq_1, fB2.eq_1, fU.eq_1, fLen.eq_1, fLen.eq_2, fLen.eq_3, fIx.eq_1, fIx.eq_2, fIx.eq_3, fIsN.eq_1, fNotN.eq_1, isNone.eq_1, fInt.eq_1, fInt.eq_2, fInt.eq_3, fLs.eq_1, fLs.eq_2, fTp.eq_1, fTp.eq_2, fSlP.eq_3, wOf_l, wOf_o, tryA_nx, tryA_rt, tryA_bk, tryA_ct, noEr_nx, noEr_rt, noEr_bk, noEr_ct, isNone_i, isNone_b, isNone_s, isNone_l, isNone_t, iL_app, iL_len, iL_rep, iL_rev, allD_iL, dataL_iL, q_int, q_t, q_l, n_t, n_l, n_int, q_self, n_self, s_to, s_from, s_mid, sl_to, sl_from, sl_mid, add_t, add_l, cat_l, isi_t, isi_b, isi_i, isi_l, isi_s, at_0, at_1, at_2, at_3, at_4, at_5, at_6, ai_0, ai_1, ai_2, ai_3, ai_4, ai_5, ai_6, tgN_a, tgT_a, apd_ok, lc_ok, rg1_ok, rg2_ok, iL_snoc, iL_mapd, lc_const, rngD_len, iL_take, iL_drop, Int.toNat_natCast, dataL_nil, dataL_cons, allD.eq_1, allD.eq_2, ixN_ok, rep_l, tgS_nil, rep_none, rep_none0, List.take_left, List.drop_left, any_false, all_true, eq_self, set_iL, at_last, List.drop_succ_cons, List.drop_zero, List.take_succ_cons, List.take_zero, List.getLast?_cons_cons, List.getLast?_singleton, Int.cast_ofNat_Int, rg3_ok, rngC_len, fRv_l, Env.set.eq_1, T.data.eq_3, ad1.eq_1, ad1.eq_2, ad1.eq_3, ad2.eq_1, ad2.eq_2, ad3.eq_1, ad3.eq_2, ad3.eq_3, appA.eq_2, appA.eq_3, appP.eq_1, appP.eq_2, appT.eq_1, appT.eq_2, asDA.eq_1, asDA.eq_2, asDA.eq_4, asDA.eq_5, boxA.eq_1, boxA.eq_3, boxA.eq_4, calF.eq_1, calF.eq_2, calM.eq_1, calM.eq_2, calM.eq_3, cpL.eq_1, cpL.eq_2, cpT.eq_1, cpT.eq_2, cpT.eq_3, delA.eq_1, delA.eq_2, delA.eq_3, delA.eq_4, delA.eq_5, delA.eq_6, difA.eq_1, difA.eq_3, difA.eq_4, exDA.eq_1, exDA.eq_2, exDA.eq_3, extA.eq_1, extA.eq_2, extA.eq_3, extB.eq_1, extB.eq_2, extB.eq_3, extD.eq_1, extD.eq_2, extL.eq_1, extL.eq_2, extP.eq_1, extP.eq_2, faA.eq_1, faA.eq_2, faA.eq_3, faB.eq_1, faB.eq_2, faB2.eq_1, faC.eq_1, faD.eq_1, faD.eq_2, faE.eq_1, fldA.eq_1, fldA.eq_2, fldA.eq_3, fldB.eq_1, fldC.eq_1, fldC.eq_2, fldP.eq_1, fldP.eq_2, forJA.eq_1, forJA.eq_2, forJA.eq_3, forW.eq_1, forW.eq_2, fpA.eq_1, fpA.eq_2, fpA.eq_3, fpA1.eq_1, fpA1.eq_2, fpA2.eq_1, fpA2.eq_2, fpA2.eq_3, fpB.eq_1, fpB.eq_2, fpC.eq_1, fpD.eq_1, fpD.eq_2, fwA.eq_1, fwA.eq_2, fwA.eq_3, fwA.eq_4, fwA.eq_5, fwA.eq_6, fzA.eq_1, fzB.eq_1, fzB.eq_2, gQ.eq_1, gQ.eq_2, getR.eq_1, getR.eq_2, getT.eq_4, getT.eq_5, gsA.eq_1, gsA.eq_2, gsB.eq_1, gsB.eq_2, gsC.eq_1, iEnA.eq_1, iEnA.eq_2, iEnA.eq_3, iEnA.eq_4, iEnA.eq_6, iEnA.eq_7, iTA.eq_1, iTA.eq_2, iTA.eq_3, iTA.eq_4, iTA.eq_5, iTA.eq_6, iTA.eq_8, iTA.eq_9, iTp.eq_1, isBx.eq_1, isBx.eq_2, isBx.eq_3, isFix.eq_1, isFix.eq_2, itm.eq_1, itsP.eq_1, itsQ.eq_1, itsQ.eq_2, itsW.eq_1, itsW.eq_2, ixTA.eq_1, ixTA.eq_3, ixTA.eq_4, ixTB.eq_1, ixTB.eq_2, ixTC.eq_1, ixTC.eq_2, jsA.eq_1, jsA.eq_2, jsB.eq_1, jsB.eq_2, jsC.eq_1, jsD.eq_1, jsD.eq_2, lcC.eq_1, lcJA.eq_1, lcJA.eq_2, lcJA.eq_3, lsA.eq_1, lsA.eq_3, lsA.eq_4, lsB.eq_1, lsB.eq_2, lsC.eq_1, lsDA.eq_1, lsDA.eq_2, lsDA.eq_3, makA.eq_1, makA.eq_2, makA.eq_3, makB.eq_1, makB.eq_2, makC.eq_1, makC.eq_3, makC.eq_4, metA.eq_1, metA.eq_3, metA.eq_4, metB.eq_1, metC.eq_1, metC.eq_2, metC.eq_3, metD.eq_1, metD.eq_2, movA.eq_1, movB.eq_1, movB.eq_2, nnA.eq_1, nnA.eq_2, nnA.eq_3, nnB.eq_1, nnB.eq_2, noneW.eq_1, noneW.eq_2, noneW.eq_3, noneW.eq_4, noneW.eq_5, noneW.eq_6, ofA.eq_1, ofA.eq_2, ofA.eq_3, orE.eq_1, orE.eq_2, orE.eq_3, pixA.eq_2, pixA.eq_3, pixA2.eq_2, pixB.eq_2, pixC.eq_1, pixC.eq_2, pixP.eq_1, pixP.eq_2, plc.eq_1, plc.eq_2, popA.eq_1, popA.eq_2, popA.eq_3, popA0.eq_1, popA0.eq_2, popA0.eq_3, popA2.eq_1, popA2.eq_2, popB.eq_1, popB.eq_2, popD.eq_1, popD.eq_2, popE.eq_1, popE.eq_2, popL.eq_1, popL.eq_2, popZ.eq_1, popZ.eq_2, prpA.eq_1, prpA.eq_3, prpA.eq_4, prpB.eq_1, prpC.eq_1, putB.eq_2, putB.eq_3, putC.eq_2, putE.eq_1, putE.eq_2, putM.eq_1, putM.eq_2, putM.eq_3, putN.eq_1, putN.eq_2, putO.eq_1, putO2.eq_1, putO2.eq_2, putP.eq_1, putP.eq_2, putQ.eq_1, putR.eq_1, putR.eq_2, rdJ.eq_1, rdJ.eq_2, rdP.eq_1, rdP.eq_2, rdP.eq_3, rs1A.eq_1, rs1A.eq_2, rs1A.eq_3, rs1A.eq_4, rvA'.eq_1, rvA'.eq_2, rvA'.eq_3, rvB.eq_1, rvB.eq_2, rvC.eq_1, sQ.eq_1, sQ.eq_2, setR.eq_1, setR.eq_2, setT.eq_4, setT.eq_5, stO.eq_1, stO.eq_2, stO.eq_3, stO.eq_4, stO.eq_5, stO.eq_6, stb.eq_1, swpA.eq_1, swpA.eq_2, tpDA.eq_1, tpDA.eq_2, tpDA.eq_3, truA.eq_1, truA.eq_2, truA.eq_3, truB.eq_1, truB.eq_2, truD.eq_1, truD.eq_2, truD.eq_3, truD.eq_4, truD.eq_5, truD.eq_6, truP.eq_1, truP.eq_2, truT.eq_1, truT.eq_2, tyA.eq_1, wipeS.eq_1, wipeS.eq_2, ↓x_ad0, ↓x_ad1, ↓x_fld, ↓x_meth, ↓x_make, ↓x_prop, ↓x_box, ↓x_fldP, ↓x_fldA, ↓x_isN, ↓x_tru, ↓x_mov, ↓x_dif, ↓x_iT, ↓x_iEn, ↓x_forJ, ↓x_lcJ, ↓x_raise1, ↓x_tryA, ↓x_expD, ↓x_rvM, ↓x_frz, ↓x_lsT, ↓x_lstD, ↓x_tupD, ↓x_ixT, ↓x_asgD, ↓x_of, getE_q, setE_q, rdI_l, tyA_nx, tyA_rt, tyA_bk, tyA_ct, tyB_t, tyB_f, x_wh, rdP_l, rdP_o, rdP_k, rdP_m, truW_r, truW_p, lcE_ok, frz_nil, frz_d, frz_r, frz_l, cpL_r, gc_ne, gc_new, ofS_inj, q_lit, n_lit, lk_lit, in_nil, in_cons, ev_s, ev_i, fl_i, fl_s, fl_n, fl_b, in_l, in_t, q_nn, q_in, q_ni, n_nn, n_in, n_ni, q_bb, n_bb, isNone_n, isi_n, String.reduceEq, Option.bind_some, Option.bind_none, List.isEmpty_nil, List.isEmpty_cons, tgT_t, cpL_d, Option.toList_some, Option.toList_none, Int.add_zero, Int.zero_add, Int.sub_zero, Int.reduceMod, Int.reduceDiv, Nat.reduceMod, Nat.reduceDiv, beq_self_eq_true, Bool.true_beq, Bool.false_beq, bb_t, bb_f, ↓x_rd, rdA_r, rdA_p, rdA_v, rdA_l, rdA_er, wOf_r, wOf_t, wOf_d, or_true, true_or, or_false, false_or, and_false, false_and, not_true_eq_false, not_false_eq_true, and_self, or_self, evA_nil, evA_cons, evA_nc, evA_cn, ev_tt, ev_ll, ev_ii, ev_ss, ev_nn, ev_ni, ev_in, ev_ns, ev_sn, ev_bb, ixN_last, gc_lt, List.set_set, isB_b, notB_b, isB_i, notB_i, isB_n, notB_n, isB_l, notB_l, ↓x_pop, ↓x_pop0, ↓x_ext, ↓x_swp, forL_nil, forL_c, in_ti1, in_li1, in_ts1, in_ls1, in_ti2, in_li2, in_ts2, in_ls2, in_ti3, in_li3, in_ts3, in_ls3, in_ti4, in_li4, in_ts4, in_ls4, in_ti5, in_li5, in_ts5, in_ls5, in_ti6, in_li6, in_ts6, in_ls6, cz, cp0, cn0, Bool.false_xor, Bool.true_xor, Bool.xor_false, Bool.xor_true, Option.isNone_none, Option.isNone_some, Option.isSome_none, Option.isSome_some, itsW_p, itsW_r, popC_ok, extE_ok, is_bool_i, is_str_i, is_list_i, is_tuple_i, is_dict_i, is_int_b, is_str_b, is_list_b, is_tuple_b, is_dict_b, is_int_s, is_bool_s, is_list_s, is_tuple_s, is_dict_s, is_int_l, is_bool_l, is_str_l, is_tuple_l, is_dict_l, is_int_t, is_bool_t, is_str_t, is_list_t, is_dict_t, is_int_n, is_bool_n, is_str_n, is_list_n, is_tuple_n, is_dict_n, Option.join_some, Option.join_none, b__law_heard_1]
        exact ⟨_, rfl, _, rfl⟩
      · have hne : b.1 ≠ a.1 := fun z => hjk (hn j k b a hb ha z)
        have hji : ¬ (j : Int) = (k : Int) := by omega
        have hkj : ¬ (k : Int) = (j : Int) := by omega
        by_cases h8 : a.2 - b.2 < 8
        · have ed : decide (b.1 ≠ a.1 → b.2 + 8 ≤ a.2) = false := decide_eq_false fun z => by have := z hne; omega
          rw [ed, Bool.and_false]
          simp (disch := (first | with_reducible assumption | omega | (simp only [iL_len, rngD_len, rngC_len, List.length_append, List.length_replicate, List.length_cons, List.length_nil, List.length_map, List.length_take, List.length_drop, List.length_range, SZ] <;> omega) | (simp only [iL_len, rngD_len, rngC_len, List.length_append, List.length_replicate, List.length_cons, List.length_nil, List.length_map, List.length_take, List.length_drop, List.length_range, SZ] at * <;> omega) | fail)) only [↓x_seq, ↓x_nil, ↓x_if, ↓x_set, ↓x_setV, ↓x_asg, ↓x_exp, ↓x_ret, ↓x_retV, ↓x_retN, ↓x_brk, ↓x_cnt, ↓x_for, ↓x_bdy, ↓x_C, ↓x_var, ↓x_dvar, ↓x_v1, ↓x_v2, ↓x_d1L, ↓x_d2L, ↓x_and, ↓x_or, ↓x_not, ↓x_ifx, ↓x_args0, ↓x_args1, ↓x_tup, ↓x_lst, ↓x_call, ↓x_vD, ↓x_dV, ↓x_slP, ↓x_opt0, ↓x_opt1, ↓x_iP, ↓x_rg1, ↓x_rg2, ↓x_rg3, ↓x_en, ↓x_zp, ↓x_rv, ↓x_ch, ↓x_lc, ↓x_aug, ↓x_app, ↓x_put, ↓x_pix, ↓x_try, ↓x_rep, ↓x_raise0, y_sq, y_sif, y_retV, y_setV, y_toV, y_ofV, y_orw, y_and, y_or, y_not, y_v1, y_v2a, y_v2b, y_finW, y_calB, sq_nx, sq_rt, sq_bk, sq_ct, sq_er, sq_no, dataL_d, allD_d, fnD, SZ, List.getElem?_cons_zero, List.getElem?_cons_succ, List.getElem?_nil, List.set_cons_zero, List.set_cons_succ, List.map_cons, List.map_nil, List.length_cons, List.length_nil, List.length_map, List.length_append, List.cons_append, List.nil_append, List.append_nil, Nat.reduceAdd, Nat.reduceSub, Nat.zero_add, Nat.add_zero, Option.map_some, Option.map_none, Option.getD_some, Option.getD_none, Bool.false_eq_true, Bool.true_eq_false, Bool.and_false, Bool.false_and, Bool.and_true, Bool.true_and, Bool.or_false, Bool.false_or, Bool.or_true, Bool.true_or, Bool.not_true, Bool.not_false, if_true, if_false, ite_true, ite_false, decide_eq_true_eq, Bool.and_eq_true, Bool.or_eq_true, Bool.not_eq_true', decide_eq_false_iff_not, decide_true, decide_false, true_and, and_true, reduceCtorEq, Int.reduceNeg, Int.reduceLT, Int.reduceLE, Int.reduceToNat, Nat.reduceLeDiff, Int.reduceAbs, Int.reduceSub, Int.reduceAdd, Int.reduceMul, Int.reduceEq, Nat.reduceMul, Nat.reduceEqDiff, Nat.reduceLT, Nat.reducePow, Int.reducePow, ↓reduceIte, ite_not, sif.eq_1, sif.eq_3, sif.eq_4, andA.eq_1, andA.eq_3, andA.eq_4, orA.eq_1, orA.eq_3, orA.eq_4, notA.eq_1, notA.eq_3, notA.eq_4, ifA.eq_1, ifA.eq_3, ifA.eq_4, orw.eq_1, orw.eq_2, orw.eq_3, v1r.eq_1, v1r.eq_2, v1a.eq_1, v1a.eq_2, v1a.eq_3, v2a.eq_1, v2a.eq_2, v2a.eq_3, v2b.eq_1, v2b.eq_2, v2b.eq_3, dlr.eq_1, dlr.eq_2, d1a.eq_1, d1a.eq_2, d1a.eq_3, d2a.eq_1, d2a.eq_2, d2a.eq_3, d2b.eq_1, d2b.eq_2, d2b.eq_3, ar1.eq_1, ar1.eq_2, ar1.eq_3, ar1.eq_4, ar2.eq_1, ar2.eq_2, ar2.eq_3, tupA.eq_1, tupA.eq_2, tupA.eq_3, lstA.eq_1, lstA.eq_2, lstA.eq_3, calA.eq_1, calA.eq_2, calA.eq_3, calB.eq_1, calB.eq_2, calB.eq_3, wOf.eq_1, varV.eq_1, varR.eq_1, varR.eq_2, varD.eq_1, setA.eq_1, setA.eq_2, setA.eq_4, setA.eq_5, setVA.eq_1, setVA.eq_2, setVA.eq_3, setVA.eq_4, asgA.eq_1, asgA.eq_2, asgA.eq_3, asgA.eq_4, asgB.eq_1, asgB.eq_2, expA.eq_1, expA.eq_2, expA.eq_3, retA.eq_1, retA.eq_2, retA.eq_3, retVA.eq_1, retVA.eq_2, retVA.eq_3, retVA.eq_4, forA.eq_1, forA.eq_2, forA.eq_3, sl0.eq_1, sl0.eq_2, sl0.eq_3, sl1.eq_1, sl1.eq_2, sl2.eq_1, sl2.eq_2, sl3.eq_1, sl3.eq_2, optA.eq_1, bdyA.eq_1, bdyA.eq_2, iPA.eq_1, iPA.eq_2, iPA.eq_3, iPA.eq_5, iPA.eq_6, enA.eq_1, enA.eq_3, enA.eq_4, zpA.eq_1, zpA.eq_3, zpA.eq_4, rvA.eq_1, rvA.eq_3, rvA.eq_4, ch1.eq_1, ch1.eq_2, ch1.eq_3, ch2.eq_1, ch2.eq_2, ch2.eq_3, chA.eq_1, chB.eq_1, chB.eq_2, chB.eq_3, chC.eq_1, chC.eq_2, lc0.eq_2, lc0.eq_3, lcA.eq_1, lcA.eq_2, augA.eq_1, augB.eq_1, augB.eq_3, augB.eq_4, appA.eq_1, appB.eq_1, appB.eq_2, appB.eq_3, putA.eq_1, putA.eq_2, putA.eq_3, putA2.eq_1, putA2.eq_2, putB.eq_1, putC.eq_1, putD.eq_1, pixA.eq_1, pixA2.eq_1, pixB.eq_1, tryA.eq_1, tryB.eq_1, tryB.eq_2, tryB.eq_3, noEr.eq_1, repA.eq_1, repA2.eq_1, repA2.eq_2, repB.eq_1, rdT.eq_1, rdT.eq_2, toV.eq_1, toV.eq_2, toV.eq_3, toV.eq_4, toV.eq_5, toV.eq_6, ofV.eq_1, ofV.eq_2, ofV.eq_4, ofV.eq_5, tOf.eq_1, tOf.eq_2, isL.eq_1, getT.eq_1, getT.eq_2, getT.eq_3, setT.eq_1, setT.eq_2, setT.eq_3, T.data.eq_1, T.data.eq_2, finW.eq_1, finW.eq_2, finW.eq_3, finW.eq_4, finW.eq_6, tgS.eq_1, wipeE.eq_1, fAdd.eq_1, fAdd.eq_2, fI2.eq_1, fB2.eq_1, fU.eq_1, fLen.eq_1, fLen.eq_2, fLen.eq_3, fIx.eq_1, fIx.eq_2, fIx.eq_3, fIsN.eq_1, fNotN.eq_1, isNone.eq_1, fInt.eq_1, fInt.eq_2, fInt.eq_3, fLs.eq_1, fLs.eq_2, fTp.eq_1, fTp.eq_2, fSlP.eq_3, wOf_l, wOf_o, tryA_nx, tryA_rt, tryA_bk, tryA_ct, noEr_nx, noEr_rt, noEr_bk, noEr_ct, isNone_i, isNone_b, isNone_s, isNone_l, isNone_t, iL_app, iL_len, iL_rep, iL_rev, allD_iL, dataL_iL, q_int, q_t, q_l, n_t, n_l, n_int, q_self, n_self, s_to, s_from, s_mid, sl_to, sl_from, sl_mid, add_t, add_l, cat_l, isi_t, isi_b, isi_i, isi_l, isi_s, at_0, at_1, at_2, at_3, at_4, at_5, at_6, ai_0, ai_1, ai_2, ai_3, ai_4, ai_5, ai_6, tgN_a, tgT_a, apd_ok, lc_ok, rg1_ok, rg2_ok, iL_snoc, iL_mapd, lc_const, rngD_len, iL_take, iL_drop, Int.toNat_natCast, dataL_nil, dataL_cons, allD.eq_1, allD.eq_2, ixN_ok, rep_l, tgS_nil, rep_none, rep_none0, List.take_left, List.drop_left, any_false, all_true, eq_self, set_iL, at_last, List.drop_succ_cons, List.drop_zero, List.take_succ_cons, List.take_zero, List.getLast?_cons_cons, List.getLast?_singleton, Int.cast_ofNat_Int, rg3_ok, rngC_len, fRv_l, Env.set.eq_1, T.data.eq_3, ad1.eq_1, ad1.eq_2, ad1.eq_3, ad2.eq_1, ad2.eq_2, ad3.eq_1, ad3.eq_2, ad3.eq_3, appA.eq_2, appA.eq_3, appP.eq_1, appP.eq_2, appT.eq_1, appT.eq_2, asDA.eq_1, asDA.eq_2, asDA.eq_4, asDA.eq_5, boxA.eq_1, boxA.eq_3, boxA.eq_4, calF.eq_1, calF.eq_2, calM.eq_1, calM.eq_2, calM.eq_3, cpL.eq_1, cpL.eq_2, cpT.eq_1, cpT.eq_2, cpT.eq_3, delA.eq_1, delA.eq_2, delA.eq_3, delA.eq_4, delA.eq_5, delA.eq_6, difA.eq_1, difA.eq_3, difA.eq_4, exDA.eq_1, exDA.eq_2, exDA.eq_3, extA.eq_1, extA.eq_2, extA.eq_3, extB.eq_1, extB.eq_2, extB.eq_3, extD.eq_1, extD.eq_2, extL.eq_1, extL.eq_2, extP.eq_1, extP.eq_2, faA.eq_1, faA.eq_2, faA.eq_3, faB.eq_1, faB.eq_2, faB2.eq_1, faC.eq_1, faD.eq_1, faD.eq_2, faE.eq_1, fldA.eq_1, fldA.eq_2, fldA.eq_3, fldB.eq_1, fldC.eq_1, fldC.eq_2, fldP.eq_1, fldP.eq_2, forJA.eq_1, forJA.eq_2, forJA.eq_3, forW.eq_1, forW.eq_2, fpA.eq_1, fpA.eq_2, fpA.eq_3, fpA1.eq_1, fpA1.eq_2, fpA2.eq_1, fpA2.eq_2, fpA2.eq_3, fpB.eq_1, fpB.eq_2, fpC.eq_1, fpD.eq_1, fpD.eq_2, fwA.eq_1, fwA.eq_2, fwA.eq_3, fwA.eq_4, fwA.eq_5, fwA.eq_6, fzA.eq_1, fzB.eq_1, fzB.eq_2, gQ.eq_1, gQ.eq_2, getR.eq_1, getR.eq_2, getT.eq_4, getT.eq_5, gsA.eq_1, gsA.eq_2, gsB.eq_1, gsB.eq_2, gsC.eq_1, iEnA.eq_1, iEnA.eq_2, iEnA.eq_3, iEnA.eq_4, iEnA.eq_6, iEnA.eq_7, iTA.eq_1, iTA.eq_2, iTA.eq_3, iTA.eq_4, iTA.eq_5, iTA.eq_6, iTA.eq_8, iTA.eq_9, iTp.eq_1, isBx.eq_1, isBx.eq_2, isBx.eq_3, isFix.eq_1, isFix.eq_2, itm.eq_1, itsP.eq_1, itsQ.eq_1, itsQ.eq_2, itsW.eq_1, itsW.eq_2, ixTA.eq_1, ixTA.eq_3, ixTA.eq_4, ixTB.eq_1, ixTB.eq_2, ixTC.eq_1, ixTC.eq_2, jsA.eq_1, jsA.eq_2, jsB.eq_1, jsB.eq_2, jsC.eq_1, jsD.eq_1, jsD.eq_2, lcC.eq_1, lcJA.eq_1, lcJA.eq_2, lcJA.eq_3, lsA.eq_1, lsA.eq_3, lsA.eq_4, lsB.eq_1, lsB.eq_2, lsC.eq_1, lsDA.eq_1, lsDA.eq_2, lsDA.eq_3, makA.eq_1, makA.eq_2, makA.eq_3, makB.eq_1, makB.eq_2, makC.eq_1, makC.eq_3, makC.eq_4, metA.eq_1, metA.eq_3, metA.eq_4, metB.eq_1, metC.eq_1, metC.eq_2, metC.eq_3, metD.eq_1, metD.eq_2, movA.eq_1, movB.eq_1, movB.eq_2, nnA.eq_1, nnA.eq_2, nnA.eq_3, nnB.eq_1, nnB.eq_2, noneW.eq_1, noneW.eq_2, noneW.eq_3, noneW.eq_4, noneW.eq_5, noneW.eq_6, ofA.eq_1, ofA.eq_2, ofA.eq_3, orE.eq_1, orE.eq_2, orE.eq_3, pixA.eq_2, pixA.eq_3, pixA2.eq_2, pixB.eq_2, pixC.eq_1, pixC.eq_2, pixP.eq_1, pixP.eq_2, plc.eq_1, plc.eq_2, popA.eq_1, popA.eq_2, popA.eq_3, popA0.eq_1, popA0.eq_2, popA0.eq_3, popA2.eq_1, popA2.eq_2, popB.eq_1, popB.eq_2, popD.eq_1, popD.eq_2, popE.eq_1, popE.eq_2, popL.eq_1, popL.eq_2, popZ.eq_1, popZ.eq_2, prpA.eq_1, prpA.eq_3, prpA.eq_4, prpB.eq_1, prpC.eq_1, putB.eq_2, putB.eq_3, putC.eq_2, putE.eq_1, putE.eq_2, putM.eq_1, putM.eq_2, putM.eq_3, putN.eq_1, putN.eq_2, putO.eq_1, putO2.eq_1, putO2.eq_2, putP.eq_1, putP.eq_2, putQ.eq_1, putR.eq_1, putR.eq_2, rdJ.eq_1, rdJ.eq_2, rdP.eq_1, rdP.eq_2, rdP.eq_3, rs1A.eq_1, rs1A.eq_2, rs1A.eq_3, rs1A.eq_4, rvA'.eq_1, rvA'.eq_2, rvA'.eq_3, rvB.eq_1, rvB.eq_2, rvC.eq_1, sQ.eq_1, sQ.eq_2, setR.eq_1, setR.eq_2, setT.eq_4, setT.eq_5, stO.eq_1, stO.eq_2, stO.eq_3, stO.eq_4, stO.eq_5, stO.eq_6, stb.eq_1, swpA.eq_1, swpA.eq_2, tpDA.eq_1, tpDA.eq_2, tpDA.eq_3, truA.eq_1, truA.eq_2, truA.eq_3, truB.eq_1, truB.eq_2, truD.eq_1, truD.eq_2, truD.eq_3, truD.eq_4, truD.eq_5, truD.eq_6, truP.eq_1, truP.eq_2, truT.eq_1, truT.eq_2, tyA.eq_1, wipeS.eq_1, wipeS.eq_2, ↓x_ad0, ↓x_ad1, ↓x_fld, ↓x_meth, ↓x_make, ↓x_prop, ↓x_box, ↓x_fldP, ↓x_fldA, ↓x_isN, ↓x_tru, ↓x_mov, ↓x_dif, ↓x_iT, ↓x_iEn, ↓x_forJ, ↓x_lcJ, ↓x_raise1, ↓x_tryA, ↓x_expD, ↓x_rvM, ↓x_frz, ↓x_lsT, ↓x_lstD, ↓x_tupD, ↓x_ixT, ↓x_asgD, ↓x_of, getE_q, setE_q, rdI_l, tyA_nx, tyA_rt, tyA_bk, tyA_ct, tyB_t, tyB_f, x_wh, rdP_l, rdP_o, rdP_k, rdP_m, truW_r, truW_p, lcE_ok, frz_nil, frz_d, frz_r, frz_l, cpL_r, gc_ne, gc_new, ofS_inj, q_lit, n_lit, lk_lit, in_nil, in_cons, ev_s, ev_i, fl_i, fl_s, fl_n, fl_b, in_l, in_t, q_nn, q_in, q_ni, n_nn, n_in, n_ni, q_bb, n_bb, isNone_n, isi_n, String.reduceEq, Option.bind_some, Option.bind_none, List.isEmpty_nil, List.isEmpty_cons, tgT_t, cpL_d, Option.toList_some, Option.toList_none, Int.add_zero, Int.zero_add, Int.sub_zero, Int.reduceMod, Int.reduceDiv, Nat.reduceMod, Nat.reduceDiv, beq_self_eq_true, Bool.true_beq, Bool.false_beq, bb_t, bb_f, ↓x_rd, rdA_r, rdA_p, rdA_v, rdA_l, rdA_er, wOf_r, wOf_t, wOf_d, or_true, true_or, or_false, false_or, and_false, false_and, not_true_eq_false, not_false_eq_true, and_self, or_self, evA_nil, evA_cons, evA_nc, evA_cn, ev_tt, ev_ll, ev_ii, ev_ss, ev_nn, ev_ni, ev_in, ev_ns, ev_sn, ev_bb, ixN_last, gc_lt, List.set_set, isB_b, notB_b, isB_i, notB_i, isB_n, notB_n, isB_l, notB_l, ↓x_pop, ↓x_pop0, ↓x_ext, ↓x_swp, forL_nil, forL_c, in_ti1, in_li1, in_ts1, in_ls1, in_ti2, in_li2, in_ts2, in_ls2, in_ti3, in_li3, in_ts3, in_ls3, in_ti4, in_li4, in_ts4, in_ls4, in_ti5, in_li5, in_ts5, in_ls5, in_ti6, in_li6, in_ts6, in_ls6, cz, cp0, cn0, Bool.false_xor, Bool.true_xor, Bool.xor_false, Bool.xor_true, Option.isNone_none, Option.isNone_some, Option.isSome_none, Option.isSome_some, itsW_p, itsW_r, popC_ok, extE_ok, is_bool_i, is_str_i, is_list_i, is_tuple_i, is_dict_i, is_int_b, is_str_b, is_list_b, is_tuple_b, is_dict_b, is_int_s, is_bool_s, is_list_s, is_tuple_s, is_dict_s, is_int_l, is_bool_l, is_str_l, is_tuple_l, is_dict_l, is_int_t, is_bool_t, is_str_t, is_list_t, is_dict_t, is_int_n, is_bool_n, is_str_n, is_list_n, is_tuple_n, is_dict_n, Option.join_some, Option.join_none, b__law_heard_1, at_nat, hga, hgb, pk, hji, hkj, h8]
          exact ⟨_, rfl, _, rfl⟩
        · have ed : decide (b.1 ≠ a.1 → b.2 + 8 ≤ a.2) = true := decide_eq_true fun z => by omega
          rw [ed, Bool.and_true]
          simp (disch := (first | with_reducible assumption | omega | (simp only [iL_len, rngD_len, rngC_len, List.length_append, List.length_replicate, List.length_cons, List.length_nil, List.length_map, List.length_take, List.length_drop, List.length_range, SZ] <;> omega) | (simp only [iL_len, rngD_len, rngC_len, List.length_append, List.length_replicate, List.length_cons, List.length_nil, List.length_map, List.length_take, List.length_drop, List.length_range, SZ] at * <;> omega) | fail)) only [↓x_seq, ↓x_nil, ↓x_if, ↓x_set, ↓x_setV, ↓x_asg, ↓x_exp, ↓x_ret, ↓x_retV, ↓x_retN, ↓x_brk, ↓x_cnt, ↓x_for, ↓x_bdy, ↓x_C, ↓x_var, ↓x_dvar, ↓x_v1, ↓x_v2, ↓x_d1L, ↓x_d2L, ↓x_and, ↓x_or, ↓x_not, ↓x_ifx, ↓x_args0, ↓x_args1, ↓x_tup, ↓x_lst, ↓x_call, ↓x_vD, ↓x_dV, ↓x_slP, ↓x_opt0, ↓x_opt1, ↓x_iP, ↓x_rg1, ↓x_rg2, ↓x_rg3, ↓x_en, ↓x_zp, ↓x_rv, ↓x_ch, ↓x_lc, ↓x_aug, ↓x_app, ↓x_put, ↓x_pix, ↓x_try, ↓x_rep, ↓x_raise0, y_sq, y_sif, y_retV, y_setV, y_toV, y_ofV, y_orw, y_and, y_or, y_not, y_v1, y_v2a, y_v2b, y_finW, y_calB, sq_nx, sq_rt, sq_bk, sq_ct, sq_er, sq_no, dataL_d, allD_d, fnD, SZ, List.getElem?_cons_zero, List.getElem?_cons_succ, List.getElem?_nil, List.set_cons_zero, List.set_cons_succ, List.map_cons, List.map_nil, List.length_cons, List.length_nil, List.length_map, List.length_append, List.cons_append, List.nil_append, List.append_nil, Nat.reduceAdd, Nat.reduceSub, Nat.zero_add, Nat.add_zero, Option.map_some, Option.map_none, Option.getD_some, Option.getD_none, Bool.false_eq_true, Bool.true_eq_false, Bool.and_false, Bool.false_and, Bool.and_true, Bool.true_and, Bool.or_false, Bool.false_or, Bool.or_true, Bool.true_or, Bool.not_true, Bool.not_false, if_true, if_false, ite_true, ite_false, decide_eq_true_eq, Bool.and_eq_true, Bool.or_eq_true, Bool.not_eq_true', decide_eq_false_iff_not, decide_true, decide_false, true_and, and_true, reduceCtorEq, Int.reduceNeg, Int.reduceLT, Int.reduceLE, Int.reduceToNat, Nat.reduceLeDiff, Int.reduceAbs, Int.reduceSub, Int.reduceAdd, Int.reduceMul, Int.reduceEq, Nat.reduceMul, Nat.reduceEqDiff, Nat.reduceLT, Nat.reducePow, Int.reducePow, ↓reduceIte, ite_not, sif.eq_1, sif.eq_3, sif.eq_4, andA.eq_1, andA.eq_3, andA.eq_4, orA.eq_1, orA.eq_3, orA.eq_4, notA.eq_1, notA.eq_3, notA.eq_4, ifA.eq_1, ifA.eq_3, ifA.eq_4, orw.eq_1, orw.eq_2, orw.eq_3, v1r.eq_1, v1r.eq_2, v1a.eq_1, v1a.eq_2, v1a.eq_3, v2a.eq_1, v2a.eq_2, v2a.eq_3, v2b.eq_1, v2b.eq_2, v2b.eq_3, dlr.eq_1, dlr.eq_2, d1a.eq_1, d1a.eq_2, d1a.eq_3, d2a.eq_1, d2a.eq_2, d2a.eq_3, d2b.eq_1, d2b.eq_2, d2b.eq_3, ar1.eq_1, ar1.eq_2, ar1.eq_3, ar1.eq_4, ar2.eq_1, ar2.eq_2, ar2.eq_3, tupA.eq_1, tupA.eq_2, tupA.eq_3, lstA.eq_1, lstA.eq_2, lstA.eq_3, calA.eq_1, calA.eq_2, calA.eq_3, calB.eq_1, calB.eq_2, calB.eq_3, wOf.eq_1, varV.eq_1, varR.eq_1, varR.eq_2, varD.eq_1, setA.eq_1, setA.eq_2, setA.eq_4, setA.eq_5, setVA.eq_1, setVA.eq_2, setVA.eq_3, setVA.eq_4, asgA.eq_1, asgA.eq_2, asgA.eq_3, asgA.eq_4, asgB.eq_1, asgB.eq_2, expA.eq_1, expA.eq_2, expA.eq_3, retA.eq_1, retA.eq_2, retA.eq_3, retVA.eq_1, retVA.eq_2, retVA.eq_3, retVA.eq_4, forA.eq_1, forA.eq_2, forA.eq_3, sl0.eq_1, sl0.eq_2, sl0.eq_3, sl1.eq_1, sl1.eq_2, sl2.eq_1, sl2.eq_2, sl3.eq_1, sl3.eq_2, optA.eq_1, bdyA.eq_1, bdyA.eq_2, iPA.eq_1, iPA.eq_2, iPA.eq_3, iPA.eq_5, iPA.eq_6, enA.eq_1, enA.eq_3, enA.eq_4, zpA.eq_1, zpA.eq_3, zpA.eq_4, rvA.eq_1, rvA.eq_3, rvA.eq_4, ch1.eq_1, ch1.eq_2, ch1.eq_3, ch2.eq_1, ch2.eq_2, ch2.eq_3, chA.eq_1, chB.eq_1, chB.eq_2, chB.eq_3, chC.eq_1, chC.eq_2, lc0.eq_2, lc0.eq_3, lcA.eq_1, lcA.eq_2, augA.eq_1, augB.eq_1, augB.eq_3, augB.eq_4, appA.eq_1, appB.eq_1, appB.eq_2, appB.eq_3, putA.eq_1, putA.eq_2, putA.eq_3, putA2.eq_1, putA2.eq_2, putB.eq_1, putC.eq_1, putD.eq_1, pixA.eq_1, pixA2.eq_1, pixB.eq_1, tryA.eq_1, tryB.eq_1, tryB.eq_2, tryB.eq_3, noEr.eq_1, repA.eq_1, repA2.eq_1, repA2.eq_2, repB.eq_1, rdT.eq_1, rdT.eq_2, toV.eq_1, toV.eq_2, toV.eq_3, toV.eq_4, toV.eq_5, toV.eq_6, ofV.eq_1, ofV.eq_2, ofV.eq_4, ofV.eq_5, tOf.eq_1, tOf.eq_2, isL.eq_1, getT.eq_1, getT.eq_2, getT.eq_3, setT.eq_1, setT.eq_2, setT.eq_3, T.data.eq_1, T.data.eq_2, finW.eq_1, finW.eq_2, finW.eq_3, finW.eq_4, finW.eq_6, tgS.eq_1, wipeE.eq_1, fAdd.eq_1, fAdd.eq_2, fI2.eq_1, fB2.eq_1, fU.eq_1, fLen.eq_1, fLen.eq_2, fLen.eq_3, fIx.eq_1, fIx.eq_2, fIx.eq_3, fIsN.eq_1, fNotN.eq_1, isNone.eq_1, fInt.eq_1, fInt.eq_2, fInt.eq_3, fLs.eq_1, fLs.eq_2, fTp.eq_1, fTp.eq_2, fSlP.eq_3, wOf_l, wOf_o, tryA_nx, tryA_rt, tryA_bk, tryA_ct, noEr_nx, noEr_rt, noEr_bk, noEr_ct, isNone_i, isNone_b, isNone_s, isNone_l, isNone_t, iL_app, iL_len, iL_rep, iL_rev, allD_iL, dataL_iL, q_int, q_t, q_l, n_t, n_l, n_int, q_self, n_self, s_to, s_from, s_mid, sl_to, sl_from, sl_mid, add_t, add_l, cat_l, isi_t, isi_b, isi_i, isi_l, isi_s, at_0, at_1, at_2, at_3, at_4, at_5, at_6, ai_0, ai_1, ai_2, ai_3, ai_4, ai_5, ai_6, tgN_a, tgT_a, apd_ok, lc_ok, rg1_ok, rg2_ok, iL_snoc, iL_mapd, lc_const, rngD_len, iL_take, iL_drop, Int.toNat_natCast, dataL_nil, dataL_cons, allD.eq_1, allD.eq_2, ixN_ok, rep_l, tgS_nil, rep_none, rep_none0, List.take_left, List.drop_left, any_false, all_true, eq_self, set_iL, at_last, List.drop_succ_cons, List.drop_zero, List.take_succ_cons, List.take_zero, List.getLast?_cons_cons, List.getLast?_singleton, Int.cast_ofNat_Int, rg3_ok, rngC_len, fRv_l, Env.set.eq_1, T.data.eq_3, ad1.eq_1, ad1.eq_2, ad1.eq_3, ad2.eq_1, ad2.eq_2, ad3.eq_1, ad3.eq_2, ad3.eq_3, appA.eq_2, appA.eq_3, appP.eq_1, appP.eq_2, appT.eq_1, appT.eq_2, asDA.eq_1, asDA.eq_2, asDA.eq_4, asDA.eq_5, boxA.eq_1, boxA.eq_3, boxA.eq_4, calF.eq_1, calF.eq_2, calM.eq_1, calM.eq_2, calM.eq_3, cpL.eq_1, cpL.eq_2, cpT.eq_1, cpT.eq_2, cpT.eq_3, delA.eq_1, delA.eq_2, delA.eq_3, delA.eq_4, delA.eq_5, delA.eq_6, difA.eq_1, difA.eq_3, difA.eq_4, exDA.eq_1, exDA.eq_2, exDA.eq_3, extA.eq_1, extA.eq_2, extA.eq_3, extB.eq_1, extB.eq_2, extB.eq_3, extD.eq_1, extD.eq_2, extL.eq_1, extL.eq_2, extP.eq_1, extP.eq_2, faA.eq_1, faA.eq_2, faA.eq_3, faB.eq_1, faB.eq_2, faB2.eq_1, faC.eq_1, faD.eq_1, faD.eq_2, faE.eq_1, fldA.eq_1, fldA.eq_2, fldA.eq_3, fldB.eq_1, fldC.eq_1, fldC.eq_2, fldP.eq_1, fldP.eq_2, forJA.eq_1, forJA.eq_2, forJA.eq_3, forW.eq_1, forW.eq_2, fpA.eq_1, fpA.eq_2, fpA.eq_3, fpA1.eq_1, fpA1.eq_2, fpA2.eq_1, fpA2.eq_2, fpA2.eq_3, fpB.eq_1, fpB.eq_2, fpC.eq_1, fpD.eq_1, fpD.eq_2, fwA.eq_1, fwA.eq_2, fwA.eq_3, fwA.eq_4, fwA.eq_5, fwA.eq_6, fzA.eq_1, fzB.eq_1, fzB.eq_2, gQ.eq_1, gQ.eq_2, getR.eq_1, getR.eq_2, getT.eq_4, getT.eq_5, gsA.eq_1, gsA.eq_2, gsB.eq_1, gsB.eq_2, gsC.eq_1, iEnA.eq_1, iEnA.eq_2, iEnA.eq_3, iEnA.eq_4, iEnA.eq_6, iEnA.eq_7, iTA.eq_1, iTA.eq_2, iTA.eq_3, iTA.eq_4, iTA.eq_5, iTA.eq_6, iTA.eq_8, iTA.eq_9, iTp.eq_1, isBx.eq_1, isBx.eq_2, isBx.eq_3, isFix.eq_1, isFix.eq_2, itm.eq_1, itsP.eq_1, itsQ.eq_1, itsQ.eq_2, itsW.eq_1, itsW.eq_2, ixTA.eq_1, ixTA.eq_3, ixTA.eq_4, ixTB.eq_1, ixTB.eq_2, ixTC.eq_1, ixTC.eq_2, jsA.eq_1, jsA.eq_2, jsB.eq_1, jsB.eq_2, jsC.eq_1, jsD.eq_1, jsD.eq_2, lcC.eq_1, lcJA.eq_1, lcJA.eq_2, lcJA.eq_3, lsA.eq_1, lsA.eq_3, lsA.eq_4, lsB.eq_1, lsB.eq_2, lsC.eq_1, lsDA.eq_1, lsDA.eq_2, lsDA.eq_3, makA.eq_1, makA.eq_2, makA.eq_3, makB.eq_1, makB.eq_2, makC.eq_1, makC.eq_3, makC.eq_4, metA.eq_1, metA.eq_3, metA.eq_4, metB.eq_1, metC.eq_1, metC.eq_2, metC.eq_3, metD.eq_1, metD.eq_2, movA.eq_1, movB.eq_1, movB.eq_2, nnA.eq_1, nnA.eq_2, nnA.eq_3, nnB.eq_1, nnB.eq_2, noneW.eq_1, noneW.eq_2, noneW.eq_3, noneW.eq_4, noneW.eq_5, noneW.eq_6, ofA.eq_1, ofA.eq_2, ofA.eq_3, orE.eq_1, orE.eq_2, orE.eq_3, pixA.eq_2, pixA.eq_3, pixA2.eq_2, pixB.eq_2, pixC.eq_1, pixC.eq_2, pixP.eq_1, pixP.eq_2, plc.eq_1, plc.eq_2, popA.eq_1, popA.eq_2, popA.eq_3, popA0.eq_1, popA0.eq_2, popA0.eq_3, popA2.eq_1, popA2.eq_2, popB.eq_1, popB.eq_2, popD.eq_1, popD.eq_2, popE.eq_1, popE.eq_2, popL.eq_1, popL.eq_2, popZ.eq_1, popZ.eq_2, prpA.eq_1, prpA.eq_3, prpA.eq_4, prpB.eq_1, prpC.eq_1, putB.eq_2, putB.eq_3, putC.eq_2, putE.eq_1, putE.eq_2, putM.eq_1, putM.eq_2, putM.eq_3, putN.eq_1, putN.eq_2, putO.eq_1, putO2.eq_1, putO2.eq_2, putP.eq_1, putP.eq_2, putQ.eq_1, putR.eq_1, putR.eq_2, rdJ.eq_1, rdJ.eq_2, rdP.eq_1, rdP.eq_2, rdP.eq_3, rs1A.eq_1, rs1A.eq_2, rs1A.eq_3, rs1A.eq_4, rvA'.eq_1, rvA'.eq_2, rvA'.eq_3, rvB.eq_1, rvB.eq_2, rvC.eq_1, sQ.eq_1, sQ.eq_2, setR.eq_1, setR.eq_2, setT.eq_4, setT.eq_5, stO.eq_1, stO.eq_2, stO.eq_3, stO.eq_4, stO.eq_5, stO.eq_6, stb.eq_1, swpA.eq_1, swpA.eq_2, tpDA.eq_1, tpDA.eq_2, tpDA.eq_3, truA.eq_1, truA.eq_2, truA.eq_3, truB.eq_1, truB.eq_2, truD.eq_1, truD.eq_2, truD.eq_3, truD.eq_4, truD.eq_5, truD.eq_6, truP.eq_1, truP.eq_2, truT.eq_1, truT.eq_2, tyA.eq_1, wipeS.eq_1, wipeS.eq_2, ↓x_ad0, ↓x_ad1, ↓x_fld, ↓x_meth, ↓x_make, ↓x_prop, ↓x_box, ↓x_fldP, ↓x_fldA, ↓x_isN, ↓x_tru, ↓x_mov, ↓x_dif, ↓x_iT, ↓x_iEn, ↓x_forJ, ↓x_lcJ, ↓x_raise1, ↓x_tryA, ↓x_expD, ↓x_rvM, ↓x_frz, ↓x_lsT, ↓x_lstD, ↓x_tupD, ↓x_ixT, ↓x_asgD, ↓x_of, getE_q, setE_q, rdI_l, tyA_nx, tyA_rt, tyA_bk, tyA_ct, tyB_t, tyB_f, x_wh, rdP_l, rdP_o, rdP_k, rdP_m, truW_r, truW_p, lcE_ok, frz_nil, frz_d, frz_r, frz_l, cpL_r, gc_ne, gc_new, ofS_inj, q_lit, n_lit, lk_lit, in_nil, in_cons, ev_s, ev_i, fl_i, fl_s, fl_n, fl_b, in_l, in_t, q_nn, q_in, q_ni, n_nn, n_in, n_ni, q_bb, n_bb, isNone_n, isi_n, String.reduceEq, Option.bind_some, Option.bind_none, List.isEmpty_nil, List.isEmpty_cons, tgT_t, cpL_d, Option.toList_some, Option.toList_none, Int.add_zero, Int.zero_add, Int.sub_zero, Int.reduceMod, Int.reduceDiv, Nat.reduceMod, Nat.reduceDiv, beq_self_eq_true, Bool.true_beq, Bool.false_beq, bb_t, bb_f, ↓x_rd, rdA_r, rdA_p, rdA_v, rdA_l, rdA_er, wOf_r, wOf_t, wOf_d, or_true, true_or, or_false, false_or, and_false, false_and, not_true_eq_false, not_false_eq_true, and_self, or_self, evA_nil, evA_cons, evA_nc, evA_cn, ev_tt, ev_ll, ev_ii, ev_ss, ev_nn, ev_ni, ev_in, ev_ns, ev_sn, ev_bb, ixN_last, gc_lt, List.set_set, isB_b, notB_b, isB_i, notB_i, isB_n, notB_n, isB_l, notB_l, ↓x_pop, ↓x_pop0, ↓x_ext, ↓x_swp, forL_nil, forL_c, in_ti1, in_li1, in_ts1, in_ls1, in_ti2, in_li2, in_ts2, in_ls2, in_ti3, in_li3, in_ts3, in_ls3, in_ti4, in_li4, in_ts4, in_ls4, in_ti5, in_li5, in_ts5, in_ls5, in_ti6, in_li6, in_ts6, in_ls6, cz, cp0, cn0, Bool.false_xor, Bool.true_xor, Bool.xor_false, Bool.xor_true, Option.isNone_none, Option.isNone_some, Option.isSome_none, Option.isSome_some, itsW_p, itsW_r, popC_ok, extE_ok, is_bool_i, is_str_i, is_list_i, is_tuple_i, is_dict_i, is_int_b, is_str_b, is_list_b, is_tuple_b, is_dict_b, is_int_s, is_bool_s, is_list_s, is_tuple_s, is_dict_s, is_int_l, is_bool_l, is_str_l, is_tuple_l, is_dict_l, is_int_t, is_bool_t, is_str_t, is_list_t, is_dict_t, is_int_n, is_bool_n, is_str_n, is_list_n, is_tuple_n, is_dict_n, Option.join_some, Option.join_none, b__law_heard_1, at_nat, hga, hgb, pk, hji, hkj, h8]
          exact ⟨_, rfl, _, rfl⟩
    have h1 := Classical.choose_spec key
    generalize Classical.choose key = c at h1
    rw [rngD_len, pkL_len, List.take_of_length_le (Nat.le_refl _), pkL_len.symm] at h1
    by_cases hv : winB l a = true
    · rw [hv] at h1
      rw [← ho]
      simp (disch := (first | with_reducible assumption | omega | (simp only [iL_len, rngD_len, rngC_len, List.length_append, List.length_replicate, List.length_cons, List.length_nil, List.length_map, List.length_take, List.length_drop, List.length_range, SZ] <;> omega) | (simp only [iL_len, rngD_len, rngC_len, List.length_append, List.length_replicate, List.length_cons, List.length_nil, List.length_map, List.length_take, List.length_drop, List.length_range, SZ] at * <;> omega) | fail)) only [↓x_seq, ↓x_nil, ↓x_if, ↓x_set, ↓x_setV, ↓x_asg, ↓x_exp, ↓x_ret, ↓x_retV, ↓x_retN, ↓x_brk, ↓x_cnt, ↓x_for, ↓x_bdy, ↓x_C, ↓x_var, ↓x_dvar, ↓x_v1, ↓x_v2, ↓x_d1L, ↓x_d2L, ↓x_and, ↓x_or, ↓x_not, ↓x_ifx, ↓x_args0, ↓x_args1, ↓x_tup, ↓x_lst, ↓x_call, ↓x_vD, ↓x_dV, ↓x_slP, ↓x_opt0, ↓x_opt1, ↓x_iP, ↓x_rg1, ↓x_rg2, ↓x_rg3, ↓x_en, ↓x_zp, ↓x_rv, ↓x_ch, ↓x_lc, ↓x_aug, ↓x_app, ↓x_put, ↓x_pix, ↓x_try, ↓x_rep, ↓x_raise0, y_sq, y_sif, y_retV, y_setV, y_toV, y_ofV, y_orw, y_and, y_or, y_not, y_v1, y_v2a, y_v2b, y_finW, y_calB, sq_nx, sq_rt, sq_bk, sq_ct, sq_er, sq_no, dataL_d, allD_d, fnD, SZ, List.getElem?_cons_zero, List.getElem?_cons_succ, List.getElem?_nil, List.set_cons_zero, List.set_cons_succ, List.map_cons, List.map_nil, List.length_cons, List.length_nil, List.length_map, List.length_append, List.cons_append, List.nil_append, List.append_nil, Nat.reduceAdd, Nat.reduceSub, Nat.zero_add, Nat.add_zero, Option.map_some, Option.map_none, Option.getD_some, Option.getD_none, Bool.false_eq_true, Bool.true_eq_false, Bool.and_false, Bool.false_and, Bool.and_true, Bool.true_and, Bool.or_false, Bool.false_or, Bool.or_true, Bool.true_or, Bool.not_true, Bool.not_false, if_true, if_false, ite_true, ite_false, decide_eq_true_eq, Bool.and_eq_true, Bool.or_eq_true, Bool.not_eq_true', decide_eq_false_iff_not, decide_true, decide_false, true_and, and_true, reduceCtorEq, Int.reduceNeg, Int.reduceLT, Int.reduceLE, Int.reduceToNat, Nat.reduceLeDiff, Int.reduceAbs, Int.reduceSub, Int.reduceAdd, Int.reduceMul, Int.reduceEq, Nat.reduceMul, Nat.reduceEqDiff, Nat.reduceLT, Nat.reducePow, Int.reducePow, ↓reduceIte, ite_not, sif.eq_1, sif.eq_3, sif.eq_4, andA.eq_1, andA.eq_3, andA.eq_4, orA.eq_1, orA.eq_3, orA.eq_4, notA.eq_1, notA.eq_3, notA.eq_4, ifA.eq_1, ifA.eq_3, ifA.eq_4, orw.eq_1, orw.eq_2, orw.eq_3, v1r.eq_1, v1r.eq_2, v1a.eq_1, v1a.eq_2, v1a.eq_3, v2a.eq_1, v2a.eq_2, v2a.eq_3, v2b.eq_1, v2b.eq_2, v2b.eq_3, dlr.eq_1, dlr.eq_2, d1a.eq_1, d1a.eq_2, d1a.eq_3, d2a.eq_1, d2a.eq_2, d2a.eq_3, d2b.eq_1, d2b.eq_2, d2b.eq_3, ar1.eq_1, ar1.eq_2, ar1.eq_3, ar1.eq_4, ar2.eq_1, ar2.eq_2, ar2.eq_3, tupA.eq_1, tupA.eq_2, tupA.eq_3, lstA.eq_1, lstA.eq_2, lstA.eq_3, calA.eq_1, calA.eq_2, calA.eq_3, calB.eq_1, calB.eq_2, calB.eq_3, wOf.eq_1, varV.eq_1, varR.eq_1, varR.eq_2, varD.eq_1, setA.eq_1, setA.eq_2, setA.eq_4, setA.eq_5, setVA.eq_1, setVA.eq_2, setVA.eq_3, setVA.eq_4, asgA.eq_1, asgA.eq_2, asgA.eq_3, asgA.eq_4, asgB.eq_1, asgB.eq_2, expA.eq_1, expA.eq_2, expA.eq_3, retA.eq_1, retA.eq_2, retA.eq_3, retVA.eq_1, retVA.eq_2, retVA.eq_3, retVA.eq_4, forA.eq_1, forA.eq_2, forA.eq_3, sl0.eq_1, sl0.eq_2, sl0.eq_3, sl1.eq_1, sl1.eq_2, sl2.eq_1, sl2.eq_2, sl3.eq_1, sl3.eq_2, optA.eq_1, bdyA.eq_1, bdyA.eq_2, iPA.eq_1, iPA.eq_2, iPA.eq_3, iPA.eq_5, iPA.eq_6, enA.eq_1, enA.eq_3, enA.eq_4, zpA.eq_1, zpA.eq_3, zpA.eq_4, rvA.eq_1, rvA.eq_3, rvA.eq_4, ch1.eq_1, ch1.eq_2, ch1.eq_3, ch2.eq_1, ch2.eq_2, ch2.eq_3, chA.eq_1, chB.eq_1, chB.eq_2, chB.eq_3, chC.eq_1, chC.eq_2, lc0.eq_2, lc0.eq_3, lcA.eq_1, lcA.eq_2, augA.eq_1, augB.eq_1, augB.eq_3, augB.eq_4, appA.eq_1, appB.eq_1, appB.eq_2, appB.eq_3, putA.eq_1, putA.eq_2, putA.eq_3, putA2.eq_1, putA2.eq_2, putB.eq_1, putC.eq_1, putD.eq_1, pixA.eq_1, pixA2.eq_1, pixB.eq_1, tryA.eq_1, tryB.eq_1, tryB.eq_2, tryB.eq_3, noEr.eq_1, repA.eq_1, repA2.eq_1, repA2.eq_2, repB.eq_1, rdT.eq_1, rdT.eq_2, toV.eq_1, toV.eq_2, toV.eq_3, toV.eq_4, toV.eq_5, toV.eq_6, ofV.eq_1, ofV.eq_2, ofV.eq_4, ofV.eq_5, tOf.eq_1, tOf.eq_2, isL.eq_1, getT.eq_1, getT.eq_2, getT.eq_3, setT.eq_1, setT.eq_2, setT.eq_3, T.data.eq_1, T.data.eq_2, finW.eq_1, finW.eq_2, finW.eq_3, finW.eq_4, finW.eq_6, tgS.eq_1, wipeE.eq_1, fAdd.eq_1, fAdd.eq_2, fI2.eq_1, fB2.eq_1, fU.eq_1, fLen.eq_1, fLen.eq_2, fLen.eq_3, fIx.eq_1, fIx.eq_2, fIx.eq_3, fIsN.eq_1, fNotN.eq_1, isNone.eq_1, fInt.eq_1, fInt.eq_2, fInt.eq_3, fLs.eq_1, fLs.eq_2, fTp.eq_1, fTp.eq_2, fSlP.eq_3, wOf_l, wOf_o, tryA_nx, tryA_rt, tryA_bk, tryA_ct, noEr_nx, noEr_rt, noEr_bk, noEr_ct, isNone_i, isNone_b, isNone_s, isNone_l, isNone_t, iL_app, iL_len, iL_rep, iL_rev, allD_iL, dataL_iL, q_int, q_t, q_l, n_t, n_l, n_int, q_self, n_self, s_to, s_from, s_mid, sl_to, sl_from, sl_mid, add_t, add_l, cat_l, isi_t, isi_b, isi_i, isi_l, isi_s, at_0, at_1, at_2, at_3, at_4, at_5, at_6, ai_0, ai_1, ai_2, ai_3, ai_4, ai_5, ai_6, tgN_a, tgT_a, apd_ok, lc_ok, rg1_ok, rg2_ok, iL_snoc, iL_mapd, lc_const, rngD_len, iL_take, iL_drop, Int.toNat_natCast, dataL_nil, dataL_cons, allD.eq_1, allD.eq_2, ixN_ok, rep_l, tgS_nil, rep_none, rep_none0, List.take_left, List.drop_left, any_false, all_true, eq_self, set_iL, at_last, List.drop_succ_cons, List.drop_zero, List.take_succ_cons, List.take_zero, List.getLast?_cons_cons, List.getLast?_singleton, Int.cast_ofNat_Int, rg3_ok, rngC_len, fRv_l, Env.set.eq_1, T.data.eq_3, ad1.eq_1, ad1.eq_2, ad1.eq_3, ad2.eq_1, ad2.eq_2, ad3.eq_1, ad3.eq_2, ad3.eq_3, appA.eq_2, appA.eq_3, appP.eq_1, appP.eq_2, appT.eq_1, appT.eq_2, asDA.eq_1, asDA.eq_2, asDA.eq_4, asDA.eq_5, boxA.eq_1, boxA.eq_3, boxA.eq_4, calF.eq_1, calF.eq_2, calM.eq_1, calM.eq_2, calM.eq_3, cpL.eq_1, cpL.eq_2, cpT.eq_1, cpT.eq_2, cpT.eq_3, delA.eq_1, delA.eq_2, delA.eq_3, delA.eq_4, delA.eq_5, delA.eq_6, difA.eq_1, difA.eq_3, difA.eq_4, exDA.eq_1, exDA.eq_2, exDA.eq_3, extA.eq_1, extA.eq_2, extA.eq_3, extB.eq_1, extB.eq_2, extB.eq_3, extD.eq_1, extD.eq_2, extL.eq_1, extL.eq_2, extP.eq_1, extP.eq_2, faA.eq_1, faA.eq_2, faA.eq_3, faB.eq_1, faB.eq_2, faB2.eq_1, faC.eq_1, faD.eq_1, faD.eq_2, faE.eq_1, fldA.eq_1, fldA.eq_2, fldA.eq_3, fldB.eq_1, fldC.eq_1, fldC.eq_2, fldP.eq_1, fldP.eq_2, forJA.eq_1, forJA.eq_2, forJA.eq_3, forW.eq_1, forW.eq_2, fpA.eq_1, fpA.eq_2, fpA.eq_3, fpA1.eq_1, fpA1.eq_2, fpA2.eq_1, fpA2.eq_2, fpA2.eq_3, fpB.eq_1, fpB.eq_2, fpC.eq_1, fpD.eq_1, fpD.eq_2, fwA.eq_1, fwA.eq_2, fwA.eq_3, fwA.eq_4, fwA.eq_5, fwA.eq_6, fzA.eq_1, fzB.eq_1, fzB.eq_2, gQ.eq_1, gQ.eq_2, getR.eq_1, getR.eq_2, getT.eq_4, getT.eq_5, gsA.eq_1, gsA.eq_2, gsB.eq_1, gsB.eq_2, gsC.eq_1, iEnA.eq_1, iEnA.eq_2, iEnA.eq_3, iEnA.eq_4, iEnA.eq_6, iEnA.eq_7, iTA.eq_1, iTA.eq_2, iTA.eq_3, iTA.eq_4, iTA.eq_5, iTA.eq_6, iTA.eq_8, iTA.eq_9, iTp.eq_1, isBx.eq_1, isBx.eq_2, isBx.eq_3, isFix.eq_1, isFix.eq_2, itm.eq_1, itsP.eq_1, itsQ.eq_1, itsQ.eq_2, itsW.eq_1, itsW.eq_2, ixTA.eq_1, ixTA.eq_3, ixTA.eq_4, ixTB.eq_1, ixTB.eq_2, ixTC.eq_1, ixTC.eq_2, jsA.eq_1, jsA.eq_2, jsB.eq_1, jsB.eq_2, jsC.eq_1, jsD.eq_1, jsD.eq_2, lcC.eq_1, lcJA.eq_1, lcJA.eq_2, lcJA.eq_3, lsA.eq_1, lsA.eq_3, lsA.eq_4, lsB.eq_1, lsB.eq_2, lsC.eq_1, lsDA.eq_1, lsDA.eq_2, lsDA.eq_3, makA.eq_1, makA.eq_2, makA.eq_3, makB.eq_1, makB.eq_2, makC.eq_1, makC.eq_3, makC.eq_4, metA.eq_1, metA.eq_3, metA.eq_4, metB.eq_1, metC.eq_1, metC.eq_2, metC.eq_3, metD.eq_1, metD.eq_2, movA.eq_1, movB.eq_1, movB.eq_2, nnA.eq_1, nnA.eq_2, nnA.eq_3, nnB.eq_1, nnB.eq_2, noneW.eq_1, noneW.eq_2, noneW.eq_3, noneW.eq_4, noneW.eq_5, noneW.eq_6, ofA.eq_1, ofA.eq_2, ofA.eq_3, orE.eq_1, orE.eq_2, orE.eq_3, pixA.eq_2, pixA.eq_3, pixA2.eq_2, pixB.eq_2, pixC.eq_1, pixC.eq_2, pixP.eq_1, pixP.eq_2, plc.eq_1, plc.eq_2, popA.eq_1, popA.eq_2, popA.eq_3, popA0.eq_1, popA0.eq_2, popA0.eq_3, popA2.eq_1, popA2.eq_2, popB.eq_1, popB.eq_2, popD.eq_1, popD.eq_2, popE.eq_1, popE.eq_2, popL.eq_1, popL.eq_2, popZ.eq_1, popZ.eq_2, prpA.eq_1, prpA.eq_3, prpA.eq_4, prpB.eq_1, prpC.eq_1, putB.eq_2, putB.eq_3, putC.eq_2, putE.eq_1, putE.eq_2, putM.eq_1, putM.eq_2, putM.eq_3, putN.eq_1, putN.eq_2, putO.eq_1, putO2.eq_1, putO2.eq_2, putP.eq_1, putP.eq_2, putQ.eq_1, putR.eq_1, putR.eq_2, rdJ.eq_1, rdJ.eq_2, rdP.eq_1, rdP.eq_2, rdP.eq_3, rs1A.eq_1, rs1A.eq_2, rs1A.eq_3, rs1A.eq_4, rvA'.eq_1, rvA'.eq_2, rvA'.eq_3, rvB.eq_1, rvB.eq_2, rvC.eq_1, sQ.eq_1, sQ.eq_2, setR.eq_1, setR.eq_2, setT.eq_4, setT.eq_5, stO.eq_1, stO.eq_2, stO.eq_3, stO.eq_4, stO.eq_5, stO.eq_6, stb.eq_1, swpA.eq_1, swpA.eq_2, tpDA.eq_1, tpDA.eq_2, tpDA.eq_3, truA.eq_1, truA.eq_2, truA.eq_3, truB.eq_1, truB.eq_2, truD.eq_1, truD.eq_2, truD.eq_3, truD.eq_4, truD.eq_5, truD.eq_6, truP.eq_1, truP.eq_2, truT.eq_1, truT.eq_2, tyA.eq_1, wipeS.eq_1, wipeS.eq_2, ↓x_ad0, ↓x_ad1, ↓x_fld, ↓x_meth, ↓x_make, ↓x_prop, ↓x_box, ↓x_fldP, ↓x_fldA, ↓x_isN, ↓x_tru, ↓x_mov, ↓x_dif, ↓x_iT, ↓x_iEn, ↓x_forJ, ↓x_lcJ, ↓x_raise1, ↓x_tryA, ↓x_expD, ↓x_rvM, ↓x_frz, ↓x_lsT, ↓x_lstD, ↓x_tupD, ↓x_ixT, ↓x_asgD, ↓x_of, getE_q, setE_q, rdI_l, tyA_nx, tyA_rt, tyA_bk, tyA_ct, tyB_t, tyB_f, x_wh, rdP_l, rdP_o, rdP_k, rdP_m, truW_r, truW_p, lcE_ok, frz_nil, frz_d, frz_r, frz_l, cpL_r, gc_ne, gc_new, ofS_inj, q_lit, n_lit, lk_lit, in_nil, in_cons, ev_s, ev_i, fl_i, fl_s, fl_n, fl_b, in_l, in_t, q_nn, q_in, q_ni, n_nn, n_in, n_ni, q_bb, n_bb, isNone_n, isi_n, String.reduceEq, Option.bind_some, Option.bind_none, List.isEmpty_nil, List.isEmpty_cons, tgT_t, cpL_d, Option.toList_some, Option.toList_none, Int.add_zero, Int.zero_add, Int.sub_zero, Int.reduceMod, Int.reduceDiv, Nat.reduceMod, Nat.reduceDiv, beq_self_eq_true, Bool.true_beq, Bool.false_beq, bb_t, bb_f, ↓x_rd, rdA_r, rdA_p, rdA_v, rdA_l, rdA_er, wOf_r, wOf_t, wOf_d, or_true, true_or, or_false, false_or, and_false, false_and, not_true_eq_false, not_false_eq_true, and_self, or_self, evA_nil, evA_cons, evA_nc, evA_cn, ev_tt, ev_ll, ev_ii, ev_ss, ev_nn, ev_ni, ev_in, ev_ns, ev_sn, ev_bb, ixN_last, gc_lt, List.set_set, isB_b, notB_b, isB_i, notB_i, isB_n, notB_n, isB_l, notB_l, ↓x_pop, ↓x_pop0, ↓x_ext, ↓x_swp, forL_nil, forL_c, in_ti1, in_li1, in_ts1, in_ls1, in_ti2, in_li2, in_ts2, in_ls2, in_ti3, in_li3, in_ts3, in_ls3, in_ti4, in_li4, in_ts4, in_ls4, in_ti5, in_li5, in_ts5, in_ls5, in_ti6, in_li6, in_ts6, in_ls6, cz, cp0, cn0, Bool.false_xor, Bool.true_xor, Bool.xor_false, Bool.xor_true, Option.isNone_none, Option.isNone_some, Option.isSome_none, Option.isSome_some, itsW_p, itsW_r, popC_ok, extE_ok, is_bool_i, is_str_i, is_list_i, is_tuple_i, is_dict_i, is_int_b, is_str_b, is_list_b, is_tuple_b, is_dict_b, is_int_s, is_bool_s, is_list_s, is_tuple_s, is_dict_s, is_int_l, is_bool_l, is_str_l, is_tuple_l, is_dict_l, is_int_t, is_bool_t, is_str_t, is_list_t, is_dict_t, is_int_n, is_bool_n, is_str_n, is_list_n, is_tuple_n, is_dict_n, Option.join_some, Option.join_none, b__law_heard_2, h1, at_nat, hga, pk]
      exact ⟨some a, rfl, fun b e => (Option.some.inj e) ▸ (winB_iff hm).mp hv, fun e => nomatch e⟩
    · have hv2 : winB l a = false := by simpa using hv
      rw [hv2] at h1
      rw [← ho]
      simp (disch := (first | with_reducible assumption | omega | (simp only [iL_len, rngD_len, rngC_len, List.length_append, List.length_replicate, List.length_cons, List.length_nil, List.length_map, List.length_take, List.length_drop, List.length_range, SZ] <;> omega) | (simp only [iL_len, rngD_len, rngC_len, List.length_append, List.length_replicate, List.length_cons, List.length_nil, List.length_map, List.length_take, List.length_drop, List.length_range, SZ] at * <;> omega) | fail)) only [↓x_seq, ↓x_nil, ↓x_if, ↓x_set, ↓x_setV, ↓x_asg, ↓x_exp, ↓x_ret, ↓x_retV, ↓x_retN, ↓x_brk, ↓x_cnt, ↓x_for, ↓x_bdy, ↓x_C, ↓x_var, ↓x_dvar, ↓x_v1, ↓x_v2, ↓x_d1L, ↓x_d2L, ↓x_and, ↓x_or, ↓x_not, ↓x_ifx, ↓x_args0, ↓x_args1, ↓x_tup, ↓x_lst, ↓x_call, ↓x_vD, ↓x_dV, ↓x_slP, ↓x_opt0, ↓x_opt1, ↓x_iP, ↓x_rg1, ↓x_rg2, ↓x_rg3, ↓x_en, ↓x_zp, ↓x_rv, ↓x_ch, ↓x_lc, ↓x_aug, ↓x_app, ↓x_put, ↓x_pix, ↓x_try, ↓x_rep, ↓x_raise0, y_sq, y_sif, y_retV, y_setV, y_toV, y_ofV, y_orw, y_and, y_or, y_not, y_v1, y_v2a, y_v2b, y_finW, y_calB, sq_nx, sq_rt, sq_bk, sq_ct, sq_er, sq_no, dataL_d, allD_d, fnD, SZ, List.getElem?_cons_zero, List.getElem?_cons_succ, List.getElem?_nil, List.set_cons_zero, List.set_cons_succ, List.map_cons, List.map_nil, List.length_cons, List.length_nil, List.length_map, List.length_append, List.cons_append, List.nil_append, List.append_nil, Nat.reduceAdd, Nat.reduceSub, Nat.zero_add, Nat.add_zero, Option.map_some, Option.map_none, Option.getD_some, Option.getD_none, Bool.false_eq_true, Bool.true_eq_false, Bool.and_false, Bool.false_and, Bool.and_true, Bool.true_and, Bool.or_false, Bool.false_or, Bool.or_true, Bool.true_or, Bool.not_true, Bool.not_false, if_true, if_false, ite_true, ite_false, decide_eq_true_eq, Bool.and_eq_true, Bool.or_eq_true, Bool.not_eq_true', decide_eq_false_iff_not, decide_true, decide_false, true_and, and_true, reduceCtorEq, Int.reduceNeg, Int.reduceLT, Int.reduceLE, Int.reduceToNat, Nat.reduceLeDiff, Int.reduceAbs, Int.reduceSub, Int.reduceAdd, Int.reduceMul, Int.reduceEq, Nat.reduceMul, Nat.reduceEqDiff, Nat.reduceLT, Nat.reducePow, Int.reducePow, ↓reduceIte, ite_not, sif.eq_1, sif.eq_3, sif.eq_4, andA.eq_1, andA.eq_3, andA.eq_4, orA.eq_1, orA.eq_3, orA.eq_4, notA.eq_1, notA.eq_3, notA.eq_4, ifA.eq_1, ifA.eq_3, ifA.eq_4, orw.eq_1, orw.eq_2, orw.eq_3, v1r.eq_1, v1r.eq_2, v1a.eq_1, v1a.eq_2, v1a.eq_3, v2a.eq_1, v2a.eq_2, v2a.eq_3, v2b.eq_1, v2b.eq_2, v2b.eq_3, dlr.eq_1, dlr.eq_2, d1a.eq_1, d1a.eq_2, d1a.eq_3, d2a.eq_1, d2a.eq_2, d2a.eq_3, d2b.eq_1, d2b.eq_2, d2b.eq_3, ar1.eq_1, ar1.eq_2, ar1.eq_3, ar1.eq_4, ar2.eq_1, ar2.eq_2, ar2.eq_3, tupA.eq_1, tupA.eq_2, tupA.eq_3, lstA.eq_1, lstA.eq_2, lstA.eq_3, calA.eq_1, calA.eq_2, calA.eq_3, calB.eq_1, calB.eq_2, calB.eq_3, wOf.eq_1, varV.eq_1, varR.eq_1, varR.eq_2, varD.eq_1, setA.eq_1, setA.eq_2, setA.eq_4, setA.eq_5, setVA.eq_1, setVA.eq_2, setVA.eq_3, setVA.eq_4, asgA.eq_1, asgA.eq_2, asgA.eq_3, asgA.eq_4, asgB.eq_1, asgB.eq_2, expA.eq_1, expA.eq_2, expA.eq_3, retA.eq_1, retA.eq_2, retA.eq_3, retVA.eq_1, retVA.eq_2, retVA.eq_3, retVA.eq_4, forA.eq_1, forA.eq_2, forA.eq_3, sl0.eq_1, sl0.eq_2, sl0.eq_3, sl1.eq_1, sl1.eq_2, sl2.eq_1, sl2.eq_2, sl3.eq_1, sl3.eq_2, optA.eq_1, bdyA.eq_1, bdyA.eq_2, iPA.eq_1, iPA.eq_2, iPA.eq_3, iPA.eq_5, iPA.eq_6, enA.eq_1, enA.eq_3, enA.eq_4, zpA.eq_1, zpA.eq_3, zpA.eq_4, rvA.eq_1, rvA.eq_3, rvA.eq_4, ch1.eq_1, ch1.eq_2, ch1.eq_3, ch2.eq_1, ch2.eq_2, ch2.eq_3, chA.eq_1, chB.eq_1, chB.eq_2, chB.eq_3, chC.eq_1, chC.eq_2, lc0.eq_2, lc0.eq_3, lcA.eq_1, lcA.eq_2, augA.eq_1, augB.eq_1, augB.eq_3, augB.eq_4, appA.eq_1, appB.eq_1, appB.eq_2, appB.eq_3, putA.eq_1, putA.eq_2, putA.eq_3, putA2.eq_1, putA2.eq_2, putB.eq_1, putC.eq_1, putD.eq_1, pixA.eq_1, pixA2.eq_1, pixB.eq_1, tryA.eq_1, tryB.eq_1, tryB.eq_2, tryB.eq_3, noEr.eq_1, repA.eq_1, repA2.eq_1, repA2.eq_2, repB.eq_1, rdT.eq_1, rdT.eq_2, toV.eq_1, toV.eq_2, toV.eq_3, toV.eq_4, toV.eq_5, toV.eq_6, ofV.eq_1, ofV.eq_2, ofV.eq_4, ofV.eq_5, tOf.eq_1, tOf.eq_2, isL.eq_1, getT.eq_1, getT.eq_2, getT.eq_3, setT.eq_1, setT.eq_2, setT.eq_3, T.data.eq_1, T.data.eq_2, finW.eq_1, finW.eq_2, finW.eq_3, finW.eq_4, finW.eq_6, tgS.eq_1, wipeE.eq_1, fAdd.eq_1, fAdd.eq_2, fI2.eq_1, fB2.eq_1, fU.eq_1, fLen.eq_1, fLen.eq_2, fLen.eq_3, fIx.eq_1, fIx.eq_2, fIx.eq_3, fIsN.eq_1, fNotN.eq_1, isNone.eq_1, fInt.eq_1, fInt.eq_2, fInt.eq_3, fLs.eq_1, fLs.eq_2, fTp.eq_1, fTp.eq_2, fSlP.eq_3, wOf_l, wOf_o, tryA_nx, tryA_rt, tryA_bk, tryA_ct, noEr_nx, noEr_rt, noEr_bk, noEr_ct, isNone_i, isNone_b, isNone_s, isNone_l, isNone_t, iL_app, iL_len, iL_rep, iL_rev, allD_iL, dataL_iL, q_int, q_t, q_l, n_t, n_l, n_int, q_self, n_self, s_to, s_from, s_mid, sl_to, sl_from, sl_mid, add_t, add_l, cat_l, isi_t, isi_b, isi_i, isi_l, isi_s, at_0, at_1, at_2, at_3, at_4, at_5, at_6, ai_0, ai_1, ai_2, ai_3, ai_4, ai_5, ai_6, tgN_a, tgT_a, apd_ok, lc_ok, rg1_ok, rg2_ok, iL_snoc, iL_mapd, lc_const, rngD_len, iL_take, iL_drop, Int.toNat_natCast, dataL_nil, dataL_cons, allD.eq_1, allD.eq_2, ixN_ok, rep_l, tgS_nil, rep_none, rep_none0, List.take_left, List.drop_left, any_false, all_true, eq_self, set_iL, at_last, List.drop_succ_cons, List.drop_zero, List.take_succ_cons, List.take_zero, List.getLast?_cons_cons, List.getLast?_singleton, Int.cast_ofNat_Int, rg3_ok, rngC_len, fRv_l, Env.set.eq_1, T.data.eq_3, ad1.eq_1, ad1.eq_2, ad1.eq_3, ad2.eq_1, ad2.eq_2, ad3.eq_1, ad3.eq_2, ad3.eq_3, appA.eq_2, appA.eq_3, appP.eq_1, appP.eq_2, appT.eq_1, appT.eq_2, asDA.eq_1, asDA.eq_2, asDA.eq_4, asDA.eq_5, boxA.eq_1, boxA.eq_3, boxA.eq_4, calF.eq_1, calF.eq_2, calM.eq_1, calM.eq_2, calM.eq_3, cpL.eq_1, cpL.eq_2, cpT.eq_1, cpT.eq_2, cpT.eq_3, delA.eq_1, delA.eq_2, delA.eq_3, delA.eq_4, delA.eq_5, delA.eq_6, difA.eq_1, difA.eq_3, difA.eq_4, exDA.eq_1, exDA.eq_2, exDA.eq_3, extA.eq_1, extA.eq_2, extA.eq_3, extB.eq_1, extB.eq_2, extB.eq_3, extD.eq_1, extD.eq_2, extL.eq_1, extL.eq_2, extP.eq_1, extP.eq_2, faA.eq_1, faA.eq_2, faA.eq_3, faB.eq_1, faB.eq_2, faB2.eq_1, faC.eq_1, faD.eq_1, faD.eq_2, faE.eq_1, fldA.eq_1, fldA.eq_2, fldA.eq_3, fldB.eq_1, fldC.eq_1, fldC.eq_2, fldP.eq_1, fldP.eq_2, forJA.eq_1, forJA.eq_2, forJA.eq_3, forW.eq_1, forW.eq_2, fpA.eq_1, fpA.eq_2, fpA.eq_3, fpA1.eq_1, fpA1.eq_2, fpA2.eq_1, fpA2.eq_2, fpA2.eq_3, fpB.eq_1, fpB.eq_2, fpC.eq_1, fpD.eq_1, fpD.eq_2, fwA.eq_1, fwA.eq_2, fwA.eq_3, fwA.eq_4, fwA.eq_5, fwA.eq_6, fzA.eq_1, fzB.eq_1, fzB.eq_2, gQ.eq_1, gQ.eq_2, getR.eq_1, getR.eq_2, getT.eq_4, getT.eq_5, gsA.eq_1, gsA.eq_2, gsB.eq_1, gsB.eq_2, gsC.eq_1, iEnA.eq_1, iEnA.eq_2, iEnA.eq_3, iEnA.eq_4, iEnA.eq_6, iEnA.eq_7, iTA.eq_1, iTA.eq_2, iTA.eq_3, iTA.eq_4, iTA.eq_5, iTA.eq_6, iTA.eq_8, iTA.eq_9, iTp.eq_1, isBx.eq_1, isBx.eq_2, isBx.eq_3, isFix.eq_1, isFix.eq_2, itm.eq_1, itsP.eq_1, itsQ.eq_1, itsQ.eq_2, itsW.eq_1, itsW.eq_2, ixTA.eq_1, ixTA.eq_3, ixTA.eq_4, ixTB.eq_1, ixTB.eq_2, ixTC.eq_1, ixTC.eq_2, jsA.eq_1, jsA.eq_2, jsB.eq_1, jsB.eq_2, jsC.eq_1, jsD.eq_1, jsD.eq_2, lcC.eq_1, lcJA.eq_1, lcJA.eq_2, lcJA.eq_3, lsA.eq_1, lsA.eq_3, lsA.eq_4, lsB.eq_1, lsB.eq_2, lsC.eq_1, lsDA.eq_1, lsDA.eq_2, lsDA.eq_3, makA.eq_1, makA.eq_2, makA.eq_3, makB.eq_1, makB.eq_2, makC.eq_1, makC.eq_3, makC.eq_4, metA.eq_1, metA.eq_3, metA.eq_4, metB.eq_1, metC.eq_1, metC.eq_2, metC.eq_3, metD.eq_1, metD.eq_2, movA.eq_1, movB.eq_1, movB.eq_2, nnA.eq_1, nnA.eq_2, nnA.eq_3, nnB.eq_1, nnB.eq_2, noneW.eq_1, noneW.eq_2, noneW.eq_3, noneW.eq_4, noneW.eq_5, noneW.eq_6, ofA.eq_1, ofA.eq_2, ofA.eq_3, orE.eq_1, orE.eq_2, orE.eq_3, pixA.eq_2, pixA.eq_3, pixA2.eq_2, pixB.eq_2, pixC.eq_1, pixC.eq_2, pixP.eq_1, pixP.eq_2, plc.eq_1, plc.eq_2, popA.eq_1, popA.eq_2, popA.eq_3, popA0.eq_1, popA0.eq_2, popA0.eq_3, popA2.eq_1, popA2.eq_2, popB.eq_1, popB.eq_2, popD.eq_1, popD.eq_2, popE.eq_1, popE.eq_2, popL.eq_1, popL.eq_2, popZ.eq_1, popZ.eq_2, prpA.eq_1, prpA.eq_3, prpA.eq_4, prpB.eq_1, prpC.eq_1, putB.eq_2, putB.eq_3, putC.eq_2, putE.eq_1, putE.eq_2, putM.eq_1, putM.eq_2, putM.eq_3, putN.eq_1, putN.eq_2, putO.eq_1, putO2.eq_1, putO2.eq_2, putP.eq_1, putP.eq_2, putQ.eq_1, putR.eq_1, putR.eq_2, rdJ.eq_1, rdJ.eq_2, rdP.eq_1, rdP.eq_2, rdP.eq_3, rs1A.eq_1, rs1A.eq_2, rs1A.eq_3, rs1A.eq_4, rvA'.eq_1, rvA'.eq_2, rvA'.eq_3, rvB.eq_1, rvB.eq_2, rvC.eq_1, sQ.eq_1, sQ.eq_2, setR.eq_1, setR.eq_2, setT.eq_4, setT.eq_5, stO.eq_1, stO.eq_2, stO.eq_3, stO.eq_4, stO.eq_5, stO.eq_6, stb.eq_1, swpA.eq_1, swpA.eq_2, tpDA.eq_1, tpDA.eq_2, tpDA.eq_3, truA.eq_1, truA.eq_2, truA.eq_3, truB.eq_1, truB.eq_2, truD.eq_1, truD.eq_2, truD.eq_3, truD.eq_4, truD.eq_5, truD.eq_6, truP.eq_1, truP.eq_2, truT.eq_1, truT.eq_2, tyA.eq_1, wipeS.eq_1, wipeS.eq_2, ↓x_ad0, ↓x_ad1, ↓x_fld, ↓x_meth, ↓x_make, ↓x_prop, ↓x_box, ↓x_fldP, ↓x_fldA, ↓x_isN, ↓x_tru, ↓x_mov, ↓x_dif, ↓x_iT, ↓x_iEn, ↓x_forJ, ↓x_lcJ, ↓x_raise1, ↓x_tryA, ↓x_expD, ↓x_rvM, ↓x_frz, ↓x_lsT, ↓x_lstD, ↓x_tupD, ↓x_ixT, ↓x_asgD, ↓x_of, getE_q, setE_q, rdI_l, tyA_nx, tyA_rt, tyA_bk, tyA_ct, tyB_t, tyB_f, x_wh, rdP_l, rdP_o, rdP_k, rdP_m, truW_r, truW_p, lcE_ok, frz_nil, frz_d, frz_r, frz_l, cpL_r, gc_ne, gc_new, ofS_inj, q_lit, n_lit, lk_lit, in_nil, in_cons, ev_s, ev_i, fl_i, fl_s, fl_n, fl_b, in_l, in_t, q_nn, q_in, q_ni, n_nn, n_in, n_ni, q_bb, n_bb, isNone_n, isi_n, String.reduceEq, Option.bind_some, Option.bind_none, List.isEmpty_nil, List.isEmpty_cons, tgT_t, cpL_d, Option.toList_some, Option.toList_none, Int.add_zero, Int.zero_add, Int.sub_zero, Int.reduceMod, Int.reduceDiv, Nat.reduceMod, Nat.reduceDiv, beq_self_eq_true, Bool.true_beq, Bool.false_beq, bb_t, bb_f, ↓x_rd, rdA_r, rdA_p, rdA_v, rdA_l, rdA_er, wOf_r, wOf_t, wOf_d, or_true, true_or, or_false, false_or, and_false, false_and, not_true_eq_false, not_false_eq_true, and_self, or_self, evA_nil, evA_cons, evA_nc, evA_cn, ev_tt, ev_ll, ev_ii, ev_ss, ev_nn, ev_ni, ev_in, ev_ns, ev_sn, ev_bb, ixN_last, gc_lt, List.set_set, isB_b, notB_b, isB_i, notB_i, isB_n, notB_n, isB_l, notB_l, ↓x_pop, ↓x_pop0, ↓x_ext, ↓x_swp, forL_nil, forL_c, in_ti1, in_li1, in_ts1, in_ls1, in_ti2, in_li2, in_ts2, in_ls2, in_ti3, in_li3, in_ts3, in_ls3, in_ti4, in_li4, in_ts4, in_ls4, in_ti5, in_li5, in_ts5, in_ls5, in_ti6, in_li6, in_ts6, in_ls6, cz, cp0, cn0, Bool.false_xor, Bool.true_xor, Bool.xor_false, Bool.xor_true, Option.isNone_none, Option.isNone_some, Option.isSome_none, Option.isSome_some, itsW_p, itsW_r, popC_ok, extE_ok, is_bool_i, is_str_i, is_list_i, is_tuple_i, is_dict_i, is_int_b, is_str_b, is_list_b, is_tuple_b, is_dict_b, is_int_s, is_bool_s, is_list_s, is_tuple_s, is_dict_s, is_int_l, is_bool_l, is_str_l, is_tuple_l, is_dict_l, is_int_t, is_bool_t, is_str_t, is_list_t, is_dict_t, is_int_n, is_bool_n, is_str_n, is_list_n, is_tuple_n, is_dict_n, Option.join_some, Option.join_none, b__law_heard_2, h1]
      refine ⟨fun j b hj hb w => ?_, _, _, _, rfl⟩
      by_cases hjk : j = k
      · subst hjk
        rw [ha] at hb
        exact hv ((winB_iff hm).mpr ((Option.some.inj hb).symm ▸ w))
      · exact hw j b (by omega) hb w
  · rintro e ⟨hw, a1, a2, a3, rfl⟩
    refine ⟨none, by simp (disch := (first | with_reducible assumption | omega | (simp only [iL_len, rngD_len, rngC_len, List.length_append, List.length_replicate, List.length_cons, List.length_nil, List.length_map, List.length_take, List.length_drop, List.length_range, SZ] <;> omega) | (simp only [iL_len, rngD_len, rngC_len, List.length_append, List.length_replicate, List.length_cons, List.length_nil, List.length_map, List.length_take, List.length_drop, List.length_range, SZ] at * <;> omega) | fail)) only [↓x_seq, ↓x_nil, ↓x_if, ↓x_set, ↓x_setV, ↓x_asg, ↓x_exp, ↓x_ret, ↓x_retV, ↓x_retN, ↓x_brk, ↓x_cnt, ↓x_for, ↓x_bdy, ↓x_C, ↓x_var, ↓x_dvar, ↓x_v1, ↓x_v2, ↓x_d1L, ↓x_d2L, ↓x_and, ↓x_or, ↓x_not, ↓x_ifx, ↓x_args0, ↓x_args1, ↓x_tup, ↓x_lst, ↓x_call, ↓x_vD, ↓x_dV, ↓x_slP, ↓x_opt0, ↓x_opt1, ↓x_iP, ↓x_rg1, ↓x_rg2, ↓x_rg3, ↓x_en, ↓x_zp, ↓x_rv, ↓x_ch, ↓x_lc, ↓x_aug, ↓x_app, ↓x_put, ↓x_pix, ↓x_try, ↓x_rep, ↓x_raise0, y_sq, y_sif, y_retV, y_setV, y_toV, y_ofV, y_orw, y_and, y_or, y_not, y_v1, y_v2a, y_v2b, y_finW, y_calB, sq_nx, sq_rt, sq_bk, sq_ct, sq_er, sq_no, dataL_d, allD_d, fnD, SZ, List.getElem?_cons_zero, List.getElem?_cons_succ, List.getElem?_nil, List.set_cons_zero, List.set_cons_succ, List.map_cons, List.map_nil, List.length_cons, List.length_nil, List.length_map, List.length_append, List.cons_append, List.nil_append, List.append_nil, Nat.reduceAdd, Nat.reduceSub, Nat.zero_add, Nat.add_zero, Option.map_some, Option.map_none, Option.getD_some, Option.getD_none, Bool.false_eq_true, Bool.true_eq_false, Bool.and_false, Bool.false_and, Bool.and_true, Bool.true_and, Bool.or_false, Bool.false_or, Bool.or_true, Bool.true_or, Bool.not_true, Bool.not_false, if_true, if_false, ite_true, ite_false, decide_eq_true_eq, Bool.and_eq_true, Bool.or_eq_true, Bool.not_eq_true', decide_eq_false_iff_not, decide_true, decide_false, true_and, and_true, reduceCtorEq, Int.reduceNeg, Int.reduceLT, Int.reduceLE, Int.reduceToNat, Nat.reduceLeDiff, Int.reduceAbs, Int.reduceSub, Int.reduceAdd, Int.reduceMul, Int.reduceEq, Nat.reduceMul, Nat.reduceEqDiff, Nat.reduceLT, Nat.reducePow, Int.reducePow, ↓reduceIte, ite_not, sif.eq_1, sif.eq_3, sif.eq_4, andA.eq_1, andA.eq_3, andA.eq_4, orA.eq_1, orA.eq_3, orA.eq_4, notA.eq_1, notA.eq_3, notA.eq_4, ifA.eq_1, ifA.eq_3, ifA.eq_4, orw.eq_1, orw.eq_2, orw.eq_3, v1r.eq_1, v1r.eq_2, v1a.eq_1, v1a.eq_2, v1a.eq_3, v2a.eq_1, v2a.eq_2, v2a.eq_3, v2b.eq_1, v2b.eq_2, v2b.eq_3, dlr.eq_1, dlr.eq_2, d1a.eq_1, d1a.eq_2, d1a.eq_3, d2a.eq_1, d2a.eq_2, d2a.eq_3, d2b.eq_1, d2b.eq_2, d2b.eq_3, ar1.eq_1, ar1.eq_2, ar1.eq_3, ar1.eq_4, ar2.eq_1, ar2.eq_2, ar2.eq_3, tupA.eq_1, tupA.eq_2, tupA.eq_3, lstA.eq_1, lstA.eq_2, lstA.eq_3, calA.eq_1, calA.eq_2, calA.eq_3, calB.eq_1, calB.eq_2, calB.eq_3, wOf.eq_1, varV.eq_1, varR.eq_1, varR.eq_2, varD.eq_1, setA.eq_1, setA.eq_2, setA.eq_4, setA.eq_5, setVA.eq_1, setVA.eq_2, setVA.eq_3, setVA.eq_4, asgA.eq_1, asgA.eq_2, asgA.eq_3, asgA.eq_4, asgB.eq_1, asgB.eq_2, expA.eq_1, expA.eq_2, expA.eq_3, retA.eq_1, retA.eq_2, retA.eq_3, retVA.eq_1, retVA.eq_2, retVA.eq_3, retVA.eq_4, forA.eq_1, forA.eq_2, forA.eq_3, sl0.eq_1, sl0.eq_2, sl0.eq_3, sl1.eq_1, sl1.eq_2, sl2.eq_1, sl2.eq_2, sl3.eq_1, sl3.eq_2, optA.eq_1, bdyA.eq_1, bdyA.eq_2, iPA.eq_1, iPA.eq_2, iPA.eq_3, iPA.eq_5, iPA.eq_6, enA.eq_1, enA.eq_3, enA.eq_4, zpA.eq_1, zpA.eq_3, zpA.eq_4, rvA.eq_1, rvA.eq_3, rvA.eq_4, ch1.eq_1, ch1.eq_2, ch1.eq_3, ch2.eq_1, ch2.eq_2, ch2.eq_3, chA.eq_1, chB.eq_1, chB.eq_2, chB.eq_3, chC.eq_1, chC.eq_2, lc0.eq_2, lc0.eq_3, lcA.eq_1, lcA.eq_2, augA.eq_1, augB.eq_1, augB.eq_3, augB.eq_4, appA.eq_1, appB.eq_1, appB.eq_2, appB.eq_3, putA.eq_1, putA.eq_2, putA.eq_3, putA2.eq_1, putA2.eq_2, putB.eq_1, putC.eq_1, putD.eq_1, pixA.eq_1, pixA2.eq_1, pixB.eq_1, tryA.eq_1, tryB.eq_1, tryB.eq_2, tryB.eq_3, noEr.eq_1, repA.eq_1, repA2.eq_1, repA2.eq_2, repB.eq_1, rdT.eq_1, rdT.eq_2, toV.eq_1, toV.eq_2, toV.eq_3, toV.eq_4, toV.eq_5, toV.eq_6, ofV.eq_1, ofV.eq_2, ofV.eq_4, ofV.eq_5, tOf.eq_1, tOf.eq_2, isL.eq_1, getT.eq_1, getT.eq_2, getT.eq_3, setT.eq_1, setT.eq_2, setT.eq_3, T.data.eq_1, T.data.eq_2, finW.eq_1, finW.eq_2, finW.eq_3, finW.eq_4, finW.eq_6, tgS.eq_1, wipeE.eq_1, fAdd.eq_1, fAdd.eq_2, fI2.eq_1, fB2.eq_1, fU.eq_1, fLen.eq_1, fLen.eq_2, fLen.eq_3, fIx.eq_1, fIx.eq_2, fIx.eq_3, fIsN.eq_1, fNotN.eq_1, isNone.eq_1, fInt.eq_1, fInt.eq_2, fInt.eq_3, fLs.eq_1, fLs.eq_2, fTp.eq_1, fTp.eq_2, fSlP.eq_3, wOf_l, wOf_o, tryA_nx, tryA_rt, tryA_bk, tryA_ct, noEr_nx, noEr_rt, noEr_bk, noEr_ct, isNone_i, isNone_b, isNone_s, isNone_l, isNone_t, iL_app, iL_len, iL_rep, iL_rev, allD_iL, dataL_iL, q_int, q_t, q_l, n_t, n_l, n_int, q_self, n_self, s_to, s_from, s_mid, sl_to, sl_from, sl_mid, add_t, add_l, cat_l, isi_t, isi_b, isi_i, isi_l, isi_s, at_0, at_1, at_2, at_3, at_4, at_5, at_6, ai_0, ai_1, ai_2, ai_3, ai_4, ai_5, ai_6, tgN_a, tgT_a, apd_ok, lc_ok, rg1_ok, rg2_ok, iL_snoc, iL_mapd, lc_const, rngD_len, iL_take, iL_drop, Int.toNat_natCast, dataL_nil, dataL_cons, allD.eq_1, allD.eq_2, ixN_ok, rep_l, tgS_nil, rep_none, rep_none0, List.take_left, List.drop_left, any_false, all_true, eq_self, set_iL, at_last, List.drop_succ_cons, List.drop_zero, List.take_succ_cons, List.take_zero, List.getLast?_cons_cons, List.getLast?_singleton, Int.cast_ofNat_Int, rg3_ok, rngC_len, fRv_l, Env.set.eq_1, T.data.eq_3, ad1.eq_1, ad1.eq_2, ad1.eq_3, ad2.eq_1, ad2.eq_2, ad3.eq_1, ad3.eq_2, ad3.eq_3, appA.eq_2, appA.eq_3, appP.eq_1, appP.eq_2, appT.eq_1, appT.eq_2, asDA.eq_1, asDA.eq_2, asDA.eq_4, asDA.eq_5, boxA.eq_1, boxA.eq_3, boxA.eq_4, calF.eq_1, calF.eq_2, calM.eq_1, calM.eq_2, calM.eq_3, cpL.eq_1, cpL.eq_2, cpT.eq_1, cpT.eq_2, cpT.eq_3, delA.eq_1, delA.eq_2, delA.eq_3, delA.eq_4, delA.eq_5, delA.eq_6, difA.eq_1, difA.eq_3, difA.eq_4, exDA.eq_1, exDA.eq_2, exDA.eq_3, extA.eq_1, extA.eq_2, extA.eq_3, extB.eq_1, extB.eq_2, extB.eq_3, extD.eq_1, extD.eq_2, extL.eq_1, extL.eq_2, extP.eq_1, extP.eq_2, faA.eq_1, faA.eq_2, faA.eq_3, faB.eq_1, faB.eq_2, faB2.eq_1, faC.eq_1, faD.eq_1, faD.eq_2, faE.eq_1, fldA.eq_1, fldA.eq_2, fldA.eq_3, fldB.eq_1, fldC.eq_1, fldC.eq_2, fldP.eq_1, fldP.eq_2, forJA.eq_1, forJA.eq_2, forJA.eq_3, forW.eq_1, forW.eq_2, fpA.eq_1, fpA.eq_2, fpA.eq_3, fpA1.eq_1, fpA1.eq_2, fpA2.eq_1, fpA2.eq_2, fpA2.eq_3, fpB.eq_1, fpB.eq_2, fpC.eq_1, fpD.eq_1, fpD.eq_2, fwA.eq_1, fwA.eq_2, fwA.eq_3, fwA.eq_4, fwA.eq_5, fwA.eq_6, fzA.eq_1, fzB.eq_1, fzB.eq_2, gQ.eq_1, gQ.eq_2, getR.eq_1, getR.eq_2, getT.eq_4, getT.eq_5, gsA.eq_1, gsA.eq_2, gsB.eq_1, gsB.eq_2, gsC.eq_1, iEnA.eq_1, iEnA.eq_2, iEnA.eq_3, iEnA.eq_4, iEnA.eq_6, iEnA.eq_7, iTA.eq_1, iTA.eq_2, iTA.eq_3, iTA.eq_4, iTA.eq_5, iTA.eq_6, iTA.eq_8, iTA.eq_9, iTp.eq_1, isBx.eq_1, isBx.eq_2, isBx.eq_3, isFix.eq_1, isFix.eq_2, itm.eq_1, itsP.eq_1, itsQ.eq_1, itsQ.eq_2, itsW.eq_1, itsW.eq_2, ixTA.eq_1, ixTA.eq_3, ixTA.eq_4, ixTB.eq_1, ixTB.eq_2, ixTC.eq_1, ixTC.eq_2, jsA.eq_1, jsA.eq_2, jsB.eq_1, jsB.eq_2, jsC.eq_1, jsD.eq_1, jsD.eq_2, lcC.eq_1, lcJA.eq_1, lcJA.eq_2, lcJA.eq_3, lsA.eq_1, lsA.eq_3, lsA.eq_4, lsB.eq_1, lsB.eq_2, lsC.eq_1, lsDA.eq_1, lsDA.eq_2, lsDA.eq_3, makA.eq_1, makA.eq_2, makA.eq_3, makB.eq_1, makB.eq_2, makC.eq_1, makC.eq_3, makC.eq_4, metA.eq_1, metA.eq_3, metA.eq_4, metB.eq_1, metC.eq_1, metC.eq_2, metC.eq_3, metD.eq_1, metD.eq_2, movA.eq_1, movB.eq_1, movB.eq_2, nnA.eq_1, nnA.eq_2, nnA.eq_3, nnB.eq_1, nnB.eq_2, noneW.eq_1, noneW.eq_2, noneW.eq_3, noneW.eq_4, noneW.eq_5, noneW.eq_6, ofA.eq_1, ofA.eq_2, ofA.eq_3, orE.eq_1, orE.eq_2, orE.eq_3, pixA.eq_2, pixA.eq_3, pixA2.eq_2, pixB.eq_2, pixC.eq_1, pixC.eq_2, pixP.eq_1, pixP.eq_2, plc.eq_1, plc.eq_2, popA.eq_1, popA.eq_2, popA.eq_3, popA0.eq_1, popA0.eq_2, popA0.eq_3, popA2.eq_1, popA2.eq_2, popB.eq_1, popB.eq_2, popD.eq_1, popD.eq_2, popE.eq_1, popE.eq_2, popL.eq_1, popL.eq_2, popZ.eq_1, popZ.eq_2, prpA.eq_1, prpA.eq_3, prpA.eq_4, prpB.eq_1, prpC.eq_1, putB.eq_2, putB.eq_3, putC.eq_2, putE.eq_1, putE.eq_2, putM.eq_1, putM.eq_2, putM.eq_3, putN.eq_1, putN.eq_2, putO.eq_1, putO2.eq_1, putO2.eq_2, putP.eq_1, putP.eq_2, putQ.eq_1, putR.eq_1, putR.eq_2, rdJ.eq_1, rdJ.eq_2, rdP.eq_1, rdP.eq_2, rdP.eq_3, rs1A.eq_1, rs1A.eq_2, rs1A.eq_3, rs1A.eq_4, rvA'.eq_1, rvA'.eq_2, rvA'.eq_3, rvB.eq_1, rvB.eq_2, rvC.eq_1, sQ.eq_1, sQ.eq_2, setR.eq_1, setR.eq_2, setT.eq_4, setT.eq_5, stO.eq_1, stO.eq_2, stO.eq_3, stO.eq_4, stO.eq_5, stO.eq_6, stb.eq_1, swpA.eq_1, swpA.eq_2, tpDA.eq_1, tpDA.eq_2, tpDA.eq_3, truA.eq_1, truA.eq_2, truA.eq_3, truB.eq_1, truB.eq_2, truD.eq_1, truD.eq_2, truD.eq_3, truD.eq_4, truD.eq_5, truD.eq_6, truP.eq_1, truP.eq_2, truT.eq_1, truT.eq_2, tyA.eq_1, wipeS.eq_1, wipeS.eq_2, ↓x_ad0, ↓x_ad1, ↓x_fld, ↓x_meth, ↓x_make, ↓x_prop, ↓x_box, ↓x_fldP, ↓x_fldA, ↓x_isN, ↓x_tru, ↓x_mov, ↓x_dif, ↓x_iT, ↓x_iEn, ↓x_forJ, ↓x_lcJ, ↓x_raise1, ↓x_tryA, ↓x_expD, ↓x_rvM, ↓x_frz, ↓x_lsT, ↓x_lstD, ↓x_tupD, ↓x_ixT, ↓x_asgD, ↓x_of, getE_q, setE_q, rdI_l, tyA_nx, tyA_rt, tyA_bk, tyA_ct, tyB_t, tyB_f, x_wh, rdP_l, rdP_o, rdP_k, rdP_m, truW_r, truW_p, lcE_ok, frz_nil, frz_d, frz_r, frz_l, cpL_r, gc_ne, gc_new, ofS_inj, q_lit, n_lit, lk_lit, in_nil, in_cons, ev_s, ev_i, fl_i, fl_s, fl_n, fl_b, in_l, in_t, q_nn, q_in, q_ni, n_nn, n_in, n_ni, q_bb, n_bb, isNone_n, isi_n, String.reduceEq, Option.bind_some, Option.bind_none, List.isEmpty_nil, List.isEmpty_cons, tgT_t, cpL_d, Option.toList_some, Option.toList_none, Int.add_zero, Int.zero_add, Int.sub_zero, Int.reduceMod, Int.reduceDiv, Nat.reduceMod, Nat.reduceDiv, beq_self_eq_true, Bool.true_beq, Bool.false_beq, bb_t, bb_f, ↓x_rd, rdA_r, rdA_p, rdA_v, rdA_l, rdA_er, wOf_r, wOf_t, wOf_d, or_true, true_or, or_false, false_or, and_false, false_and, not_true_eq_false, not_false_eq_true, and_self, or_self, evA_nil, evA_cons, evA_nc, evA_cn, ev_tt, ev_ll, ev_ii, ev_ss, ev_nn, ev_ni, ev_in, ev_ns, ev_sn, ev_bb, ixN_last, gc_lt, List.set_set, isB_b, notB_b, isB_i, notB_i, isB_n, notB_n, isB_l, notB_l, ↓x_pop, ↓x_pop0, ↓x_ext, ↓x_swp, forL_nil, forL_c, in_ti1, in_li1, in_ts1, in_ls1, in_ti2, in_li2, in_ts2, in_ls2, in_ti3, in_li3, in_ts3, in_ls3, in_ti4, in_li4, in_ts4, in_ls4, in_ti5, in_li5, in_ts5, in_ls5, in_ti6, in_li6, in_ts6, in_ls6, cz, cp0, cn0, Bool.false_xor, Bool.true_xor, Bool.xor_false, Bool.xor_true, Option.isNone_none, Option.isNone_some, Option.isSome_none, Option.isSome_some, itsW_p, itsW_r, popC_ok, extE_ok, is_bool_i, is_str_i, is_list_i, is_tuple_i, is_dict_i, is_int_b, is_str_b, is_list_b, is_tuple_b, is_dict_b, is_int_s, is_bool_s, is_list_s, is_tuple_s, is_dict_s, is_int_l, is_bool_l, is_str_l, is_tuple_l, is_dict_l, is_int_t, is_bool_t, is_str_t, is_list_t, is_dict_t, is_int_n, is_bool_n, is_str_n, is_list_n, is_tuple_n, is_dict_n, Option.join_some, Option.join_none, oD], (fun a e => by cases e), fun _ a w => ?_⟩
    obtain ⟨j, hj⟩ := List.mem_iff_getElem?.mp w.1
    have := (List.getElem?_eq_some_iff.mp hj).1
    exact hw j a (by rw [rngD_len, pkL_len]; exact this) hj w

/-! ### the list that the law makes -/
def LO (l : List (Int × Int)) : T := .l ((pkL l).map T.d)
theorem mod8_inj {i j v : Int} (hi : 0 ≤ i ∧ i < 8) (hj : 0 ≤ j ∧ j < 8) (h : (i * 3 + v) % 8 = (j * 3 + v) % 8) : i = j := by omega
theorem asks_ok (v : Int) (hv : 0 ≤ v) (m : List T) : ∃ l : List (Int × Int), f__law_asks [.d (.int v)] m = .rt (LO l) m ∧ 1 ≤ l.length ∧ l.length ≤ 8 ∧ (∀ (i j : Nat) (a b : Int × Int), l[i]? = some a → l[j]? = some b → a.1 = b.1 → i = j) := by
  have hq : 0 ≤ v % 8 ∧ v % 8 < 8 := by omega
  have hq2 : (1 + v % 8).toNat = (v % 8).toNat + 1 := by omega
  generalize hN : (v % 8).toNat + 1 = N at hq2
  have hN8 : N ≤ 8 ∧ 1 ≤ N := by omega
  have hNi : 1 + v % 8 = (N : Int) := by omega
  unfold f__law_asks
  simp (disch := (first | with_reducible assumption | omega | (simp only [iL_len, rngD_len, rngC_len, List.length_append, List.length_replicate, List.length_cons, List.length_nil, List.length_map, List.length_take, List.length_drop, List.length_range, SZ] <;> omega) | (simp only [iL_len, rngD_len, rngC_len, List.length_append, List.length_replicate, List.length_cons, List.length_nil, List.length_map, List.length_take, List.length_drop, List.length_range, SZ] at * <;> omega) | fail)) only [↓x_seq, ↓x_nil, ↓x_if, ↓x_set, ↓x_setV, ↓x_asg, ↓x_exp, ↓x_ret, ↓x_retV, ↓x_retN, ↓x_brk, ↓x_cnt, ↓x_for, ↓x_bdy, ↓x_C, ↓x_var, ↓x_dvar, ↓x_v1, ↓x_v2, ↓x_d1L, ↓x_d2L, ↓x_and, ↓x_or, ↓x_not, ↓x_ifx, ↓x_args0, ↓x_args1, ↓x_tup, ↓x_lst, ↓x_call, ↓x_vD, ↓x_dV, ↓x_slP, ↓x_opt0, ↓x_opt1, ↓x_iP, ↓x_rg1, ↓x_rg2, ↓x_rg3, ↓x_en, ↓x_zp, ↓x_rv, ↓x_ch, ↓x_lc, ↓x_aug, ↓x_app, ↓x_put, ↓x_pix, ↓x_try, ↓x_rep, ↓x_raise0, y_sq, y_sif, y_retV, y_setV, y_toV, y_ofV, y_orw, y_and, y_or, y_not, y_v1, y_v2a, y_v2b, y_finW, y_calB, sq_nx, sq_rt, sq_bk, sq_ct, sq_er, sq_no, dataL_d, allD_d, fnD, SZ, List.getElem?_cons_zero, List.getElem?_cons_succ, List.getElem?_nil, List.set_cons_zero, List.set_cons_succ, List.map_cons, List.map_nil, List.length_cons, List.length_nil, List.length_map, List.length_append, List.cons_append, List.nil_append, List.append_nil, Nat.reduceAdd, Nat.reduceSub, Nat.zero_add, Nat.add_zero, Option.map_some, Option.map_none, Option.getD_some, Option.getD_none, Bool.false_eq_true, Bool.true_eq_false, Bool.and_false, Bool.false_and, Bool.and_true, Bool.true_and, Bool.or_false, Bool.false_or, Bool.or_true, Bool.true_or, Bool.not_true, Bool.not_false, if_true, if_false, ite_true, ite_false, decide_eq_true_eq, Bool.and_eq_true, Bool.or_eq_true, Bool.not_eq_true', decide_eq_false_iff_not, decide_true, decide_false, true_and, and_true, reduceCtorEq, Int.reduceNeg, Int.reduceLT, Int.reduceLE, Int.reduceToNat, Nat.reduceLeDiff, Int.reduceAbs, Int.reduceSub, Int.reduceAdd, Int.reduceMul, Int.reduceEq, Nat.reduceMul, Nat.reduceEqDiff, Nat.reduceLT, Nat.reducePow, Int.reducePow, ↓reduceIte, ite_not, sif.eq_1, sif.eq_3, sif.eq_4, andA.eq_1, andA.eq_3, andA.eq_4, orA.eq_1, orA.eq_3, orA.eq_4, notA.eq_1, notA.eq_3, notA.eq_4, ifA.eq_1, ifA.eq_3, ifA.eq_4, orw.eq_1, orw.eq_2, orw.eq_3, v1r.eq_1, v1r.eq_2, v1a.eq_1, v1a.eq_2, v1a.eq_3, v2a.eq_1, v2a.eq_2, v2a.eq_3, v2b.eq_1, v2b.eq_2, v2b.eq_3, dlr.eq_1, dlr.eq_2, d1a.eq_1, d1a.eq_2, d1a.eq_3, d2a.eq_1, d2a.eq_2, d2a.eq_3, d2b.eq_1, d2b.eq_2, d2b.eq_3, ar1.eq_1, ar1.eq_2, ar1.eq_3, ar1.eq_4, ar2.eq_1, ar2.eq_2, ar2.eq_3, tupA.eq_1, tupA.eq_2, tupA.eq_3, lstA.eq_1, lstA.eq_2, lstA.eq_3, calA.eq_1, calA.eq_2, calA.eq_3, calB.eq_1, calB.eq_2, calB.eq_3, wOf.eq_1, varV.eq_1, varR.eq_1, varR.eq_2, varD.eq_1, setA.eq_1, setA.eq_2, setA.eq_4, setA.eq_5, setVA.eq_1, setVA.eq_2, setVA.eq_3, setVA.eq_4, asgA.eq_1, asgA.eq_2, asgA.eq_3, asgA.eq_4, asgB.eq_1, asgB.eq_2, expA.eq_1, expA.eq_2, expA.eq_3, retA.eq_1, retA.eq_2, retA.eq_3, retVA.eq_1, retVA.eq_2, retVA.eq_3, retVA.eq_4, forA.eq_1, forA.eq_2, forA.eq_3, sl0.eq_1, sl0.eq_2, sl0.eq_3, sl1.eq_1, sl1.eq_2, sl2.eq_1, sl2.eq_2, sl3.eq_1, sl3.eq_2, optA.eq_1, bdyA.eq_1, bdyA.eq_2, iPA.eq_1, iPA.eq_2, iPA.eq_3, iPA.eq_5, iPA.eq_6, enA.eq_1, enA.eq_3, enA.eq_4, zpA.eq_1, zpA.eq_3, zpA.eq_4, rvA.eq_1, rvA.eq_3, rvA.eq_4, ch1.eq_1, ch1.eq_2, ch1.eq_3, ch2.eq_1, ch2.eq_2, ch2.eq_3, chA.eq_1, chB.eq_1, chB.eq_2, chB.eq_3, chC.eq_1, chC.eq_2, lc0.eq_2, lc0.eq_3, lcA.eq_1, lcA.eq_2, augA.eq_1, augB.eq_1, augB.eq_3, augB.eq_4, appA.eq_1, appB.eq_1, appB.eq_2, appB.eq_3, putA.eq_1, putA.eq_2, putA.eq_3, putA2.eq_1, putA2.eq_2, putB.eq_1, putC.eq_1, putD.eq_1, pixA.eq_1, pixA2.eq_1, pixB.eq_1, tryA.eq_1, tryB.eq_1, tryB.eq_2, tryB.eq_3, noEr.eq_1, repA.eq_1, repA2.eq_1, repA2.eq_2, repB.eq_1, rdT.eq_1, rdT.eq_2, toV.eq_1, toV.eq_2, toV.eq_3, toV.eq_4, toV.eq_5, toV.eq_6, ofV.eq_1, ofV.eq_2, ofV.eq_4, ofV.eq_5, tOf.eq_1, tOf.eq_2, isL.eq_1, getT.eq_1, getT.eq_2, getT.eq_3, setT.eq_1, setT.eq_2, setT.eq_3, T.data.eq_1, T.data.eq_2, finW.eq_1, finW.eq_2, finW.eq_3, finW.eq_4, finW.eq_6, tgS.eq_1, wipeE.eq_1, fAdd.eq_1, fAdd.eq_2, fI2.eq_1, fB2.eq_1, fU.eq_1, fLen.eq_1, fLen.eq_2, fLen.eq_3, fIx.eq_1, fIx.eq_2, fIx.eq_3, fIsN.eq_1, fNotN.eq_1, isNone.eq_1, fInt.eq_1, fInt.eq_2, fInt.eq_3, fLs.eq_1, fLs.eq_2, fTp.eq_1, fTp.eq_2, fSlP.eq_3, wOf_l, wOf_o, tryA_nx, tryA_rt, tryA_bk, tryA_ct, noEr_nx, noEr_rt, noEr_bk, noEr_ct, isNone_i, isNone_b, isNone_s, isNone_l, isNone_t, iL_app, iL_len, iL_rep, iL_rev, allD_iL, dataL_iL, q_int, q_t, q_l, n_t, n_l, n_int, q_self, n_self, s_to, s_from, s_mid, sl_to, sl_from, sl_mid, add_t, add_l, cat_l, isi_t, isi_b, isi_i, isi_l, isi_s, at_0, at_1, at_2, at_3, at_4, at_5, at_6, ai_0, ai_1, ai_2, ai_3, ai_4, ai_5, ai_6, tgN_a, tgT_a, apd_ok, lc_ok, rg1_ok, rg2_ok, iL_snoc, iL_mapd, lc_const, rngD_len, iL_take, iL_drop, Int.toNat_natCast, dataL_nil, dataL_cons, allD.eq_1, allD.eq_2, ixN_ok, rep_l, tgS_nil, rep_none, rep_none0, List.take_left, List.drop_left, any_false, all_true, eq_self, set_iL, at_last, List.drop_succ_cons, List.drop_zero, List.take_succ_cons, List.take_zero, List.getLast?_cons_cons, List.getLast?_singleton, Int.cast_ofNat_Int, rg3_ok, rngC_len, fRv_l, Env.set.eq_1, T.data.eq_3, ad1.eq_1, ad1.eq_2, ad1.eq_3, ad2.eq_1, ad2.eq_2, ad3.eq_1, ad3.eq_2, ad3.eq_3, appA.eq_2, appA.eq_3, appP.eq_1, appP.eq_2, appT.eq_1, appT.eq_2, asDA.eq_1, asDA.eq_2, asDA.eq_4, asDA.eq_5, boxA.eq_1, boxA.eq_3, boxA.eq_4, calF.eq_1, calF.eq_2, calM.eq_1, calM.eq_2, calM.eq_3, cpL.eq_1, cpL.eq_2, cpT.eq_1, cpT.eq_2, cpT.eq_3, delA.eq_1, delA.eq_2, delA.eq_3, delA.eq_4, delA.eq_5, delA.eq_6, difA.eq_1, difA.eq_3, difA.eq_4, exDA.eq_1, exDA.eq_2, exDA.eq_3, extA.eq_1, extA.eq_2, extA.eq_3, extB.eq_1, extB.eq_2, extB.eq_3, extD.eq_1, extD.eq_2, extL.eq_1, extL.eq_2, extP.eq_1, extP.eq_2, faA.eq_1, faA.eq_2, faA.eq_3, faB.eq_1, faB.eq_2, faB2.eq_1, faC.eq_1, faD.eq_1, faD.eq_2, faE.eq_1, fldA.eq_1, fldA.eq_2, fldA.eq_3, fldB.eq_1, fldC.eq_1, fldC.eq_2, fldP.eq_1, fldP.eq_2, forJA.eq_1, forJA.eq_2, forJA.eq_3, forW.eq_1, forW.eq_2, fpA.eq_1, fpA.eq_2, fpA.eq_3, fpA1.eq_1, fpA1.eq_2, fpA2.eq_1, fpA2.eq_2, fpA2.eq_3, fpB.eq_1, fpB.eq_2, fpC.eq_1, fpD.eq_1, fpD.eq_2, fwA.eq_1, fwA.eq_2, fwA.eq_3, fwA.eq_4, fwA.eq_5, fwA.eq_6, fzA.eq_1, fzB.eq_1, fzB.eq_2, gQ.eq_1, gQ.eq_2, getR.eq_1, getR.eq_2, getT.eq_4, getT.eq_5, gsA.eq_1, gsA.eq_2, gsB.eq_1, gsB.eq_2, gsC.eq_1, iEnA.eq_1, iEnA.eq_2, iEnA.eq_3, iEnA.eq_4, iEnA.eq_6, iEnA.eq_7, iTA.eq_1, iTA.eq_2, iTA.eq_3, iTA.eq_4, iTA.eq_5, iTA.eq_6, iTA.eq_8, iTA.eq_9, iTp.eq_1, isBx.eq_1, isBx.eq_2, isBx.eq_3, isFix.eq_1, isFix.eq_2, itm.eq_1, itsP.eq_1, itsQ.eq_1, itsQ.eq_2, itsW.eq_1, itsW.eq_2, ixTA.eq_1, ixTA.eq_3, ixTA.eq_4, ixTB.eq_1, ixTB.eq_2, ixTC.eq_1, ixTC.eq_2, jsA.eq_1, jsA.eq_2, jsB.eq_1, jsB.eq_2, jsC.eq_1, jsD.eq_1, jsD.eq_2, lcC.eq_1, lcJA.eq_1, lcJA.eq_2, lcJA.eq_3, lsA.eq_1, lsA.eq_3, lsA.eq_4, lsB.eq_1, lsB.eq_2, lsC.eq_1, lsDA.eq_1, lsDA.eq_2, lsDA.eq_3, makA.eq_1, makA.eq_2, makA.eq_3, makB.eq_1, makB.eq_2, makC.eq_1, makC.eq_3, makC.eq_4, metA.eq_1, metA.eq_3, metA.eq_4, metB.eq_1, metC.eq_1, metC.eq_2, metC.eq_3, metD.eq_1, metD.eq_2, movA.eq_1, movB.eq_1, movB.eq_2, nnA.eq_1, nnA.eq_2, nnA.eq_3, nnB.eq_1, nnB.eq_2, noneW.eq_1, noneW.eq_2, noneW.eq_3, noneW.eq_4, noneW.eq_5, noneW.eq_6, ofA.eq_1, ofA.eq_2, ofA.eq_3, orE.eq_1, orE.eq_2, orE.eq_3, pixA.eq_2, pixA.eq_3, pixA2.eq_2, pixB.eq_2, pixC.eq_1, pixC.eq_2, pixP.eq_1, pixP.eq_2, plc.eq_1, plc.eq_2, popA.eq_1, popA.eq_2, popA.eq_3, popA0.eq_1, popA0.eq_2, popA0.eq_3, popA2.eq_1, popA2.eq_2, popB.eq_1, popB.eq_2, popD.eq_1, popD.eq_2, popE.eq_1, popE.eq_2, popL.eq_1, popL.eq_2, popZ.eq_1, popZ.eq_2, prpA.eq_1, prpA.eq_3, prpA.eq_4, prpB.eq_1, prpC.eq_1, putB.eq_2, putB.eq_3, putC.eq_2, putE.eq_1, putE.eq_2, putM.eq_1, putM.eq_2, putM.eq_3, putN.eq_1, putN.eq_2, putO.eq_1, putO2.eq_1, putO2.eq_2, putP.eq_1, putP.eq_2, putQ.eq_1, putR.eq_1, putR.eq_2, rdJ.eq_1, rdJ.eq_2, rdP.eq_1, rdP.eq_2, rdP.eq_3, rs1A.eq_1, rs1A.eq_2, rs1A.eq_3, rs1A.eq_4, rvA'.eq_1, rvA'.eq_2, rvA'.eq_3, rvB.eq_1, rvB.eq_2, rvC.eq_1, sQ.eq_1, sQ.eq_2, setR.eq_1, setR.eq_2, setT.eq_4, setT.eq_5, stO.eq_1, stO.eq_2, stO.eq_3, stO.eq_4, stO.eq_5, stO.eq_6, stb.eq_1, swpA.eq_1, swpA.eq_2, tpDA.eq_1, tpDA.eq_2, tpDA.eq_3, truA.eq_1, truA.eq_2, truA.eq_3, truB.eq_1, truB.eq_2, truD.eq_1, truD.eq_2, truD.eq_3, truD.eq_4, truD.eq_5, truD.eq_6, truP.eq_1, truP.eq_2, truT.eq_1, truT.eq_2, tyA.eq_1, wipeS.eq_1, wipeS.eq_2, ↓x_ad0, ↓x_ad1, ↓x_fld, ↓x_meth, ↓x_make, ↓x_prop, ↓x_box, ↓x_fldP, ↓x_fldA, ↓x_isN, ↓x_tru, ↓x_mov, ↓x_dif, ↓x_iT, ↓x_iEn, ↓x_forJ, ↓x_lcJ, ↓x_raise1, ↓x_tryA, ↓x_expD, ↓x_rvM, ↓x_frz, ↓x_lsT, ↓x_lstD, ↓x_tupD, ↓x_ixT, ↓x_asgD, ↓x_of, getE_q, setE_q, rdI_l, tyA_nx, tyA_rt, tyA_bk, tyA_ct, tyB_t, tyB_f, x_wh, rdP_l, rdP_o, rdP_k, rdP_m, truW_r, truW_p, lcE_ok, frz_nil, frz_d, frz_r, frz_l, cpL_r, gc_ne, gc_new, ofS_inj, q_lit, n_lit, lk_lit, in_nil, in_cons, ev_s, ev_i, fl_i, fl_s, fl_n, fl_b, in_l, in_t, q_nn, q_in, q_ni, n_nn, n_in, n_ni, q_bb, n_bb, isNone_n, isi_n, String.reduceEq, Option.bind_some, Option.bind_none, List.isEmpty_nil, List.isEmpty_cons, tgT_t, cpL_d, Option.toList_some, Option.toList_none, Int.add_zero, Int.zero_add, Int.sub_zero, Int.reduceMod, Int.reduceDiv, Nat.reduceMod, Nat.reduceDiv, beq_self_eq_true, Bool.true_beq, Bool.false_beq, bb_t, bb_f, ↓x_rd, rdA_r, rdA_p, rdA_v, rdA_l, rdA_er, wOf_r, wOf_t, wOf_d, or_true, true_or, or_false, false_or, and_false, false_and, not_true_eq_false, not_false_eq_true, and_self, or_self, evA_nil, evA_cons, evA_nc, evA_cn, ev_tt, ev_ll, ev_ii, ev_ss, ev_nn, ev_ni, ev_in, ev_ns, ev_sn, ev_bb, ixN_last, gc_lt, List.set_set, isB_b, notB_b, isB_i, notB_i, isB_n, notB_n, isB_l, notB_l, ↓x_pop, ↓x_pop0, ↓x_ext, ↓x_swp, forL_nil, forL_c, in_ti1, in_li1, in_ts1, in_ls1, in_ti2, in_li2, in_ts2, in_ls2, in_ti3, in_li3, in_ts3, in_ls3, in_ti4, in_li4, in_ts4, in_ls4, in_ti5, in_li5, in_ts5, in_ls5, in_ti6, in_li6, in_ts6, in_ls6, cz, cp0, cn0, Bool.false_xor, Bool.true_xor, Bool.xor_false, Bool.xor_true, Option.isNone_none, Option.isNone_some, Option.isSome_none, Option.isSome_some, itsW_p, itsW_r, popC_ok, extE_ok, is_bool_i, is_str_i, is_list_i, is_tuple_i, is_dict_i, is_int_b, is_str_b, is_list_b, is_tuple_b, is_dict_b, is_int_s, is_bool_s, is_list_s, is_tuple_s, is_dict_s, is_int_l, is_bool_l, is_str_l, is_tuple_l, is_dict_l, is_int_t, is_bool_t, is_str_t, is_list_t, is_dict_t, is_int_n, is_bool_n, is_str_n, is_list_n, is_tuple_n, is_dict_n, Option.join_some, Option.join_none, b__law_asks, hNi]
  refine for_outD (fun k e => k ≤ N ∧ ∃ (l : List (Int × Int)) (lv : Int) (a b c : Option T), 0 ≤ lv ∧ l.length = k ∧ (∀ (i : Nat) (x : Int × Int), l[i]? = some x → x.1 = ((i : Int) * 3 + v / 512) % 8) ∧ e = ⟨[some (T.d (PyData.int v)), some (T.d (PyData.int (N : Int))), some (LO l), some (T.d (PyData.int lv)), a, b, c], m⟩) (fun o => ∃ l : List (Int × Int), finW (sq o (sSeq (sSetV 6 (v2 fMod (v2 fDiv (vVar 0) (vC (PyData.int 4096))) (vVar 1))) (sRet (d2L fCat (vSlP (vD (dVar 2)) (some (vVar 6)) none) (vSlP (vD (dVar 2)) none (some (vVar 6))))))) = FO.rt (LO l) m ∧ 1 ≤ l.length ∧ l.length ≤ 8 ∧ ∀ (i j : Nat) (a b : Int × Int), l[i]? = some a → l[j]? = some b → a.fst = b.fst → i = j)
    ⟨Nat.zero_le _, [], _, none, none, none, by omega, rfl, fun i x h => by simp at h, rfl⟩ ?_ ?_
  · rintro k x e hx ⟨hk, l, lv, a1, a2, a3, hlv, hln, hph, rfl⟩
    have hi := (rngD_get hx).1
    have hxe := (rngD_get hx).2
    subst hxe
    have hlen : ((pkL l).map T.d).length < 1000 := by rw [List.length_map, pkL_len]; omega
    have hw : 0 < 512 + 97 * (k : Int) ∧ 512 + 97 * (k : Int) < 1073741824 := by omega
    have hsn : ∀ y : Int, T.l ((pkL l).map T.d ++ [T.d (PyData.tuple [PyData.int (((k : Int) * 3 + v / 512) % 8), PyData.int y])]) = LO (l ++ [(((k : Int) * 3 + v / 512) % 8, y)]) := fun y => by simp [LO, pkL, pk]
    have hph2 : ∀ (y : Int) (i : Nat) (x : Int × Int), (l ++ [(((k : Int) * 3 + v / 512) % 8, y)])[i]? = some x → x.1 = ((i : Int) * 3 + v / 512) % 8 := by
      intro y i x h
      by_cases hik : i < l.length
      · rw [List.getElem?_append_left hik] at h
        exact hph i x h
      · have hik2 : i = k := by
          have := (List.getElem?_eq_some_iff.mp h).1
          rw [List.length_append, List.length_singleton] at this
          omega
        subst hik2
        rw [List.getElem?_append_right (by omega), hln, Nat.sub_self] at h
        cases h
        rfl
    have h5 : v / (512 + 97 * (k : Int)) % 5 = 0 ∨ v / (512 + 97 * (k : Int)) % 5 = 1 ∨ v / (512 + 97 * (k : Int)) % 5 = 2 ∨ v / (512 + 97 * (k : Int)) % 5 = 3 ∨ v / (512 + 97 * (k : Int)) % 5 = 4 := by omega
    unfold LO
    generalize ho : bdy (tgN 4) b__law_asks_1 _ _ = o
    rcases h5 with h | h | h | h | h <;> subst ho <;> simp (disch := (first | with_reducible assumption | omega | (simp only [iL_len, rngD_len, rngC_len, List.length_append, List.length_replicate, List.length_cons, List.length_nil, List.length_map, List.length_take, List.length_drop, List.length_range, SZ] <;> omega) | (simp only [iL_len, rngD_len, rngC_len, List.length_append, List.length_replicate, List.length_cons, List.length_nil, List.length_map, List.length_take, List.length_drop, List.length_range, SZ] at * <;> omega) | fail)) only [↓x_seq, ↓x_nil, ↓x_if, ↓x_set, ↓x_setV, ↓x_asg, ↓x_exp, ↓x_ret, ↓x_retV, ↓x_retN, ↓x_brk, ↓x_cnt, ↓x_for, ↓x_bdy, ↓x_C, ↓x_var, ↓x_dvar, ↓x_v1, ↓x_v2, ↓x_d1L, ↓x_d2L, ↓x_and, ↓x_or, ↓x_not, ↓x_ifx, ↓x_args0, ↓x_args1, ↓x_tup, ↓x_lst, ↓x_call, ↓x_vD, ↓x_dV, ↓x_slP, ↓x_opt0, ↓x_opt1, ↓x_iP, ↓x_rg1, ↓x_rg2, ↓x_rg3, ↓x_en, ↓x_zp, ↓x_rv, ↓x_ch, ↓x_lc, ↓x_aug, ↓x_app, ↓x_put, ↓x_pix, ↓x_try, ↓x_rep, ↓x_raise0, y_sq, y_sif, y_retV, y_setV, y_toV, y_ofV, y_orw, y_and, y_or, y_not, y_v1, y_v2a, y_v2b, y_finW, y_calB, sq_nx, sq_rt, sq_bk, sq_ct, sq_er, sq_no, dataL_d, allD_d, fnD, SZ, List.getElem?_cons_zero, List.getElem?_cons_succ, List.getElem?_nil, List.set_cons_zero, List.set_cons_succ, List.map_cons, List.map_nil, List.length_cons, List.length_nil, List.length_map, List.length_append, List.cons_append, List.nil_append, List.append_nil, Nat.reduceAdd, Nat.reduceSub, Nat.zero_add, Nat.add_zero, Option.map_some, Option.map_none, Option.getD_some, Option.getD_none, Bool.false_eq_true, Bool.true_eq_false, Bool.and_false, Bool.false_and, Bool.and_true, Bool.true_and, Bool.or_false, Bool.false_or, Bool.or_true, Bool.true_or, Bool.not_true, Bool.not_false, if_true, if_false, ite_true, ite_false, decide_eq_true_eq, Bool.and_eq_true, Bool.or_eq_true, Bool.not_eq_true', decide_eq_false_iff_not, decide_true, decide_false, true_and, and_true, reduceCtorEq, Int.reduceNeg, Int.reduceLT, Int.reduceLE, Int.reduceToNat, Nat.reduceLeDiff, Int.reduceAbs, Int.reduceSub, Int.reduceAdd, Int.reduceMul, Int.reduceEq, Nat.reduceMul, Nat.reduceEqDiff, Nat.reduceLT, Nat.reducePow, Int.reducePow, ↓reduceIte, ite_not, sif.eq_1, sif.eq_3, sif.eq_4, andA.eq_1, andA.eq_3, andA.eq_4, orA.eq_1, orA.eq_3, orA.eq_4, notA.eq_1, notA.eq_3, notA.eq_4, ifA.eq_1, ifA.eq_3, ifA.eq_4, orw.eq_1, orw.eq_2, orw.eq_3, v1r.eq_1, v1r.eq_2, v1a.eq_1, v1a.eq_2, v1a.eq_3, v2a.eq_1, v2a.eq_2, v2a.eq_3, v2b.eq_1, v2b.eq_2, v2b.eq_3, dlr.eq_1, dlr.eq_2, d1a.eq_1, d1a.eq_2, d1a.eq_3, d2a.eq_1, d2a.eq_2, d2a.eq_3, d2b.eq_1, d2b.eq_2, d2b.eq_3, ar1.eq_1, ar1.eq_2, ar1.eq_3, ar1.eq_4, ar2.eq_1, ar2.eq_2, ar2.eq_3, tupA.eq_1, tupA.eq_2, tupA.eq_3, lstA.eq_1, lstA.eq_2, lstA.eq_3, calA.eq_1, calA.eq_2, calA.eq_3, calB.eq_1, calB.eq_2, calB.eq_3, wOf.eq_1, varV.eq_1, varR.eq_1, varR.eq_2, varD.eq_1, setA.eq_1, setA.eq_2, setA.eq_4, setA.eq_5, setVA.eq_1, setVA.eq_2, setVA.eq_3, setVA.eq_4, asgA.eq_1, asgA.eq_2, asgA.eq_3, asgA.eq_4, asgB.eq_1, asgB.eq_2, expA.eq_1, expA.eq_2, expA.eq_3, retA.eq_1, retA.eq_2, retA.eq_3, retVA.eq_1, retVA.eq_2, retVA.eq_3, retVA.eq_4, forA.eq_1, forA.eq_2, forA.eq_3, sl0.eq_1, sl0.eq_2, sl0.eq_3, sl1.eq_1, sl1.eq_2, sl2.eq_1, sl2.eq_2, sl3.eq_1, sl3.eq_2, optA.eq_1, bdyA.eq_1, bdyA.eq_2, iPA.eq_1, iPA.eq_2, iPA.eq_3, iPA.eq_5, iPA.eq_6, enA.eq_1, enA.eq_3, enA.eq_4, zpA.eq_1, zpA.eq_3, zpA.eq_4, rvA.eq_1, rvA.eq_3, rvA.eq_4, ch1.eq_1, ch1.eq_2, ch1.eq_3, ch2.eq_1, ch2.eq_2, ch2.eq_3, chA.eq_1, chB.eq_1, chB.eq_2, chB.eq_3, chC.eq_1, chC.eq_2, lc0.eq_2, lc0.eq_3, lcA.eq_1, lcA.eq_2, augA.eq_1, augB.eq_1, augB.eq_3, augB.eq_4, appA.eq_1, appB.eq_1, appB.eq_2, appB.eq_3, putA.eq_1, putA.eq_2, putA.eq_3, putA2.eq_1, putA2.eq_2, putB.eq_1, putC.eq_1, putD.eq_1, pixA.eq_1, pixA2.eq_1, pixB.eq_1, tryA.eq_1, tryB.eq_1, tryB.eq_2, tryB.eq_3, noEr.eq_1, repA.eq_1, repA2.eq_1, repA2.eq_2, repB.eq_1, rdT.eq_1, rdT.eq_2, toV.eq_1, toV.eq_2, toV.eq_3, toV.eq_4, toV.eq_5, toV.eq_6, ofV.eq_1, ofV.eq_2, ofV.eq_4, ofV.eq_5, tOf.eq_1, tOf.eq_2, isL.eq_1, getT.eq_1, getT.eq_2, getT.eq_3, setT.eq_1, setT.eq_2, setT.eq_3, T.data.eq_1, T.data.eq_2, finW.eq_1, finW.eq_2, finW.eq_3, finW.eq_4, finW.eq_6, tgS.eq_1, wipeE.eq_1, fAdd.eq_1, fAdd.eq_2, fI2.eq_1, fB2.eq_1, fU.eq_1, fLen.eq_1, fLen.eq_2, fLen.eq_3, fIx.eq_1, fIx.eq_2, fIx.eq_3, fIsN.eq_1, fNotN.eq_1, isNone.eq_1, fInt.eq_1, fInt.eq_2, fInt.eq_3, fLs.eq_1, fLs.eq_2, fTp.eq_1, fTp.eq_2, fSlP.eq_3, wOf_l, wOf_o, tryA_nx, tryA_rt, tryA_bk, tryA_ct, noEr_nx, noEr_rt, noEr_bk, noEr_ct, isNone_i, isNone_b, isNone_s, isNone_l, isNone_t, iL_app, iL_len, iL_rep, iL_rev, allD_iL, dataL_iL, q_int, q_t, q_l, n_t, n_l, n_int, q_self, n_self, s_to, s_from, s_mid, sl_to, sl_from, sl_mid, add_t, add_l, cat_l, isi_t, isi_b, isi_i, isi_l, isi_s, at_0, at_1, at_2, at_3, at_4, at_5, at_6, ai_0, ai_1, ai_2, ai_3, ai_4, ai_5, ai_6, tgN_a, tgT_a, apd_ok, lc_ok, rg1_ok, rg2_ok, iL_snoc, iL_mapd, lc_const, rngD_len, iL_take, iL_drop, Int.toNat_natCast, dataL_nil, dataL_cons, allD.eq_1, allD.eq_2, ixN_ok, rep_l, tgS_nil, rep_none, rep_none0, List.take_left, List.drop_left, any_false, all_true, eq_self, set_iL, at_last, List.drop_succ_cons, List.drop_zero, List.take_succ_cons, List.take_zero, List.getLast?_cons_cons, List.getLast?_singleton, Int.cast_ofNat_Int, rg3_ok, rngC_len, fRv_l, Env.set.eq_1, T.data.eq_3, ad1.eq_1, ad1.eq_2, ad1.eq_3, ad2.eq_1, ad2.eq_2, ad3.eq_1, ad3.eq_2, ad3.eq_3, appA.eq_2, appA.eq_3, appP.eq_1, appP.eq_2, appT.eq_1, appT.eq_2, asDA.eq_1, asDA.eq_2, asDA.eq_4, asDA.eq_5, boxA.eq_1, boxA.eq_3, boxA.eq_4, calF.eq_1, calF.eq_2, calM.eq_1, calM.eq_2, calM.eq_3, cpL.eq_1, cpL.eq_2, cpT.eq_1, cpT.eq_2, cpT.eq_3, delA.eq_1, delA.eq_2, delA.eq_3, delA.eq_4, delA.eq_5, delA.eq_6, difA.eq_1, difA.eq_3, difA.eq_4, exDA.eq_1, exDA.eq_2, exDA.eq_3, extA.eq_1, extA.eq_2, extA.eq_3, extB.eq_1, extB.eq_2, extB.eq_3, extD.eq_1, extD.eq_2, extL.eq_1, extL.eq_2, extP.eq_1, extP.eq_2, faA.eq_1, faA.eq_2, faA.eq_3, faB.eq_1, faB.eq_2, faB2.eq_1, faC.eq_1, faD.eq_1, faD.eq_2, faE.eq_1, fldA.eq_1, fldA.eq_2, fldA.eq_3, fldB.eq_1, fldC.eq_1, fldC.eq_2, fldP.eq_1, fldP.eq_2, forJA.eq_1, forJA.eq_2, forJA.eq_3, forW.eq_1, forW.eq_2, fpA.eq_1, fpA.eq_2, fpA.eq_3, fpA1.eq_1, fpA1.eq_2, fpA2.eq_1, fpA2.eq_2, fpA2.eq_3, fpB.eq_1, fpB.eq_2, fpC.eq_1, fpD.eq_1, fpD.eq_2, fwA.eq_1, fwA.eq_2, fwA.eq_3, fwA.eq_4, fwA.eq_5, fwA.eq_6, fzA.eq_1, fzB.eq_1, fzB.eq_2, gQ.eq_1, gQ.eq_2, getR.eq_1, getR.eq_2, getT.eq_4, getT.eq_5, gsA.eq_1, gsA.eq_2, gsB.eq_1, gsB.eq_2, gsC.eq_1, iEnA.eq_1, iEnA.eq_2, iEnA.eq_3, iEnA.eq_4, iEnA.eq_6, iEnA.eq_7, iTA.eq_1, iTA.eq_2, iTA.eq_3, iTA.eq_4, iTA.eq_5, iTA.eq_6, iTA.eq_8, iTA.eq_9, iTp.eq_1, isBx.eq_1, isBx.eq_2, isBx.eq_3, isFix.eq_1, isFix.eq_2, itm.eq_1, itsP.eq_1, itsQ.eq_1, itsQ.eq_2, itsW.eq_1, itsW.eq_2, ixTA.eq_1, ixTA.eq_3, ixTA.eq_4, ixTB.eq_1, ixTB.eq_2, ixTC.eq_1, ixTC.eq_2, jsA.eq_1, jsA.eq_2, jsB.eq_1, jsB.eq_2, jsC.eq_1, jsD.eq_1, jsD.eq_2, lcC.eq_1, lcJA.eq_1, lcJA.eq_2, lcJA.eq_3, lsA.eq_1, lsA.eq_3, lsA.eq_4, lsB.eq_1, lsB.eq_2, lsC.eq_1, lsDA.eq_1, lsDA.eq_2, lsDA.eq_3, makA.eq_1, makA.eq_2, makA.eq_3, makB.eq_1, makB.eq_2, makC.eq_1, makC.eq_3, makC.eq_4, metA.eq_1, metA.eq_3, metA.eq_4, metB.eq_1, metC.eq_1, metC.eq_2, metC.eq_3, metD.eq_1, metD.eq_2, movA.eq_1, movB.eq_1, movB.eq_2, nnA.eq_1, nnA.eq_2, nnA.eq_3, nnB.eq_1, nnB.eq_2, noneW.eq_1, noneW.eq_2, noneW.eq_3, noneW.eq_4, noneW.eq_5, noneW.eq_6, ofA.eq_1, ofA.eq_2, ofA.eq_3, orE.eq_1, orE.eq_2, orE.eq_3, pixA.eq_2, pixA.eq_3, pixA2.eq_2, pixB.eq_2, pixC.eq_1, pixC.eq_2, pixP.eq_1, pixP.eq_2, plc.eq_1, plc.eq_2, popA.eq_1, popA.eq_2, popA.eq_3, popA0.eq_1, popA0.eq_2, popA0.eq_3, popA2.eq_1, popA2.eq_2, popB.eq_1, popB.eq_2, popD.eq_1, popD.eq_2, popE.eq_1, popE.eq_2, popL.eq_1, popL.eq_2, popZ.eq_1, popZ.eq_2, prpA.eq_1, prpA.eq_3, prpA.eq_4, prpB.eq_1, prpC.eq_1, putB.eq_2, putB.eq_3, putC.eq_2, putE.eq_1, putE.eq_2, putM.eq_1, putM.eq_2, putM.eq_3, putN.eq_1, putN.eq_2, putO.eq_1, putO2.eq_1, putO2.eq_2, putP.eq_1, putP.eq_2, putQ.eq_1, putR.eq_1, putR.eq_2, rdJ.eq_1, rdJ.eq_2, rdP.eq_1, rdP.eq_2, rdP.eq_3, rs1A.eq_1, rs1A.eq_2, rs1A.eq_3, rs1A.eq_4, rvA'.eq_1, rvA'.eq_2, rvA'.eq_3, rvB.eq_1, rvB.eq_2, rvC.eq_1, sQ.eq_1, sQ.eq_2, setR.eq_1, setR.eq_2, setT.eq_4, setT.eq_5, stO.eq_1, stO.eq_2, stO.eq_3, stO.eq_4, stO.eq_5, stO.eq_6, stb.eq_1, swpA.eq_1, swpA.eq_2, tpDA.eq_1, tpDA.eq_2, tpDA.eq_3, truA.eq_1, truA.eq_2, truA.eq_3, truB.eq_1, truB.eq_2, truD.eq_1, truD.eq_2, truD.eq_3, truD.eq_4, truD.eq_5, truD.eq_6, truP.eq_1, truP.eq_2, truT.eq_1, truT.eq_2, tyA.eq_1, wipeS.eq_1, wipeS.eq_2, ↓x_ad0, ↓x_ad1, ↓x_fld, ↓x_meth, ↓x_make, ↓x_prop, ↓x_box, ↓x_fldP, ↓x_fldA, ↓x_isN, ↓x_tru, ↓x_mov, ↓x_dif, ↓x_iT, ↓x_iEn, ↓x_forJ, ↓x_lcJ, ↓x_raise1, ↓x_tryA, ↓x_expD, ↓x_rvM, ↓x_frz, ↓x_lsT, ↓x_lstD, ↓x_tupD, ↓x_ixT, ↓x_asgD, ↓x_of, getE_q, setE_q, rdI_l, tyA_nx, tyA_rt, tyA_bk, tyA_ct, tyB_t, tyB_f, x_wh, rdP_l, rdP_o, rdP_k, rdP_m, truW_r, truW_p, lcE_ok, frz_nil, frz_d, frz_r, frz_l, cpL_r, gc_ne, gc_new, ofS_inj, q_lit, n_lit, lk_lit, in_nil, in_cons, ev_s, ev_i, fl_i, fl_s, fl_n, fl_b, in_l, in_t, q_nn, q_in, q_ni, n_nn, n_in, n_ni, q_bb, n_bb, isNone_n, isi_n, String.reduceEq, Option.bind_some, Option.bind_none, List.isEmpty_nil, List.isEmpty_cons, tgT_t, cpL_d, Option.toList_some, Option.toList_none, Int.add_zero, Int.zero_add, Int.sub_zero, Int.reduceMod, Int.reduceDiv, Nat.reduceMod, Nat.reduceDiv, beq_self_eq_true, Bool.true_beq, Bool.false_beq, bb_t, bb_f, ↓x_rd, rdA_r, rdA_p, rdA_v, rdA_l, rdA_er, wOf_r, wOf_t, wOf_d, or_true, true_or, or_false, false_or, and_false, false_and, not_true_eq_false, not_false_eq_true, and_self, or_self, evA_nil, evA_cons, evA_nc, evA_cn, ev_tt, ev_ll, ev_ii, ev_ss, ev_nn, ev_ni, ev_in, ev_ns, ev_sn, ev_bb, ixN_last, gc_lt, List.set_set, isB_b, notB_b, isB_i, notB_i, isB_n, notB_n, isB_l, notB_l, ↓x_pop, ↓x_pop0, ↓x_ext, ↓x_swp, forL_nil, forL_c, in_ti1, in_li1, in_ts1, in_ls1, in_ti2, in_li2, in_ts2, in_ls2, in_ti3, in_li3, in_ts3, in_ls3, in_ti4, in_li4, in_ts4, in_ls4, in_ti5, in_li5, in_ts5, in_ls5, in_ti6, in_li6, in_ts6, in_ls6, cz, cp0, cn0, Bool.false_xor, Bool.true_xor, Bool.xor_false, Bool.xor_true, Option.isNone_none, Option.isNone_some, Option.isSome_none, Option.isSome_some, itsW_p, itsW_r, popC_ok, extE_ok, is_bool_i, is_str_i, is_list_i, is_tuple_i, is_dict_i, is_int_b, is_str_b, is_list_b, is_tuple_b, is_dict_b, is_int_s, is_bool_s, is_list_s, is_tuple_s, is_dict_s, is_int_l, is_bool_l, is_str_l, is_tuple_l, is_dict_l, is_int_t, is_bool_t, is_str_t, is_list_t, is_dict_t, is_int_n, is_bool_n, is_str_n, is_list_n, is_tuple_n, is_dict_n, Option.join_some, Option.join_none, b__law_asks_1, hw, h, hsn]
    all_goals exact ⟨by omega, l ++ [(((k : Int) * 3 + v / 512) % 8, _)], _, _, _, _, by (first | omega | (split <;> omega)), by simp [hln], hph2 _, rfl⟩
  · rintro e ⟨hk, l, lv, a1, a2, a3, hlv, hln, hph, rfl⟩
    rw [rngD_len] at hln
    have ht : 0 ≤ v / 4096 % (N : Int) ∧ v / 4096 % (N : Int) < N := ⟨Int.emod_nonneg _ (by omega), Int.emod_lt_of_pos _ (by omega)⟩
    generalize hx : v / 4096 % (N : Int) = x at ht
    obtain ⟨t, rfl⟩ := Int.eq_ofNat_of_zero_le ht.1
    have hlen : ((pkL l).map T.d).length = N := by rw [List.length_map, pkL_len, hln]
    have hlen2 : (pkL l).length = N := by rw [pkL_len, hln]
    have hNn : ¬ (N : Int) = 0 := by omega
    have hNp : 0 < (N : Int) := by omega
    unfold LO
    refine ⟨l.drop t ++ l.take t, ?_, by simp; omega, by simp; omega, ?_⟩
    · simp (disch := (first | with_reducible assumption | omega | (simp only [iL_len, rngD_len, rngC_len, List.length_append, List.length_replicate, List.length_cons, List.length_nil, List.length_map, List.length_take, List.length_drop, List.length_range, SZ] <;> omega) | (simp only [iL_len, rngD_len, rngC_len, List.length_append, List.length_replicate, List.length_cons, List.length_nil, List.length_map, List.length_take, List.length_drop, List.length_range, SZ] at * <;> omega) | fail)) only [↓x_seq, ↓x_nil, ↓x_if, ↓x_set, ↓x_setV, ↓x_asg, ↓x_exp, ↓x_ret, ↓x_retV, ↓x_retN, ↓x_brk, ↓x_cnt, ↓x_for, ↓x_bdy, ↓x_C, ↓x_var, ↓x_dvar, ↓x_v1, ↓x_v2, ↓x_d1L, ↓x_d2L, ↓x_and, ↓x_or, ↓x_not, ↓x_ifx, ↓x_args0, ↓x_args1, ↓x_tup, ↓x_lst, ↓x_call, ↓x_vD, ↓x_dV, ↓x_slP, ↓x_opt0, ↓x_opt1, ↓x_iP, ↓x_rg1, ↓x_rg2, ↓x_rg3, ↓x_en, ↓x_zp, ↓x_rv, ↓x_ch, ↓x_lc, ↓x_aug, ↓x_app, ↓x_put, ↓x_pix, ↓x_try, ↓x_rep, ↓x_raise0, y_sq, y_sif, y_retV, y_setV, y_toV, y_ofV, y_orw, y_and, y_or, y_not, y_v1, y_v2a, y_v2b, y_finW, y_calB, sq_nx, sq_rt, sq_bk, sq_ct, sq_er, sq_no, dataL_d, allD_d, fnD, SZ, List.getElem?_cons_zero, List.getElem?_cons_succ, List.getElem?_nil, List.set_cons_zero, List.set_cons_succ, List.map_cons, List.map_nil, List.length_cons, List.length_nil, List.length_map, List.length_append, List.cons_append, List.nil_append, List.append_nil, Nat.reduceAdd, Nat.reduceSub, Nat.zero_add, Nat.add_zero, Option.map_some, Option.map_none, Option.getD_some, Option.getD_none, Bool.false_eq_true, Bool.true_eq_false, Bool.and_false, Bool.false_and, Bool.and_true, Bool.true_and, Bool.or_false, Bool.false_or, Bool.or_true, Bool.true_or, Bool.not_true, Bool.not_false, if_true, if_false, ite_true, ite_false, decide_eq_true_eq, Bool.and_eq_true, Bool.or_eq_true, Bool.not_eq_true', decide_eq_false_iff_not, decide_true, decide_false, true_and, and_true, reduceCtorEq, Int.reduceNeg, Int.reduceLT, Int.reduceLE, Int.reduceToNat, Nat.reduceLeDiff, Int.reduceAbs, Int.reduceSub, Int.reduceAdd, Int.reduceMul, Int.reduceEq, Nat.reduceMul, Nat.reduceEqDiff, Nat.reduceLT, Nat.reducePow, Int.reducePow, ↓reduceIte, ite_not, sif.eq_1, sif.eq_3, sif.eq_4, andA.eq_1, andA.eq_3, andA.eq_4, orA.eq_1, orA.eq_3, orA.eq_4, notA.eq_1, notA.eq_3, notA.eq_4, ifA.eq_1, ifA.eq_3, ifA.eq_4, orw.eq_1, orw.eq_2, orw.eq_3, v1r.eq_1, v1r.eq_2, v1a.eq_1, v1a.eq_2, v1a.eq_3, v2a.eq_1, v2a.eq_2, v2a.eq_3, v2b.eq_1, v2b.eq_2, v2b.eq_3, dlr.eq_1, dlr.eq_2, d1a.eq_1, d1a.eq_2, d1a.eq_3, d2a.eq_1, d2a.eq_2, d2a.eq_3, d2b.eq_1, d2b.eq_2, d2b.eq_3, ar1.eq_1, ar1.eq_2, ar1.eq_3, ar1.eq_4, ar2.eq_1, ar2.eq_2, ar2.eq_3, tupA.eq_1, tupA.eq_2, tupA.eq_3, lstA.eq_1, lstA.eq_2, lstA.eq_3, calA.eq_1, calA.eq_2, calA.eq_3, calB.eq_1, calB.eq_2, calB.eq_3, wOf.eq_1, varV.eq_1, varR.eq_1, varR.eq_2, varD.eq_1, setA.eq_1, setA.eq_2, setA.eq_4, setA.eq_5, setVA.eq_1, setVA.eq_2, setVA.eq_3, setVA.eq_4, asgA.eq_1, asgA.eq_2, asgA.eq_3, asgA.eq_4, asgB.eq_1, asgB.eq_2, expA.eq_1, expA.eq_2, expA.eq_3, retA.eq_1, retA.eq_2, retA.eq_3, retVA.eq_1, retVA.eq_2, retVA.eq_3, retVA.eq_4, forA.eq_1, forA.eq_2, forA.eq_3, sl0.eq_1, sl0.eq_2, sl0.eq_3, sl1.eq_1, sl1.eq_2, sl2.eq_1, sl2.eq_2, sl3.eq_1, sl3.eq_2, optA.eq_1, bdyA.eq_1, bdyA.eq_2, iPA.eq_1, iPA.eq_2, iPA.eq_3, iPA.eq_5, iPA.eq_6, enA.eq_1, enA.eq_3, enA.eq_4, zpA.eq_1, zpA.eq_3, zpA.eq_4, rvA.eq_1, rvA.eq_3, rvA.eq_4, ch1.eq_1, ch1.eq_2, ch1.eq_3, ch2.eq_1, ch2.eq_2, ch2.eq_3, chA.eq_1, chB.eq_1, chB.eq_2, chB.eq_3, chC.eq_1, chC.eq_2, lc0.eq_2, lc0.eq_3, lcA.eq_1, lcA.eq_2, augA.eq_1, augB.eq_1, augB.eq_3, augB.eq_4, appA.eq_1, appB.eq_1, appB.eq_2, appB.eq_3, putA.eq_1, putA.eq_2, putA.eq_3, putA2.eq_1, putA2.eq_2, putB.eq_1, putC.eq_1, putD.eq_1, pixA.eq_1, pixA2.eq_1, pixB.eq_1, tryA.eq_1, tryB.eq_1, tryB.eq_2, tryB.eq_3, noEr.eq_1, repA.eq_1, repA2.eq_1, repA2.eq_2, repB.eq_1, rdT.eq_1, rdT.eq_2, toV.eq_1, toV.eq_2, toV.eq_3, toV.eq_4, toV.eq_5, toV.eq_6, ofV.eq_1, ofV.eq_2, ofV.eq_4, ofV.eq_5, tOf.eq_1, tOf.eq_2, isL.eq_1, getT.eq_1, getT.eq_2, getT.eq_3, setT.eq_1, setT.eq_2, setT.eq_3, T.data.eq_1, T.data.eq_2, finW.eq_1, finW.eq_2, finW.eq_3, finW.eq_4, finW.eq_6, tgS.eq_1, wipeE.eq_1, fAdd.eq_1, fAdd.eq_2, fI2.eq_1, fB2.eq_1, fU.eq_1, fLen.eq_1, fLen.eq_2, fLen.eq_3, fIx.eq_1, fIx.eq_2, fIx.eq_3, fIsN.eq_1, fNotN.eq_1, isNone.eq_1, fInt.eq_1, fInt.eq_2, fInt.eq_3, fLs.eq_1, fLs.eq_2, fTp.eq_1, fTp.eq_2, fSlP.eq_3, wOf_l, wOf_o, tryA_nx, tryA_rt, tryA_bk, tryA_ct, noEr_nx, noEr_rt, noEr_bk, noEr_ct, isNone_i, isNone_b, isNone_s, isNone_l, isNone_t, iL_app, iL_len, iL_rep, iL_rev, allD_iL, dataL_iL, q_int, q_t, q_l, n_t, n_l, n_int, q_self, n_self, s_to, s_from, s_mid, sl_to, sl_from, sl_mid, add_t, add_l, cat_l, isi_t, isi_b, isi_i, isi_l, isi_s, at_0, at_1, at_2, at_3, at_4, at_5, at_6, ai_0, ai_1, ai_2, ai_3, ai_4, ai_5, ai_6, tgN_a, tgT_a, apd_ok, lc_ok, rg1_ok, rg2_ok, iL_snoc, iL_mapd, lc_const, rngD_len, iL_take, iL_drop, Int.toNat_natCast, dataL_nil, dataL_cons, allD.eq_1, allD.eq_2, ixN_ok, rep_l, tgS_nil, rep_none, rep_none0, List.take_left, List.drop_left, any_false, all_true, eq_self, set_iL, at_last, List.drop_succ_cons, List.drop_zero, List.take_succ_cons, List.take_zero, List.getLast?_cons_cons, List.getLast?_singleton, Int.cast_ofNat_Int, rg3_ok, rngC_len, fRv_l, Env.set.eq_1, T.data.eq_3, ad1.eq_1, ad1.eq_2, ad1.eq_3, ad2.eq_1, ad2.eq_2, ad3.eq_1, ad3.eq_2, ad3.eq_3, appA.eq_2, appA.eq_3, appP.eq_1, appP.eq_2, appT.eq_1, appT.eq_2, asDA.eq_1, asDA.eq_2, asDA.eq_4, asDA.eq_5, boxA.eq_1, boxA.eq_3, boxA.eq_4, calF.eq_1, calF.eq_2, calM.eq_1, calM.eq_2, calM.eq_3, cpL.eq_1, cpL.eq_2, cpT.eq_1, cpT.eq_2, cpT.eq_3, delA.eq_1, delA.eq_2, delA.eq_3, delA.eq_4, delA.eq_5, delA.eq_6, difA.eq_1, difA.eq_3, difA.eq_4, exDA.eq_1, exDA.eq_2, exDA.eq_3, extA.eq_1, extA.eq_2, extA.eq_3, extB.eq_1, extB.eq_2, extB.eq_3, extD.eq_1, extD.eq_2, extL.eq_1, extL.eq_2, extP.eq_1, extP.eq_2, faA.eq_1, faA.eq_2, faA.eq_3, faB.eq_1, faB.eq_2, faB2.eq_1, faC.eq_1, faD.eq_1, faD.eq_2, faE.eq_1, fldA.eq_1, fldA.eq_2, fldA.eq_3, fldB.eq_1, fldC.eq_1, fldC.eq_2, fldP.eq_1, fldP.eq_2, forJA.eq_1, forJA.eq_2, forJA.eq_3, forW.eq_1, forW.eq_2, fpA.eq_1, fpA.eq_2, fpA.eq_3, fpA1.eq_1, fpA1.eq_2, fpA2.eq_1, fpA2.eq_2, fpA2.eq_3, fpB.eq_1, fpB.eq_2, fpC.eq_1, fpD.eq_1, fpD.eq_2, fwA.eq_1, fwA.eq_2, fwA.eq_3, fwA.eq_4, fwA.eq_5, fwA.eq_6, fzA.eq_1, fzB.eq_1, fzB.eq_2, gQ.eq_1, gQ.eq_2, getR.eq_1, getR.eq_2, getT.eq_4, getT.eq_5, gsA.eq_1, gsA.eq_2, gsB.eq_1, gsB.eq_2, gsC.eq_1, iEnA.eq_1, iEnA.eq_2, iEnA.eq_3, iEnA.eq_4, iEnA.eq_6, iEnA.eq_7, iTA.eq_1, iTA.eq_2, iTA.eq_3, iTA.eq_4, iTA.eq_5, iTA.eq_6, iTA.eq_8, iTA.eq_9, iTp.eq_1, isBx.eq_1, isBx.eq_2, isBx.eq_3, isFix.eq_1, isFix.eq_2, itm.eq_1, itsP.eq_1, itsQ.eq_1, itsQ.eq_2, itsW.eq_1, itsW.eq_2, ixTA.eq_1, ixTA.eq_3, ixTA.eq_4, ixTB.eq_1, ixTB.eq_2, ixTC.eq_1, ixTC.eq_2, jsA.eq_1, jsA.eq_2, jsB.eq_1, jsB.eq_2, jsC.eq_1, jsD.eq_1, jsD.eq_2, lcC.eq_1, lcJA.eq_1, lcJA.eq_2, lcJA.eq_3, lsA.eq_1, lsA.eq_3, lsA.eq_4, lsB.eq_1, lsB.eq_2, lsC.eq_1, lsDA.eq_1, lsDA.eq_2, lsDA.eq_3, makA.eq_1, makA.eq_2, makA.eq_3, makB.eq_1, makB.eq_2, makC.eq_1, makC.eq_3, makC.eq_4, metA.eq_1, metA.eq_3, metA.eq_4, metB.eq_1, metC.eq_1, metC.eq_2, metC.eq_3, metD.eq_1, metD.eq_2, movA.eq_1, movB.eq_1, movB.eq_2, nnA.eq_1, nnA.eq_2, nnA.eq_3, nnB.eq_1, nnB.eq_2, noneW.eq_1, noneW.eq_2, noneW.eq_3, noneW.eq_4, noneW.eq_5, noneW.eq_6, ofA.eq_1, ofA.eq_2, ofA.eq_3, orE.eq_1, orE.eq_2, orE.eq_3, pixA.eq_2, pixA.eq_3, pixA2.eq_2, pixB.eq_2, pixC.eq_1, pixC.eq_2, pixP.eq_1, pixP.eq_2, plc.eq_1, plc.eq_2, popA.eq_1, popA.eq_2, popA.eq_3, popA0.eq_1, popA0.eq_2, popA0.eq_3, popA2.eq_1, popA2.eq_2, popB.eq_1, popB.eq_2, popD.eq_1, popD.eq_2, popE.eq_1, popE.eq_2, popL.eq_1, popL.eq_2, popZ.eq_1, popZ.eq_2, prpA.eq_1, prpA.eq_3, prpA.eq_4, prpB.eq_1, prpC.eq_1, putB.eq_2, putB.eq_3, putC.eq_2, putE.eq_1, putE.eq_2, putM.eq_1, putM.eq_2, putM.eq_3, putN.eq_1, putN.eq_2, putO.eq_1, putO2.eq_1, putO2.eq_2, putP.eq_1, putP.eq_2, putQ.eq_1, putR.eq_1, putR.eq_2, rdJ.eq_1, rdJ.eq_2, rdP.eq_1, rdP.eq_2, rdP.eq_3, rs1A.eq_1, rs1A.eq_2, rs1A.eq_3, rs1A.eq_4, rvA'.eq_1, rvA'.eq_2, rvA'.eq_3, rvB.eq_1, rvB.eq_2, rvC.eq_1, sQ.eq_1, sQ.eq_2, setR.eq_1, setR.eq_2, setT.eq_4, setT.eq_5, stO.eq_1, stO.eq_2, stO.eq_3, stO.eq_4, stO.eq_5, stO.eq_6, stb.eq_1, swpA.eq_1, swpA.eq_2, tpDA.eq_1, tpDA.eq_2, tpDA.eq_3, truA.eq_1, truA.eq_2, truA.eq_3, truB.eq_1, truB.eq_2, truD.eq_1, truD.eq_2, truD.eq_3, truD.eq_4, truD.eq_5, truD.eq_6, truP.eq_1, truP.eq_2, truT.eq_1, truT.eq_2, tyA.eq_1, wipeS.eq_1, wipeS.eq_2, ↓x_ad0, ↓x_ad1, ↓x_fld, ↓x_meth, ↓x_make, ↓x_prop, ↓x_box, ↓x_fldP, ↓x_fldA, ↓x_isN, ↓x_tru, ↓x_mov, ↓x_dif, ↓x_iT, ↓x_iEn, ↓x_forJ, ↓x_lcJ, ↓x_raise1, ↓x_tryA, ↓x_expD, ↓x_rvM, ↓x_frz, ↓x_lsT, ↓x_lstD, ↓x_tupD, ↓x_ixT, ↓x_asgD, ↓x_of, getE_q, setE_q, rdI_l, tyA_nx, tyA_rt, tyA_bk, tyA_ct, tyB_t, tyB_f, x_wh, rdP_l, rdP_o, rdP_k, rdP_m, truW_r, truW_p, lcE_ok, frz_nil, frz_d, frz_r, frz_l, cpL_r, gc_ne, gc_new, ofS_inj, q_lit, n_lit, lk_lit, in_nil, in_cons, ev_s, ev_i, fl_i, fl_s, fl_n, fl_b, in_l, in_t, q_nn, q_in, q_ni, n_nn, n_in, n_ni, q_bb, n_bb, isNone_n, isi_n, String.reduceEq, Option.bind_some, Option.bind_none, List.isEmpty_nil, List.isEmpty_cons, tgT_t, cpL_d, Option.toList_some, Option.toList_none, Int.add_zero, Int.zero_add, Int.sub_zero, Int.reduceMod, Int.reduceDiv, Nat.reduceMod, Nat.reduceDiv, beq_self_eq_true, Bool.true_beq, Bool.false_beq, bb_t, bb_f, ↓x_rd, rdA_r, rdA_p, rdA_v, rdA_l, rdA_er, wOf_r, wOf_t, wOf_d, or_true, true_or, or_false, false_or, and_false, false_and, not_true_eq_false, not_false_eq_true, and_self, or_self, evA_nil, evA_cons, evA_nc, evA_cn, ev_tt, ev_ll, ev_ii, ev_ss, ev_nn, ev_ni, ev_in, ev_ns, ev_sn, ev_bb, ixN_last, gc_lt, List.set_set, isB_b, notB_b, isB_i, notB_i, isB_n, notB_n, isB_l, notB_l, ↓x_pop, ↓x_pop0, ↓x_ext, ↓x_swp, forL_nil, forL_c, in_ti1, in_li1, in_ts1, in_ls1, in_ti2, in_li2, in_ts2, in_ls2, in_ti3, in_li3, in_ts3, in_ls3, in_ti4, in_li4, in_ts4, in_ls4, in_ti5, in_li5, in_ts5, in_ls5, in_ti6, in_li6, in_ts6, in_ls6, cz, cp0, cn0, Bool.false_xor, Bool.true_xor, Bool.xor_false, Bool.xor_true, Option.isNone_none, Option.isNone_some, Option.isSome_none, Option.isSome_some, itsW_p, itsW_r, popC_ok, extE_ok, is_bool_i, is_str_i, is_list_i, is_tuple_i, is_dict_i, is_int_b, is_str_b, is_list_b, is_tuple_b, is_dict_b, is_int_s, is_bool_s, is_list_s, is_tuple_s, is_dict_s, is_int_l, is_bool_l, is_str_l, is_tuple_l, is_dict_l, is_int_t, is_bool_t, is_str_t, is_list_t, is_dict_t, is_int_n, is_bool_n, is_str_n, is_list_n, is_tuple_n, is_dict_n, Option.join_some, Option.join_none, hx, hNn, hNp]
      have hfin : List.map T.d (List.drop t (pkL l) ++ List.take t (pkL l)) = (pkL (l.drop t ++ l.take t)).map T.d := by simp [pkL]
      rw [hfin]
    · intro i j a b h1 h2 e
      have idx : ∀ (i : Nat) (a : Int × Int), (l.drop t ++ l.take t)[i]? = some a → ∃ i2 : Nat, i2 < N ∧ i < N ∧ (i2 = t + i ∨ i2 + N = t + i) ∧ a.1 = ((i2 : Int) * 3 + v / 512) % 8 := by
        intro i a h
        have hi := (List.getElem?_eq_some_iff.mp h).1
        rw [List.length_append, List.length_drop, List.length_take, hln] at hi
        by_cases hlt : i < (l.drop t).length
        · rw [List.getElem?_append_left hlt, List.getElem?_drop] at h
          rw [List.length_drop, hln] at hlt
          exact ⟨t + i, by omega, by omega, Or.inl rfl, hph _ _ h⟩
        · rw [List.getElem?_append_right (by omega)] at h
          rw [List.length_drop, hln] at hlt h
          have hlt2 : i - (N - t) < t := by omega
          rw [List.getElem?_take_of_lt hlt2] at h
          exact ⟨i - (N - t), by omega, by omega, Or.inr (by omega), hph _ _ h⟩
      obtain ⟨i2, p1, p2, p3, p4⟩ := idx i a h1
      obtain ⟨j2, q1, q2, q3, q4⟩ := idx j b h2
      rw [p4, q4] at e
      have := mod8_inj (by omega) (by omega) e
      omega

def frzC : Option (List PyData) → Option (List T) → Option (List T)
  | some ds, some us => some (.d (.list ds) :: us)
  | _, _ => none
theorem frz_any {xs ts : List T} : frzA (.l xs :: ts) = frzC (dataL xs) (frzA ts) := by
  show (match frzT (.l xs), frzA ts with | some u, some us => some (u :: us) | _, _ => none) = _
  have h : frzT (.l xs) = ((dataL xs).map PyData.list).map T.d := by
    unfold frzT
    rw [if_neg (by simp [cpT])]
    rfl
  rw [h]
  cases dataL xs <;> cases frzA ts <;> rfl
theorem frzC_ok {ds : List PyData} {us : List T} : frzC (some ds) (some us) = some (.d (.list ds) :: us) := rfl

/-! ### the law -/
theorem heard_nil (m : List T) : f_heard [.d (.list [])] m = .rt (.d .none) m := by
  unfold f_heard
  simp (disch := (first | with_reducible assumption | omega | (simp only [iL_len, rngD_len, rngC_len, List.length_append, List.length_replicate, List.length_cons, List.length_nil, List.length_map, List.length_take, List.length_drop, List.length_range, SZ] <;> omega) | (simp only [iL_len, rngD_len, rngC_len, List.length_append, List.length_replicate, List.length_cons, List.length_nil, List.length_map, List.length_take, List.length_drop, List.length_range, SZ] at * <;> omega) | fail)) only [↓x_seq, ↓x_nil, ↓x_if, ↓x_set, ↓x_setV, ↓x_asg, ↓x_exp, ↓x_ret, ↓x_retV, ↓x_retN, ↓x_brk, ↓x_cnt, ↓x_for, ↓x_bdy, ↓x_C, ↓x_var, ↓x_dvar, ↓x_v1, ↓x_v2, ↓x_d1L, ↓x_d2L, ↓x_and, ↓x_or, ↓x_not, ↓x_ifx, ↓x_args0, ↓x_args1, ↓x_tup, ↓x_lst, ↓x_call, ↓x_vD, ↓x_dV, ↓x_slP, ↓x_opt0, ↓x_opt1, ↓x_iP, ↓x_rg1, ↓x_rg2, ↓x_rg3, ↓x_en, ↓x_zp, ↓x_rv, ↓x_ch, ↓x_lc, ↓x_aug, ↓x_app, ↓x_put, ↓x_pix, ↓x_try, ↓x_rep, ↓x_raise0, y_sq, y_sif, y_retV, y_setV, y_toV, y_ofV, y_orw, y_and, y_or, y_not, y_v1, y_v2a, y_v2b, y_finW, y_calB, sq_nx, sq_rt, sq_bk, sq_ct, sq_er, sq_no, dataL_d, allD_d, fnD, SZ, List.getElem?_cons_zero, List.getElem?_cons_succ, List.getElem?_nil, List.set_cons_zero, List.set_cons_succ, List.map_cons, List.map_nil, List.length_cons, List.length_nil, List.length_map, List.length_append, List.cons_append, List.nil_append, List.append_nil, Nat.reduceAdd, Nat.reduceSub, Nat.zero_add, Nat.add_zero, Option.map_some, Option.map_none, Option.getD_some, Option.getD_none, Bool.false_eq_true, Bool.true_eq_false, Bool.and_false, Bool.false_and, Bool.and_true, Bool.true_and, Bool.or_false, Bool.false_or, Bool.or_true, Bool.true_or, Bool.not_true, Bool.not_false, if_true, if_false, ite_true, ite_false, decide_eq_true_eq, Bool.and_eq_true, Bool.or_eq_true, Bool.not_eq_true', decide_eq_false_iff_not, decide_true, decide_false, true_and, and_true, reduceCtorEq, Int.reduceNeg, Int.reduceLT, Int.reduceLE, Int.reduceToNat, Nat.reduceLeDiff, Int.reduceAbs, Int.reduceSub, Int.reduceAdd, Int.reduceMul, Int.reduceEq, Nat.reduceMul, Nat.reduceEqDiff, Nat.reduceLT, Nat.reducePow, Int.reducePow, ↓reduceIte, ite_not, sif.eq_1, sif.eq_3, sif.eq_4, andA.eq_1, andA.eq_3, andA.eq_4, orA.eq_1, orA.eq_3, orA.eq_4, notA.eq_1, notA.eq_3, notA.eq_4, ifA.eq_1, ifA.eq_3, ifA.eq_4, orw.eq_1, orw.eq_2, orw.eq_3, v1r.eq_1, v1r.eq_2, v1a.eq_1, v1a.eq_2, v1a.eq_3, v2a.eq_1, v2a.eq_2, v2a.eq_3, v2b.eq_1, v2b.eq_2, v2b.eq_3, dlr.eq_1, dlr.eq_2, d1a.eq_1, d1a.eq_2, d1a.eq_3, d2a.eq_1, d2a.eq_2, d2a.eq_3, d2b.eq_1, d2b.eq_2, d2b.eq_3, ar1.eq_1, ar1.eq_2, ar1.eq_3, ar1.eq_4, ar2.eq_1, ar2.eq_2, ar2.eq_3, tupA.eq_1, tupA.eq_2, tupA.eq_3, lstA.eq_1, lstA.eq_2, lstA.eq_3, calA.eq_1, calA.eq_2, calA.eq_3, calB.eq_1, calB.eq_2, calB.eq_3, wOf.eq_1, varV.eq_1, varR.eq_1, varR.eq_2, varD.eq_1, setA.eq_1, setA.eq_2, setA.eq_4, setA.eq_5, setVA.eq_1, setVA.eq_2, setVA.eq_3, setVA.eq_4, asgA.eq_1, asgA.eq_2, asgA.eq_3, asgA.eq_4, asgB.eq_1, asgB.eq_2, expA.eq_1, expA.eq_2, expA.eq_3, retA.eq_1, retA.eq_2, retA.eq_3, retVA.eq_1, retVA.eq_2, retVA.eq_3, retVA.eq_4, forA.eq_1, forA.eq_2, forA.eq_3, sl0.eq_1, sl0.eq_2, sl0.eq_3, sl1.eq_1, sl1.eq_2, sl2.eq_1, sl2.eq_2, sl3.eq_1, sl3.eq_2, optA.eq_1, bdyA.eq_1, bdyA.eq_2, iPA.eq_1, iPA.eq_2, iPA.eq_3, iPA.eq_5, iPA.eq_6, enA.eq_1, enA.eq_3, enA.eq_4, zpA.eq_1, zpA.eq_3, zpA.eq_4, rvA.eq_1, rvA.eq_3, rvA.eq_4, ch1.eq_1, ch1.eq_2, ch1.eq_3, ch2.eq_1, ch2.eq_2, ch2.eq_3, chA.eq_1, chB.eq_1, chB.eq_2, chB.eq_3, chC.eq_1, chC.eq_2, lc0.eq_2, lc0.eq_3, lcA.eq_1, lcA.eq_2, augA.eq_1, augB.eq_1, augB.eq_3, augB.eq_4, appA.eq_1, appB.eq_1, appB.eq_2, appB.eq_3, putA.eq_1, putA.eq_2, putA.eq_3, putA2.eq_1, putA2.eq_2, putB.eq_1, putC.eq_1, putD.eq_1, pixA.eq_1, pixA2.eq_1, pixB.eq_1, tryA.eq_1, tryB.eq_1, tryB.eq_2, tryB.eq_3, noEr.eq_1, repA.eq_1, repA2.eq_1, repA2.eq_2, repB.eq_1, rdT.eq_1, rdT.eq_2, toV.eq_1, toV.eq_2, toV.eq_3, toV.eq_4, toV.eq_5, toV.eq_6, ofV.eq_1, ofV.eq_2, ofV.eq_4, ofV.eq_5, tOf.eq_1, tOf.eq_2, isL.eq_1, getT.eq_1, getT.eq_2, getT.eq_3, setT.eq_1, setT.eq_2, setT.eq_3, T.data.eq_1, T.data.eq_2, finW.eq_1, finW.eq_2, finW.eq_3, finW.eq_4, finW.eq_6, tgS.eq_1, wipeE.eq_1, fAdd.eq_1, fAdd.eq_2, fI2.eq_1, fB2.eq_1, fU.eq_1, fLen.eq_1, fLen.eq_2, fLen.eq_3, fIx.eq_1, fIx.eq_2, fIx.eq_3, fIsN.eq_1, fNotN.eq_1, isNone.eq_1, fInt.eq_1, fInt.eq_2, fInt.eq_3, fLs.eq_1, fLs.eq_2, fTp.eq_1, fTp.eq_2, fSlP.eq_3, wOf_l, wOf_o, tryA_nx, tryA_rt, tryA_bk, tryA_ct, noEr_nx, noEr_rt, noEr_bk, noEr_ct, isNone_i, isNone_b, isNone_s, isNone_l, isNone_t, iL_app, iL_len, iL_rep, iL_rev, allD_iL, dataL_iL, q_int, q_t, q_l, n_t, n_l, n_int, q_self, n_self, s_to, s_from, s_mid, sl_to, sl_from, sl_mid, add_t, add_l, cat_l, isi_t, isi_b, isi_i, isi_l, isi_s, at_0, at_1, at_2, at_3, at_4, at_5, at_6, ai_0, ai_1, ai_2, ai_3, ai_4, ai_5, ai_6, tgN_a, tgT_a, apd_ok, lc_ok, rg1_ok, rg2_ok, iL_snoc, iL_mapd, lc_const, rngD_len, iL_take, iL_drop, Int.toNat_natCast, dataL_nil, dataL_cons, allD.eq_1, allD.eq_2, ixN_ok, rep_l, tgS_nil, rep_none, rep_none0, List.take_left, List.drop_left, any_false, all_true, eq_self, set_iL, at_last, List.drop_succ_cons, List.drop_zero, List.take_succ_cons, List.take_zero, List.getLast?_cons_cons, List.getLast?_singleton, Int.cast_ofNat_Int, rg3_ok, rngC_len, fRv_l, Env.set.eq_1, T.data.eq_3, ad1.eq_1, ad1.eq_2, ad1.eq_3, ad2.eq_1, ad2.eq_2, ad3.eq_1, ad3.eq_2, ad3.eq_3, appA.eq_2, appA.eq_3, appP.eq_1, appP.eq_2, appT.eq_1, appT.eq_2, asDA.eq_1, asDA.eq_2, asDA.eq_4, asDA.eq_5, boxA.eq_1, boxA.eq_3, boxA.eq_4, calF.eq_1, calF.eq_2, calM.eq_1, calM.eq_2, calM.eq_3, cpL.eq_1, cpL.eq_2, cpT.eq_1, cpT.eq_2, cpT.eq_3, delA.eq_1, delA.eq_2, delA.eq_3, delA.eq_4, delA.eq_5, delA.eq_6, difA.eq_1, difA.eq_3, difA.eq_4, exDA.eq_1, exDA.eq_2, exDA.eq_3, extA.eq_1, extA.eq_2, extA.eq_3, extB.eq_1, extB.eq_2, extB.eq_3, extD.eq_1, extD.eq_2, extL.eq_1, extL.eq_2, extP.eq_1, extP.eq_2, faA.eq_1, faA.eq_2, faA.eq_3, faB.eq_1, faB.eq_2, faB2.eq_1, faC.eq_1, faD.eq_1, faD.eq_2, faE.eq_1, fldA.eq_1, fldA.eq_2, fldA.eq_3, fldB.eq_1, fldC.eq_1, fldC.eq_2, fldP.eq_1, fldP.eq_2, forJA.eq_1, forJA.eq_2, forJA.eq_3, forW.eq_1, forW.eq_2, fpA.eq_1, fpA.eq_2, fpA.eq_3, fpA1.eq_1, fpA1.eq_2, fpA2.eq_1, fpA2.eq_2, fpA2.eq_3, fpB.eq_1, fpB.eq_2, fpC.eq_1, fpD.eq_1, fpD.eq_2, fwA.eq_1, fwA.eq_2, fwA.eq_3, fwA.eq_4, fwA.eq_5, fwA.eq_6, fzA.eq_1, fzB.eq_1, fzB.eq_2, gQ.eq_1, gQ.eq_2, getR.eq_1, getR.eq_2, getT.eq_4, getT.eq_5, gsA.eq_1, gsA.eq_2, gsB.eq_1, gsB.eq_2, gsC.eq_1, iEnA.eq_1, iEnA.eq_2, iEnA.eq_3, iEnA.eq_4, iEnA.eq_6, iEnA.eq_7, iTA.eq_1, iTA.eq_2, iTA.eq_3, iTA.eq_4, iTA.eq_5, iTA.eq_6, iTA.eq_8, iTA.eq_9, iTp.eq_1, isBx.eq_1, isBx.eq_2, isBx.eq_3, isFix.eq_1, isFix.eq_2, itm.eq_1, itsP.eq_1, itsQ.eq_1, itsQ.eq_2, itsW.eq_1, itsW.eq_2, ixTA.eq_1, ixTA.eq_3, ixTA.eq_4, ixTB.eq_1, ixTB.eq_2, ixTC.eq_1, ixTC.eq_2, jsA.eq_1, jsA.eq_2, jsB.eq_1, jsB.eq_2, jsC.eq_1, jsD.eq_1, jsD.eq_2, lcC.eq_1, lcJA.eq_1, lcJA.eq_2, lcJA.eq_3, lsA.eq_1, lsA.eq_3, lsA.eq_4, lsB.eq_1, lsB.eq_2, lsC.eq_1, lsDA.eq_1, lsDA.eq_2, lsDA.eq_3, makA.eq_1, makA.eq_2, makA.eq_3, makB.eq_1, makB.eq_2, makC.eq_1, makC.eq_3, makC.eq_4, metA.eq_1, metA.eq_3, metA.eq_4, metB.eq_1, metC.eq_1, metC.eq_2, metC.eq_3, metD.eq_1, metD.eq_2, movA.eq_1, movB.eq_1, movB.eq_2, nnA.eq_1, nnA.eq_2, nnA.eq_3, nnB.eq_1, nnB.eq_2, noneW.eq_1, noneW.eq_2, noneW.eq_3, noneW.eq_4, noneW.eq_5, noneW.eq_6, ofA.eq_1, ofA.eq_2, ofA.eq_3, orE.eq_1, orE.eq_2, orE.eq_3, pixA.eq_2, pixA.eq_3, pixA2.eq_2, pixB.eq_2, pixC.eq_1, pixC.eq_2, pixP.eq_1, pixP.eq_2, plc.eq_1, plc.eq_2, popA.eq_1, popA.eq_2, popA.eq_3, popA0.eq_1, popA0.eq_2, popA0.eq_3, popA2.eq_1, popA2.eq_2, popB.eq_1, popB.eq_2, popD.eq_1, popD.eq_2, popE.eq_1, popE.eq_2, popL.eq_1, popL.eq_2, popZ.eq_1, popZ.eq_2, prpA.eq_1, prpA.eq_3, prpA.eq_4, prpB.eq_1, prpC.eq_1, putB.eq_2, putB.eq_3, putC.eq_2, putE.eq_1, putE.eq_2, putM.eq_1, putM.eq_2, putM.eq_3, putN.eq_1, putN.eq_2, putO.eq_1, putO2.eq_1, putO2.eq_2, putP.eq_1, putP.eq_2, putQ.eq_1, putR.eq_1, putR.eq_2, rdJ.eq_1, rdJ.eq_2, rdP.eq_1, rdP.eq_2, rdP.eq_3, rs1A.eq_1, rs1A.eq_2, rs1A.eq_3, rs1A.eq_4, rvA'.eq_1, rvA'.eq_2, rvA'.eq_3, rvB.eq_1, rvB.eq_2, rvC.eq_1, sQ.eq_1, sQ.eq_2, setR.eq_1, setR.eq_2, setT.eq_4, setT.eq_5, stO.eq_1, stO.eq_2, stO.eq_3, stO.eq_4, stO.eq_5, stO.eq_6, stb.eq_1, swpA.eq_1, swpA.eq_2, tpDA.eq_1, tpDA.eq_2, tpDA.eq_3, truA.eq_1, truA.eq_2, truA.eq_3, truB.eq_1, truB.eq_2, truD.eq_1, truD.eq_2, truD.eq_3, truD.eq_4, truD.eq_5, truD.eq_6, truP.eq_1, truP.eq_2, truT.eq_1, truT.eq_2, tyA.eq_1, wipeS.eq_1, wipeS.eq_2, ↓x_ad0, ↓x_ad1, ↓x_fld, ↓x_meth, ↓x_make, ↓x_prop, ↓x_box, ↓x_fldP, ↓x_fldA, ↓x_isN, ↓x_tru, ↓x_mov, ↓x_dif, ↓x_iT, ↓x_iEn, ↓x_forJ, ↓x_lcJ, ↓x_raise1, ↓x_tryA, ↓x_expD, ↓x_rvM, ↓x_frz, ↓x_lsT, ↓x_lstD, ↓x_tupD, ↓x_ixT, ↓x_asgD, ↓x_of, getE_q, setE_q, rdI_l, tyA_nx, tyA_rt, tyA_bk, tyA_ct, tyB_t, tyB_f, x_wh, rdP_l, rdP_o, rdP_k, rdP_m, truW_r, truW_p, lcE_ok, frz_nil, frz_d, frz_r, frz_l, cpL_r, gc_ne, gc_new, ofS_inj, q_lit, n_lit, lk_lit, in_nil, in_cons, ev_s, ev_i, fl_i, fl_s, fl_n, fl_b, in_l, in_t, q_nn, q_in, q_ni, n_nn, n_in, n_ni, q_bb, n_bb, isNone_n, isi_n, String.reduceEq, Option.bind_some, Option.bind_none, List.isEmpty_nil, List.isEmpty_cons, tgT_t, cpL_d, Option.toList_some, Option.toList_none, Int.add_zero, Int.zero_add, Int.sub_zero, Int.reduceMod, Int.reduceDiv, Nat.reduceMod, Nat.reduceDiv, beq_self_eq_true, Bool.true_beq, Bool.false_beq, bb_t, bb_f, ↓x_rd, rdA_r, rdA_p, rdA_v, rdA_l, rdA_er, wOf_r, wOf_t, wOf_d, or_true, true_or, or_false, false_or, and_false, false_and, not_true_eq_false, not_false_eq_true, and_self, or_self, evA_nil, evA_cons, evA_nc, evA_cn, ev_tt, ev_ll, ev_ii, ev_ss, ev_nn, ev_ni, ev_in, ev_ns, ev_sn, ev_bb, ixN_last, gc_lt, List.set_set, isB_b, notB_b, isB_i, notB_i, isB_n, notB_n, isB_l, notB_l, ↓x_pop, ↓x_pop0, ↓x_ext, ↓x_swp, forL_nil, forL_c, in_ti1, in_li1, in_ts1, in_ls1, in_ti2, in_li2, in_ts2, in_ls2, in_ti3, in_li3, in_ts3, in_ls3, in_ti4, in_li4, in_ts4, in_ls4, in_ti5, in_li5, in_ts5, in_ls5, in_ti6, in_li6, in_ts6, in_ls6, cz, cp0, cn0, Bool.false_xor, Bool.true_xor, Bool.xor_false, Bool.xor_true, Option.isNone_none, Option.isNone_some, Option.isSome_none, Option.isSome_some, itsW_p, itsW_r, popC_ok, extE_ok, is_bool_i, is_str_i, is_list_i, is_tuple_i, is_dict_i, is_int_b, is_str_b, is_list_b, is_tuple_b, is_dict_b, is_int_s, is_bool_s, is_list_s, is_tuple_s, is_dict_s, is_int_l, is_bool_l, is_str_l, is_tuple_l, is_dict_l, is_int_t, is_bool_t, is_str_t, is_list_t, is_dict_t, is_int_n, is_bool_n, is_str_n, is_list_n, is_tuple_n, is_dict_n, Option.join_some, Option.join_none, b_heard]
theorem pk_sh (l : List (Int × Int)) : SeqAt.shaped (.list (pkL l)) = true := by
  refine sh_of (n := 9) (.list (.map fun r _ => ?_)) (by decide)
  obtain ⟨a, b⟩ := r
  unfold pk
  (repeat' first | exact Sh.int | exact Sh.none | exact Sh.bool | exact Sh.lit | exact ShA.nil | exact ShA.iL | apply ShA.cons | apply Sh.list | apply Sh.tuple)
theorem swap_inj {l : List (Int × Int)} {t : Nat} {p0 pt : Int × Int} (htl : t < l.length) (hp0 : l[0]? = some p0) (hpt : l[t]? = some pt) (hinj : ∀ (i j : Nat) (a b : Int × Int), l[i]? = some a → l[j]? = some b → a.1 = b.1 → i = j) :
    ∀ (i j : Nat) (a b : Int × Int), ((l.set 0 pt).set t p0)[i]? = some a → ((l.set 0 pt).set t p0)[j]? = some b → a.1 = b.1 → i = j := by
  have idx : ∀ (i : Nat) (a : Int × Int), ((l.set 0 pt).set t p0)[i]? = some a → ∃ i2 : Nat, l[i2]? = some a ∧ ((i = t ∧ i2 = 0) ∨ (i ≠ t ∧ i = 0 ∧ i2 = t) ∨ (i ≠ t ∧ i ≠ 0 ∧ i2 = i)) := by
    intro i a h
    by_cases h1 : i = t
    · subst h1
      rw [List.getElem?_set_self (by rw [List.length_set]; exact htl)] at h
      exact ⟨0, by rw [hp0]; exact h, Or.inl ⟨rfl, rfl⟩⟩
    · rw [List.getElem?_set_ne (fun z => h1 z.symm)] at h
      by_cases h2 : i = 0
      · subst h2
        rw [List.getElem?_set_self (by omega)] at h
        exact ⟨t, by rw [hpt]; exact h, Or.inr (Or.inl ⟨h1, rfl, rfl⟩)⟩
      · rw [List.getElem?_set_ne (fun z => h2 z.symm)] at h
        exact ⟨i, h, Or.inr (Or.inr ⟨h1, h2, rfl⟩)⟩
  intro i j a b ha hb e
  obtain ⟨i2, h1, h2⟩ := idx i a ha
  obtain ⟨j2, h3, h4⟩ := idx j b hb
  have := hinj i2 j2 a b h1 h3 e
  omega
theorem inj_mem {l : List (Int × Int)} (hinj : ∀ (i j : Nat) (a b : Int × Int), l[i]? = some a → l[j]? = some b → a.1 = b.1 → i = j) : ∀ a b, a ∈ l → b ∈ l → a.1 = b.1 → a = b := by
  intro a b ha hb e
  obtain ⟨i, hi⟩ := List.mem_iff_getElem?.mp ha
  obtain ⟨j, hj⟩ := List.mem_iff_getElem?.mp hb
  have := hinj i j a b hi hj e
  subst this
  rw [hi] at hj
  exact Option.some.inj hj
theorem law_main (ns : List Int) (hn : ns.length ≤ 63) : ∃ m, f_law [.d (.list (ns.map .int))] [] = .rt (.d (.bool true)) m := by
  show ∃ m, f_law [.d (.list (iL ns))] [] = _
  unfold f_law
  simp (disch := (first | with_reducible assumption | omega | (simp only [iL_len, rngD_len, rngC_len, List.length_append, List.length_replicate, List.length_cons, List.length_nil, List.length_map, List.length_take, List.length_drop, List.length_range, SZ] <;> omega) | (simp only [iL_len, rngD_len, rngC_len, List.length_append, List.length_replicate, List.length_cons, List.length_nil, List.length_map, List.length_take, List.length_drop, List.length_range, SZ] at * <;> omega) | fail)) only [↓x_seq, ↓x_nil, ↓x_if, ↓x_set, ↓x_setV, ↓x_asg, ↓x_exp, ↓x_ret, ↓x_retV, ↓x_retN, ↓x_brk, ↓x_cnt, ↓x_for, ↓x_bdy, ↓x_C, ↓x_var, ↓x_dvar, ↓x_v1, ↓x_v2, ↓x_d1L, ↓x_d2L, ↓x_and, ↓x_or, ↓x_not, ↓x_ifx, ↓x_args0, ↓x_args1, ↓x_tup, ↓x_lst, ↓x_call, ↓x_vD, ↓x_dV, ↓x_slP, ↓x_opt0, ↓x_opt1, ↓x_iP, ↓x_rg1, ↓x_rg2, ↓x_rg3, ↓x_en, ↓x_zp, ↓x_rv, ↓x_ch, ↓x_lc, ↓x_aug, ↓x_app, ↓x_put, ↓x_pix, ↓x_try, ↓x_rep, ↓x_raise0, y_sq, y_sif, y_retV, y_setV, y_toV, y_ofV, y_orw, y_and, y_or, y_not, y_v1, y_v2a, y_v2b, y_finW, y_calB, sq_nx, sq_rt, sq_bk, sq_ct, sq_er, sq_no, dataL_d, allD_d, fnD, SZ, List.getElem?_cons_zero, List.getElem?_cons_succ, List.getElem?_nil, List.set_cons_zero, List.set_cons_succ, List.map_cons, List.map_nil, List.length_cons, List.length_nil, List.length_map, List.length_append, List.cons_append, List.nil_append, List.append_nil, Nat.reduceAdd, Nat.reduceSub, Nat.zero_add, Nat.add_zero, Option.map_some, Option.map_none, Option.getD_some, Option.getD_none, Bool.false_eq_true, Bool.true_eq_false, Bool.and_false, Bool.false_and, Bool.and_true, Bool.true_and, Bool.or_false, Bool.false_or, Bool.or_true, Bool.true_or, Bool.not_true, Bool.not_false, if_true, if_false, ite_true, ite_false, decide_eq_true_eq, Bool.and_eq_true, Bool.or_eq_true, Bool.not_eq_true', decide_eq_false_iff_not, decide_true, decide_false, true_and, and_true, reduceCtorEq, Int.reduceNeg, Int.reduceLT, Int.reduceLE, Int.reduceToNat, Nat.reduceLeDiff, Int.reduceAbs, Int.reduceSub, Int.reduceAdd, Int.reduceMul, Int.reduceEq, Nat.reduceMul, Nat.reduceEqDiff, Nat.reduceLT, Nat.reducePow, Int.reducePow, ↓reduceIte, ite_not, sif.eq_1, sif.eq_3, sif.eq_4, andA.eq_1, andA.eq_3, andA.eq_4, orA.eq_1, orA.eq_3, orA.eq_4, notA.eq_1, notA.eq_3, notA.eq_4, ifA.eq_1, ifA.eq_3, ifA.eq_4, orw.eq_1, orw.eq_2, orw.eq_3, v1r.eq_1, v1r.eq_2, v1a.eq_1, v1a.eq_2, v1a.eq_3, v2a.eq_1, v2a.eq_2, v2a.eq_3, v2b.eq_1, v2b.eq_2, v2b.eq_3, dlr.eq_1, dlr.eq_2, d1a.eq_1, d1a.eq_2, d1a.eq_3, d2a.eq_1, d2a.eq_2, d2a.eq_3, d2b.eq_1, d2b.eq_2, d2b.eq_3, ar1.eq_1, ar1.eq_2, ar1.eq_3, ar1.eq_4, ar2.eq_1, ar2.eq_2, ar2.eq_3, tupA.eq_1, tupA.eq_2, tupA.eq_3, lstA.eq_1, lstA.eq_2, lstA.eq_3, calA.eq_1, calA.eq_2, calA.eq_3, calB.eq_1, calB.eq_2, calB.eq_3, wOf.eq_1, varV.eq_1, varR.eq_1, varR.eq_2, varD.eq_1, setA.eq_1, setA.eq_2, setA.eq_4, setA.eq_5, setVA.eq_1, setVA.eq_2, setVA.eq_3, setVA.eq_4, asgA.eq_1, asgA.eq_2, asgA.eq_3, asgA.eq_4, asgB.eq_1, asgB.eq_2, expA.eq_1, expA.eq_2, expA.eq_3, retA.eq_1, retA.eq_2, retA.eq_3, retVA.eq_1, retVA.eq_2, retVA.eq_3, retVA.eq_4, forA.eq_1, forA.eq_2, forA.eq_3, sl0.eq_1, sl0.eq_2, sl0.eq_3, sl1.eq_1, sl1.eq_2, sl2.eq_1, sl2.eq_2, sl3.eq_1, sl3.eq_2, optA.eq_1, bdyA.eq_1, bdyA.eq_2, iPA.eq_1, iPA.eq_2, iPA.eq_3, iPA.eq_5, iPA.eq_6, enA.eq_1, enA.eq_3, enA.eq_4, zpA.eq_1, zpA.eq_3, zpA.eq_4, rvA.eq_1, rvA.eq_3, rvA.eq_4, ch1.eq_1, ch1.eq_2, ch1.eq_3, ch2.eq_1, ch2.eq_2, ch2.eq_3, chA.eq_1, chB.eq_1, chB.eq_2, chB.eq_3, chC.eq_1, chC.eq_2, lc0.eq_2, lc0.eq_3, lcA.eq_1, lcA.eq_2, augA.eq_1, augB.eq_1, augB.eq_3, augB.eq_4, appA.eq_1, appB.eq_1, appB.eq_2, appB.eq_3, putA.eq_1, putA.eq_2, putA.eq_3, putA2.eq_1, putA2.eq_2, putB.eq_1, putC.eq_1, putD.eq_1, pixA.eq_1, pixA2.eq_1, pixB.eq_1, tryA.eq_1, tryB.eq_1, tryB.eq_2, tryB.eq_3, noEr.eq_1, repA.eq_1, repA2.eq_1, repA2.eq_2, repB.eq_1, rdT.eq_1, rdT.eq_2, toV.eq_1, toV.eq_2, toV.eq_3, toV.eq_4, toV.eq_5, toV.eq_6, ofV.eq_1, ofV.eq_2, ofV.eq_4, ofV.eq_5, tOf.eq_1, tOf.eq_2, isL.eq_1, getT.eq_1, getT.eq_2, getT.eq_3, setT.eq_1, setT.eq_2, setT.eq_3, T.data.eq_1, T.data.eq_2, finW.eq_1, finW.eq_2, finW.eq_3, finW.eq_4, finW.eq_6, tgS.eq_1, wipeE.eq_1, fAdd.eq_1, fAdd.eq_2, fI2.eq_1, fB2.eq_1, fU.eq_1, fLen.eq_1, fLen.eq_2, fLen.eq_3, fIx.eq_1, fIx.eq_2, fIx.eq_3, fIsN.eq_1, fNotN.eq_1, isNone.eq_1, fInt.eq_1, fInt.eq_2, fInt.eq_3, fLs.eq_1, fLs.eq_2, fTp.eq_1, fTp.eq_2, fSlP.eq_3, wOf_l, wOf_o, tryA_nx, tryA_rt, tryA_bk, tryA_ct, noEr_nx, noEr_rt, noEr_bk, noEr_ct, isNone_i, isNone_b, isNone_s, isNone_l, isNone_t, iL_app, iL_len, iL_rep, iL_rev, allD_iL, dataL_iL, q_int, q_t, q_l, n_t, n_l, n_int, q_self, n_self, s_to, s_from, s_mid, sl_to, sl_from, sl_mid, add_t, add_l, cat_l, isi_t, isi_b, isi_i, isi_l, isi_s, at_0, at_1, at_2, at_3, at_4, at_5, at_6, ai_0, ai_1, ai_2, ai_3, ai_4, ai_5, ai_6, tgN_a, tgT_a, apd_ok, lc_ok, rg1_ok, rg2_ok, iL_snoc, iL_mapd, lc_const, rngD_len, iL_take, iL_drop, Int.toNat_natCast, dataL_nil, dataL_cons, allD.eq_1, allD.eq_2, ixN_ok, rep_l, tgS_nil, rep_none, rep_none0, List.take_left, List.drop_left, any_false, all_true, eq_self, set_iL, at_last, List.drop_succ_cons, List.drop_zero, List.take_succ_cons, List.take_zero, List.getLast?_cons_cons, List.getLast?_singleton, Int.cast_ofNat_Int, rg3_ok, rngC_len, fRv_l, Env.set.eq_1, T.data.eq_3, ad1.eq_1, ad1.eq_2, ad1.eq_3, ad2.eq_1, ad2.eq_2, ad3.eq_1, ad3.eq_2, ad3.eq_3, appA.eq_2, appA.eq_3, appP.eq_1, appP.eq_2, appT.eq_1, appT.eq_2, asDA.eq_1, asDA.eq_2, asDA.eq_4, asDA.eq_5, boxA.eq_1, boxA.eq_3, boxA.eq_4, calF.eq_1, calF.eq_2, calM.eq_1, calM.eq_2, calM.eq_3, cpL.eq_1, cpL.eq_2, cpT.eq_1, cpT.eq_2, cpT.eq_3, delA.eq_1, delA.eq_2, delA.eq_3, delA.eq_4, delA.eq_5, delA.eq_6, difA.eq_1, difA.eq_3, difA.eq_4, exDA.eq_1, exDA.eq_2, exDA.eq_3, extA.eq_1, extA.eq_2, extA.eq_3, extB.eq_1, extB.eq_2, extB.eq_3, extD.eq_1, extD.eq_2, extL.eq_1, extL.eq_2, extP.eq_1, extP.eq_2, faA.eq_1, faA.eq_2, faA.eq_3, faB.eq_1, faB.eq_2, faB2.eq_1, faC.eq_1, faD.eq_1, faD.eq_2, faE.eq_1, fldA.eq_1, fldA.eq_2, fldA.eq_3, fldB.eq_1, fldC.eq_1, fldC.eq_2, fldP.eq_1, fldP.eq_2, forJA.eq_1, forJA.eq_2, forJA.eq_3, forW.eq_1, forW.eq_2, fpA.eq_1, fpA.eq_2, fpA.eq_3, fpA1.eq_1, fpA1.eq_2, fpA2.eq_1, fpA2.eq_2, fpA2.eq_3, fpB.eq_1, fpB.eq_2, fpC.eq_1, fpD.eq_1, fpD.eq_2, fwA.eq_1, fwA.eq_2, fwA.eq_3, fwA.eq_4, fwA.eq_5, fwA.eq_6, fzA.eq_1, fzB.eq_1, fzB.eq_2, gQ.eq_1, gQ.eq_2, getR.eq_1, getR.eq_2, getT.eq_4, getT.eq_5, gsA.eq_1, gsA.eq_2, gsB.eq_1, gsB.eq_2, gsC.eq_1, iEnA.eq_1, iEnA.eq_2, iEnA.eq_3, iEnA.eq_4, iEnA.eq_6, iEnA.eq_7, iTA.eq_1, iTA.eq_2, iTA.eq_3, iTA.eq_4, iTA.eq_5, iTA.eq_6, iTA.eq_8, iTA.eq_9, iTp.eq_1, isBx.eq_1, isBx.eq_2, isBx.eq_3, isFix.eq_1, isFix.eq_2, itm.eq_1, itsP.eq_1, itsQ.eq_1, itsQ.eq_2, itsW.eq_1, itsW.eq_2, ixTA.eq_1, ixTA.eq_3, ixTA.eq_4, ixTB.eq_1, ixTB.eq_2, ixTC.eq_1, ixTC.eq_2, jsA.eq_1, jsA.eq_2, jsB.eq_1, jsB.eq_2, jsC.eq_1, jsD.eq_1, jsD.eq_2, lcC.eq_1, lcJA.eq_1, lcJA.eq_2, lcJA.eq_3, lsA.eq_1, lsA.eq_3, lsA.eq_4, lsB.eq_1, lsB.eq_2, lsC.eq_1, lsDA.eq_1, lsDA.eq_2, lsDA.eq_3, makA.eq_1, makA.eq_2, makA.eq_3, makB.eq_1, makB.eq_2, makC.eq_1, makC.eq_3, makC.eq_4, metA.eq_1, metA.eq_3, metA.eq_4, metB.eq_1, metC.eq_1, metC.eq_2, metC.eq_3, metD.eq_1, metD.eq_2, movA.eq_1, movB.eq_1, movB.eq_2, nnA.eq_1, nnA.eq_2, nnA.eq_3, nnB.eq_1, nnB.eq_2, noneW.eq_1, noneW.eq_2, noneW.eq_3, noneW.eq_4, noneW.eq_5, noneW.eq_6, ofA.eq_1, ofA.eq_2, ofA.eq_3, orE.eq_1, orE.eq_2, orE.eq_3, pixA.eq_2, pixA.eq_3, pixA2.eq_2, pixB.eq_2, pixC.eq_1, pixC.eq_2, pixP.eq_1, pixP.eq_2, plc.eq_1, plc.eq_2, popA.eq_1, popA.eq_2, popA.eq_3, popA0.eq_1, popA0.eq_2, popA0.eq_3, popA2.eq_1, popA2.eq_2, popB.eq_1, popB.eq_2, popD.eq_1, popD.eq_2, popE.eq_1, popE.eq_2, popL.eq_1, popL.eq_2, popZ.eq_1, popZ.eq_2, prpA.eq_1, prpA.eq_3, prpA.eq_4, prpB.eq_1, prpC.eq_1, putB.eq_2, putB.eq_3, putC.eq_2, putE.eq_1, putE.eq_2, putM.eq_1, putM.eq_2, putM.eq_3, putN.eq_1, putN.eq_2, putO.eq_1, putO2.eq_1, putO2.eq_2, putP.eq_1, putP.eq_2, putQ.eq_1, putR.eq_1, putR.eq_2, rdJ.eq_1, rdJ.eq_2, rdP.eq_1, rdP.eq_2, rdP.eq_3, rs1A.eq_1, rs1A.eq_2, rs1A.eq_3, rs1A.eq_4, rvA'.eq_1, rvA'.eq_2, rvA'.eq_3, rvB.eq_1, rvB.eq_2, rvC.eq_1, sQ.eq_1, sQ.eq_2, setR.eq_1, setR.eq_2, setT.eq_4, setT.eq_5, stO.eq_1, stO.eq_2, stO.eq_3, stO.eq_4, stO.eq_5, stO.eq_6, stb.eq_1, swpA.eq_1, swpA.eq_2, tpDA.eq_1, tpDA.eq_2, tpDA.eq_3, truA.eq_1, truA.eq_2, truA.eq_3, truB.eq_1, truB.eq_2, truD.eq_1, truD.eq_2, truD.eq_3, truD.eq_4, truD.eq_5, truD.eq_6, truP.eq_1, truP.eq_2, truT.eq_1, truT.eq_2, tyA.eq_1, wipeS.eq_1, wipeS.eq_2, ↓x_ad0, ↓x_ad1, ↓x_fld, ↓x_meth, ↓x_make, ↓x_prop, ↓x_box, ↓x_fldP, ↓x_fldA, ↓x_isN, ↓x_tru, ↓x_mov, ↓x_dif, ↓x_iT, ↓x_iEn, ↓x_forJ, ↓x_lcJ, ↓x_raise1, ↓x_tryA, ↓x_expD, ↓x_rvM, ↓x_frz, ↓x_lsT, ↓x_lstD, ↓x_tupD, ↓x_ixT, ↓x_asgD, ↓x_of, getE_q, setE_q, rdI_l, tyA_nx, tyA_rt, tyA_bk, tyA_ct, tyB_t, tyB_f, x_wh, rdP_l, rdP_o, rdP_k, rdP_m, truW_r, truW_p, lcE_ok, frz_nil, frz_d, frz_r, frz_l, cpL_r, gc_ne, gc_new, ofS_inj, q_lit, n_lit, lk_lit, in_nil, in_cons, ev_s, ev_i, fl_i, fl_s, fl_n, fl_b, in_l, in_t, q_nn, q_in, q_ni, n_nn, n_in, n_ni, q_bb, n_bb, isNone_n, isi_n, String.reduceEq, Option.bind_some, Option.bind_none, List.isEmpty_nil, List.isEmpty_cons, tgT_t, cpL_d, Option.toList_some, Option.toList_none, Int.add_zero, Int.zero_add, Int.sub_zero, Int.reduceMod, Int.reduceDiv, Nat.reduceMod, Nat.reduceDiv, beq_self_eq_true, Bool.true_beq, Bool.false_beq, bb_t, bb_f, ↓x_rd, rdA_r, rdA_p, rdA_v, rdA_l, rdA_er, wOf_r, wOf_t, wOf_d, or_true, true_or, or_false, false_or, and_false, false_and, not_true_eq_false, not_false_eq_true, and_self, or_self, evA_nil, evA_cons, evA_nc, evA_cn, ev_tt, ev_ll, ev_ii, ev_ss, ev_nn, ev_ni, ev_in, ev_ns, ev_sn, ev_bb, ixN_last, gc_lt, List.set_set, isB_b, notB_b, isB_i, notB_i, isB_n, notB_n, isB_l, notB_l, ↓x_pop, ↓x_pop0, ↓x_ext, ↓x_swp, forL_nil, forL_c, in_ti1, in_li1, in_ts1, in_ls1, in_ti2, in_li2, in_ts2, in_ls2, in_ti3, in_li3, in_ts3, in_ls3, in_ti4, in_li4, in_ts4, in_ls4, in_ti5, in_li5, in_ts5, in_ls5, in_ti6, in_li6, in_ts6, in_ls6, cz, cp0, cn0, Bool.false_xor, Bool.true_xor, Bool.xor_false, Bool.xor_true, Option.isNone_none, Option.isNone_some, Option.isSome_none, Option.isSome_some, itsW_p, itsW_r, popC_ok, extE_ok, is_bool_i, is_str_i, is_list_i, is_tuple_i, is_dict_i, is_int_b, is_str_b, is_list_b, is_tuple_b, is_dict_b, is_int_s, is_bool_s, is_list_s, is_tuple_s, is_dict_s, is_int_l, is_bool_l, is_str_l, is_tuple_l, is_dict_l, is_int_t, is_bool_t, is_str_t, is_list_t, is_dict_t, is_int_n, is_bool_n, is_str_n, is_list_n, is_tuple_n, is_dict_n, Option.join_some, Option.join_none, b_law, frz_any, frzC_ok, heard_nil]
  refine for_outD (fun k e => ∃ (a b c d e1 f g h i j k1 l : Option T), e = ⟨[some (T.d (PyData.list (iL ns))), a, b, c, d, e1, f, g, h, i, j, k1, l], []⟩) (fun o => ∃ m, finW (sq o (sRetV (vC (PyData.bool true)))) = .rt (T.d (PyData.bool true)) m) ⟨none, none, none, none, none, none, none, none, none, none, none, none, rfl⟩ ?_ ?_
  · rintro k x e hx ⟨a1, a2, a3, a4, a5, a6, a7, a8, a9, a10, a11, a12, rfl⟩
    generalize ho : bdy (tgT [1, 2]) b_law_2 (T.d x) _ = o
    obtain ⟨z, hz, rfl⟩ := enumD_get' hx
    rw [iL_get] at hz
    obtain ⟨n, hz2, rfl⟩ := Option.map_eq_some_iff.mp hz
    have hv0 : 0 ≤ mixed n (k : Int) := mixed_nn _ _
    generalize hv : mixed n (k : Int) = v at hv0
    obtain ⟨l, ha, hl1, hl8, hinj⟩ := asks_ok v hv0 []
    have hl0 : (l.length : Int) ≠ 0 := by omega
    have ht : 0 ≤ v / 11 % (l.length : Int) ∧ v / 11 % (l.length : Int) < l.length := ⟨Int.emod_nonneg _ hl0, Int.emod_lt_of_pos _ (by omega)⟩
    generalize hx : v / 11 % (l.length : Int) = x at ht
    obtain ⟨t, rfl⟩ := Int.eq_ofNat_of_zero_le ht.1
    have htl : t < l.length := by omega
    obtain ⟨p0, hp0⟩ : ∃ q, l[0]? = some q := ⟨_, List.getElem?_eq_getElem (by omega)⟩
    obtain ⟨pt, hpt⟩ : ∃ q, l[t]? = some q := ⟨_, List.getElem?_eq_getElem htl⟩
    have hlen : ((pkL l).map T.d).length = l.length := by rw [List.length_map, pkL_len]
    have g0 : ((pkL l).map T.d)[0]? = some (T.d (pk p0)) := by rw [List.getElem?_map, pkL_get, hp0]; rfl
    have gt : ((pkL l).map T.d)[t]? = some (T.d (pk pt)) := by rw [List.getElem?_map, pkL_get, hpt]; rfl
    unfold LO at ha
    have hmp : 0 < (l.length : Int) := by omega
    have s0 : ((pkL l).map T.d).set 0 (T.d (pk pt)) = (pkL (l.set 0 pt)).map T.d := by simp [pkL, List.map_set]
    have s1 : ((pkL (l.set 0 pt)).map T.d).set t (T.d (pk p0)) = (pkL ((l.set 0 pt).set t p0)).map T.d := by simp [pkL, List.map_set]
    have q1 := swap_inj htl hp0 hpt hinj
    have hl2 : ((l.set 0 pt).set t p0).length = l.length := by simp
    have hl3 : ((pkL (l.set 0 pt)).map T.d).length = l.length := by rw [List.length_map, pkL_len, List.length_set]
    have hls : (l.set 0 pt).length = l.length := List.length_set
    generalize (l.set 0 pt).set t p0 = l2 at s1 q1 hl2
    obtain ⟨r, h1, w1⟩ := heard_ok l2 [] (by omega)
    obtain ⟨r2, h2, w2⟩ := lheard_ok l2 [] (by omega) q1
    obtain ⟨r3, h3, w3⟩ := heard_ok l2.reverse [] (by rw [List.length_reverse]; omega)
    have e2 := isW_eq (inj_mem q1) w2 w1
    subst e2
    have e3 := isW_eq (inj_mem q1) (isW_rev w3) w1
    subst e3
    have hnb : fIsi "bool" (oD r3) = some (.bool false) := by cases r3 <;> rfl
    have hne : fNe (oD r3) (oD r3) = some (.bool false) := by
      cases r3 with
      | none => rfl
      | some a => simp (disch := (first | with_reducible assumption | omega | (simp only [iL_len, rngD_len, rngC_len, List.length_append, List.length_replicate, List.length_cons, List.length_nil, List.length_map, List.length_take, List.length_drop, List.length_range, SZ] <;> omega) | (simp only [iL_len, rngD_len, rngC_len, List.length_append, List.length_replicate, List.length_cons, List.length_nil, List.length_map, List.length_take, List.length_drop, List.length_range, SZ] at * <;> omega) | fail)) only [↓x_seq, ↓x_nil, ↓x_if, ↓x_set, ↓x_setV, ↓x_asg, ↓x_exp, ↓x_ret, ↓x_retV, ↓x_retN, ↓x_brk, ↓x_cnt, ↓x_for, ↓x_bdy, ↓x_C, ↓x_var, ↓x_dvar, ↓x_v1, ↓x_v2, ↓x_d1L, ↓x_d2L, ↓x_and, ↓x_or, ↓x_not, ↓x_ifx, ↓x_args0, ↓x_args1, ↓x_tup, ↓x_lst, ↓x_call, ↓x_vD, ↓x_dV, ↓x_slP, ↓x_opt0, ↓x_opt1, ↓x_iP, ↓x_rg1, ↓x_rg2, ↓x_rg3, ↓x_en, ↓x_zp, ↓x_rv, ↓x_ch, ↓x_lc, ↓x_aug, ↓x_app, ↓x_put, ↓x_pix, ↓x_try, ↓x_rep, ↓x_raise0, y_sq, y_sif, y_retV, y_setV, y_toV, y_ofV, y_orw, y_and, y_or, y_not, y_v1, y_v2a, y_v2b, y_finW, y_calB, sq_nx, sq_rt, sq_bk, sq_ct, sq_er, sq_no, dataL_d, allD_d, fnD, SZ, List.getElem?_cons_zero, List.getElem?_cons_succ, List.getElem?_nil, List.set_cons_zero, List.set_cons_succ, List.map_cons, List.map_nil, List.length_cons, List.length_nil, List.length_map, List.length_append, List.cons_append, List.nil_append, List.append_nil, Nat.reduceAdd, Nat.reduceSub, Nat.zero_add, Nat.add_zero, Option.map_some, Option.map_none, Option.getD_some, Option.getD_none, Bool.false_eq_true, Bool.true_eq_false, Bool.and_false, Bool.false_and, Bool.and_true, Bool.true_and, Bool.or_false, Bool.false_or, Bool.or_true, Bool.true_or, Bool.not_true, Bool.not_false, if_true, if_false, ite_true, ite_false, decide_eq_true_eq, Bool.and_eq_true, Bool.or_eq_true, Bool.not_eq_true', decide_eq_false_iff_not, decide_true, decide_false, true_and, and_true, reduceCtorEq, Int.reduceNeg, Int.reduceLT, Int.reduceLE, Int.reduceToNat, Nat.reduceLeDiff, Int.reduceAbs, Int.reduceSub, Int.reduceAdd, Int.reduceMul, Int.reduceEq, Nat.reduceMul, Nat.reduceEqDiff, Nat.reduceLT, Nat.reducePow, Int.reducePow, ↓reduceIte, ite_not, sif.eq_1, sif.eq_3, sif.eq_4, andA.eq_1, andA.eq_3, andA.eq_4, orA.eq_1, orA.eq_3, orA.eq_4, notA.eq_1, notA.eq_3, notA.eq_4, ifA.eq_1, ifA.eq_3, ifA.eq_4, orw.eq_1, orw.eq_2, orw.eq_3, v1r.eq_1, v1r.eq_2, v1a.eq_1, v1a.eq_2, v1a.eq_3, v2a.eq_1, v2a.eq_2, v2a.eq_3, v2b.eq_1, v2b.eq_2, v2b.eq_3, dlr.eq_1, dlr.eq_2, d1a.eq_1, d1a.eq_2, d1a.eq_3, d2a.eq_1, d2a.eq_2, d2a.eq_3, d2b.eq_1, d2b.eq_2, d2b.eq_3, ar1.eq_1, ar1.eq_2, ar1.eq_3, ar1.eq_4, ar2.eq_1, ar2.eq_2, ar2.eq_3, tupA.eq_1, tupA.eq_2, tupA.eq_3, lstA.eq_1, lstA.eq_2, lstA.eq_3, calA.eq_1, calA.eq_2, calA.eq_3, calB.eq_1, calB.eq_2, calB.eq_3, wOf.eq_1, varV.eq_1, varR.eq_1, varR.eq_2, varD.eq_1, setA.eq_1, setA.eq_2, setA.eq_4, setA.eq_5, setVA.eq_1, setVA.eq_2, setVA.eq_3, setVA.eq_4, asgA.eq_1, asgA.eq_2, asgA.eq_3, asgA.eq_4, asgB.eq_1, asgB.eq_2, expA.eq_1, expA.eq_2, expA.eq_3, retA.eq_1, retA.eq_2, retA.eq_3, retVA.eq_1, retVA.eq_2, retVA.eq_3, retVA.eq_4, forA.eq_1, forA.eq_2, forA.eq_3, sl0.eq_1, sl0.eq_2, sl0.eq_3, sl1.eq_1, sl1.eq_2, sl2.eq_1, sl2.eq_2, sl3.eq_1, sl3.eq_2, optA.eq_1, bdyA.eq_1, bdyA.eq_2, iPA.eq_1, iPA.eq_2, iPA.eq_3, iPA.eq_5, iPA.eq_6, enA.eq_1, enA.eq_3, enA.eq_4, zpA.eq_1, zpA.eq_3, zpA.eq_4, rvA.eq_1, rvA.eq_3, rvA.eq_4, ch1.eq_1, ch1.eq_2, ch1.eq_3, ch2.eq_1, ch2.eq_2, ch2.eq_3, chA.eq_1, chB.eq_1, chB.eq_2, chB.eq_3, chC.eq_1, chC.eq_2, lc0.eq_2, lc0.eq_3, lcA.eq_1, lcA.eq_2, augA.eq_1, augB.eq_1, augB.eq_3, augB.eq_4, appA.eq_1, appB.eq_1, appB.eq_2, appB.eq_3, putA.eq_1, putA.eq_2, putA.eq_3, putA2.eq_1, putA2.eq_2, putB.eq_1, putC.eq_1, putD.eq_1, pixA.eq_1, pixA2.eq_1, pixB.eq_1, tryA.eq_1, tryB.eq_1, tryB.eq_2, tryB.eq_3, noEr.eq_1, repA.eq_1, repA2.eq_1, repA2.eq_2, repB.eq_1, rdT.eq_1, rdT.eq_2, toV.eq_1, toV.eq_2, toV.eq_3, toV.eq_4, toV.eq_5, toV.eq_6, ofV.eq_1, ofV.eq_2, ofV.eq_4, ofV.eq_5, tOf.eq_1, tOf.eq_2, isL.eq_1, getT.eq_1, getT.eq_2, getT.eq_3, setT.eq_1, setT.eq_2, setT.eq_3, T.data.eq_1, T.data.eq_2, finW.eq_1, finW.eq_2, finW.eq_3, finW.eq_4, finW.eq_6, tgS.eq_1, wipeE.eq_1, fAdd.eq_1, fAdd.eq_2, fI2.eq_1, fB2.eq_1, fU.eq_1, fLen.eq_1, fLen.eq_2, fLen.eq_3, fIx.eq_1, fIx.eq_2, fIx.eq_3, fIsN.eq_1, fNotN.eq_1, isNone.eq_1, fInt.eq_1, fInt.eq_2, fInt.eq_3, fLs.eq_1, fLs.eq_2, fTp.eq_1, fTp.eq_2, fSlP.eq_3, wOf_l, wOf_o, tryA_nx, tryA_rt, tryA_bk, tryA_ct, noEr_nx, noEr_rt, noEr_bk, noEr_ct, isNone_i, isNone_b, isNone_s, isNone_l, isNone_t, iL_app, iL_len, iL_rep, iL_rev, allD_iL, dataL_iL, q_int, q_t, q_l, n_t, n_l, n_int, q_self, n_self, s_to, s_from, s_mid, sl_to, sl_from, sl_mid, add_t, add_l, cat_l, isi_t, isi_b, isi_i, isi_l, isi_s, at_0, at_1, at_2, at_3, at_4, at_5, at_6, ai_0, ai_1, ai_2, ai_3, ai_4, ai_5, ai_6, tgN_a, tgT_a, apd_ok, lc_ok, rg1_ok, rg2_ok, iL_snoc, iL_mapd, lc_const, rngD_len, iL_take, iL_drop, Int.toNat_natCast, dataL_nil, dataL_cons, allD.eq_1, allD.eq_2, ixN_ok, rep_l, tgS_nil, rep_none, rep_none0, List.take_left, List.drop_left, any_false, all_true, eq_self, set_iL, at_last, List.drop_succ_cons, List.drop_zero, List.take_succ_cons, List.take_zero, List.getLast?_cons_cons, List.getLast?_singleton, Int.cast_ofNat_Int, rg3_ok, rngC_len, fRv_l, Env.set.eq_1, T.data.eq_3, ad1.eq_1, ad1.eq_2, ad1.eq_3, ad2.eq_1, ad2.eq_2, ad3.eq_1, ad3.eq_2, ad3.eq_3, appA.eq_2, appA.eq_3, appP.eq_1, appP.eq_2, appT.eq_1, appT.eq_2, asDA.eq_1, asDA.eq_2, asDA.eq_4, asDA.eq_5, boxA.eq_1, boxA.eq_3, boxA.eq_4, calF.eq_1, calF.eq_2, calM.eq_1, calM.eq_2, calM.eq_3, cpL.eq_1, cpL.eq_2, cpT.eq_1, cpT.eq_2, cpT.eq_3, delA.eq_1, delA.eq_2, delA.eq_3, delA.eq_4, delA.eq_5, delA.eq_6, difA.eq_1, difA.eq_3, difA.eq_4, exDA.eq_1, exDA.eq_2, exDA.eq_3, extA.eq_1, extA.eq_2, extA.eq_3, extB.eq_1, extB.eq_2, extB.eq_3, extD.eq_1, extD.eq_2, extL.eq_1, extL.eq_2, extP.eq_1, extP.eq_2, faA.eq_1, faA.eq_2, faA.eq_3, faB.eq_1, faB.eq_2, faB2.eq_1, faC.eq_1, faD.eq_1, faD.eq_2, faE.eq_1, fldA.eq_1, fldA.eq_2, fldA.eq_3, fldB.eq_1, fldC.eq_1, fldC.eq_2, fldP.eq_1, fldP.eq_2, forJA.eq_1, forJA.eq_2, forJA.eq_3, forW.eq_1, forW.eq_2, fpA.eq_1, fpA.eq_2, fpA.eq_3, fpA1.eq_1, fpA1.eq_2, fpA2.eq_1, fpA2.eq_2, fpA2.eq_3, fpB.eq_1, fpB.eq_2, fpC.eq_1, fpD.eq_1, fpD.eq_2, fwA.eq_1, fwA.eq_2, fwA.eq_3, fwA.eq_4, fwA.eq_5, fwA.eq_6, fzA.eq_1, fzB.eq_1, fzB.eq_2, gQ.eq_1, gQ.eq_2, getR.eq_1, getR.eq_2, getT.eq_4, getT.eq_5, gsA.eq_1, gsA.eq_2, gsB.eq_1, gsB.eq_2, gsC.eq_1, iEnA.eq_1, iEnA.eq_2, iEnA.eq_3, iEnA.eq_4, iEnA.eq_6, iEnA.eq_7, iTA.eq_1, iTA.eq_2, iTA.eq_3, iTA.eq_4, iTA.eq_5, iTA.eq_6, iTA.eq_8, iTA.eq_9, iTp.eq_1, isBx.eq_1, isBx.eq_2, isBx.eq_3, isFix.eq_1, isFix.eq_2, itm.eq_1, itsP.eq_1, itsQ.eq_1, itsQ.eq_2, itsW.eq_1, itsW.eq_2, ixTA.eq_1, ixTA.eq_3, ixTA.eq_4, ixTB.eq_1, ixTB.eq_2, ixTC.eq_1, ixTC.eq_2, jsA.eq_1, jsA.eq_2, jsB.eq_1, jsB.eq_2, jsC.eq_1, jsD.eq_1, jsD.eq_2, lcC.eq_1, lcJA.eq_1, lcJA.eq_2, lcJA.eq_3, lsA.eq_1, lsA.eq_3, lsA.eq_4, lsB.eq_1, lsB.eq_2, lsC.eq_1, lsDA.eq_1, lsDA.eq_2, lsDA.eq_3, makA.eq_1, makA.eq_2, makA.eq_3, makB.eq_1, makB.eq_2, makC.eq_1, makC.eq_3, makC.eq_4, metA.eq_1, metA.eq_3, metA.eq_4, metB.eq_1, metC.eq_1, metC.eq_2, metC.eq_3, metD.eq_1, metD.eq_2, movA.eq_1, movB.eq_1, movB.eq_2, nnA.eq_1, nnA.eq_2, nnA.eq_3, nnB.eq_1, nnB.eq_2, noneW.eq_1, noneW.eq_2, noneW.eq_3, noneW.eq_4, noneW.eq_5, noneW.eq_6, ofA.eq_1, ofA.eq_2, ofA.eq_3, orE.eq_1, orE.eq_2, orE.eq_3, pixA.eq_2, pixA.eq_3, pixA2.eq_2, pixB.eq_2, pixC.eq_1, pixC.eq_2, pixP.eq_1, pixP.eq_2, plc.eq_1, plc.eq_2, popA.eq_1, popA.eq_2, popA.eq_3, popA0.eq_1, popA0.eq_2, popA0.eq_3, popA2.eq_1, popA2.eq_2, popB.eq_1, popB.eq_2, popD.eq_1, popD.eq_2, popE.eq_1, popE.eq_2, popL.eq_1, popL.eq_2, popZ.eq_1, popZ.eq_2, prpA.eq_1, prpA.eq_3, prpA.eq_4, prpB.eq_1, prpC.eq_1, putB.eq_2, putB.eq_3, putC.eq_2, putE.eq_1, putE.eq_2, putM.eq_1, putM.eq_2, putM.eq_3, putN.eq_1, putN.eq_2, putO.eq_1, putO2.eq_1, putO2.eq_2, putP.eq_1, putP.eq_2, putQ.eq_1, putR.eq_1, putR.eq_2, rdJ.eq_1, rdJ.eq_2, rdP.eq_1, rdP.eq_2, rdP.eq_3, rs1A.eq_1, rs1A.eq_2, rs1A.eq_3, rs1A.eq_4, rvA'.eq_1, rvA'.eq_2, rvA'.eq_3, rvB.eq_1, rvB.eq_2, rvC.eq_1, sQ.eq_1, sQ.eq_2, setR.eq_1, setR.eq_2, setT.eq_4, setT.eq_5, stO.eq_1, stO.eq_2, stO.eq_3, stO.eq_4, stO.eq_5, stO.eq_6, stb.eq_1, swpA.eq_1, swpA.eq_2, tpDA.eq_1, tpDA.eq_2, tpDA.eq_3, truA.eq_1, truA.eq_2, truA.eq_3, truB.eq_1, truB.eq_2, truD.eq_1, truD.eq_2, truD.eq_3, truD.eq_4, truD.eq_5, truD.eq_6, truP.eq_1, truP.eq_2, truT.eq_1, truT.eq_2, tyA.eq_1, wipeS.eq_1, wipeS.eq_2, ↓x_ad0, ↓x_ad1, ↓x_fld, ↓x_meth, ↓x_make, ↓x_prop, ↓x_box, ↓x_fldP, ↓x_fldA, ↓x_isN, ↓x_tru, ↓x_mov, ↓x_dif, ↓x_iT, ↓x_iEn, ↓x_forJ, ↓x_lcJ, ↓x_raise1, ↓x_tryA, ↓x_expD, ↓x_rvM, ↓x_frz, ↓x_lsT, ↓x_lstD, ↓x_tupD, ↓x_ixT, ↓x_asgD, ↓x_of, getE_q, setE_q, rdI_l, tyA_nx, tyA_rt, tyA_bk, tyA_ct, tyB_t, tyB_f, x_wh, rdP_l, rdP_o, rdP_k, rdP_m, truW_r, truW_p, lcE_ok, frz_nil, frz_d, frz_r, frz_l, cpL_r, gc_ne, gc_new, ofS_inj, q_lit, n_lit, lk_lit, in_nil, in_cons, ev_s, ev_i, fl_i, fl_s, fl_n, fl_b, in_l, in_t, q_nn, q_in, q_ni, n_nn, n_in, n_ni, q_bb, n_bb, isNone_n, isi_n, String.reduceEq, Option.bind_some, Option.bind_none, List.isEmpty_nil, List.isEmpty_cons, tgT_t, cpL_d, Option.toList_some, Option.toList_none, Int.add_zero, Int.zero_add, Int.sub_zero, Int.reduceMod, Int.reduceDiv, Nat.reduceMod, Nat.reduceDiv, beq_self_eq_true, Bool.true_beq, Bool.false_beq, bb_t, bb_f, ↓x_rd, rdA_r, rdA_p, rdA_v, rdA_l, rdA_er, wOf_r, wOf_t, wOf_d, or_true, true_or, or_false, false_or, and_false, false_and, not_true_eq_false, not_false_eq_true, and_self, or_self, evA_nil, evA_cons, evA_nc, evA_cn, ev_tt, ev_ll, ev_ii, ev_ss, ev_nn, ev_ni, ev_in, ev_ns, ev_sn, ev_bb, ixN_last, gc_lt, List.set_set, isB_b, notB_b, isB_i, notB_i, isB_n, notB_n, isB_l, notB_l, ↓x_pop, ↓x_pop0, ↓x_ext, ↓x_swp, forL_nil, forL_c, in_ti1, in_li1, in_ts1, in_ls1, in_ti2, in_li2, in_ts2, in_ls2, in_ti3, in_li3, in_ts3, in_ls3, in_ti4, in_li4, in_ts4, in_ls4, in_ti5, in_li5, in_ts5, in_ls5, in_ti6, in_li6, in_ts6, in_ls6, cz, cp0, cn0, Bool.false_xor, Bool.true_xor, Bool.xor_false, Bool.xor_true, Option.isNone_none, Option.isNone_some, Option.isSome_none, Option.isSome_some, itsW_p, itsW_r, popC_ok, extE_ok, is_bool_i, is_str_i, is_list_i, is_tuple_i, is_dict_i, is_int_b, is_str_b, is_list_b, is_tuple_b, is_dict_b, is_int_s, is_bool_s, is_list_s, is_tuple_s, is_dict_s, is_int_l, is_bool_l, is_str_l, is_tuple_l, is_dict_l, is_int_t, is_bool_t, is_str_t, is_list_t, is_dict_t, is_int_n, is_bool_n, is_str_n, is_list_n, is_tuple_n, is_dict_n, Option.join_some, Option.join_none, oD]
    have hlp : (pkL l2).length < 1000 := by rw [pkL_len]; omega
    have hks := n_self (pk_sh l2)
    have htk : ¬ v / 3 < 0 := by omega
    have h01 : ¬ 1 + v % 2 = 0 := by omega
    have key : ∃ y1 y2 y3 : Option T, forL (bdy (tgN 10) b_law_1) ((rngD 0 8).map T.d) ⟨[some (T.d (PyData.list (iL ns))), some (T.d (PyData.int (k : Int))), some (T.d (PyData.int n)), some (T.d (PyData.int v)), some (T.d (PyData.list (pkL l2))), some (T.d (PyData.int (t : Int))), some (T.d (PyData.list (pkL l2))), some (T.d (oD r3)), some (T.d (PyData.int (v / 3))), some (T.d (PyData.int 0)), a10, a11, a12], []⟩ = .nx ⟨[some (T.d (PyData.list (iL ns))), some (T.d (PyData.int (k : Int))), some (T.d (PyData.int n)), some (T.d (PyData.int v)), some (T.d (PyData.list (pkL l2))), some (T.d (PyData.int (t : Int))), some (T.d (PyData.list (pkL l2))), some (T.d (oD r3)), some (T.d (PyData.int (v / 3))), some (T.d (PyData.int 1)), y1, y2, y3], []⟩ := by
      obtain ⟨e', p1, y1, y2, y3, rfl⟩ := for_inv (bd := bdy (tgN 10) b_law_1) (xs := rngD 0 8) (e := ⟨[some (T.d (PyData.list (iL ns))), some (T.d (PyData.int (k : Int))), some (T.d (PyData.int n)), some (T.d (PyData.int v)), some (T.d (PyData.list (pkL l2))), some (T.d (PyData.int (t : Int))), some (T.d (PyData.list (pkL l2))), some (T.d (oD r3)), some (T.d (PyData.int (v / 3))), some (T.d (PyData.int 0)), a10, a11, a12], []⟩)
        (fun j e => ∃ y1 y2 y3 : Option T, e = ⟨[some (T.d (PyData.list (iL ns))), some (T.d (PyData.int (k : Int))), some (T.d (PyData.int n)), some (T.d (PyData.int v)), some (T.d (PyData.list (pkL l2))), some (T.d (PyData.int (t : Int))), some (T.d (PyData.list (pkL l2))), some (T.d (oD r3)), some (T.d (PyData.int (v / 3))), some (T.d (PyData.int (if v / 3 % 8 < (j : Int) then 1 else 0))), y1, y2, y3], []⟩)
        ⟨a10, a11, a12, by rw [if_neg (by omega)]⟩ (by
        rintro j x e hx ⟨y1, y2, y3, rfl⟩
        have hj := (rngD_get hx).1
        have hxe := (rngD_get hx).2
        subst hxe
        by_cases hjc : v / 3 % 8 = (j : Int)
        · have h5 : ¬ v / 3 % 8 < (j : Int) := by omega
          have h6 : v / 3 % 8 < ((j + 1 : Nat) : Int) := by omega
          rw [if_neg h5, if_pos h6]
          simp (disch := (first | with_reducible assumption | omega | (simp only [iL_len, rngD_len, rngC_len, List.length_append, List.length_replicate, List.length_cons, List.length_nil, List.length_map, List.length_take, List.length_drop, List.length_range, SZ] <;> omega) | (simp only [iL_len, rngD_len, rngC_len, List.length_append, List.length_replicate, List.length_cons, List.length_nil, List.length_map, List.length_take, List.length_drop, List.length_range, SZ] at * <;> omega) | fail)) only [↓x_seq, ↓x_nil, ↓x_if, ↓x_set, ↓x_setV, ↓x_asg, ↓x_exp, ↓x_ret, ↓x_retV, ↓x_retN, ↓x_brk, ↓x_cnt, ↓x_for, ↓x_bdy, ↓x_C, ↓x_var, ↓x_dvar, ↓x_v1, ↓x_v2, ↓x_d1L, ↓x_d2L, ↓x_and, ↓x_or, ↓x_not, ↓x_ifx, ↓x_args0, ↓x_args1, ↓x_tup, ↓x_lst, ↓x_call, ↓x_vD, ↓x_dV, ↓x_slP, ↓x_opt0, ↓x_opt1, ↓x_iP, ↓x_rg1, ↓x_rg2, ↓x_rg3, ↓x_en, ↓x_zp, ↓x_rv, ↓x_ch, ↓x_lc, ↓x_aug, ↓x_app, ↓x_put, ↓x_pix, ↓x_try, ↓x_rep, ↓x_raise0, y_sq, y_sif, y_retV, y_setV, y_toV, y_ofV, y_orw, y_and, y_or, y_not, y_v1, y_v2a, y_v2b, y_finW, y_calB, sq_nx, sq_rt, sq_bk, sq_ct, sq_er, sq_no, dataL_d, allD_d, fnD, SZ, List.getElem?_cons_zero, List.getElem?_cons_succ, List.getElem?_nil, List.set_cons_zero, List.set_cons_succ, List.map_cons, List.map_nil, List.length_cons, List.length_nil, List.length_map, List.length_append, List.cons_append, List.nil_append, List.append_nil, Nat.reduceAdd, Nat.reduceSub, Nat.zero_add, Nat.add_zero, Option.map_some, Option.map_none, Option.getD_some, Option.getD_none, Bool.false_eq_true, Bool.true_eq_false, Bool.and_false, Bool.false_and, Bool.and_true, Bool.true_and, Bool.or_false, Bool.false_or, Bool.or_true, Bool.true_or, Bool.not_true, Bool.not_false, if_true, if_false, ite_true, ite_false, decide_eq_true_eq, Bool.and_eq_true, Bool.or_eq_true, Bool.not_eq_true', decide_eq_false_iff_not, decide_true, decide_false, true_and, and_true, reduceCtorEq, Int.reduceNeg, Int.reduceLT, Int.reduceLE, Int.reduceToNat, Nat.reduceLeDiff, Int.reduceAbs, Int.reduceSub, Int.reduceAdd, Int.reduceMul, Int.reduceEq, Nat.reduceMul, Nat.reduceEqDiff, Nat.reduceLT, Nat.reducePow, Int.reducePow, ↓reduceIte, ite_not, sif.eq_1, sif.eq_3, sif.eq_4, andA.eq_1, andA.eq_3, andA.eq_4, orA.eq_1, orA.eq_3, orA.eq_4, notA.eq_1, notA.eq_3, notA.eq_4, ifA.eq_1, ifA.eq_3, ifA.eq_4, orw.eq_1, orw.eq_2, orw.eq_3, v1r.eq_1, v1r.eq_2, v1a.eq_1, v1a.eq_2, v1a.eq_3, v2a.eq_1, v2a.eq_2, v2a.eq_3, v2b.eq_1, v2b.eq_2, v2b.eq_3, dlr.eq_1, dlr.eq_2, d1a.eq_1, d1a.eq_2, d1a.eq_3, d2a.eq_1, d2a.eq_2, d2a.eq_3, d2b.eq_1, d2b.eq_2, d2b.eq_3, ar1.eq_1, ar1.eq_2, ar1.eq_3, ar1.eq_4, ar2.eq_1, ar2.eq_2, ar2.eq_3, tupA.eq_1, tupA.eq_2, tupA.eq_3, lstA.eq_1, lstA.eq_2, lstA.eq_3, calA.eq_1, calA.eq_2, calA.eq_3, calB.eq_1, calB.eq_2, calB.eq_3, wOf.eq_1, varV.eq_1, varR.eq_1, varR.eq_2, varD.eq_1, setA.eq_1, setA.eq_2, setA.eq_4, setA.eq_5, setVA.eq_1, setVA.eq_2, setVA.eq_3, setVA.eq_4, asgA.eq_1, asgA.eq_2, asgA.eq_3, asgA.eq_4, asgB.eq_1, asgB.eq_2, expA.eq_1, expA.eq_2, expA.eq_3, retA.eq_1, retA.eq_2, retA.eq_3, retVA.eq_1, retVA.eq_2, retVA.eq_3, retVA.eq_4, forA.eq_1, forA.eq_2, forA.eq_3, sl0.eq_1, sl0.eq_2, sl0.eq_3, sl1.eq_1, sl1.eq_2, sl2.eq_1, sl2.eq_2, sl3.eq_1, sl3.eq_2, optA.eq_1, bdyA.eq_1, bdyA.eq_2, iPA.eq_1, iPA.eq_2, iPA.eq_3, iPA.eq_5, iPA.eq_6, enA.eq_1, enA.eq_3, enA.eq_4, zpA.eq_1, zpA.eq_3, zpA.eq_4, rvA.eq_1, rvA.eq_3, rvA.eq_4, ch1.eq_1, ch1.eq_2, ch1.eq_3, ch2.eq_1, ch2.eq_2, ch2.eq_3, chA.eq_1, chB.eq_1, chB.eq_2, chB.eq_3, chC.eq_1, chC.eq_2, lc0.eq_2, lc0.eq_3, lcA.eq_1, lcA.eq_2, augA.eq_1, augB.eq_1, augB.eq_3, augB.eq_4, appA.eq_1, appB.eq_1, appB.eq_2, appB.eq_3, putA.eq_1, putA.eq_2, putA.eq_3, putA2.eq_1, putA2.eq_2, putB.eq_1, putC.eq_1, putD.eq_1, pixA.eq_1, pixA2.eq_1, pixB.eq_1, tryA.eq_1, tryB.eq_1, tryB.eq_2, tryB.eq_3, noEr.eq_1, repA.eq_1, repA2.eq_1, repA2.eq_2, repB.eq_1, rdT.eq_1, rdT.eq_2, toV.eq_1, toV.eq_2, toV.eq_3, toV.eq_4, toV.eq_5, toV.eq_6, ofV.eq_1, ofV.eq_2, ofV.eq_4, ofV.eq_5, tOf.eq_1, tOf.eq_2, isL.eq_1, getT.eq_1, getT.eq_2, getT.eq_3, setT.eq_1, setT.eq_2, setT.eq_3, T.data.eq_1, T.data.eq_2, finW.eq_1, finW.eq_2, finW.eq_3, finW.eq_4, finW.eq_6, tgS.eq_1, wipeE.eq_1, fAdd.eq_1, fAdd.eq_2, fI2.eq_1, fB2.eq_1, fU.eq_1, fLen.eq_1, fLen.eq_2, fLen.eq_3, fIx.eq_1, fIx.eq_2, fIx.eq_3, fIsN.eq_1, fNotN.eq_1, isNone.eq_1, fInt.eq_1, fInt.eq_2, fInt.eq_3, fLs.eq_1, fLs.eq_2, fTp.eq_1, fTp.eq_2, fSlP.eq_3, wOf_l, wOf_o, tryA_nx, tryA_rt, tryA_bk, tryA_ct, noEr_nx, noEr_rt, noEr_bk, noEr_ct, isNone_i, isNone_b, isNone_s, isNone_l, isNone_t, iL_app, iL_len, iL_rep, iL_rev, allD_iL, dataL_iL, q_int, q_t, q_l, n_t, n_l, n_int, q_self, n_self, s_to, s_from, s_mid, sl_to, sl_from, sl_mid, add_t, add_l, cat_l, isi_t, isi_b, isi_i, isi_l, isi_s, at_0, at_1, at_2, at_3, at_4, at_5, at_6, ai_0, ai_1, ai_2, ai_3, ai_4, ai_5, ai_6, tgN_a, tgT_a, apd_ok, lc_ok, rg1_ok, rg2_ok, iL_snoc, iL_mapd, lc_const, rngD_len, iL_take, iL_drop, Int.toNat_natCast, dataL_nil, dataL_cons, allD.eq_1, allD.eq_2, ixN_ok, rep_l, tgS_nil, rep_none, rep_none0, List.take_left, List.drop_left, any_false, all_true, eq_self, set_iL, at_last, List.drop_succ_cons, List.drop_zero, List.take_succ_cons, List.take_zero, List.getLast?_cons_cons, List.getLast?_singleton, Int.cast_ofNat_Int, rg3_ok, rngC_len, fRv_l, Env.set.eq_1, T.data.eq_3, ad1.eq_1, ad1.eq_2, ad1.eq_3, ad2.eq_1, ad2.eq_2, ad3.eq_1, ad3.eq_2, ad3.eq_3, appA.eq_2, appA.eq_3, appP.eq_1, appP.eq_2, appT.eq_1, appT.eq_2, asDA.eq_1, asDA.eq_2, asDA.eq_4, asDA.eq_5, boxA.eq_1, boxA.eq_3, boxA.eq_4, calF.eq_1, calF.eq_2, calM.eq_1, calM.eq_2, calM.eq_3, cpL.eq_1, cpL.eq_2, cpT.eq_1, cpT.eq_2, cpT.eq_3, delA.eq_1, delA.eq_2, delA.eq_3, delA.eq_4, delA.eq_5, delA.eq_6, difA.eq_1, difA.eq_3, difA.eq_4, exDA.eq_1, exDA.eq_2, exDA.eq_3, extA.eq_1, extA.eq_2, extA.eq_3, extB.eq_1, extB.eq_2, extB.eq_3, extD.eq_1, extD.eq_2, extL.eq_1, extL.eq_2, extP.eq_1, extP.eq_2, faA.eq_1, faA.eq_2, faA.eq_3, faB.eq_1, faB.eq_2, faB2.eq_1, faC.eq_1, faD.eq_1, faD.eq_2, faE.eq_1, fldA.eq_1, fldA.eq_2, fldA.eq_3, fldB.eq_1, fldC.eq_1, fldC.eq_2, fldP.eq_1, fldP.eq_2, forJA.eq_1, forJA.eq_2, forJA.eq_3, forW.eq_1, forW.eq_2, fpA.eq_1, fpA.eq_2, fpA.eq_3, fpA1.eq_1, fpA1.eq_2, fpA2.eq_1, fpA2.eq_2, fpA2.eq_3, fpB.eq_1, fpB.eq_2, fpC.eq_1, fpD.eq_1, fpD.eq_2, fwA.eq_1, fwA.eq_2, fwA.eq_3, fwA.eq_4, fwA.eq_5, fwA.eq_6, fzA.eq_1, fzB.eq_1, fzB.eq_2, gQ.eq_1, gQ.eq_2, getR.eq_1, getR.eq_2, getT.eq_4, getT.eq_5, gsA.eq_1, gsA.eq_2, gsB.eq_1, gsB.eq_2, gsC.eq_1, iEnA.eq_1, iEnA.eq_2, iEnA.eq_3, iEnA.eq_4, iEnA.eq_6, iEnA.eq_7, iTA.eq_1, iTA.eq_2, iTA.eq_3, iTA.eq_4, iTA.eq_5, iTA.eq_6, iTA.eq_8, iTA.eq_9, iTp.eq_1, isBx.eq_1, isBx.eq_2, isBx.eq_3, isFix.eq_1, isFix.eq_2, itm.eq_1, itsP.eq_1, itsQ.eq_1, itsQ.eq_2, itsW.eq_1, itsW.eq_2, ixTA.eq_1, ixTA.eq_3, ixTA.eq_4, ixTB.eq_1, ixTB.eq_2, ixTC.eq_1, ixTC.eq_2, jsA.eq_1, jsA.eq_2, jsB.eq_1, jsB.eq_2, jsC.eq_1, jsD.eq_1, jsD.eq_2, lcC.eq_1, lcJA.eq_1, lcJA.eq_2, lcJA.eq_3, lsA.eq_1, lsA.eq_3, lsA.eq_4, lsB.eq_1, lsB.eq_2, lsC.eq_1, lsDA.eq_1, lsDA.eq_2, lsDA.eq_3, makA.eq_1, makA.eq_2, makA.eq_3, makB.eq_1, makB.eq_2, makC.eq_1, makC.eq_3, makC.eq_4, metA.eq_1, metA.eq_3, metA.eq_4, metB.eq_1, metC.eq_1, metC.eq_2, metC.eq_3, metD.eq_1, metD.eq_2, movA.eq_1, movB.eq_1, movB.eq_2, nnA.eq_1, nnA.eq_2, nnA.eq_3, nnB.eq_1, nnB.eq_2, noneW.eq_1, noneW.eq_2, noneW.eq_3, noneW.eq_4, noneW.eq_5, noneW.eq_6, ofA.eq_1, ofA.eq_2, ofA.eq_3, orE.eq_1, orE.eq_2, orE.eq_3, pixA.eq_2, pixA.eq_3, pixA2.eq_2, pixB.eq_2, pixC.eq_1, pixC.eq_2, pixP.eq_1, pixP.eq_2, plc.eq_1, plc.eq_2, popA.eq_1, popA.eq_2, popA.eq_3, popA0.eq_1, popA0.eq_2, popA0.eq_3, popA2.eq_1, popA2.eq_2, popB.eq_1, popB.eq_2, popD.eq_1, popD.eq_2, popE.eq_1, popE.eq_2, popL.eq_1, popL.eq_2, popZ.eq_1, popZ.eq_2, prpA.eq_1, prpA.eq_3, prpA.eq_4, prpB.eq_1, prpC.eq_1, putB.eq_2, putB.eq_3, putC.eq_2, putE.eq_1, putE.eq_2, putM.eq_1, putM.eq_2, putM.eq_3, putN.eq_1, putN.eq_2, putO.eq_1, putO2.eq_1, putO2.eq_2, putP.eq_1, putP.eq_2, putQ.eq_1, putR.eq_1, putR.eq_2, rdJ.eq_1, rdJ.eq_2, rdP.eq_1, rdP.eq_2, rdP.eq_3, rs1A.eq_1, rs1A.eq_2, rs1A.eq_3, rs1A.eq_4, rvA'.eq_1, rvA'.eq_2, rvA'.eq_3, rvB.eq_1, rvB.eq_2, rvC.eq_1, sQ.eq_1, sQ.eq_2, setR.eq_1, setR.eq_2, setT.eq_4, setT.eq_5, stO.eq_1, stO.eq_2, stO.eq_3, stO.eq_4, stO.eq_5, stO.eq_6, stb.eq_1, swpA.eq_1, swpA.eq_2, tpDA.eq_1, tpDA.eq_2, tpDA.eq_3, truA.eq_1, truA.eq_2, truA.eq_3, truB.eq_1, truB.eq_2, truD.eq_1, truD.eq_2, truD.eq_3, truD.eq_4, truD.eq_5, truD.eq_6, truP.eq_1, truP.eq_2, truT.eq_1, truT.eq_2, tyA.eq_1, wipeS.eq_1, wipeS.eq_2, ↓x_ad0, ↓x_ad1, ↓x_fld, ↓x_meth, ↓x_make, ↓x_prop, ↓x_box, ↓x_fldP, ↓x_fldA, ↓x_isN, ↓x_tru, ↓x_mov, ↓x_dif, ↓x_iT, ↓x_iEn, ↓x_forJ, ↓x_lcJ, ↓x_raise1, ↓x_tryA, ↓x_expD, ↓x_rvM, ↓x_frz, ↓x_lsT, ↓x_lstD, ↓x_tupD, ↓x_ixT, ↓x_asgD, ↓x_of, getE_q, setE_q, rdI_l, tyA_nx, tyA_rt, tyA_bk, tyA_ct, tyB_t, tyB_f, x_wh, rdP_l, rdP_o, rdP_k, rdP_m, truW_r, truW_p, lcE_ok, frz_nil, frz_d, frz_r, frz_l, cpL_r, gc_ne, gc_new, ofS_inj, q_lit, n_lit, lk_lit, in_nil, in_cons, ev_s, ev_i, fl_i, fl_s, fl_n, fl_b, in_l, in_t, q_nn, q_in, q_ni, n_nn, n_in, n_ni, q_bb, n_bb, isNone_n, isi_n, String.reduceEq, Option.bind_some, Option.bind_none, List.isEmpty_nil, List.isEmpty_cons, tgT_t, cpL_d, Option.toList_some, Option.toList_none, Int.add_zero, Int.zero_add, Int.sub_zero, Int.reduceMod, Int.reduceDiv, Nat.reduceMod, Nat.reduceDiv, beq_self_eq_true, Bool.true_beq, Bool.false_beq, bb_t, bb_f, ↓x_rd, rdA_r, rdA_p, rdA_v, rdA_l, rdA_er, wOf_r, wOf_t, wOf_d, or_true, true_or, or_false, false_or, and_false, false_and, not_true_eq_false, not_false_eq_true, and_self, or_self, evA_nil, evA_cons, evA_nc, evA_cn, ev_tt, ev_ll, ev_ii, ev_ss, ev_nn, ev_ni, ev_in, ev_ns, ev_sn, ev_bb, ixN_last, gc_lt, List.set_set, isB_b, notB_b, isB_i, notB_i, isB_n, notB_n, isB_l, notB_l, ↓x_pop, ↓x_pop0, ↓x_ext, ↓x_swp, forL_nil, forL_c, in_ti1, in_li1, in_ts1, in_ls1, in_ti2, in_li2, in_ts2, in_ls2, in_ti3, in_li3, in_ts3, in_ls3, in_ti4, in_li4, in_ts4, in_ls4, in_ti5, in_li5, in_ts5, in_ls5, in_ti6, in_li6, in_ts6, in_ls6, cz, cp0, cn0, Bool.false_xor, Bool.true_xor, Bool.xor_false, Bool.xor_true, Option.isNone_none, Option.isNone_some, Option.isSome_none, Option.isSome_some, itsW_p, itsW_r, popC_ok, extE_ok, is_bool_i, is_str_i, is_list_i, is_tuple_i, is_dict_i, is_int_b, is_str_b, is_list_b, is_tuple_b, is_dict_b, is_int_s, is_bool_s, is_list_s, is_tuple_s, is_dict_s, is_int_l, is_bool_l, is_str_l, is_tuple_l, is_dict_l, is_int_t, is_bool_t, is_str_t, is_list_t, is_dict_t, is_int_n, is_bool_n, is_str_n, is_list_n, is_tuple_n, is_dict_n, Option.join_some, Option.join_none, b_law_1, may_ok, h01, hjc]
          exact ⟨_, rfl, _, _, _, rfl⟩
        · have h7 : (if v / 3 % 8 < ((j + 1 : Nat) : Int) then (1 : Int) else 0) = if v / 3 % 8 < (j : Int) then 1 else 0 := by
            by_cases h8 : v / 3 % 8 < (j : Int)
            · rw [if_pos h8, if_pos (by omega)]
            · rw [if_neg h8, if_neg (by omega)]
          rw [h7]
          simp (disch := (first | with_reducible assumption | omega | (simp only [iL_len, rngD_len, rngC_len, List.length_append, List.length_replicate, List.length_cons, List.length_nil, List.length_map, List.length_take, List.length_drop, List.length_range, SZ] <;> omega) | (simp only [iL_len, rngD_len, rngC_len, List.length_append, List.length_replicate, List.length_cons, List.length_nil, List.length_map, List.length_take, List.length_drop, List.length_range, SZ] at * <;> omega) | fail)) only [↓x_seq, ↓x_nil, ↓x_if, ↓x_set, ↓x_setV, ↓x_asg, ↓x_exp, ↓x_ret, ↓x_retV, ↓x_retN, ↓x_brk, ↓x_cnt, ↓x_for, ↓x_bdy, ↓x_C, ↓x_var, ↓x_dvar, ↓x_v1, ↓x_v2, ↓x_d1L, ↓x_d2L, ↓x_and, ↓x_or, ↓x_not, ↓x_ifx, ↓x_args0, ↓x_args1, ↓x_tup, ↓x_lst, ↓x_call, ↓x_vD, ↓x_dV, ↓x_slP, ↓x_opt0, ↓x_opt1, ↓x_iP, ↓x_rg1, ↓x_rg2, ↓x_rg3, ↓x_en, ↓x_zp, ↓x_rv, ↓x_ch, ↓x_lc, ↓x_aug, ↓x_app, ↓x_put, ↓x_pix, ↓x_try, ↓x_rep, ↓x_raise0, y_sq, y_sif, y_retV, y_setV, y_toV, y_ofV, y_orw, y_and, y_or, y_not, y_v1, y_v2a, y_v2b, y_finW, y_calB, sq_nx, sq_rt, sq_bk, sq_ct, sq_er, sq_no, dataL_d, allD_d, fnD, SZ, List.getElem?_cons_zero, List.getElem?_cons_succ, List.getElem?_nil, List.set_cons_zero, List.set_cons_succ, List.map_cons, List.map_nil, List.length_cons, List.length_nil, List.length_map, List.length_append, List.cons_append, List.nil_append, List.append_nil, Nat.reduceAdd, Nat.reduceSub, Nat.zero_add, Nat.add_zero, Option.map_some, Option.map_none, Option.getD_some, Option.getD_none, Bool.false_eq_true, Bool.true_eq_false, Bool.and_false, Bool.false_and, Bool.and_true, Bool.true_and, Bool.or_false, Bool.false_or, Bool.or_true, Bool.true_or, Bool.not_true, Bool.not_false, if_true, if_false, ite_true, ite_false, decide_eq_true_eq, Bool.and_eq_true, Bool.or_eq_true, Bool.not_eq_true', decide_eq_false_iff_not, decide_true, decide_false, true_and, and_true, reduceCtorEq, Int.reduceNeg, Int.reduceLT, Int.reduceLE, Int.reduceToNat, Nat.reduceLeDiff, Int.reduceAbs, Int.reduceSub, Int.reduceAdd, Int.reduceMul, Int.reduceEq, Nat.reduceMul, Nat.reduceEqDiff, Nat.reduceLT, Nat.reducePow, Int.reducePow, ↓reduceIte, ite_not, sif.eq_1, sif.eq_3, sif.eq_4, andA.eq_1, andA.eq_3, andA.eq_4, orA.eq_1, orA.eq_3, orA.eq_4, notA.eq_1, notA.eq_3, notA.eq_4, ifA.eq_1, ifA.eq_3, ifA.eq_4, orw.eq_1, orw.eq_2, orw.eq_3, v1r.eq_1, v1r.eq_2, v1a.eq_1, v1a.eq_2, v1a.eq_3, v2a.eq_1, v2a.eq_2, v2a.eq_3, v2b.eq_1, v2b.eq_2, v2b.eq_3, dlr.eq_1, dlr.eq_2, d1a.eq_1, d1a.eq_2, d1a.eq_3, d2a.eq_1, d2a.eq_2, d2a.eq_3, d2b.eq_1, d2b.eq_2, d2b.eq_3, ar1.eq_1, ar1.eq_2, ar1.eq_3, ar1.eq_4, ar2.eq_1, ar2.eq_2, ar2.eq_3, tupA.eq_1, tupA.eq_2, tupA.eq_3, lstA.eq_1, lstA.eq_2, lstA.eq_3, calA.eq_1, calA.eq_2, calA.eq_3, calB.eq_1, calB.eq_2, calB.eq_3, wOf.eq_1, varV.eq_1, varR.eq_1, varR.eq_2, varD.eq_1, setA.eq_1, setA.eq_2, setA.eq_4, setA.eq_5, setVA.eq_1, setVA.eq_2, setVA.eq_3, setVA.eq_4, asgA.eq_1, asgA.eq_2, asgA.eq_3, asgA.eq_4, asgB.eq_1, asgB.eq_2, expA.eq_1, expA.eq_2, expA.eq_3, retA.eq_1, retA.eq_2, retA.eq_3, retVA.eq_1, retVA.eq_2, retVA.eq_3, retVA.eq_4, forA.eq_1, forA.eq_2, forA.eq_3, sl0.eq_1, sl0.eq_2, sl0.eq_3, sl1.eq_1, sl1.eq_2, sl2.eq_1, sl2.eq_2, sl3.eq_1, sl3.eq_2, optA.eq_1, bdyA.eq_1, bdyA.eq_2, iPA.eq_1, iPA.eq_2, iPA.eq_3, iPA.eq_5, iPA.eq_6, enA.eq_1, enA.eq_3, enA.eq_4, zpA.eq_1, zpA.eq_3, zpA.eq_4, rvA.eq_1, rvA.eq_3, rvA.eq_4, ch1.eq_1, ch1.eq_2, ch1.eq_3, ch2.eq_1, ch2.eq_2, ch2.eq_3, chA.eq_1, chB.eq_1, chB.eq_2, chB.eq_3, chC.eq_1, chC.eq_2, lc0.eq_2, lc0.eq_3, lcA.eq_1, lcA.eq_2, augA.eq_1, augB.eq_1, augB.eq_3, augB.eq_4, appA.eq_1, appB.eq_1, appB.eq_2, appB.eq_3, putA.eq_1, putA.eq_2, putA.eq_3, putA2.eq_1, putA2.eq_2, putB.eq_1, putC.eq_1, putD.eq_1, pixA.eq_1, pixA2.eq_1, pixB.eq_1, tryA.eq_1, tryB.eq_1, tryB.eq_2, tryB.eq_3, noEr.eq_1, repA.eq_1, repA2.eq_1, repA2.eq_2, repB.eq_1, rdT.eq_1, rdT.eq_2, toV.eq_1, toV.eq_2, toV.eq_3, toV.eq_4, toV.eq_5, toV.eq_6, ofV.eq_1, ofV.eq_2, ofV.eq_4, ofV.eq_5, tOf.eq_1, tOf.eq_2, isL.eq_1, getT.eq_1, getT.eq_2, getT.eq_3, setT.eq_1, setT.eq_2, setT.eq_3, T.data.eq_1, T.data.eq_2, finW.eq_1, finW.eq_2, finW.eq_3, finW.eq_4, finW.eq_6, tgS.eq_1, wipeE.eq_1, fAdd.eq_1, fAdd.eq_2, fI2.eq_1, fB2.eq_1, fU.eq_1, fLen.eq_1, fLen.eq_2, fLen.eq_3, fIx.eq_1, fIx.eq_2, fIx.eq_3, fIsN.eq_1, fNotN.eq_1, isNone.eq_1, fInt.eq_1, fInt.eq_2, fInt.eq_3, fLs.eq_1, fLs.eq_2, fTp.eq_1, fTp.eq_2, fSlP.eq_3, wOf_l, wOf_o, tryA_nx, tryA_rt, tryA_bk, tryA_ct, noEr_nx, noEr_rt, noEr_bk, noEr_ct, isNone_i, isNone_b, isNone_s, isNone_l, isNone_t, iL_app, iL_len, iL_rep, iL_rev, allD_iL, dataL_iL, q_int, q_t, q_l, n_t, n_l, n_int, q_self, n_self, s_to, s_from, s_mid, sl_to, sl_from, sl_mid, add_t, add_l, cat_l, isi_t, isi_b, isi_i, isi_l, isi_s, at_0, at_1, at_2, at_3, at_4, at_5, at_6, ai_0, ai_1, ai_2, ai_3, ai_4, ai_5, ai_6, tgN_a, tgT_a, apd_ok, lc_ok, rg1_ok, rg2_ok, iL_snoc, iL_mapd, lc_const, rngD_len, iL_take, iL_drop, Int.toNat_natCast, dataL_nil, dataL_cons, allD.eq_1, allD.eq_2, ixN_ok, rep_l, tgS_nil, rep_none, rep_none0, List.take_left, List.drop_left, any_false, all_true, eq_self, set_iL, at_last, List.drop_succ_cons, List.drop_zero, List.take_succ_cons, List.take_zero, List.getLast?_cons_cons, List.getLast?_singleton, Int.cast_ofNat_Int, rg3_ok, rngC_len, fRv_l, Env.set.eq_1, T.data.eq_3, ad1.eq_1, ad1.eq_2, ad1.eq_3, ad2.eq_1, ad2.eq_2, ad3.eq_1, ad3.eq_2, ad3.eq_3, appA.eq_2, appA.eq_3, appP.eq_1, appP.eq_2, appT.eq_1, appT.eq_2, asDA.eq_1, asDA.eq_2, asDA.eq_4, asDA.eq_5, boxA.eq_1, boxA.eq_3, boxA.eq_4, calF.eq_1, calF.eq_2, calM.eq_1, calM.eq_2, calM.eq_3, cpL.eq_1, cpL.eq_2, cpT.eq_1, cpT.eq_2, cpT.eq_3, delA.eq_1, delA.eq_2, delA.eq_3, delA.eq_4, delA.eq_5, delA.eq_6, difA.eq_1, difA.eq_3, difA.eq_4, exDA.eq_1, exDA.eq_2, exDA.eq_3, extA.eq_1, extA.eq_2, extA.eq_3, extB.eq_1, extB.eq_2, extB.eq_3, extD.eq_1, extD.eq_2, extL.eq_1, extL.eq_2, extP.eq_1, extP.eq_2, faA.eq_1, faA.eq_2, faA.eq_3, faB.eq_1, faB.eq_2, faB2.eq_1, faC.eq_1, faD.eq_1, faD.eq_2, faE.eq_1, fldA.eq_1, fldA.eq_2, fldA.eq_3, fldB.eq_1, fldC.eq_1, fldC.eq_2, fldP.eq_1, fldP.eq_2, forJA.eq_1, forJA.eq_2, forJA.eq_3, forW.eq_1, forW.eq_2, fpA.eq_1, fpA.eq_2, fpA.eq_3, fpA1.eq_1, fpA1.eq_2, fpA2.eq_1, fpA2.eq_2, fpA2.eq_3, fpB.eq_1, fpB.eq_2, fpC.eq_1, fpD.eq_1, fpD.eq_2, fwA.eq_1, fwA.eq_2, fwA.eq_3, fwA.eq_4, fwA.eq_5, fwA.eq_6, fzA.eq_1, fzB.eq_1, fzB.eq_2, gQ.eq_1, gQ.eq_2, getR.eq_1, getR.eq_2, getT.eq_4, getT.eq_5, gsA.eq_1, gsA.eq_2, gsB.eq_1, gsB.eq_2, gsC.eq_1, iEnA.eq_1, iEnA.eq_2, iEnA.eq_3, iEnA.eq_4, iEnA.eq_6, iEnA.eq_7, iTA.eq_1, iTA.eq_2, iTA.eq_3, iTA.eq_4, iTA.eq_5, iTA.eq_6, iTA.eq_8, iTA.eq_9, iTp.eq_1, isBx.eq_1, isBx.eq_2, isBx.eq_3, isFix.eq_1, isFix.eq_2, itm.eq_1, itsP.eq_1, itsQ.eq_1, itsQ.eq_2, itsW.eq_1, itsW.eq_2, ixTA.eq_1, ixTA.eq_3, ixTA.eq_4, ixTB.eq_1, ixTB.eq_2, ixTC.eq_1, ixTC.eq_2, jsA.eq_1, jsA.eq_2, jsB.eq_1, jsB.eq_2, jsC.eq_1, jsD.eq_1, jsD.eq_2, lcC.eq_1, lcJA.eq_1, lcJA.eq_2, lcJA.eq_3, lsA.eq_1, lsA.eq_3, lsA.eq_4, lsB.eq_1, lsB.eq_2, lsC.eq_1, lsDA.eq_1, lsDA.eq_2, lsDA.eq_3, makA.eq_1, makA.eq_2, makA.eq_3, makB.eq_1, makB.eq_2, makC.eq_1, makC.eq_3, makC.eq_4, metA.eq_1, metA.eq_3, metA.eq_4, metB.eq_1, metC.eq_1, metC.eq_2, metC.eq_3, metD.eq_1, metD.eq_2, movA.eq_1, movB.eq_1, movB.eq_2, nnA.eq_1, nnA.eq_2, nnA.eq_3, nnB.eq_1, nnB.eq_2, noneW.eq_1, noneW.eq_2, noneW.eq_3, noneW.eq_4, noneW.eq_5, noneW.eq_6, ofA.eq_1, ofA.eq_2, ofA.eq_3, orE.eq_1, orE.eq_2, orE.eq_3, pixA.eq_2, pixA.eq_3, pixA2.eq_2, pixB.eq_2, pixC.eq_1, pixC.eq_2, pixP.eq_1, pixP.eq_2, plc.eq_1, plc.eq_2, popA.eq_1, popA.eq_2, popA.eq_3, popA0.eq_1, popA0.eq_2, popA0.eq_3, popA2.eq_1, popA2.eq_2, popB.eq_1, popB.eq_2, popD.eq_1, popD.eq_2, popE.eq_1, popE.eq_2, popL.eq_1, popL.eq_2, popZ.eq_1, popZ.eq_2, prpA.eq_1, prpA.eq_3, prpA.eq_4, prpB.eq_1, prpC.eq_1, putB.eq_2, putB.eq_3, putC.eq_2, putE.eq_1, putE.eq_2, putM.eq_1, putM.eq_2, putM.eq_3, putN.eq_1, putN.eq_2, putO.eq_1, putO2.eq_1, putO2.eq_2, putP.eq_1, putP.eq_2, putQ.eq_1, putR.eq_1, putR.eq_2, rdJ.eq_1, rdJ.eq_2, rdP.eq_1, rdP.eq_2, rdP.eq_3, rs1A.eq_1, rs1A.eq_2, rs1A.eq_3, rs1A.eq_4, rvA'.eq_1, rvA'.eq_2, rvA'.eq_3, rvB.eq_1, rvB.eq_2, rvC.eq_1, sQ.eq_1, sQ.eq_2, setR.eq_1, setR.eq_2, setT.eq_4, setT.eq_5, stO.eq_1, stO.eq_2, stO.eq_3, stO.eq_4, stO.eq_5, stO.eq_6, stb.eq_1, swpA.eq_1, swpA.eq_2, tpDA.eq_1, tpDA.eq_2, tpDA.eq_3, truA.eq_1, truA.eq_2, truA.eq_3, truB.eq_1, truB.eq_2, truD.eq_1, truD.eq_2, truD.eq_3, truD.eq_4, truD.eq_5, truD.eq_6, truP.eq_1, truP.eq_2, truT.eq_1, truT.eq_2, tyA.eq_1, wipeS.eq_1, wipeS.eq_2, ↓x_ad0, ↓x_ad1, ↓x_fld, ↓x_meth, ↓x_make, ↓x_prop, ↓x_box, ↓x_fldP, ↓x_fldA, ↓x_isN, ↓x_tru, ↓x_mov, ↓x_dif, ↓x_iT, ↓x_iEn, ↓x_forJ, ↓x_lcJ, ↓x_raise1, ↓x_tryA, ↓x_expD, ↓x_rvM, ↓x_frz, ↓x_lsT, ↓x_lstD, ↓x_tupD, ↓x_ixT, ↓x_asgD, ↓x_of, getE_q, setE_q, rdI_l, tyA_nx, tyA_rt, tyA_bk, tyA_ct, tyB_t, tyB_f, x_wh, rdP_l, rdP_o, rdP_k, rdP_m, truW_r, truW_p, lcE_ok, frz_nil, frz_d, frz_r, frz_l, cpL_r, gc_ne, gc_new, ofS_inj, q_lit, n_lit, lk_lit, in_nil, in_cons, ev_s, ev_i, fl_i, fl_s, fl_n, fl_b, in_l, in_t, q_nn, q_in, q_ni, n_nn, n_in, n_ni, q_bb, n_bb, isNone_n, isi_n, String.reduceEq, Option.bind_some, Option.bind_none, List.isEmpty_nil, List.isEmpty_cons, tgT_t, cpL_d, Option.toList_some, Option.toList_none, Int.add_zero, Int.zero_add, Int.sub_zero, Int.reduceMod, Int.reduceDiv, Nat.reduceMod, Nat.reduceDiv, beq_self_eq_true, Bool.true_beq, Bool.false_beq, bb_t, bb_f, ↓x_rd, rdA_r, rdA_p, rdA_v, rdA_l, rdA_er, wOf_r, wOf_t, wOf_d, or_true, true_or, or_false, false_or, and_false, false_and, not_true_eq_false, not_false_eq_true, and_self, or_self, evA_nil, evA_cons, evA_nc, evA_cn, ev_tt, ev_ll, ev_ii, ev_ss, ev_nn, ev_ni, ev_in, ev_ns, ev_sn, ev_bb, ixN_last, gc_lt, List.set_set, isB_b, notB_b, isB_i, notB_i, isB_n, notB_n, isB_l, notB_l, ↓x_pop, ↓x_pop0, ↓x_ext, ↓x_swp, forL_nil, forL_c, in_ti1, in_li1, in_ts1, in_ls1, in_ti2, in_li2, in_ts2, in_ls2, in_ti3, in_li3, in_ts3, in_ls3, in_ti4, in_li4, in_ts4, in_ls4, in_ti5, in_li5, in_ts5, in_ls5, in_ti6, in_li6, in_ts6, in_ls6, cz, cp0, cn0, Bool.false_xor, Bool.true_xor, Bool.xor_false, Bool.xor_true, Option.isNone_none, Option.isNone_some, Option.isSome_none, Option.isSome_some, itsW_p, itsW_r, popC_ok, extE_ok, is_bool_i, is_str_i, is_list_i, is_tuple_i, is_dict_i, is_int_b, is_str_b, is_list_b, is_tuple_b, is_dict_b, is_int_s, is_bool_s, is_list_s, is_tuple_s, is_dict_s, is_int_l, is_bool_l, is_str_l, is_tuple_l, is_dict_l, is_int_t, is_bool_t, is_str_t, is_list_t, is_dict_t, is_int_n, is_bool_n, is_str_n, is_list_n, is_tuple_n, is_dict_n, Option.join_some, Option.join_none, b_law_1, may_ok, h01, hjc]
          exact ⟨_, rfl, _, _, _, rfl⟩)
      rw [rngD_len, if_pos (by omega)] at p1
      exact ⟨y1, y2, y3, p1⟩
    obtain ⟨y1, y2, y3, hkey⟩ := key
    subst ho
    simp (disch := (first | with_reducible assumption | omega | (simp only [iL_len, rngD_len, rngC_len, List.length_append, List.length_replicate, List.length_cons, List.length_nil, List.length_map, List.length_take, List.length_drop, List.length_range, SZ] <;> omega) | (simp only [iL_len, rngD_len, rngC_len, List.length_append, List.length_replicate, List.length_cons, List.length_nil, List.length_map, List.length_take, List.length_drop, List.length_range, SZ] at * <;> omega) | fail)) only [↓x_seq, ↓x_nil, ↓x_if, ↓x_set, ↓x_setV, ↓x_asg, ↓x_exp, ↓x_ret, ↓x_retV, ↓x_retN, ↓x_brk, ↓x_cnt, ↓x_for, ↓x_bdy, ↓x_C, ↓x_var, ↓x_dvar, ↓x_v1, ↓x_v2, ↓x_d1L, ↓x_d2L, ↓x_and, ↓x_or, ↓x_not, ↓x_ifx, ↓x_args0, ↓x_args1, ↓x_tup, ↓x_lst, ↓x_call, ↓x_vD, ↓x_dV, ↓x_slP, ↓x_opt0, ↓x_opt1, ↓x_iP, ↓x_rg1, ↓x_rg2, ↓x_rg3, ↓x_en, ↓x_zp, ↓x_rv, ↓x_ch, ↓x_lc, ↓x_aug, ↓x_app, ↓x_put, ↓x_pix, ↓x_try, ↓x_rep, ↓x_raise0, y_sq, y_sif, y_retV, y_setV, y_toV, y_ofV, y_orw, y_and, y_or, y_not, y_v1, y_v2a, y_v2b, y_finW, y_calB, sq_nx, sq_rt, sq_bk, sq_ct, sq_er, sq_no, dataL_d, allD_d, fnD, SZ, List.getElem?_cons_zero, List.getElem?_cons_succ, List.getElem?_nil, List.set_cons_zero, List.set_cons_succ, List.map_cons, List.map_nil, List.length_cons, List.length_nil, List.length_map, List.length_append, List.cons_append, List.nil_append, List.append_nil, Nat.reduceAdd, Nat.reduceSub, Nat.zero_add, Nat.add_zero, Option.map_some, Option.map_none, Option.getD_some, Option.getD_none, Bool.false_eq_true, Bool.true_eq_false, Bool.and_false, Bool.false_and, Bool.and_true, Bool.true_and, Bool.or_false, Bool.false_or, Bool.or_true, Bool.true_or, Bool.not_true, Bool.not_false, if_true, if_false, ite_true, ite_false, decide_eq_true_eq, Bool.and_eq_true, Bool.or_eq_true, Bool.not_eq_true', decide_eq_false_iff_not, decide_true, decide_false, true_and, and_true, reduceCtorEq, Int.reduceNeg, Int.reduceLT, Int.reduceLE, Int.reduceToNat, Nat.reduceLeDiff, Int.reduceAbs, Int.reduceSub, Int.reduceAdd, Int.reduceMul, Int.reduceEq, Nat.reduceMul, Nat.reduceEqDiff, Nat.reduceLT, Nat.reducePow, Int.reducePow, ↓reduceIte, ite_not, sif.eq_1, sif.eq_3, sif.eq_4, andA.eq_1, andA.eq_3, andA.eq_4, orA.eq_1, orA.eq_3, orA.eq_4, notA.eq_1, notA.eq_3, notA.eq_4, ifA.eq_1, ifA.eq_3, ifA.eq_4, orw.eq_1, orw.eq_2, orw.eq_3, v1r.eq_1, v1r.eq_2, v1a.eq_1, v1a.eq_2, v1a.eq_3, v2a.eq_1, v2a.eq_2, v2a.eq_3, v2b.eq_1, v2b.eq_2, v2b.eq_3, dlr.eq_1, dlr.eq_2, d1a.eq_1, d1a.eq_2, d1a.eq_3, d2a.eq_1, d2a.eq_2, d2a.eq_3, d2b.eq_1, d2b.eq_2, d2b.eq_3, ar1.eq_1, ar1.eq_2, ar1.eq_3, ar1.eq_4, ar2.eq_1, ar2.eq_2, ar2.eq_3, tupA.eq_1, tupA.eq_2, tupA.eq_3, lstA.eq_1, lstA.eq_2, lstA.eq_3, calA.eq_1, calA.eq_2, calA.eq_3, calB.eq_1, calB.eq_2, calB.eq_3, wOf.eq_1, varV.eq_1, varR.eq_1, varR.eq_2, varD.eq_1, setA.eq_1, setA.eq_2, setA.eq_4, setA.eq_5, setVA.eq_1, setVA.eq_2, setVA.eq_3, setVA.eq_4, asgA.eq_1, asgA.eq_2, asgA.eq_3, asgA.eq_4, asgB.eq_1, asgB.eq_2, expA.eq_1, expA.eq_2, expA.eq_3, retA.eq_1, retA.eq_2, retA.eq_3, retVA.eq_1, retVA.eq_2, retVA.eq_3, retVA.eq_4, forA.eq_1, forA.eq_2, forA.eq_3, sl0.eq_1, sl0.eq_2, sl0.eq_3, sl1.eq_1, sl1.eq_2, sl2.eq_1, sl2.eq_2, sl3.eq_1, sl3.eq_2, optA.eq_1, bdyA.eq_1, bdyA.eq_2, iPA.eq_1, iPA.eq_2, iPA.eq_3, iPA.eq_5, iPA.eq_6, enA.eq_1, enA.eq_3, enA.eq_4, zpA.eq_1, zpA.eq_3, zpA.eq_4, rvA.eq_1, rvA.eq_3, rvA.eq_4, ch1.eq_1, ch1.eq_2, ch1.eq_3, ch2.eq_1, ch2.eq_2, ch2.eq_3, chA.eq_1, chB.eq_1, chB.eq_2, chB.eq_3, chC.eq_1, chC.eq_2, lc0.eq_2, lc0.eq_3, lcA.eq_1, lcA.eq_2, augA.eq_1, augB.eq_1, augB.eq_3, augB.eq_4, appA.eq_1, appB.eq_1, appB.eq_2, appB.eq_3, putA.eq_1, putA.eq_2, putA.eq_3, putA2.eq_1, putA2.eq_2, putB.eq_1, putC.eq_1, putD.eq_1, pixA.eq_1, pixA2.eq_1, pixB.eq_1, tryA.eq_1, tryB.eq_1, tryB.eq_2, tryB.eq_3, noEr.eq_1, repA.eq_1, repA2.eq_1, repA2.eq_2, repB.eq_1, rdT.eq_1, rdT.eq_2, toV.eq_1, toV.eq_2, toV.eq_3, toV.eq_4, toV.eq_5, toV.eq_6, ofV.eq_1, ofV.eq_2, ofV.eq_4, ofV.eq_5, tOf.eq_1, tOf.eq_2, isL.eq_1, getT.eq_1, getT.eq_2, getT.eq_3, setT.eq_1, setT.eq_2, setT.eq_3, T.data.eq_1, T.data.eq_2, finW.eq_1, finW.eq_2, finW.eq_3, finW.eq_4, finW.eq_6, tgS.eq_1, wipeE.eq_1, fAdd.eq_1, fAdd.eq_2, fI2.eq_1, fB2.eq_1, fU.eq_1, fLen.eq_1, fLen.eq_2, fLen.eq_3, fIx.eq_1, fIx.eq_2, fIx.eq_3, fIsN.eq_1, fNotN.eq_1, isNone.eq_1, fInt.eq_1, fInt.eq_2, fInt.eq_3, fLs.eq_1, fLs.eq_2, fTp.eq_1, fTp.eq_2, fSlP.eq_3, wOf_l, wOf_o, tryA_nx, tryA_rt, tryA_bk, tryA_ct, noEr_nx, noEr_rt, noEr_bk, noEr_ct, isNone_i, isNone_b, isNone_s, isNone_l, isNone_t, iL_app, iL_len, iL_rep, iL_rev, allD_iL, dataL_iL, q_int, q_t, q_l, n_t, n_l, n_int, q_self, n_self, s_to, s_from, s_mid, sl_to, sl_from, sl_mid, add_t, add_l, cat_l, isi_t, isi_b, isi_i, isi_l, isi_s, at_0, at_1, at_2, at_3, at_4, at_5, at_6, ai_0, ai_1, ai_2, ai_3, ai_4, ai_5, ai_6, tgN_a, tgT_a, apd_ok, lc_ok, rg1_ok, rg2_ok, iL_snoc, iL_mapd, lc_const, rngD_len, iL_take, iL_drop, Int.toNat_natCast, dataL_nil, dataL_cons, allD.eq_1, allD.eq_2, ixN_ok, rep_l, tgS_nil, rep_none, rep_none0, List.take_left, List.drop_left, any_false, all_true, eq_self, set_iL, at_last, List.drop_succ_cons, List.drop_zero, List.take_succ_cons, List.take_zero, List.getLast?_cons_cons, List.getLast?_singleton, Int.cast_ofNat_Int, rg3_ok, rngC_len, fRv_l, Env.set.eq_1, T.data.eq_3, ad1.eq_1, ad1.eq_2, ad1.eq_3, ad2.eq_1, ad2.eq_2, ad3.eq_1, ad3.eq_2, ad3.eq_3, appA.eq_2, appA.eq_3, appP.eq_1, appP.eq_2, appT.eq_1, appT.eq_2, asDA.eq_1, asDA.eq_2, asDA.eq_4, asDA.eq_5, boxA.eq_1, boxA.eq_3, boxA.eq_4, calF.eq_1, calF.eq_2, calM.eq_1, calM.eq_2, calM.eq_3, cpL.eq_1, cpL.eq_2, cpT.eq_1, cpT.eq_2, cpT.eq_3, delA.eq_1, delA.eq_2, delA.eq_3, delA.eq_4, delA.eq_5, delA.eq_6, difA.eq_1, difA.eq_3, difA.eq_4, exDA.eq_1, exDA.eq_2, exDA.eq_3, extA.eq_1, extA.eq_2, extA.eq_3, extB.eq_1, extB.eq_2, extB.eq_3, extD.eq_1, extD.eq_2, extL.eq_1, extL.eq_2, extP.eq_1, extP.eq_2, faA.eq_1, faA.eq_2, faA.eq_3, faB.eq_1, faB.eq_2, faB2.eq_1, faC.eq_1, faD.eq_1, faD.eq_2, faE.eq_1, fldA.eq_1, fldA.eq_2, fldA.eq_3, fldB.eq_1, fldC.eq_1, fldC.eq_2, fldP.eq_1, fldP.eq_2, forJA.eq_1, forJA.eq_2, forJA.eq_3, forW.eq_1, forW.eq_2, fpA.eq_1, fpA.eq_2, fpA.eq_3, fpA1.eq_1, fpA1.eq_2, fpA2.eq_1, fpA2.eq_2, fpA2.eq_3, fpB.eq_1, fpB.eq_2, fpC.eq_1, fpD.eq_1, fpD.eq_2, fwA.eq_1, fwA.eq_2, fwA.eq_3, fwA.eq_4, fwA.eq_5, fwA.eq_6, fzA.eq_1, fzB.eq_1, fzB.eq_2, gQ.eq_1, gQ.eq_2, getR.eq_1, getR.eq_2, getT.eq_4, getT.eq_5, gsA.eq_1, gsA.eq_2, gsB.eq_1, gsB.eq_2, gsC.eq_1, iEnA.eq_1, iEnA.eq_2, iEnA.eq_3, iEnA.eq_4, iEnA.eq_6, iEnA.eq_7, iTA.eq_1, iTA.eq_2, iTA.eq_3, iTA.eq_4, iTA.eq_5, iTA.eq_6, iTA.eq_8, iTA.eq_9, iTp.eq_1, isBx.eq_1, isBx.eq_2, isBx.eq_3, isFix.eq_1, isFix.eq_2, itm.eq_1, itsP.eq_1, itsQ.eq_1, itsQ.eq_2, itsW.eq_1, itsW.eq_2, ixTA.eq_1, ixTA.eq_3, ixTA.eq_4, ixTB.eq_1, ixTB.eq_2, ixTC.eq_1, ixTC.eq_2, jsA.eq_1, jsA.eq_2, jsB.eq_1, jsB.eq_2, jsC.eq_1, jsD.eq_1, jsD.eq_2, lcC.eq_1, lcJA.eq_1, lcJA.eq_2, lcJA.eq_3, lsA.eq_1, lsA.eq_3, lsA.eq_4, lsB.eq_1, lsB.eq_2, lsC.eq_1, lsDA.eq_1, lsDA.eq_2, lsDA.eq_3, makA.eq_1, makA.eq_2, makA.eq_3, makB.eq_1, makB.eq_2, makC.eq_1, makC.eq_3, makC.eq_4, metA.eq_1, metA.eq_3, metA.eq_4, metB.eq_1, metC.eq_1, metC.eq_2, metC.eq_3, metD.eq_1, metD.eq_2, movA.eq_1, movB.eq_1, movB.eq_2, nnA.eq_1, nnA.eq_2, nnA.eq_3, nnB.eq_1, nnB.eq_2, noneW.eq_1, noneW.eq_2, noneW.eq_3, noneW.eq_4, noneW.eq_5, noneW.eq_6, ofA.eq_1, ofA.eq_2, ofA.eq_3, orE.eq_1, orE.eq_2, orE.eq_3, pixA.eq_2, pixA.eq_3, pixA2.eq_2, pixB.eq_2, pixC.eq_1, pixC.eq_2, pixP.eq_1, pixP.eq_2, plc.eq_1, plc.eq_2, popA.eq_1, popA.eq_2, popA.eq_3, popA0.eq_1, popA0.eq_2, popA0.eq_3, popA2.eq_1, popA2.eq_2, popB.eq_1, popB.eq_2, popD.eq_1, popD.eq_2, popE.eq_1, popE.eq_2, popL.eq_1, popL.eq_2, popZ.eq_1, popZ.eq_2, prpA.eq_1, prpA.eq_3, prpA.eq_4, prpB.eq_1, prpC.eq_1, putB.eq_2, putB.eq_3, putC.eq_2, putE.eq_1, putE.eq_2, putM.eq_1, putM.eq_2, putM.eq_3, putN.eq_1, putN.eq_2, putO.eq_1, putO2.eq_1, putO2.eq_2, putP.eq_1, putP.eq_2, putQ.eq_1, putR.eq_1, putR.eq_2, rdJ.eq_1, rdJ.eq_2, rdP.eq_1, rdP.eq_2, rdP.eq_3, rs1A.eq_1, rs1A.eq_2, rs1A.eq_3, rs1A.eq_4, rvA'.eq_1, rvA'.eq_2, rvA'.eq_3, rvB.eq_1, rvB.eq_2, rvC.eq_1, sQ.eq_1, sQ.eq_2, setR.eq_1, setR.eq_2, setT.eq_4, setT.eq_5, stO.eq_1, stO.eq_2, stO.eq_3, stO.eq_4, stO.eq_5, stO.eq_6, stb.eq_1, swpA.eq_1, swpA.eq_2, tpDA.eq_1, tpDA.eq_2, tpDA.eq_3, truA.eq_1, truA.eq_2, truA.eq_3, truB.eq_1, truB.eq_2, truD.eq_1, truD.eq_2, truD.eq_3, truD.eq_4, truD.eq_5, truD.eq_6, truP.eq_1, truP.eq_2, truT.eq_1, truT.eq_2, tyA.eq_1, wipeS.eq_1, wipeS.eq_2, ↓x_ad0, ↓x_ad1, ↓x_fld, ↓x_meth, ↓x_make, ↓x_prop, ↓x_box, ↓x_fldP, ↓x_fldA, ↓x_isN, ↓x_tru, ↓x_mov, ↓x_dif, ↓x_iT, ↓x_iEn, ↓x_forJ, ↓x_lcJ, ↓x_raise1, ↓x_tryA, ↓x_expD, ↓x_rvM, ↓x_frz, ↓x_lsT, ↓x_lstD, ↓x_tupD, ↓x_ixT, ↓x_asgD, ↓x_of, getE_q, setE_q, rdI_l, tyA_nx, tyA_rt, tyA_bk, tyA_ct, tyB_t, tyB_f, x_wh, rdP_l, rdP_o, rdP_k, rdP_m, truW_r, truW_p, lcE_ok, frz_nil, frz_d, frz_r, frz_l, cpL_r, gc_ne, gc_new, ofS_inj, q_lit, n_lit, lk_lit, in_nil, in_cons, ev_s, ev_i, fl_i, fl_s, fl_n, fl_b, in_l, in_t, q_nn, q_in, q_ni, n_nn, n_in, n_ni, q_bb, n_bb, isNone_n, isi_n, String.reduceEq, Option.bind_some, Option.bind_none, List.isEmpty_nil, List.isEmpty_cons, tgT_t, cpL_d, Option.toList_some, Option.toList_none, Int.add_zero, Int.zero_add, Int.sub_zero, Int.reduceMod, Int.reduceDiv, Nat.reduceMod, Nat.reduceDiv, beq_self_eq_true, Bool.true_beq, Bool.false_beq, bb_t, bb_f, ↓x_rd, rdA_r, rdA_p, rdA_v, rdA_l, rdA_er, wOf_r, wOf_t, wOf_d, or_true, true_or, or_false, false_or, and_false, false_and, not_true_eq_false, not_false_eq_true, and_self, or_self, evA_nil, evA_cons, evA_nc, evA_cn, ev_tt, ev_ll, ev_ii, ev_ss, ev_nn, ev_ni, ev_in, ev_ns, ev_sn, ev_bb, ixN_last, gc_lt, List.set_set, isB_b, notB_b, isB_i, notB_i, isB_n, notB_n, isB_l, notB_l, ↓x_pop, ↓x_pop0, ↓x_ext, ↓x_swp, forL_nil, forL_c, in_ti1, in_li1, in_ts1, in_ls1, in_ti2, in_li2, in_ts2, in_ls2, in_ti3, in_li3, in_ts3, in_ls3, in_ti4, in_li4, in_ts4, in_ls4, in_ti5, in_li5, in_ts5, in_ls5, in_ti6, in_li6, in_ts6, in_ls6, cz, cp0, cn0, Bool.false_xor, Bool.true_xor, Bool.xor_false, Bool.xor_true, Option.isNone_none, Option.isNone_some, Option.isSome_none, Option.isSome_some, itsW_p, itsW_r, popC_ok, extE_ok, is_bool_i, is_str_i, is_list_i, is_tuple_i, is_dict_i, is_int_b, is_str_b, is_list_b, is_tuple_b, is_dict_b, is_int_s, is_bool_s, is_list_s, is_tuple_s, is_dict_s, is_int_l, is_bool_l, is_str_l, is_tuple_l, is_dict_l, is_int_t, is_bool_t, is_str_t, is_list_t, is_dict_t, is_int_n, is_bool_n, is_str_n, is_list_n, is_tuple_n, is_dict_n, Option.join_some, Option.join_none, b_law_2, f_mixed, hv, ha, pkL_len, hx, hmp, g0, gt, s0, s1, h1, h2, h3, hnb, hne, hks, pkL_rev, htk, hkey]
    exact ⟨_, _, _, _, _, _, _, _, _, _, _, _, rfl⟩
  · rintro e ⟨a1, a2, a3, a4, a5, a6, a7, a8, a9, a10, a11, a12, rfl⟩
    exact ⟨_, by simp (disch := (first | with_reducible assumption | omega | (simp only [iL_len, rngD_len, rngC_len, List.length_append, List.length_replicate, List.length_cons, List.length_nil, List.length_map, List.length_take, List.length_drop, List.length_range, SZ] <;> omega) | (simp only [iL_len, rngD_len, rngC_len, List.length_append, List.length_replicate, List.length_cons, List.length_nil, List.length_map, List.length_take, List.length_drop, List.length_range, SZ] at * <;> omega) | fail)) only [↓x_seq, ↓x_nil, ↓x_if, ↓x_set, ↓x_setV, ↓x_asg, ↓x_exp, ↓x_ret, ↓x_retV, ↓x_retN, ↓x_brk, ↓x_cnt, ↓x_for, ↓x_bdy, ↓x_C, ↓x_var, ↓x_dvar, ↓x_v1, ↓x_v2, ↓x_d1L, ↓x_d2L, ↓x_and, ↓x_or, ↓x_not, ↓x_ifx, ↓x_args0, ↓x_args1, ↓x_tup, ↓x_lst, ↓x_call, ↓x_vD, ↓x_dV, ↓x_slP, ↓x_opt0, ↓x_opt1, ↓x_iP, ↓x_rg1, ↓x_rg2, ↓x_rg3, ↓x_en, ↓x_zp, ↓x_rv, ↓x_ch, ↓x_lc, ↓x_aug, ↓x_app, ↓x_put, ↓x_pix, ↓x_try, ↓x_rep, ↓x_raise0, y_sq, y_sif, y_retV, y_setV, y_toV, y_ofV, y_orw, y_and, y_or, y_not, y_v1, y_v2a, y_v2b, y_finW, y_calB, sq_nx, sq_rt, sq_bk, sq_ct, sq_er, sq_no, dataL_d, allD_d, fnD, SZ, List.getElem?_cons_zero, List.getElem?_cons_succ, List.getElem?_nil, List.set_cons_zero, List.set_cons_succ, List.map_cons, List.map_nil, List.length_cons, List.length_nil, List.length_map, List.length_append, List.cons_append, List.nil_append, List.append_nil, Nat.reduceAdd, Nat.reduceSub, Nat.zero_add, Nat.add_zero, Option.map_some, Option.map_none, Option.getD_some, Option.getD_none, Bool.false_eq_true, Bool.true_eq_false, Bool.and_false, Bool.false_and, Bool.and_true, Bool.true_and, Bool.or_false, Bool.false_or, Bool.or_true, Bool.true_or, Bool.not_true, Bool.not_false, if_true, if_false, ite_true, ite_false, decide_eq_true_eq, Bool.and_eq_true, Bool.or_eq_true, Bool.not_eq_true', decide_eq_false_iff_not, decide_true, decide_false, true_and, and_true, reduceCtorEq, Int.reduceNeg, Int.reduceLT, Int.reduceLE, Int.reduceToNat, Nat.reduceLeDiff, Int.reduceAbs, Int.reduceSub, Int.reduceAdd, Int.reduceMul, Int.reduceEq, Nat.reduceMul, Nat.reduceEqDiff, Nat.reduceLT, Nat.reducePow, Int.reducePow, ↓reduceIte, ite_not, sif.eq_1, sif.eq_3, sif.eq_4, andA.eq_1, andA.eq_3, andA.eq_4, orA.eq_1, orA.eq_3, orA.eq_4, notA.eq_1, notA.eq_3, notA.eq_4, ifA.eq_1, ifA.eq_3, ifA.eq_4, orw.eq_1, orw.eq_2, orw.eq_3, v1r.eq_1, v1r.eq_2, v1a.eq_1, v1a.eq_2, v1a.eq_3, v2a.eq_1, v2a.eq_2, v2a.eq_3, v2b.eq_1, v2b.eq_2, v2b.eq_3, dlr.eq_1, dlr.eq_2, d1a.eq_1, d1a.eq_2, d1a.eq_3, d2a.eq_1, d2a.eq_2, d2a.eq_3, d2b.eq_1, d2b.eq_2, d2b.eq_3, ar1.eq_1, ar1.eq_2, ar1.eq_3, ar1.eq_4, ar2.eq_1, ar2.eq_2, ar2.eq_3, tupA.eq_1, tupA.eq_2, tupA.eq_3, lstA.eq_1, lstA.eq_2, lstA.eq_3, calA.eq_1, calA.eq_2, calA.eq_3, calB.eq_1, calB.eq_2, calB.eq_3, wOf.eq_1, varV.eq_1, varR.eq_1, varR.eq_2, varD.eq_1, setA.eq_1, setA.eq_2, setA.eq_4, setA.eq_5, setVA.eq_1, setVA.eq_2, setVA.eq_3, setVA.eq_4, asgA.eq_1, asgA.eq_2, asgA.eq_3, asgA.eq_4, asgB.eq_1, asgB.eq_2, expA.eq_1, expA.eq_2, expA.eq_3, retA.eq_1, retA.eq_2, retA.eq_3, retVA.eq_1, retVA.eq_2, retVA.eq_3, retVA.eq_4, forA.eq_1, forA.eq_2, forA.eq_3, sl0.eq_1, sl0.eq_2, sl0.eq_3, sl1.eq_1, sl1.eq_2, sl2.eq_1, sl2.eq_2, sl3.eq_1, sl3.eq_2, optA.eq_1, bdyA.eq_1, bdyA.eq_2, iPA.eq_1, iPA.eq_2, iPA.eq_3, iPA.eq_5, iPA.eq_6, enA.eq_1, enA.eq_3, enA.eq_4, zpA.eq_1, zpA.eq_3, zpA.eq_4, rvA.eq_1, rvA.eq_3, rvA.eq_4, ch1.eq_1, ch1.eq_2, ch1.eq_3, ch2.eq_1, ch2.eq_2, ch2.eq_3, chA.eq_1, chB.eq_1, chB.eq_2, chB.eq_3, chC.eq_1, chC.eq_2, lc0.eq_2, lc0.eq_3, lcA.eq_1, lcA.eq_2, augA.eq_1, augB.eq_1, augB.eq_3, augB.eq_4, appA.eq_1, appB.eq_1, appB.eq_2, appB.eq_3, putA.eq_1, putA.eq_2, putA.eq_3, putA2.eq_1, putA2.eq_2, putB.eq_1, putC.eq_1, putD.eq_1, pixA.eq_1, pixA2.eq_1, pixB.eq_1, tryA.eq_1, tryB.eq_1, tryB.eq_2, tryB.eq_3, noEr.eq_1, repA.eq_1, repA2.eq_1, repA2.eq_2, repB.eq_1, rdT.eq_1, rdT.eq_2, toV.eq_1, toV.eq_2, toV.eq_3, toV.eq_4, toV.eq_5, toV.eq_6, ofV.eq_1, ofV.eq_2, ofV.eq_4, ofV.eq_5, tOf.eq_1, tOf.eq_2, isL.eq_1, getT.eq_1, getT.eq_2, getT.eq_3, setT.eq_1, setT.eq_2, setT.eq_3, T.data.eq_1, T.data.eq_2, finW.eq_1, finW.eq_2, finW.eq_3, finW.eq_4, finW.eq_6, tgS.eq_1, wipeE.eq_1, fAdd.eq_1, fAdd.eq_2, fI2.eq_1, fB2.eq_1, fU.eq_1, fLen.eq_1, fLen.eq_2, fLen.eq_3, fIx.eq_1, fIx.eq_2, fIx.eq_3, fIsN.eq_1, fNotN.eq_1, isNone.eq_1, fInt.eq_1, fInt.eq_2, fInt.eq_3, fLs.eq_1, fLs.eq_2, fTp.eq_1, fTp.eq_2, fSlP.eq_3, wOf_l, wOf_o, tryA_nx, tryA_rt, tryA_bk, tryA_ct, noEr_nx, noEr_rt, noEr_bk, noEr_ct, isNone_i, isNone_b, isNone_s, isNone_l, isNone_t, iL_app, iL_len, iL_rep, iL_rev, allD_iL, dataL_iL, q_int, q_t, q_l, n_t, n_l, n_int, q_self, n_self, s_to, s_from, s_mid, sl_to, sl_from, sl_mid, add_t, add_l, cat_l, isi_t, isi_b, isi_i, isi_l, isi_s, at_0, at_1, at_2, at_3, at_4, at_5, at_6, ai_0, ai_1, ai_2, ai_3, ai_4, ai_5, ai_6, tgN_a, tgT_a, apd_ok, lc_ok, rg1_ok, rg2_ok, iL_snoc, iL_mapd, lc_const, rngD_len, iL_take, iL_drop, Int.toNat_natCast, dataL_nil, dataL_cons, allD.eq_1, allD.eq_2, ixN_ok, rep_l, tgS_nil, rep_none, rep_none0, List.take_left, List.drop_left, any_false, all_true, eq_self, set_iL, at_last, List.drop_succ_cons, List.drop_zero, List.take_succ_cons, List.take_zero, List.getLast?_cons_cons, List.getLast?_singleton, Int.cast_ofNat_Int, rg3_ok, rngC_len, fRv_l, Env.set.eq_1, T.data.eq_3, ad1.eq_1, ad1.eq_2, ad1.eq_3, ad2.eq_1, ad2.eq_2, ad3.eq_1, ad3.eq_2, ad3.eq_3, appA.eq_2, appA.eq_3, appP.eq_1, appP.eq_2, appT.eq_1, appT.eq_2, asDA.eq_1, asDA.eq_2, asDA.eq_4, asDA.eq_5, boxA.eq_1, boxA.eq_3, boxA.eq_4, calF.eq_1, calF.eq_2, calM.eq_1, calM.eq_2, calM.eq_3, cpL.eq_1, cpL.eq_2, cpT.eq_1, cpT.eq_2, cpT.eq_3, delA.eq_1, delA.eq_2, delA.eq_3, delA.eq_4, delA.eq_5, delA.eq_6, difA.eq_1, difA.eq_3, difA.eq_4, exDA.eq_1, exDA.eq_2, exDA.eq_3, extA.eq_1, extA.eq_2, extA.eq_3, extB.eq_1, extB.eq_2, extB.eq_3, extD.eq_1, extD.eq_2, extL.eq_1, extL.eq_2, extP.eq_1, extP.eq_2, faA.eq_1, faA.eq_2, faA.eq_3, faB.eq_1, faB.eq_2, faB2.eq_1, faC.eq_1, faD.eq_1, faD.eq_2, faE.eq_1, fldA.eq_1, fldA.eq_2, fldA.eq_3, fldB.eq_1, fldC.eq_1, fldC.eq_2, fldP.eq_1, fldP.eq_2, forJA.eq_1, forJA.eq_2, forJA.eq_3, forW.eq_1, forW.eq_2, fpA.eq_1, fpA.eq_2, fpA.eq_3, fpA1.eq_1, fpA1.eq_2, fpA2.eq_1, fpA2.eq_2, fpA2.eq_3, fpB.eq_1, fpB.eq_2, fpC.eq_1, fpD.eq_1, fpD.eq_2, fwA.eq_1, fwA.eq_2, fwA.eq_3, fwA.eq_4, fwA.eq_5, fwA.eq_6, fzA.eq_1, fzB.eq_1, fzB.eq_2, gQ.eq_1, gQ.eq_2, getR.eq_1, getR.eq_2, getT.eq_4, getT.eq_5, gsA.eq_1, gsA.eq_2, gsB.eq_1, gsB.eq_2, gsC.eq_1, iEnA.eq_1, iEnA.eq_2, iEnA.eq_3, iEnA.eq_4, iEnA.eq_6, iEnA.eq_7, iTA.eq_1, iTA.eq_2, iTA.eq_3, iTA.eq_4, iTA.eq_5, iTA.eq_6, iTA.eq_8, iTA.eq_9, iTp.eq_1, isBx.eq_1, isBx.eq_2, isBx.eq_3, isFix.eq_1, isFix.eq_2, itm.eq_1, itsP.eq_1, itsQ.eq_1, itsQ.eq_2, itsW.eq_1, itsW.eq_2, ixTA.eq_1, ixTA.eq_3, ixTA.eq_4, ixTB.eq_1, ixTB.eq_2, ixTC.eq_1, ixTC.eq_2, jsA.eq_1, jsA.eq_2, jsB.eq_1, jsB.eq_2, jsC.eq_1, jsD.eq_1, jsD.eq_2, lcC.eq_1, lcJA.eq_1, lcJA.eq_2, lcJA.eq_3, lsA.eq_1, lsA.eq_3, lsA.eq_4, lsB.eq_1, lsB.eq_2, lsC.eq_1, lsDA.eq_1, lsDA.eq_2, lsDA.eq_3, makA.eq_1, makA.eq_2, makA.eq_3, makB.eq_1, makB.eq_2, makC.eq_1, makC.eq_3, makC.eq_4, metA.eq_1, metA.eq_3, metA.eq_4, metB.eq_1, metC.eq_1, metC.eq_2, metC.eq_3, metD.eq_1, metD.eq_2, movA.eq_1, movB.eq_1, movB.eq_2, nnA.eq_1, nnA.eq_2, nnA.eq_3, nnB.eq_1, nnB.eq_2, noneW.eq_1, noneW.eq_2, noneW.eq_3, noneW.eq_4, noneW.eq_5, noneW.eq_6, ofA.eq_1, ofA.eq_2, ofA.eq_3, orE.eq_1, orE.eq_2, orE.eq_3, pixA.eq_2, pixA.eq_3, pixA2.eq_2, pixB.eq_2, pixC.eq_1, pixC.eq_2, pixP.eq_1, pixP.eq_2, plc.eq_1, plc.eq_2, popA.eq_1, popA.eq_2, popA.eq_3, popA0.eq_1, popA0.eq_2, popA0.eq_3, popA2.eq_1, popA2.eq_2, popB.eq_1, popB.eq_2, popD.eq_1, popD.eq_2, popE.eq_1, popE.eq_2, popL.eq_1, popL.eq_2, popZ.eq_1, popZ.eq_2, prpA.eq_1, prpA.eq_3, prpA.eq_4, prpB.eq_1, prpC.eq_1, putB.eq_2, putB.eq_3, putC.eq_2, putE.eq_1, putE.eq_2, putM.eq_1, putM.eq_2, putM.eq_3, putN.eq_1, putN.eq_2, putO.eq_1, putO2.eq_1, putO2.eq_2, putP.eq_1, putP.eq_2, putQ.eq_1, putR.eq_1, putR.eq_2, rdJ.eq_1, rdJ.eq_2, rdP.eq_1, rdP.eq_2, rdP.eq_3, rs1A.eq_1, rs1A.eq_2, rs1A.eq_3, rs1A.eq_4, rvA'.eq_1, rvA'.eq_2, rvA'.eq_3, rvB.eq_1, rvB.eq_2, rvC.eq_1, sQ.eq_1, sQ.eq_2, setR.eq_1, setR.eq_2, setT.eq_4, setT.eq_5, stO.eq_1, stO.eq_2, stO.eq_3, stO.eq_4, stO.eq_5, stO.eq_6, stb.eq_1, swpA.eq_1, swpA.eq_2, tpDA.eq_1, tpDA.eq_2, tpDA.eq_3, truA.eq_1, truA.eq_2, truA.eq_3, truB.eq_1, truB.eq_2, truD.eq_1, truD.eq_2, truD.eq_3, truD.eq_4, truD.eq_5, truD.eq_6, truP.eq_1, truP.eq_2, truT.eq_1, truT.eq_2, tyA.eq_1, wipeS.eq_1, wipeS.eq_2, ↓x_ad0, ↓x_ad1, ↓x_fld, ↓x_meth, ↓x_make, ↓x_prop, ↓x_box, ↓x_fldP, ↓x_fldA, ↓x_isN, ↓x_tru, ↓x_mov, ↓x_dif, ↓x_iT, ↓x_iEn, ↓x_forJ, ↓x_lcJ, ↓x_raise1, ↓x_tryA, ↓x_expD, ↓x_rvM, ↓x_frz, ↓x_lsT, ↓x_lstD, ↓x_tupD, ↓x_ixT, ↓x_asgD, ↓x_of, getE_q, setE_q, rdI_l, tyA_nx, tyA_rt, tyA_bk, tyA_ct, tyB_t, tyB_f, x_wh, rdP_l, rdP_o, rdP_k, rdP_m, truW_r, truW_p, lcE_ok, frz_nil, frz_d, frz_r, frz_l, cpL_r, gc_ne, gc_new, ofS_inj, q_lit, n_lit, lk_lit, in_nil, in_cons, ev_s, ev_i, fl_i, fl_s, fl_n, fl_b, in_l, in_t, q_nn, q_in, q_ni, n_nn, n_in, n_ni, q_bb, n_bb, isNone_n, isi_n, String.reduceEq, Option.bind_some, Option.bind_none, List.isEmpty_nil, List.isEmpty_cons, tgT_t, cpL_d, Option.toList_some, Option.toList_none, Int.add_zero, Int.zero_add, Int.sub_zero, Int.reduceMod, Int.reduceDiv, Nat.reduceMod, Nat.reduceDiv, beq_self_eq_true, Bool.true_beq, Bool.false_beq, bb_t, bb_f, ↓x_rd, rdA_r, rdA_p, rdA_v, rdA_l, rdA_er, wOf_r, wOf_t, wOf_d, or_true, true_or, or_false, false_or, and_false, false_and, not_true_eq_false, not_false_eq_true, and_self, or_self, evA_nil, evA_cons, evA_nc, evA_cn, ev_tt, ev_ll, ev_ii, ev_ss, ev_nn, ev_ni, ev_in, ev_ns, ev_sn, ev_bb, ixN_last, gc_lt, List.set_set, isB_b, notB_b, isB_i, notB_i, isB_n, notB_n, isB_l, notB_l, ↓x_pop, ↓x_pop0, ↓x_ext, ↓x_swp, forL_nil, forL_c, in_ti1, in_li1, in_ts1, in_ls1, in_ti2, in_li2, in_ts2, in_ls2, in_ti3, in_li3, in_ts3, in_ls3, in_ti4, in_li4, in_ts4, in_ls4, in_ti5, in_li5, in_ts5, in_ls5, in_ti6, in_li6, in_ts6, in_ls6, cz, cp0, cn0, Bool.false_xor, Bool.true_xor, Bool.xor_false, Bool.xor_true, Option.isNone_none, Option.isNone_some, Option.isSome_none, Option.isSome_some, itsW_p, itsW_r, popC_ok, extE_ok, is_bool_i, is_str_i, is_list_i, is_tuple_i, is_dict_i, is_int_b, is_str_b, is_list_b, is_tuple_b, is_dict_b, is_int_s, is_bool_s, is_list_s, is_tuple_s, is_dict_s, is_int_l, is_bool_l, is_str_l, is_tuple_l, is_dict_l, is_int_t, is_bool_t, is_str_t, is_list_t, is_dict_t, is_int_n, is_bool_n, is_str_n, is_list_n, is_tuple_n, is_dict_n, Option.join_some, Option.join_none]; rfl⟩

section
variable {P : Program} {w : World} {K : PySem.W.Frag} {mg : Str → Option Value} {base : Heap} {cl : Str → Addr} {ct : CT}
theorem ok_may_ask {f : Addr} {fd : FuncData} (F : Fun K "may_ask" "may_ask" s_may_ask f fd) (B : BI mg) (C : CI K mg) : FnOk P w K mg base (L2.CX P w) 1 f fd ["number", "tries", "tick"] (spD K cl ct ["number", "tries", "tick"].length f_may_ask) := by
  refine fn_ok F sc_may_ask (fun cdv A outer s H vs E hr => ?_)
  exact (ss_one (se_retV (ve_or (ve_cmp (op_eqD hr.units) sc_eq (ve_var 1) ve_int (nomark _)) (ve_one (ve_cmp (op_eqD hr.units) sc_eq (ve_bin op_mod sc_mod (ve_var 2) (ve_globI (by rfl) C.g_MOST_PHONES)) (ve_var 0) (nomark _))))))
theorem ok_heard {f : Addr} {fd : FuncData} (F : Fun K "heard" "heard" s_heard f fd) (B : BI mg) (C : CI K mg) : FnOk P w K mg base (L2.CX P w) 1 f fd ["asks"] (spD K cl ct ["asks"].length f_heard) := by
  refine fn_ok F sc_heard (fun cdv A outer s H vs E hr => ?_)
  exact (ss_cons (se_for (passes_of rfl) rfl (ie_p (ve_var 0)) (pg_tup rfl (pgs_cons (pg_name (i := 1) sc_heard.nd rfl (Or.inr rfl)) (pgs_cons (pg_name (i := 2) sc_heard.nd rfl (Or.inr rfl)) pgs_nil))) (tg_tup (is := [1, 2]) (fun i hi => by simp at hi; rcases hi with rfl | rfl <;> exact rfl) rfl rfl)
      (ss_cons (se_setLcV (i := 3) (own := [("other", 4), ("loud", 5)]) rfl sc_heard.nd rfl rfl (sw_true rfl rfl rfl (by decide +kernel)) rfl (ie_p (ve_var 0)) (blkOk_by (own := [("other", 4), ("loud", 5)]) (N := ["asks", "phone", "level", "others", "other", "loud"]) (sc := defScope s_heard) (by decide +kernel)) (fun _ _ _ _ _ => (pg_tup rfl (pgs_cons (pg_name (i := 4) sc_heard.nd rfl (Or.inl rfl)) (pgs_cons (pg_name (i := 5) sc_heard.nd rfl (Or.inl rfl)) pgs_nil)))) (tg_tup (is := [4, 5]) (fun i hi => by exact noPin0) rfl rfl) (fun _ _ _ _ _ => pts_one (te_cmp (op_neD hr.units) sc_ne (ve_var 4) (ve_var 1) (nomark _))) (fun _ _ _ h => h) (fun _ _ _ _ _ => (ve_var 5)))
      (ss_one (se_if (te_val (ve_b1 (cr_all rfl) sc_all (by rfl) B.all_ (by decide +kernel) (pa_cons (pe_toV (de_lc (own := [("loud", 5)]) rfl sc_heard.nd (ie_p (ve_var 3)) (blkOk_by (own := [("loud", 5)]) (N := ["asks", "phone", "level", "others", "other", "loud"]) (sc := defScope s_heard) (by decide +kernel)) (fun _ _ _ _ _ => (pg_name (i := 5) sc_heard.nd rfl (Or.inl rfl))) (tg_name noPin0) (fun _ _ _ _ _ => pts_nil) htt_yes (fun _ _ _ _ _ => (ve_cmp op_ge sc_B2 (ve_var 2) (ve_bin op_addP sc_addP (ve_var 5) (ve_globI (by rfl) C.g_CAPTURE)) (nomark _))))) pa_nil))) (ss_one (se_retV (ve_var 1))) ss_nil))))
      (ss_one (se_retV ve_non)))
theorem ok__law_mixed {f : Addr} {fd : FuncData} (F : Fun K "_law_mixed" "_law_mixed" s__law_mixed f fd) (B : BI mg) : FnOk P w K mg base (L2.CX P w) 1 f fd ["cell", "turn"] (spD K cl ct ["cell", "turn"].length f__law_mixed) := by
  refine fn_ok F sc__law_mixed (fun cdv A outer s H vs E hr => ?_)
  exact (ss_cons (se_setV (i := 2) sc__law_mixed.nd rfl (Or.inl rfl) (ve_t1 call_intA sc_int (by rfl) B.int_ (by decide +kernel) (pa_cons (ve_var 0) pa_nil)) rfl)
      (ss_cons (se_if (te_cmp op_ge sc_B2 (ve_var 2) (ve_bin op_pow sc_pow ve_int ve_int) (nomark _)) (ss_one (se_retV (ve_var 2))) ss_nil)
      (ss_cons (se_setV (i := 3) sc__law_mixed.nd rfl (Or.inl rfl) (ve_bin op_mod sc_mod (ve_bin op_addP sc_addP (ve_bin op_mul sc_mul (ve_bin op_mod sc_mod (ve_var 2) ve_int) ve_int) (ve_bin op_mul sc_mul ve_int (ve_bin op_addP sc_addP (ve_var 1) ve_int))) ve_int) rfl)
      (ss_cons (se_setV (i := 4) sc__law_mixed.nd rfl (Or.inl rfl) (ve_bin op_mod sc_mod (ve_bin op_addP sc_addP (ve_bin op_mul sc_mul (ve_var 3) ve_int) (ve_bin op_mod sc_mod (ve_var 2) ve_int)) ve_int) rfl)
      (ss_cons (se_setV (i := 5) sc__law_mixed.nd rfl (Or.inl rfl) (ve_bin op_mod sc_mod (ve_bin op_addP sc_addP (ve_bin op_mul sc_mul (ve_var 4) ve_int) (ve_var 3)) ve_int) rfl)
      (ss_one (se_retV (ve_bin op_addP sc_addP (ve_bin op_addP sc_addP (ve_var 3) (ve_bin op_mul sc_mul ve_int (ve_var 4))) (ve_bin op_mul sc_mul ve_int (ve_var 5))))))))))
theorem ok__law_heard {f : Addr} {fd : FuncData} (F : Fun K "_law_heard" "_law_heard" s__law_heard f fd) (B : BI mg) : FnOk P w K mg base (L2.CX P w) 1 f fd ["asks"] (spD K cl ct ["asks"].length f__law_heard) := by
  refine fn_ok F sc__law_heard (fun cdv A outer s H vs E hr => ?_)
  exact (ss_cons (se_for (passes_of rfl) rfl (ie_rg1 (by rfl) B.range_ (ae_cons (ve_b1 call_lenA sc_len (by rfl) B.len_ (by decide +kernel) (pa_cons (ve_var 0) pa_nil)) ae_nil)) (pg_name (i := 1) sc__law_heard.nd rfl (Or.inl rfl)) (tg_name rfl)
      (ss_cons (se_setV (i := 2) sc__law_heard.nd rfl (Or.inl rfl) ve_bl rfl)
      (ss_cons (se_for (passes_of rfl) rfl (ie_rg1 (by rfl) B.range_ (ae_cons (ve_b1 call_lenA sc_len (by rfl) B.len_ (by decide +kernel) (pa_cons (ve_var 0) pa_nil)) ae_nil)) (pg_name (i := 3) sc__law_heard.nd rfl (Or.inl rfl)) (tg_name rfl)
      (ss_one (se_if (PW.pt (tw_and (te_cmp (op_neD hr.units) sc_ne (ve_var 3) (ve_var 1) (nomark _)) (tw_and1 (te_cmp op_lt sc_B2 (ve_bin op_sub sc_I20 (ve_ix ix_seq sc_ix (ve_ix ix_seq sc_ix (ve_var 0) (ve_var 1) (fun _ _ => rfl)) ve_int (fun _ _ => rfl)) (ve_ix ix_seq sc_ix (ve_ix ix_seq sc_ix (ve_var 0) (ve_var 3) (fun _ _ => rfl)) ve_int (fun _ _ => rfl))) ve_int (nomark _))))) (ss_one (se_setV (i := 2) sc__law_heard.nd rfl (Or.inl rfl) ve_bl rfl)) ss_nil)))
      (ss_one (se_if (te_val (ve_var 2)) (ss_one (se_retV (ve_ix ix_seq sc_ix (ve_ix ix_seq sc_ix (ve_var 0) (ve_var 1) (fun _ _ => rfl)) ve_int (fun _ _ => rfl)))) ss_nil)))))
      (ss_one (se_retV ve_non)))
theorem ok__law_asks {f : Addr} {fd : FuncData} (F : Fun K "_law_asks" "_law_asks" s__law_asks f fd) (B : BI mg) : FnOk P w K mg base (L2.CX P w) 1 f fd ["value"] (spD K cl ct ["value"].length f__law_asks) := by
  refine fn_ok F sc__law_asks (fun cdv A outer s H vs E hr => ?_)
  exact (ss_cons (se_setV (i := 1) sc__law_asks.nd rfl (Or.inl rfl) (ve_bin op_addP sc_addP ve_int (ve_bin op_mod sc_mod (ve_var 0) ve_int)) rfl)
      (ss_cons (se_set (i := 2) sc__law_asks.nd rfl (Or.inl rfl) (de_lst ae_nil) rfl)
      (ss_cons (se_setV (i := 3) sc__law_asks.nd rfl (Or.inl rfl) (ve_bin op_mod sc_mod (ve_bin op_fdiv sc_div (ve_var 0) ve_int) ve_int) rfl)
      (ss_cons (se_for (passes_of rfl) rfl (ie_rg1 (by rfl) B.range_ (ae_cons (ve_var 1) ae_nil)) (pg_name (i := 4) sc__law_asks.nd rfl (Or.inl rfl)) (tg_name rfl)
      (ss_cons (se_exp (ve_append (de_var 2) (pe_ofV (ve_tup (ae_cons (ve_bin op_mod sc_mod (ve_bin op_addP sc_addP (ve_bin op_mul sc_mul (ve_var 4) ve_int) (ve_bin op_fdiv sc_div (ve_var 0) ve_int)) ve_int) (ae_cons (ve_b2 (call_min2 rfl) sc_min (by rfl) B.min_ (by decide +kernel) (pa_cons (ve_var 3) (pa_cons ve_int pa_nil))) ae_nil))))))
      (ss_cons (se_setV (i := 5) sc__law_asks.nd rfl (Or.inl rfl) (ve_bin op_mod sc_mod (ve_bin op_fdiv sc_div (ve_var 0) (ve_bin op_addP sc_addP ve_int (ve_bin op_mul sc_mul ve_int (ve_var 4)))) ve_int) rfl)
      (ss_one (se_setV (i := 3) sc__law_asks.nd rfl (Or.inl rfl) (ve_b2 (call_max2 rfl) sc_max (by rfl) B.max_ (by decide +kernel) (pa_cons ve_int (pa_cons (ve_bin op_sub sc_I20 (ve_var 3) (ve_ix ix_seq sc_ix (pe_toV (de_lst (ae_cons ve_int (ae_cons ve_int (ae_cons ve_int (ae_cons ve_int (ae_cons ve_int ae_nil))))))) (ve_var 5) (fun _ _ => rfl))) pa_nil))) rfl)))))
      (ss_cons (se_setV (i := 6) sc__law_asks.nd rfl (Or.inl rfl) (ve_bin op_mod sc_mod (ve_bin op_fdiv sc_div (ve_var 0) ve_int) (ve_var 1)) rfl)
      (ss_one (se_ret (de_bin op_catL sl_cat (ve_slP (pe_toV (de_var 2)) (oe_some (ve_var 6)) oe_none) (ve_slP (pe_toV (de_var 2)) oe_none (oe_some (ve_var 6)))))))))))
theorem ok_law {f : Addr} {fd : FuncData} {fheard : Addr} {fd_heard : FuncData} {f_law_mixed : Addr} {fd__law_mixed : FuncData} {f_law_asks : Addr} {fd__law_asks : FuncData} {f_law_heard : Addr} {fd__law_heard : FuncData} {fmay_ask : Addr} {fd_may_ask : FuncData} (F : Fun K "law" "law" s_law f fd) (B : BI mg) (c_heard : Cal P w K mg base (L2.CX P w) 1 "heard" fheard fd_heard ["asks"] (spD K cl ct ["asks"].length f_heard)) (c__law_mixed : Cal P w K mg base (L2.CX P w) 1 "_law_mixed" f_law_mixed fd__law_mixed ["cell", "turn"] (spD K cl ct ["cell", "turn"].length f__law_mixed)) (c__law_asks : Cal P w K mg base (L2.CX P w) 1 "_law_asks" f_law_asks fd__law_asks ["value"] (spD K cl ct ["value"].length f__law_asks)) (c__law_heard : Cal P w K mg base (L2.CX P w) 1 "_law_heard" f_law_heard fd__law_heard ["asks"] (spD K cl ct ["asks"].length f__law_heard)) (c_may_ask : Cal P w K mg base (L2.CX P w) 1 "may_ask" fmay_ask fd_may_ask ["number", "tries", "tick"] (spD K cl ct ["number", "tries", "tick"].length f_may_ask)) : FnOk P w K mg base CX0 2 f fd ["script"] (fun vs H Q _ => spD K cl ct ["script"].length f_law vs H Q E0) := by
  refine fn_ok0 F sc_law (fun cdv A outer s H vs E hr => ?_)
  exact (ss_cons (se_if (te_cmp op_notN sc_notN (pe_toV (de_call takes0 c_heard.ok rfl rfl (hr.mono (by decide)) (by rfl) c_heard.g c_heard.kp c_heard.b (ad_cons (de_lst ae_nil) ad_nil))) ve_non (nomark _)) (ss_one (se_retV ve_bl)) ss_nil)
      (ss_cons (se_for PassesOwn.never rfl (ie_enum (by rfl) B.enumerate_ (pa_cons (ve_slP (ve_var 0) oe_none (oe_some ve_int)) pa_nil)) (pg_tup rfl (pgs_cons (pg_name (i := 1) sc_law.nd rfl (Or.inl rfl)) (pgs_cons (pg_name (i := 2) sc_law.nd rfl (Or.inl rfl)) pgs_nil))) (tg_tup (is := [1, 2]) (fun i hi => by simp at hi; rcases hi with rfl | rfl <;> exact rfl) rfl rfl)
      (ss_cons (se_setV (i := 3) sc_law.nd rfl (Or.inl rfl) (pe_toV (de_call takes0 c__law_mixed.ok rfl rfl (hr.mono (by decide)) (by rfl) c__law_mixed.g c__law_mixed.kp c__law_mixed.b (ad_cons (de_var 2) (ad_cons (de_var 1) ad_nil)))) rfl)
      (ss_cons (se_set (i := 4) sc_law.nd rfl (Or.inl rfl) (de_call takes0 c__law_asks.ok rfl rfl (hr.mono (by decide)) (by rfl) c__law_asks.g c__law_asks.kp c__law_asks.b (ad_cons (de_var 3) ad_nil)) rfl)
      (ss_cons (se_setV (i := 5) sc_law.nd rfl (Or.inl rfl) (ve_bin op_mod sc_mod (ve_bin op_fdiv sc_div (ve_var 3) ve_int) (ve_b1 call_lenA sc_len (by rfl) B.len_ (by decide +kernel) (pa_cons (pe_toV (de_var 4)) pa_nil))) rfl)
      (ss_cons (se_swp (ve_tup (ae_cons (pe_toV (de_pix (de_var 4) (ve_var 5) (fun _ _ => rfl))) (ae_cons (pe_toV (de_pix (de_var 4) ve_int (fun _ _ => rfl))) ae_nil))) (de_var 4) ve_int (de_var 4) (ve_var 5) rfl)
      (ss_cons (se_setV (i := 6) sc_law.nd rfl (Or.inl rfl) (pe_toV (de_t1 call_list_of sl_list (by rfl) B.list_ (by decide +kernel) (pa_cons (pe_toV (de_var 4)) pa_nil))) rfl)
      (ss_cons (se_setV (i := 7) sc_law.nd rfl (Or.inl rfl) (pe_toV (de_call takes0 c_heard.ok rfl rfl (hr.mono (by decide)) (by rfl) c_heard.g c_heard.kp c_heard.b (ad_cons (de_var 6) ad_nil))) rfl)
      (ss_cons (se_if (PW.pt (tw_or (te_val (ve_isi (by rfl) B.isinstance_ (by decide +kernel) (pa_cons (ve_var 7) (pa_cons (pe_bltn (v := .ty "bool") (by rfl) B.bool_ boot_bool rfl) pa_nil)))) (tw_or (te_cmp (op_neD hr.units) sc_ne (ve_var 7) (pe_toV (de_call takes0 c__law_heard.ok rfl rfl (hr.mono (by decide)) (by rfl) c__law_heard.g c__law_heard.kp c__law_heard.b (ad_cons (pe_ofV (ve_frz 4)) ad_nil))) (nomark _)) (tw_or1 (te_cmp (op_neD hr.units) sc_ne (ve_var 6) (pe_toV (de_var 4)) (nomark _)))))) (ss_one (se_retV ve_bl)) ss_nil)
      (ss_cons (se_if (te_cmp (op_neD hr.units) sc_ne (pe_toV (de_call takes0 c_heard.ok rfl rfl (hr.mono (by decide)) (by rfl) c_heard.g c_heard.kp c_heard.b (ad_cons (de_lsRv rfl (by rfl) B.list_ (by rfl) B.reversed_ (pe_toV (de_var 4))) ad_nil))) (ve_var 7) (nomark _)) (ss_one (se_retV ve_bl)) ss_nil)
      (ss_cons (se_setV (i := 8) sc_law.nd rfl (Or.inl rfl) (ve_bin op_fdiv sc_div (ve_var 3) ve_int) rfl)
      (ss_cons (se_if (te_cmp op_lt sc_B2 (ve_var 8) ve_int (nomark _)) (ss_one (se_setV (i := 8) sc_law.nd rfl (Or.inl rfl) (ve_un un_neg sc_neg (ve_var 8)) rfl)) ss_nil)
      (ss_cons (se_setV (i := 9) sc_law.nd rfl (Or.inl rfl) ve_int rfl)
      (ss_cons (se_for PassesOwn.never rfl (ie_rg1 (by rfl) B.range_ (ae_cons ve_int ae_nil)) (pg_name (i := 10) sc_law.nd rfl (Or.inl rfl)) (tg_name rfl)
      (ss_cons (se_setV (i := 11) sc_law.nd rfl (Or.inl rfl) (pe_toV (de_call takes0 c_may_ask.ok rfl rfl (hr.mono (by decide)) (by rfl) c_may_ask.g c_may_ask.kp c_may_ask.b (ad_cons (de_var 10) (ad_cons (pe_ofV ve_int) (ad_cons (de_var 8) ad_nil))))) rfl)
      (ss_cons (se_setV (i := 12) sc_law.nd rfl (Or.inl rfl) (pe_toV (de_call takes0 c_may_ask.ok rfl rfl (hr.mono (by decide)) (by rfl) c_may_ask.g c_may_ask.kp c_may_ask.b (ad_cons (de_var 10) (ad_cons (pe_ofV (ve_bin op_addP sc_addP ve_int (ve_bin op_mod sc_mod (ve_var 3) ve_int))) (ad_cons (de_var 8) ad_nil))))) rfl)
      (ss_cons (se_if (PW.pt (tw_or (te_cmp op_notB sc_notB (ve_var 11) ve_bl (nomark _)) (tw_or (te_not (te_val (ve_isi (by rfl) B.isinstance_ (by decide +kernel) (pa_cons (ve_var 12) (pa_cons (pe_bltn (v := .ty "bool") (by rfl) B.bool_ boot_bool rfl) pa_nil))))) (tw_or1 (te_cmp (op_neD hr.units) sc_ne (ve_var 12) (ve_cmp (op_eqD hr.units) sc_eq (ve_bin op_mod sc_mod (ve_var 8) ve_int) (ve_var 10) (nomark _)) (nomark _)))))) (ss_one (se_retV ve_bl)) ss_nil)
      (ss_one (se_setV (i := 9) sc_law.nd rfl (Or.inl rfl) (ve_bin op_addP sc_addP (ve_var 9) (ve_t1 call_intA sc_int (by rfl) B.int_ (by decide +kernel) (pa_cons (ve_var 12) pa_nil))) rfl))))))
      (ss_one (se_if (te_cmp (op_neD hr.units) sc_ne (ve_var 9) ve_int (nomark _)) (ss_one (se_retV ve_bl)) ss_nil)))))))))))))))
      (ss_one (se_retV ve_bl))))
end
theorem all_mk {l : PySem.W.OpenLaw} {w : World} {K : PySem.W.Frag} {h : Heap} {mg : Str → Option Value} {fa f1 f2 f3 f4 f5 f6 : Addr} (X : K.In h) (G : h.Ns mainGlobals mg) (hfa : mg "law" = some (.ref fa))
    {od1 an1 od2 an2 od3 an3 od4 an4 od5 an5 od6 an6 : Option Addr} {sl1 sl2 sl3 sl4 sl5 sl6 : Array (Option Value)} {oc1 kV1 dc1 pm1 cd1 ct1 oc2 kV2 dc2 pm2 cd2 ct2 oc3 kV3 dc3 pm3 cd3 ct3 oc4 kV4 dc4 pm4 cd4 ct4 oc5 kV5 dc5 pm5 cd5 ct5 oc6 kV6 dc6 pm6 cd6 ct6 : Value}  {ct_MOST_PHONES : Tok} {ct_CAPTURE : Tok}
    (a1 : PySem.W.nsIn K mainGlobals "may_ask" = some (some (.ref f1)))
    (l1 : K.lookup f1 = some ⟨oc1, od1, .func (PySem.W.fnOf "may_ask" "may_ask" (defArgs s_may_ask) (defBody s_may_ask) (defScope s_may_ask) .none kV1 dc1 pm1 an1 cd1 ct1), sl1⟩)
    (c1 : PySem.W.codeIn K cd1 "may_ask" = true)
    (k1 : PySem.W.keepIn K (.ref f1) = true)
    (a2 : PySem.W.nsIn K mainGlobals "heard" = some (some (.ref f2)))
    (l2 : K.lookup f2 = some ⟨oc2, od2, .func (PySem.W.fnOf "heard" "heard" (defArgs s_heard) (defBody s_heard) (defScope s_heard) .none kV2 dc2 pm2 an2 cd2 ct2), sl2⟩)
    (c2 : PySem.W.codeIn K cd2 "heard" = true)
    (k2 : PySem.W.keepIn K (.ref f2) = true)
    (a3 : PySem.W.nsIn K mainGlobals "_law_mixed" = some (some (.ref f3)))
    (l3 : K.lookup f3 = some ⟨oc3, od3, .func (PySem.W.fnOf "_law_mixed" "_law_mixed" (defArgs s__law_mixed) (defBody s__law_mixed) (defScope s__law_mixed) .none kV3 dc3 pm3 an3 cd3 ct3), sl3⟩)
    (c3 : PySem.W.codeIn K cd3 "_law_mixed" = true)
    (k3 : PySem.W.keepIn K (.ref f3) = true)
    (a4 : PySem.W.nsIn K mainGlobals "_law_heard" = some (some (.ref f4)))
    (l4 : K.lookup f4 = some ⟨oc4, od4, .func (PySem.W.fnOf "_law_heard" "_law_heard" (defArgs s__law_heard) (defBody s__law_heard) (defScope s__law_heard) .none kV4 dc4 pm4 an4 cd4 ct4), sl4⟩)
    (c4 : PySem.W.codeIn K cd4 "_law_heard" = true)
    (k4 : PySem.W.keepIn K (.ref f4) = true)
    (a5 : PySem.W.nsIn K mainGlobals "_law_asks" = some (some (.ref f5)))
    (l5 : K.lookup f5 = some ⟨oc5, od5, .func (PySem.W.fnOf "_law_asks" "_law_asks" (defArgs s__law_asks) (defBody s__law_asks) (defScope s__law_asks) .none kV5 dc5 pm5 an5 cd5 ct5), sl5⟩)
    (c5 : PySem.W.codeIn K cd5 "_law_asks" = true)
    (k5 : PySem.W.keepIn K (.ref f5) = true)
    (a6 : PySem.W.nsIn K mainGlobals "law" = some (some (.ref f6)))
    (l6 : K.lookup f6 = some ⟨oc6, od6, .func (PySem.W.fnOf "law" "law" (defArgs s_law) (defBody s_law) (defScope s_law) .none kV6 dc6 pm6 an6 cd6 ct6), sl6⟩)
    (c6 : PySem.W.codeIn K cd6 "law" = true)
    (k6 : PySem.W.keepIn K (.ref f6) = true)
    (z0 : PySem.W.nsIn K mainGlobals "all" = some none)
    (z1 : PySem.W.nsIn K mainGlobals "int" = some none)
    (z2 : PySem.W.nsIn K mainGlobals "len" = some none)
    (z3 : PySem.W.nsIn K mainGlobals "range" = some none)
    (z4 : PySem.W.nsIn K mainGlobals "min" = some none)
    (z5 : PySem.W.nsIn K mainGlobals "max" = some none)
    (z6 : PySem.W.nsIn K mainGlobals "enumerate" = some none)
    (z7 : PySem.W.nsIn K mainGlobals "list" = some none)
    (z8 : PySem.W.nsIn K mainGlobals "isinstance" = some none)
    (z9 : PySem.W.nsIn K mainGlobals "bool" = some none)
    (z10 : PySem.W.nsIn K mainGlobals "reversed" = some none)
    (gc_MOST_PHONES : PySem.W.nsIn K mainGlobals "MOST_PHONES" = some (some (.int 8 ct_MOST_PHONES)))
    (gc_CAPTURE : PySem.W.nsIn K mainGlobals "CAPTURE" = some (some (.int 8 ct_CAPTURE))) :
    ∃ fd : FuncData, (∀ (s : Shared) (v : Value), BindsTo s fd ⟨[v], []⟩ [("script", v)]) ∧ ∀ base : Heap, K.In base → base.Ns mainGlobals mg → FnOk l.prog w K mg base CX0 2 fa fd ["script"] (spLaw K) := by
  have e := hfa.symm.trans (PySem.W.mg_of X G a6)
  cases e
  have B : BI mg := ⟨PySem.W.mg_none_of X G z0, PySem.W.mg_none_of X G z1, PySem.W.mg_none_of X G z2, PySem.W.mg_none_of X G z3, PySem.W.mg_none_of X G z4, PySem.W.mg_none_of X G z5, PySem.W.mg_none_of X G z6, PySem.W.mg_none_of X G z7, PySem.W.mg_none_of X G z8, PySem.W.mg_none_of X G z9, PySem.W.mg_none_of X G z10⟩
  let cl : Str → Addr := fun _ => 0
  have C : CI K mg := ⟨⟨_, PySem.W.mg_of X G gc_MOST_PHONES⟩, ⟨_, PySem.W.mg_of X G gc_CAPTURE⟩⟩
  skip
  refine ⟨PySem.W.fnOf "law" "law" (defArgs s_law) (defBody s_law) (defScope s_law) .none kV6 dc6 pm6 an6 cd6 ct6, fun s v => .of_eq rfl, fun base _ _ => ?_⟩
  have F1 := fun_mk (st := s_may_ask) l1 c1 k1
  have C1 : Cal l.prog w K mg base (L2.CX l.prog w) 1 "may_ask" f1 _ ["number", "tries", "tick"] (spD K cl [] ["number", "tries", "tick"].length f_may_ask) := ⟨ok_may_ask F1 B C   , F1.binds (ps := ["number", "tries", "tick"]) fun _ _ _ _ _ _ us hl => match us, hl with | [_, _, _], _ => rfl, PySem.W.mg_of X G a1, k1⟩
  have F2 := fun_mk (st := s_heard) l2 c2 k2
  have C2 : Cal l.prog w K mg base (L2.CX l.prog w) 1 "heard" f2 _ ["asks"] (spD K cl [] ["asks"].length f_heard) := ⟨ok_heard F2 B C   , F2.binds (ps := ["asks"]) fun _ _ _ _ _ _ us hl => match us, hl with | [_], _ => rfl, PySem.W.mg_of X G a2, k2⟩
  have F3 := fun_mk (st := s__law_mixed) l3 c3 k3
  have C3 : Cal l.prog w K mg base (L2.CX l.prog w) 1 "_law_mixed" f3 _ ["cell", "turn"] (spD K cl [] ["cell", "turn"].length f__law_mixed) := ⟨ok__law_mixed F3 B   , F3.binds (ps := ["cell", "turn"]) fun _ _ _ _ _ _ us hl => match us, hl with | [_, _], _ => rfl, PySem.W.mg_of X G a3, k3⟩
  have F4 := fun_mk (st := s__law_heard) l4 c4 k4
  have C4 : Cal l.prog w K mg base (L2.CX l.prog w) 1 "_law_heard" f4 _ ["asks"] (spD K cl [] ["asks"].length f__law_heard) := ⟨ok__law_heard F4 B   , F4.binds (ps := ["asks"]) fun _ _ _ _ _ _ us hl => match us, hl with | [_], _ => rfl, PySem.W.mg_of X G a4, k4⟩
  have F5 := fun_mk (st := s__law_asks) l5 c5 k5
  have C5 : Cal l.prog w K mg base (L2.CX l.prog w) 1 "_law_asks" f5 _ ["value"] (spD K cl [] ["value"].length f__law_asks) := ⟨ok__law_asks F5 B   , F5.binds (ps := ["value"]) fun _ _ _ _ _ _ us hl => match us, hl with | [_], _ => rfl, PySem.W.mg_of X G a5, k5⟩
  have F6 := fun_mk (st := s_law) l6 c6 k6
  exact law_imp (cl := cl) (ct := []) rfl (ok_law F6 B    C2 C3 C5 C4 C1) law_main
end Lw
open PySem PySem.W PyProof.Rows
set_option pp.maxSteps 300 in
set_option maxHeartbeats 0 in
theorem PySem.Challenge.cw_mobileair_k50_access_holds : PySem.Challenge.rw_mobileair_k50_access.Holds := by
  w_on; o_law; k_head; (case hw => w_witness2)
  k_fill
  refine L2.walk_of (l := PySem.Challenge.rw_mobileair_k50_access) (n := 63) (k := 2) (x := "script") (CX := fun _ => L2.CX0) (sp := fun w => En.spLaw _) rfl (by decide) rfl ⟨rfl, by decide, by decide⟩ (fun w h Y => PySem.W.kIn_of Y) ?F (fun _ _ a ns hl _ hS => ⟨a, ns, rfl, hS, hl, fun _ => rfl⟩) (fun _ _ _ _ _ h => h)
  case F =>
    intro w mg fa h KX G hmg
    refine' Lw.all_mk KX G hmg ?a1 ?l1 ?c1 ?k1 ?a2 ?l2 ?c2 ?k2 ?a3 ?l3 ?c3 ?k3 ?a4 ?l4 ?c4 ?k4 ?a5 ?l5 ?c5 ?k5 ?a6 ?l6 ?c6 ?k6 ?z0 ?z1 ?z2 ?z3 ?z4 ?z5 ?z6 ?z7 ?z8 ?z9 ?z10 ?gc_MOST_PHONES ?gc_CAPTURE
    (case a1 => k_is); (case l1 => k_is); (case c1 => k_is); (case k1 => k_is); (case a2 => k_is); (case l2 => k_is); (case c2 => k_is); (case k2 => k_is); (case a3 => k_is); (case l3 => k_is); (case c3 => k_is); (case k3 => k_is); (case a4 => k_is); (case l4 => k_is); (case c4 => k_is); (case k4 => k_is); (case a5 => k_is); (case l5 => k_is); (case c5 => k_is); (case k5 => k_is); (case a6 => k_is); (case l6 => k_is); (case c6 => k_is); (case k6 => k_is); (case z0 => k_is); (case z1 => k_is); (case z2 => k_is); (case z3 => k_is); (case z4 => k_is); (case z5 => k_is); (case z6 => k_is); (case z7 => k_is); (case z8 => k_is); (case z9 => k_is); (case z10 => k_is); (case gc_MOST_PHONES => k_is); (case gc_CAPTURE => k_is)
