import PyProof.Rows.All
import Wide.All
import OpenK.AllK
import Wide.FinOn
import HandS.ForMost
import HandS.ForExc
import HandS.IsInst
import HandS.WideBits
import HandS.Walk
import HandS.EndBits
import HandS.SetFor
import PySem.Challenge.RW_mobileair_k02_distance_and_flips
set_option Elab.async false
set_option linter.all false
set_option maxRecDepth 100000
set_option maxHeartbeats 4000000
namespace Own
open PySem PySem.Spec PyProof.Rows L2

/-- a def of the text that others call: its promise, how it binds, where its name stands -/
structure Cal (P : Program) (w : World) (K : PySem.W.Frag) (mg : Str → Option Value) (base : Heap) (CX : CXT) (k : Nat) (x : Str) (f : Addr) (fd : FuncData) (ps : List Str) (sp : Sp) : Prop where
  ok : FnOk P w K mg base CX k f fd ps sp
  b : Binds K fd ps []
  g : mg x = some (.ref f)
  kp : PySem.W.keepIn K (.ref f) = true

theorem same_upd {H : Hp} {p : Addr} {o : HO} (h : H p = none) : Same H (upd H p o) := fun b x e => by
  rw [upd_ne (ne_of_none e h)]
  exact e
theorem same_upd_of {H0 H : Hp} {p : Addr} {o : HO} (h : Same H0 H) (hp : H0 p = none) : Same H0 (upd H p o) := fun b x e => by
  rw [upd_ne (ne_of_none e hp)]
  exact h b x e
theorem upd_get_ne {H : Hp} {p q : Addr} {o u : HO} (hp : H p = none) (hq : H q = some u) : upd H p o q = some u := by
  rw [upd_ne (ne_of_none hq hp)]
  exact hq

/-- a bit as an int, as a value -/
def b2 (b : Bool) : Int := match b with
  | true => 1
  | false => 0
def vb (b : Bool) : V := .int (b2 b)
theorem b2_t : b2 true = 1 := rfl
theorem b2_f : b2 false = 0 := rfl
theorem b2_01 (b : Bool) : b2 b = 0 ∨ b2 b = 1 := by cases b <;> simp [b2]
theorem b2_nn (b : Bool) : 0 ≤ b2 b := by cases b <;> simp [b2]
theorem b2_le (b : Bool) : b2 b ≤ 1 := by cases b <;> simp [b2]
theorem b2_inj {a b : Bool} (h : b2 a = b2 b) : a = b := by cases a <;> cases b <;> simp [b2] at h <;> rfl
theorem b2_xor (a b : Bool) : Builtin.bitXor (b2 a) (b2 b) = b2 (a ^^ b) := by cases a <;> cases b <;> decide +kernel
theorem b2_mod2 (a b : Bool) : (b2 a + b2 b) % 2 = b2 (a ^^ b) := by cases a <;> cases b <;> decide +kernel
theorem b2_mod3 (a b c : Bool) : (b2 a + b2 b + b2 c) % 2 = b2 (a ^^ b ^^ c) := by cases a <;> cases b <;> cases c <;> decide +kernel
theorem b2_mod4 (a b c d : Bool) : (b2 a + b2 b + b2 c + b2 d) % 2 = b2 (a ^^ b ^^ c ^^ d) := by cases a <;> cases b <;> cases c <;> cases d <;> decide +kernel
theorem b2_flip (a : Bool) : 1 - b2 a = b2 (!a) := by cases a <;> decide +kernel
theorem b2_odd (n : Int) : n % 2 = b2 (decide (n % 2 = 1)) := by
  by_cases h : n % 2 = 1
  · rw [decide_eq_true h, h]; rfl
  · have h2 : n % 2 = 0 := by omega
    rw [h2]; rfl

/-- data of lists of ints, of bits -/
theorem dp_ints {K : PySem.W.Frag} {H : Hp} : ∀ ns : List Int, DpAll K H (ns.map V.int) (ns.map PyData.int)
  | [] => .nil
  | n :: r => .cons (.int n) (dp_ints r)
theorem dp_list {K : PySem.W.Frag} {H : Hp} {a : Addr} {ns : List Int} (h : SqL K H a (ns.map V.int)) : Dp K H (.ref a) (.list (ns.map PyData.int)) := .lst h (dp_ints ns)
theorem dp_tup {K : PySem.W.Frag} {H : Hp} {a : Addr} {ns : List Int} (h : SqT K H a (ns.map V.int)) : Dp K H (.ref a) (.tuple (ns.map PyData.int)) := .tup h (dp_ints ns)
theorem map_vb (bs : List Bool) : bs.map vb = (bs.map b2).map V.int := by
  rw [List.map_map]; rfl
end Own

namespace Own
open PySem PySem.Spec PyProof.Rows L2
/-! ### places where the reading stops: a new object, a call, a loop, a comprehension (simp does not look behind them) -/
def Fx {α : Type} (_ : α) : Type := Unit
def fx {α : Type} {a : α} : Fx a := ()
def New (H : Hp) (o : HO) (Q : VK) (_ : Fx Q) : Prop := ∀ p, H p = none → Q (.ref p) (upd H p o)
theorem new_of {H : Hp} {o : HO} {Q : VK} (h : ∀ p H1, H p = none → Same H H1 → H1 p = some o → Q (.ref p) H1) {z : Fx Q} : New H o Q z := fun p np => h p _ np (same_upd np) upd_same
theorem new_ex {H : Hp} {o : HO} {Q : VK} (h : ∀ p, H p = none → Q (.ref p) (upd H p o)) : New H o Q fx := h
def CallTo (sp : Sp) (vs : List V) (H : Hp) (Q : VK) (E : XK) (_ : Fx (sp, Q, E)) : Prop := sp vs H Q E
theorem call_to {sp : Sp} {vs : List V} {H : Hp} {Q : VK} {E : XK} {z : Fx (sp, Q, E)} (h : sp vs H Q E) : CallTo sp vs H Q E z := h
/-- a loop, what is left of it behind its walk's own reading -/
def Loop (J : It) (g : TG) (tb : TS) (D : Ends) (σ : L2.St) (H : Hp) (_ : Fx (g, tb, D)) : Prop := ∃ W : Nat → Nat → L2.St → Hp → Prop, (∃ m, W 0 m σ H) ∧ ∀ i m σ H, W i m σ H →
  (J.stop i H ∧ D.nx σ H) ∨ (J.go i H ∧ ∃ N : L2.St → Hp → Prop, (∀ σ' H', N σ' H' → ∃ m', m' < m ∧ W (i + 1) m' σ' H') ∧ ∀ x H', J.yld i H x H' → g x σ H' fun σ2 H2 => tb { D with nx := N, ct := N, bk := D.nx } σ2 H2)
/-- a comprehension's rest -/
def LcLoop (J : It) (g : TG) (tt : TT) (te : TE) (vs : List Nat) (σ : L2.St) (H1 : Hp) (D : Addr) (Qd : Hp → Prop) : Prop := ∃ W : Nat → Nat → Hp → Prop, (∃ m, W 0 m (upd H1 D (.lst []))) ∧ ∀ i m H, W i m H →
  (J.stop i H ∧ Qd H) ∨ (J.go i H ∧ ∃ Nx : Hp → Prop, (∀ H', Nx H' → ∃ m', m' < m ∧ W (i + 1) m' H') ∧ ∀ x H', J.yld i H x H' → g x (wipe σ vs) H' fun σ2 H2 => wipe σ2 vs = wipe σ vs ∧ tt σ2 H2 fun b H3 =>
    if b = true then te σ2 H3 fun y H4 => ∃ acc, H4 D = some (.lst acc) ∧ acc.length < sizeLine ∧ Nx (upd H4 D (.lst (acc ++ [y]))) else Nx H3)
def LcNew (J : It) (g : TG) (tt : TT) (te : TE) (vs : List Nat) (σ : L2.St) (H1 : Hp) (Q : VK) (_ : Fx (g, tt, te, Q)) : Prop := ∀ D, H1 D = none → LcLoop J g tt te vs σ H1 D (Q (.ref D))
section
variable {t u : TS} {te ta tb tc : TE} {tt tu : TT} {g : TG} {D : Ends} {σ : L2.St} {H : Hp} {Q : VK} {K : PySem.W.Frag} {x y : V} {r r' : R2}
theorem e_seq : tSeq t u D σ H = t { D with nx := u D } σ H := rfl
theorem e_asg : tAsg te g D σ H = te σ H fun x H1 => g x σ H1 D.nx := rfl
theorem e_gName {i : Nat} {v : V} {Q : L2.St → Hp → Prop} : gName i v σ H Q = Q (σ.set i (some v)) H := rfl
theorem e_var {i : Nat} : tVar i σ H Q = ∃ v, σ[i]? = some (some v) ∧ Q v H := rfl
theorem e_C {v : V} : tC v σ H Q = Q v H := rfl
theorem e_op : tOp r ta tb σ H Q = ta σ H fun x H1 => tb σ H1 fun y H2 => r x y H2 Q := rfl
theorem e_un {r : V → Hp → VK → Prop} : tUn r ta σ H Q = ta σ H fun x H1 => r x H1 Q := rfl
theorem e_rI {C : Int → Int → Prop} {g : Int → Int → V} : rI C g x y H Q = ∃ i j, x = .int i ∧ y = .int j ∧ C i j ∧ Q (g i j) H := rfl
theorem e_rI0 {g : Int → Int → V} : rI0 g x y H Q = ∃ i j, x = .int i ∧ y = .int j ∧ Q (g i j) H := rfl
theorem e_rU {g : Int → V} : rU g x H Q = ∃ i, x = .int i ∧ Q (g i) H := rfl
theorem e_CMul {i j : Int} : CMul i j = ((-(2 ^ 64) < i ∧ i < 2 ^ 64) ∨ (-(2 ^ 64) < j ∧ j < 2 ^ 64)) := rfl
theorem e_CDiv {i j : Int} : CDiv i j = (0 < j ∧ j < 1073741824) := rfl
theorem e_CPow {i j : Int} : CPow i j = (0 ≤ j ∧ j ≤ 1000000 ∧ i.natAbs < 2 ^ 64) := rfl
theorem e_rEq : rEq x y H Q = (scal x y = true ∧ Q (.bl (decide (x = y))) H) := rfl
theorem e_rNe : rNe x y H Q = (scal x y = true ∧ Q (.bl (!decide (x = y))) H) := rfl
theorem e_scal_int {i j : Int} : (scal (.int i) (.int j) = true) = True := by rw [show scal (.int i) (.int j) = true from rfl]; exact eq_self true
theorem e_scal_str {i j : Str} : (scal (.str i) (.str j) = true) = True := by rw [show scal (.str i) (.str j) = true from rfl]; exact eq_self true
theorem e_scal_bl {i j : Bool} : (scal (.bl i) (.bl j) = true) = True := by rw [show scal (.bl i) (.bl j) = true from rfl]; exact eq_self true
theorem e_ifS {c : TT} : tIfS c t u D σ H = c σ H fun b H1 => if b = true then t D σ H1 else u D σ H1 := rfl
theorem e_test {Q : Bool → Hp → Prop} : tTest te σ H Q = te σ H fun x H' => ∃ k, x = .bl k ∧ Q k H' := rfl
theorem e_tB {Q : Bool → Hp → Prop} : tB te σ H Q = te σ H fun x H' => ∃ k, x = .bl k ∧ Q k H' := rfl
theorem e_ret : tRet te D σ H = te σ H D.rt := rfl
theorem e_retN : tRetN D σ H = D.rt .non H := rfl
theorem e_next : tNext D σ H = D.nx σ H := rfl
theorem e_brk : tBreak D σ H = D.bk σ H := rfl
theorem e_cnt : tCont D σ H = D.ct σ H := rfl
theorem e_cons {tr : TA} {Q : List V → Hp → Prop} : tCons te tr σ H Q = te σ H fun x H1 => tr σ H1 fun xs H2 => Q (x :: xs) H2 := rfl
theorem e_nil {Q : List V → Hp → Prop} : tNil σ H Q = Q [] H := rfl
theorem e_lst {t : TA} : tLst t σ H Q = t σ H fun xs H1 => xs.length ≤ sizeLine ∧ New H1 (.lst xs) Q fx := rfl
theorem e_tup {t : TA} : tTup t σ H Q = t σ H fun xs H1 => xs.length ≤ sizeLine ∧ New H1 (.tup xs) Q fx := rfl
theorem e_drop : tDrop te D σ H = te σ H fun _ H1 => D.nx σ H1 := rfl
theorem e_and {Q : Bool → Hp → Prop} : tAnd tt tu σ H Q = tt σ H fun c H1 => if c = true then tu σ H1 Q else Q false H1 := rfl
theorem e_or {Q : Bool → Hp → Prop} : tOr tt tu σ H Q = tt σ H fun c H1 => if c = true then Q true H1 else tu σ H1 Q := rfl
theorem e_not {Q : Bool → Hp → Prop} : tNot tt σ H Q = tt σ H fun c H1 => Q (!c) H1 := rfl
theorem e_andV : tAndV ta tb σ H Q = ta σ H fun x H1 => ∃ c, x = .bl c ∧ if c = true then tb σ H1 Q else Q (.bl false) H1 := rfl
theorem e_orV : tOrV ta tb σ H Q = ta σ H fun x H1 => ∃ c, x = .bl c ∧ if c = true then Q (.bl true) H1 else tb σ H1 Q := rfl
theorem e_notV : tNotV ta σ H Q = ta σ H fun x H1 => ∃ c, x = .bl c ∧ Q (.bl (!c)) H1 := rfl
theorem e_if : tIf tt ta tb σ H Q = tt σ H fun c H1 => if c = true then ta σ H1 Q else tb σ H1 Q := rfl
theorem e_chain : tChain r r' ta tb tc σ H Q = ta σ H fun x H1 => tb σ H1 fun y H2 => r x y H2 fun z H3 => ∃ k, z = .bl k ∧ (if k = true then tc σ H3 fun w' H4 => r' y w' H4 Q else Q (.bl false) H3) := rfl
theorem e_CB {rr : List V → Hp → VK → Prop} {t : TA} : tCB rr t σ H Q = t σ H fun vs H1 => rr vs H1 Q := rfl
theorem e_call {sp : Sp} {dvs : List V} {E : XK} {t : TA} : tCall sp dvs E t σ H Q = t σ H fun vs H1 => CallTo sp (vs ++ dvs) H1 Q E fx := rfl
theorem e_rIxL : rIxL K x y H Q = ∃ p xs i v, x = .ref p ∧ y = .int i ∧ SqL K H p xs ∧ atI xs i = some v ∧ Q v H := rfl
theorem e_rIxT : rIxT K x y H Q = ∃ p xs i v, x = .ref p ∧ y = .int i ∧ SqT K H p xs ∧ atI xs i = some v ∧ Q v H := rfl
theorem e_BM {T : String} {rr : V → List V → Hp → VK → Prop} {t : TA} : tBM K T rr te t σ H Q = te σ H fun x H1 => tyV K T x H1 ∧ t σ H1 fun xs H2 => rr x xs H2 Q := rfl
theorem e_BM0 {T : String} {rr : V → List V → Hp → VK → Prop} : tBM0 K T rr te σ H Q = te σ H fun x H1 => tyV K T x H1 ∧ rr x [] H1 Q := rfl
theorem e_rAppend {vs : List V} : rAppend x vs H Q = ∃ l xs y, x = .ref l ∧ vs = [y] ∧ H l = some (.lst xs) ∧ xs.length < sizeLine ∧ Q .non (upd H l (.lst (xs ++ [y]))) := rfl
theorem e_rCat : rCat x y H Q = ∃ l b xs zs, x = .ref l ∧ y = .ref b ∧ H l = some (.lst xs) ∧ H b = some (.lst zs) ∧ xs.length + zs.length ≤ sizeLine ∧ New H (.lst (xs ++ zs)) Q fx := rfl
theorem e_rRep : rRep x y H Q = ∃ l k xs, x = .ref l ∧ y = .int k ∧ H l = some (.lst xs) ∧ -(2 ^ 63) ≤ k ∧ k < 2 ^ 63 ∧ xs.length * k.toNat ≤ sizeLine ∧ New H (.lst (List.replicate k.toNat xs).flatten) Q fx := rfl
theorem e_sl {rr : V → Option Int → Option Int → Hp → VK → Prop} {tl th : TO} : tSl rr te tl th σ H Q = te σ H fun x H1 => tl σ H1 fun l H2 => th σ H2 fun u H3 => rr x l u H3 Q := rfl
theorem e_noPart {Q : Option Int → Hp → Prop} : tNoPart σ H Q = Q none H := rfl
theorem e_part {Q : Option Int → Hp → Prop} : tPart te σ H Q = te σ H fun x H1 => ∃ i, x = .int i ∧ Q (some i) H1 := rfl
theorem e_rSlL {lo hi : Option Int} : rSlL K x lo hi H Q = ∃ a xs, x = .ref a ∧ SqL K H a xs ∧ New H (.lst (cutV xs lo hi)) Q fx := rfl
theorem e_gSub {to ti : TE} {ts : TSet} {v : V} {Q : L2.St → Hp → Prop} : gSub to ti ts v σ H Q = to σ H fun o H1 => ti σ H1 fun i H2 => ts o i v H2 fun H3 => Q σ H3 := rfl
theorem e_rSetL {o i v : V} {Q : Hp → Prop} : rSetL o i v H Q = ∃ p xs k j, o = .ref p ∧ i = .int k ∧ H p = some (.lst xs) ∧ ixN xs.length k = some j ∧ Q (upd H p (.lst (xs.set j v))) := rfl
theorem e_bits : tBits te σ H Q = te σ H fun x H1 => ∃ i, x = .int i ∧ Q (.int (Builtin.Int.intBits i : Nat)) H1 := rfl
theorem e_yes {Q : Bool → Hp → Prop} : tYes σ H Q = Q true H := rfl
theorem e_gTup {n : Nat} {t : TGs} {v : V} {Q : L2.St → Hp → Prop} : gTup K n t v σ H Q = ∃ a xs, v = .ref a ∧ SqT K H a xs ∧ xs.length = n ∧ t xs σ H Q := rfl
theorem e_gNil {vs : List V} {Q : L2.St → Hp → Prop} : gNil vs σ H Q = (vs = [] ∧ Q σ H) := rfl
theorem e_gCons {t : TG} {u : TGs} {vs : List V} {Q : L2.St → Hp → Prop} : gCons t u vs σ H Q = ∃ v r, vs = v :: r ∧ t v σ H fun σ' H' => u r σ' H' Q := rfl
theorem e_aug {i : Nat} {ti : TIp} : tAug i te ti D σ H = ∃ x, σ[i]? = some (some x) ∧ te σ H fun y H1 => ti x y H1 fun z H2 => D.nx (σ.set i (some z)) H2 := rfl
theorem e_ipI {f : Int → Int → Int} : ipI f x y H Q = ∃ i j, x = .int i ∧ y = .int j ∧ Q (.int (f i j)) H := rfl
theorem e_cxK {CX : CXT} {P : Program} {w : World} {K : PySem.W.Frag} {mg : Str → Option Value} {base : Heap} {N : List Str} {q : Str} {sc : Scope} {f : Addr} {cd : Value} {A : Around} {o : List Env} {s : Shared} {H : Hp} {E : XK} : (cxOf CX P w K mg base N q sc f cd A o s H E).K = K := rfl
theorem e_wishK {X : Cx} {E : Value → Shared → Prop} : (X.wish E).K = X.K := rfl
theorem e_noxK {X : Cx} : X.nox.K = X.K := rfl
theorem e_for {wi : TI} {tb : TS} : tFor wi g tb D σ H = wi σ H fun J H1 => Loop J g tb D σ H1 fx := rfl
theorem e_lc {wi : TI} {vs : List Nat} : tLc wi g tt te vs σ H Q = wi σ H fun J H1 => LcNew J g tt te vs σ H1 Q fx := rfl
theorem e_iList {R : It → Hp → Prop} : iList K te σ H R = te σ H fun x H1 => ∃ a, x = .ref a ∧ (∃ xs, SqL K H1 a xs) ∧ R (Itl K a) H1 := rfl
theorem e_iTup {R : It → Hp → Prop} : iTup K te σ H R = te σ H fun x H1 => ∃ a, x = .ref a ∧ (∃ xs, SqT K H1 a xs) ∧ R (Itt K a) H1 := rfl
theorem e_iRng1 {t : TA} {R : It → Hp → Prop} : iRng1 t σ H R = t σ H fun vs H1 => ∃ j : Int, vs = [.int j] ∧ -(2 ^ 62) ≤ j ∧ j < 2 ^ 62 ∧ R (Itr 0 j.toNat) H1 := rfl
theorem e_iRng2 {t : TA} {R : It → Hp → Prop} : iRng2 t σ H R = t σ H fun vs H1 => ∃ i j : Int, vs = [.int i, .int j] ∧ (-(2 ^ 62) ≤ i ∧ i < 2 ^ 62 ∧ -(2 ^ 62) ≤ j ∧ j < 2 ^ 62) ∧ R (Itr i (j - i).toNat) H1 := rfl
theorem e_iEnum {t : TA} {R : It → Hp → Prop} : iEnum K t σ H R = t σ H fun vs H1 => ∃ a xs, vs = [.ref a] ∧ SqL K H1 a xs ∧ R (Ite K a) H1 := rfl
theorem e_iZip {t : TA} {R : It → Hp → Prop} : iZip K t σ H R = t σ H fun vs H1 => ∃ a b xs ys, vs = [.ref a, .ref b] ∧ SqL K H1 a xs ∧ SqL K H1 b ys ∧ R (Itz K a b) H1 := rfl
end
/-- a loop's word at a turn (simp leaves the word itself alone) -/
def At (Pv : Nat → L2.St → Hp → Prop) (i : Nat) (σ : L2.St) (H : Hp) (_ : Fx Pv) : Prop := Pv i σ H
theorem at_is {Pv : Nat → L2.St → Hp → Prop} {i : Nat} {σ : L2.St} {H : Hp} {z : Fx Pv} (h : Pv i σ H) : At Pv i σ H z := h
theorem loop_it {J : It} {n : Nat} {G : Hp → Prop} {Y : Nat → Hp → V → Hp → Prop} (w : Walk J n G Y) {g : TG} {tb : TS} {D : Ends} {σ : L2.St} {H : Hp} (Pv : Nat → L2.St → Hp → Prop) (h0 : Pv 0 σ H) (hG : ∀ i σ H, i ≤ n → Pv i σ H → G H)
    (hs : ∀ i x σ H H', i < n → Pv i σ H → Y i H x H' → g x σ H' fun σ2 H2 => tb { D with nx := fun σ H => At Pv (i + 1) σ H fx, ct := fun σ H => At Pv (i + 1) σ H fx, bk := D.nx } σ2 H2) (hd : ∀ σ H, Pv n σ H → D.nx σ H) {z : Fx (g, tb, D)} : Loop J g tb D σ H z := for_it w Pv h0 hG hs hd
/-- the list at D so far: l i; what stood ahead stands -/
def LcP (H1 : Hp) (D : Addr) (l : Nat → List V) (i : Nat) (H : Hp) : Prop := Same H1 H ∧ H D = some (.lst (l i))
theorem lcl_it {J : It} {n : Nat} {G : Hp → Prop} {Y : Nat → Hp → V → Hp → Prop} (w : Walk J n G Y) {g : TG} {tt : TT} {te : TE} {vs : List Nat} {σ : L2.St} {H1 : Hp} {D : Addr} {Qd : Hp → Prop} (hD : H1 D = none) (l : Nat → List V) (h0 : l 0 = []) (hG : ∀ H, Same H1 H → G H)
    (hs : ∀ i x H H', i < n → LcP H1 D l i H → Y i H x H' → g x (wipe σ vs) H' fun σ2 H2 => wipe σ2 vs = wipe σ vs ∧ tt σ2 H2 fun b H3 =>
      if b = true then te σ2 H3 fun y H4 => ∃ acc, H4 D = some (.lst acc) ∧ acc.length < sizeLine ∧ LcP H1 D l (i + 1) (upd H4 D (.lst (acc ++ [y]))) else LcP H1 D l (i + 1) H3)
    (hd : ∀ H, Same H1 H → H D = some (.lst (l n)) → Qd H) : LcLoop J g tt te vs σ H1 D Qd :=
  lc_it w (LcP H1 D l) ⟨same_upd hD, by rw [upd_same, h0]⟩ (fun _ H _ p => hG H p.1) hs fun H p => hd H p.1 p.2
theorem lc_app {H1 H H4 : Hp} {D : Addr} {l : Nat → List V} {i : Nat} {y : V} (hD : H1 D = none) (p : LcP H1 D l i H) (sm : Same H H4) (hl : l (i + 1) = l i ++ [y]) (hz : (l i).length < sizeLine) :
    ∃ acc, H4 D = some (.lst acc) ∧ acc.length < sizeLine ∧ LcP H1 D l (i + 1) (upd H4 D (.lst (acc ++ [y]))) :=
  ⟨l i, sm _ _ p.2, hz, same_upd_of (p.1.trans sm) hD, by rw [upd_same, hl]⟩
theorem lc_skip {H1 H H3 : Hp} {D : Addr} {l : Nat → List V} {i : Nat} (p : LcP H1 D l i H) (sm : Same H H3) (hl : l (i + 1) = l i) : LcP H1 D l (i + 1) H3 :=
  ⟨p.1.trans sm, by rw [hl]; exact sm _ _ p.2⟩
theorem ty_list {K : PySem.W.Frag} {H : Hp} {a : Addr} {xs : List V} (h : H a = some (.lst xs)) : tyV K "list" (.ref a) H := .inl ⟨rfl, _, .inl (.inl h)⟩
theorem r_append {K : PySem.W.Frag} {H : Hp} {l : Addr} {xs : List V} {y : V} {Q : VK} (h : H l = some (.lst xs)) (hz : xs.length < sizeLine) (q : Q .non (upd H l (.lst (xs ++ [y])))) : tyV K "list" (.ref l) H ∧ rAppend (.ref l) [y] H Q :=
  ⟨ty_list h, l, xs, y, rfl, rfl, h, hz, q⟩
theorem atI_in {α : Type} {xs : List α} {z : Int} {v : α} (h0 : 0 ≤ z) (h : xs[z.toNat]? = some v) : atI xs z = some v := by
  have e := atI_nat h
  rw [Int.toNat_of_nonneg h0] at e
  exact e

/-! ### equal lists of ints -/
theorem eqvAll_ints : ∀ ns ms : List Int, PyData.eqvAll (ns.map PyData.int) (ms.map PyData.int) = decide (ns = ms)
  | [], [] => by simp [PyData.eqvAll]
  | [], m :: r => by simp [PyData.eqvAll]
  | n :: r, [] => by simp [PyData.eqvAll]
  | n :: r, m :: q => by
    simp only [List.map_cons, PyData.eqvAll, PyData.eqv, eqvAll_ints r q, List.cons.injEq]
    by_cases h1 : n = m <;> by_cases h2 : r = q <;> simp [h1, h2]
theorem canLay_ints : ∀ ns : List Int, PyData.canLayAll0 (ns.map PyData.int) = true
  | [] => by simp [PyData.canLayAll0]
  | n :: r => by simp [PyData.canLayAll0, PyData.canLay0, canLay_ints r]
theorem depth_ints : ∀ ns : List Int, PyData.depthAll (ns.map PyData.int) ≤ 1
  | [] => by simp [PyData.depthAll]
  | n :: r => by
    have ih := depth_ints r
    simp only [List.map_cons, PyData.depthAll, PyData.depth]
    omega
theorem shaped_ints (ns : List Int) : SeqAt.shaped (.list (ns.map PyData.int)) = true := by
  have h := depth_ints ns
  unfold SeqAt.shaped
  rw [Bool.and_eq_true]
  refine ⟨by simp only [PyData.canLay0]; exact canLay_ints ns, decide_eq_true ?_⟩
  simp only [PyData.depth]
  omega
theorem shaped_intsT (ns : List Int) : SeqAt.shaped (.tuple (ns.map PyData.int)) = true := by
  have h := depth_ints ns
  unfold SeqAt.shaped
  rw [Bool.and_eq_true]
  refine ⟨by simp only [PyData.canLay0]; exact canLay_ints ns, decide_eq_true ?_⟩
  simp only [PyData.depth]
  omega
section
variable {K : PySem.W.Frag} {H : Hp} {a b : Addr} {ns ms : List Int} {Q : VK}
theorem r_ne_list (ha : SqL K H a (ns.map V.int)) (hb : SqL K H b (ms.map V.int)) (q : Q (.bl (!decide (ns = ms))) H) : rNeD K (.ref a) (.ref b) H Q := by
  refine ⟨_, _, dp_list ha, dp_list hb, shaped_ints _, shaped_ints _, ?_⟩
  rw [PyData.eqv, eqvAll_ints]
  exact q
theorem r_eq_list (ha : SqL K H a (ns.map V.int)) (hb : SqL K H b (ms.map V.int)) (q : Q (.bl (decide (ns = ms))) H) : rEqD K (.ref a) (.ref b) H Q := by
  refine ⟨_, _, dp_list ha, dp_list hb, shaped_ints _, shaped_ints _, ?_⟩
  rw [PyData.eqv, eqvAll_ints]
  exact q
theorem r_ne_tup (ha : SqT K H a (ns.map V.int)) (hb : SqT K H b (ms.map V.int)) (q : Q (.bl (!decide (ns = ms))) H) : rNeD K (.ref a) (.ref b) H Q := by
  refine ⟨_, _, dp_tup ha, dp_tup hb, shaped_intsT _, shaped_intsT _, ?_⟩
  rw [PyData.eqv, eqvAll_ints]
  exact q
/-- isinstance of an int, a list, a tuple -/
theorem r_isi {x : V} {t u : String} {b : Bool} (ty : TyX K H x (.type t)) (e : kitB t u = some b) (q : Q (.bl b) H) : rIsi K [x, .ty u] H Q := ⟨x, .ty u, .type t, .type u, b, rfl, .ty u, ty, kit_ty e, q⟩
end
end Own

namespace Own
open PySem PySem.Spec PyProof.Rows L2
/-! ### rules for what is tracked: the premise is an equation of the heap -/
def ivs (l : List Int) : List V := l.map V.int
def bz (u : List Bool) : List Int := u.map b2
theorem vint_inj {a b : Int} (h : V.int a = V.int b) : a = b := V.int.inj h
theorem map_inj_of {α β : Type} {f : α → β} (hf : ∀ a b, f a = f b → a = b) : ∀ {l m : List α}, l.map f = m.map f → l = m
  | [], [], _ => rfl
  | [], _ :: _, h => by simp at h
  | _ :: _, [], h => by simp at h
  | a :: l, b :: m, h => by
    simp only [List.map_cons, List.cons.injEq] at h
    rw [hf _ _ h.1, map_inj_of hf h.2]
theorem ivs_inj {a b : List Int} : (ivs a = ivs b) = (a = b) := propext ⟨fun h => map_inj_of (fun _ _ => vint_inj) h, fun h => by rw [h]⟩
theorem bz_inj {a b : List Bool} : (bz a = bz b) = (a = b) := propext ⟨fun h => map_inj_of (fun _ _ => b2_inj) h, fun h => by rw [h]⟩
theorem ivs_len {l : List Int} : (ivs l).length = l.length := List.length_map ..
theorem bz_len {u : List Bool} : (bz u).length = u.length := List.length_map ..
theorem ivs_app {a b : List Int} : ivs a ++ ivs b = ivs (a ++ b) := (List.map_append ..).symm
theorem bz_app {a b : List Bool} : bz a ++ bz b = bz (a ++ b) := (List.map_append (f := b2) ..).symm
theorem ivs_snoc {a : List Int} {z : Int} : ivs a ++ [V.int z] = ivs (a ++ [z]) := (List.map_append (f := V.int) (l₂ := [z])).symm
theorem bz_snoc {a : List Bool} {b : Bool} : bz a ++ [b2 b] = bz (a ++ [b]) := (List.map_append (f := b2) (l₂ := [b])).symm
theorem ivs_get {l : List Int} {i : Nat} : (ivs l)[i]? = (l[i]?).map V.int := List.getElem?_map ..
theorem bz_get {u : List Bool} {i : Nat} : (bz u)[i]? = (u[i]?).map b2 := List.getElem?_map ..
theorem atI_ints {l : List Int} {i : Int} : atI (ivs l) i = (atI l i).map V.int := by
  unfold atI ivs
  rw [List.length_map]
  cases ixN l.length i with
  | none => rfl
  | some j => exact List.getElem?_map ..
theorem atI_bz {u : List Bool} {i : Int} : atI (bz u) i = (atI u i).map b2 := by
  unfold atI bz
  rw [List.length_map]
  cases ixN u.length i with
  | none => rfl
  | some j => exact List.getElem?_map ..
theorem atI_at {α : Type} {l : List α} {i : Int} (h0 : 0 ≤ i) : atI l i = l[i.toNat]? := by
  unfold atI ixN
  rw [if_pos h0]
  by_cases h : i < l.length
  · rw [if_pos h]; rfl
  · rw [if_neg h]
    exact (List.getElem?_eq_none (by omega)).symm
theorem ivs_take {l : List Int} {n : Nat} : (ivs l).take n = ivs (l.take n) := (List.map_take ..).symm
theorem ivs_drop {l : List Int} {n : Nat} : (ivs l).drop n = ivs (l.drop n) := (List.map_drop ..).symm
theorem ivs_set {l : List Int} {n : Nat} {z : Int} : (ivs l).set n (.int z) = ivs (l.set n z) := (List.map_set ..).symm
theorem ivs_nil : ivs [] = [] := rfl
theorem ivs_cons {z : Int} {l : List Int} : ivs (z :: l) = .int z :: ivs l := rfl
theorem bz_nil : bz [] = [] := rfl
theorem bz_cons {b : Bool} {l : List Bool} : bz (b :: l) = b2 b :: bz l := rfl
def isLst : Option HO → Bool
  | some (.lst _) => true
  | _ => false
theorem isLst_some {xs : List V} : isLst (some (.lst xs)) = true := rfl
theorem ty_lst {K : PySem.W.Frag} {H : Hp} {p : Addr} (h : isLst (H p) = true) : tyV K "list" (.ref p) H = True := by
  cases e : H p with
  | none => rw [e] at h; cases h
  | some o =>
    cases o with
    | lst xs => exact eq_true (ty_list e)
    | _ => rw [e] at h; cases h
theorem upd_old {H : Hp} {p q : Addr} {o : HO} (hp : H p = none) (hq : (H q).isSome = true) : upd H p o q = H q :=
  upd_ne fun e => by rw [e, hp] at hq; cases hq
theorem upd_none {H : Hp} {p q : Addr} {o : HO} (h : upd H p o q = none) : q ≠ p ∧ H q = none := by
  have ne : q ≠ p := fun e => by rw [e, upd_same] at h; cases h
  exact ⟨ne, by rw [upd_ne ne] at h; exact h⟩
/-- an object changed: the heap behind it by a letter -/
theorem chg_of {H H0 : Hp} {p : Addr} {o : HO} {Q : Hp → Prop} (np : H0 p = none) (sm : Same H0 H) (h : ∀ H1, Same H0 H1 → (∀ q, q ≠ p → H1 q = H q) → H1 p = some o → Q H1) : Q (upd H p o) := h _ (same_upd_of sm np) (fun _ h => upd_ne h) upd_same
section
variable {X : Cx}
def rIxK : R2 := fun x y H Q => ∃ p xs i v, x = .ref p ∧ y = .int i ∧ H p = some (.lst xs) ∧ atI xs i = some v ∧ Q v H
theorem ixk_list : IxR X rIxK := fun value slice pins s σ H x y v u Q I rx ry h => ix_list value slice pins s σ H x y v u Q I rx ry (by
  obtain ⟨p, xs, i, v', e1, e2, hp, ha, q⟩ := h
  exact ⟨p, xs, i, v', e1, e2, .of hp, ha, q⟩)
def rIxKT : R2 := fun x y H Q => ∃ p xs i v, x = .ref p ∧ y = .int i ∧ H p = some (.tup xs) ∧ atI xs i = some v ∧ Q v H
theorem ixk_tup : IxR X rIxKT := fun value slice pins s σ H x y v u Q I rx ry h => ix_tup value slice pins s σ H x y v u Q I rx ry (by
  obtain ⟨p, xs, i, v', e1, e2, hp, ha, q⟩ := h
  exact ⟨p, xs, i, v', e1, e2, .of hp, ha, q⟩)
def rSlK : V → Option Int → Option Int → Hp → VK → Prop := fun x lo hi H Q => ∃ a xs, x = .ref a ∧ H a = some (.lst xs) ∧ ∀ p, H p = none → Q (.ref p) (upd H p (.lst (cutV xs lo hi)))
theorem slk_list : SlR X rSlK := fun pins s σ H x v vl vu lo hi sl Q I rx hs pl pu h => sl_list pins s σ H x v vl vu lo hi sl Q I rx hs pl pu (by
  obtain ⟨a, xs, e, hp, q⟩ := h
  exact ⟨a, xs, e, .of hp, q⟩)
def rLenK : List V → Hp → VK → Prop := fun vs H Q => ∃ p ys, vs = [.ref p] ∧ H p = some (.lst ys) ∧ Q (.int ys.length) H
theorem callk_len : CallR X (.builtin "len") rLenK := fun pins s σ H xs us Q I r h => call_len_seq pins s σ H xs us Q I r (by
  obtain ⟨p, ys, e, hp, q⟩ := h
  exact ⟨p, ys, e, .inl (.of hp), q⟩)
def rListK : List V → Hp → VK → Prop := fun vs H Q => ∃ p ys, vs = [.ref p] ∧ H p = some (.lst ys) ∧ ∀ l, H l = none → Q (.ref l) (upd H l (.lst ys))
theorem callk_list : CallR X (.type "list") rListK := fun pins s σ H xs us Q I r h => call_list_of pins s σ H xs us Q I r (by
  obtain ⟨p, ys, e, hp, q⟩ := h
  exact ⟨p, ys, e, .inl (.of hp), q⟩)
def rTupleK : List V → Hp → VK → Prop := fun vs H Q => ∃ p ys, vs = [.ref p] ∧ H p = some (.lst ys) ∧ ∀ l, H l = none → Q (.ref l) (upd H l (.tup ys))
theorem callk_tuple : CallR X (.type "tuple") rTupleK := fun pins s σ H xs us Q I r h => call_tuple_of pins s σ H xs us Q I r (by
  obtain ⟨p, ys, e, hp, q⟩ := h
  exact ⟨p, ys, e, .inl ⟨.of hp, q⟩⟩)
def rSumK : List V → Hp → VK → Prop := fun vs H Q => ∃ a ns, vs = [V.ref a] ∧ H a = some (.lst (ivs ns)) ∧ Q (.int ns.sum) H
theorem crk_sum (hc : X.calm = true) : CallR X (.builtin "sum") rSumK := fun pins s σ H xs us Q I r h => cr_sum hc pins s σ H xs us Q I r (by
  obtain ⟨p, ys, e, hp, q⟩ := h
  exact ⟨p, ys, e, .of hp, q⟩)
/-- == and != of lists of ivs -/
def rNeK : R2 := fun x y H Q => ∃ a b ns ms, x = .ref a ∧ y = .ref b ∧ H a = some (.lst (ivs ns)) ∧ H b = some (.lst (ivs ms)) ∧ Q (.bl (!decide (ns = ms))) H
def rEqK : R2 := fun x y H Q => ∃ a b ns ms, x = .ref a ∧ y = .ref b ∧ H a = some (.lst (ivs ns)) ∧ H b = some (.lst (ivs ms)) ∧ Q (.bl (decide (ns = ms))) H
theorem opk_ne (hu : X.A.units + 64 < cLine) : OpR X (compareOp .NotEq) rNeK := fun pins s σ H x y v u Q I rx ry h => op_neD hu pins s σ H x y v u Q I rx ry (by
  obtain ⟨a, b, ns, ms, rfl, rfl, h1, h2, q⟩ := h
  exact r_ne_list (.of h1) (.of h2) q)
theorem opk_eq (hu : X.A.units + 64 < cLine) : OpR X (compareOp .Eq) rEqK := fun pins s σ H x y v u Q I rx ry h => op_eqD hu pins s σ H x y v u Q I rx ry (by
  obtain ⟨a, b, ns, ms, rfl, rfl, h1, h2, q⟩ := h
  exact r_eq_list (.of h1) (.of h2) q)
theorem r_eq_tup {K : PySem.W.Frag} {H : Hp} {a b : Addr} {ns ms : List Int} {Q : VK} (ha : SqT K H a (ns.map V.int)) (hb : SqT K H b (ms.map V.int)) (q : Q (.bl (decide (ns = ms))) H) : rEqD K (.ref a) (.ref b) H Q := by
  refine ⟨_, _, dp_tup ha, dp_tup hb, shaped_intsT _, shaped_intsT _, ?_⟩
  rw [PyData.eqv, eqvAll_ints]
  exact q
def rNeKT : R2 := fun x y H Q => ∃ a b ns ms, x = .ref a ∧ y = .ref b ∧ H a = some (.tup (ivs ns)) ∧ H b = some (.tup (ivs ms)) ∧ Q (.bl (!decide (ns = ms))) H
def rEqKT : R2 := fun x y H Q => ∃ a b ns ms, x = .ref a ∧ y = .ref b ∧ H a = some (.tup (ivs ns)) ∧ H b = some (.tup (ivs ms)) ∧ Q (.bl (decide (ns = ms))) H
theorem opk_neT (hu : X.A.units + 64 < cLine) : OpR X (compareOp .NotEq) rNeKT := fun pins s σ H x y v u Q I rx ry h => op_neD hu pins s σ H x y v u Q I rx ry (by
  obtain ⟨a, b, ns, ms, rfl, rfl, h1, h2, q⟩ := h
  exact r_ne_tup (.of h1) (.of h2) q)
theorem opk_eqT (hu : X.A.units + 64 < cLine) : OpR X (compareOp .Eq) rEqKT := fun pins s σ H x y v u Q I rx ry h => op_eqD hu pins s σ H x y v u Q I rx ry (by
  obtain ⟨a, b, ns, ms, rfl, rfl, h1, h2, q⟩ := h
  exact r_eq_tup (.of h1) (.of h2) q)
/-- isinstance(x, T) of an int, a bool, a tracked list or tuple -/
def tyO : Option HO → String
  | some (.lst _) => "list"
  | some (.tup _) => "tuple"
  | _ => ""
def tyK : V → Hp → String
  | .int _, _ => "int"
  | .bl _, _ => "bool"
  | .str _, _ => "str"
  | .non, _ => "NoneType"
  | .ref a, H => tyO (H a)
  | _, _ => ""
theorem tyX_of {K : PySem.W.Frag} {x : V} {H : Hp} (h : tyK x H ≠ "") : TyX K H x (.type (tyK x H)) := by
  cases x with
  | int i => exact .base (.int i)
  | bl b => exact .base (.bl b)
  | str b => exact .base (.str b)
  | non => exact .base .non
  | ref a =>
    have h' : tyO (H a) ≠ "" := h
    show TyX K H (.ref a) (.type (tyO (H a)))
    cases e : H a with
    | none => rw [e] at h'; exact absurd rfl h'
    | some o =>
      rw [e] at h'
      cases o with
      | lst xs => exact .base (.lst e)
      | tup xs => exact .base (.tup e)
      | _ => exact absurd rfl h'
  | _ => exact absurd rfl h
def rIsiK : List V → Hp → VK → Prop := fun xs H Q => ∃ x T b, xs = [x, .ty T] ∧ tyK x H ≠ "" ∧ kitB (tyK x H) T = some b ∧ Q (.bl b) H
theorem callk_isi : CallR X (.builtin "isinstance") rIsiK := fun pins s σ H xs us Q I r h => call_isi pins s σ H xs us Q I r (by
  obtain ⟨x, T, b, rfl, h1, h2, q⟩ := h
  exact ⟨x, .ty T, _, _, b, rfl, .ty T, tyX_of h1, kit_ty h2, q⟩)
end
section
variable {H : Hp} {Q : VK} {x y : V} {vs : List V}
theorem e_rIxK : rIxK x y H Q = ∃ p xs i v, x = .ref p ∧ y = .int i ∧ H p = some (.lst xs) ∧ atI xs i = some v ∧ Q v H := rfl
theorem e_rIxKT : rIxKT x y H Q = ∃ p xs i v, x = .ref p ∧ y = .int i ∧ H p = some (.tup xs) ∧ atI xs i = some v ∧ Q v H := rfl
theorem e_rSlK {lo hi : Option Int} : rSlK x lo hi H Q = ∃ a xs, x = .ref a ∧ H a = some (.lst xs) ∧ New H (.lst (cutV xs lo hi)) Q fx := rfl
theorem e_rLenK : rLenK vs H Q = ∃ p ys, vs = [.ref p] ∧ H p = some (.lst ys) ∧ Q (.int ys.length) H := rfl
theorem e_rListK : rListK vs H Q = ∃ p ys, vs = [.ref p] ∧ H p = some (.lst ys) ∧ New H (.lst ys) Q fx := rfl
theorem e_rTupleK : rTupleK vs H Q = ∃ p ys, vs = [.ref p] ∧ H p = some (.lst ys) ∧ New H (.tup ys) Q fx := rfl
theorem e_rSumK : rSumK vs H Q = ∃ a ns, vs = [V.ref a] ∧ H a = some (.lst (ivs ns)) ∧ Q (.int ns.sum) H := rfl
theorem e_rNeK : rNeK x y H Q = ∃ a b ns ms, x = .ref a ∧ y = .ref b ∧ H a = some (.lst (ivs ns)) ∧ H b = some (.lst (ivs ms)) ∧ Q (.bl (!decide (ns = ms))) H := rfl
theorem e_rEqK : rEqK x y H Q = ∃ a b ns ms, x = .ref a ∧ y = .ref b ∧ H a = some (.lst (ivs ns)) ∧ H b = some (.lst (ivs ms)) ∧ Q (.bl (decide (ns = ms))) H := rfl
theorem e_rNeKT : rNeKT x y H Q = ∃ a b ns ms, x = .ref a ∧ y = .ref b ∧ H a = some (.tup (ivs ns)) ∧ H b = some (.tup (ivs ms)) ∧ Q (.bl (!decide (ns = ms))) H := rfl
theorem e_rEqKT : rEqKT x y H Q = ∃ a b ns ms, x = .ref a ∧ y = .ref b ∧ H a = some (.tup (ivs ns)) ∧ H b = some (.tup (ivs ms)) ∧ Q (.bl (decide (ns = ms))) H := rfl
theorem e_rIsiK {T : String} : rIsiK [x, .ty T] H Q = (tyK x H ≠ "" ∧ ∃ b, kitB (tyK x H) T = some b ∧ Q (.bl b) H) := propext ⟨fun ⟨x', T', b, e, h1, h2, q⟩ => by
    injection e with e1 e2
    injection e2 with e3 _
    injection e3 with e3
    subst e1 e3
    exact ⟨h1, b, h2, q⟩, fun ⟨h1, b, h2, q⟩ => ⟨x, T, b, rfl, h1, h2, q⟩⟩
theorem tyK_int {z : Int} : tyK (.int z) H = "int" := rfl
theorem tyK_bl {z : Bool} : tyK (.bl z) H = "bool" := rfl
theorem tyK_str {z : Str} : tyK (.str z) H = "str" := rfl
theorem tyK_non : tyK .non H = "NoneType" := rfl
theorem tyK_ref {a : Addr} : tyK (.ref a) H = tyO (H a) := rfl
theorem tyO_lst {xs : List V} : tyO (some (.lst xs)) = "list" := rfl
theorem tyO_tup {xs : List V} : tyO (some (.tup xs)) = "tuple" := rfl
theorem kit1 : kitB "int" "bool" = some false := by decide +kernel
theorem kit2 : kitB "bool" "bool" = some true := by decide +kernel
theorem kit3 : kitB "list" "list" = some true := by decide +kernel
theorem kit4 : kitB "tuple" "tuple" = some true := by decide +kernel
theorem kit5 : kitB "int" "int" = some true := by decide +kernel
theorem kit6 : kitB "list" "tuple" = some false := by decide +kernel
theorem kit7 : kitB "tuple" "list" = some false := by decide +kernel
theorem kit8 : kitB "NoneType" "bool" = some false := by decide +kernel
theorem kit9 : kitB "NoneType" "int" = some false := by decide +kernel
theorem hlst_inj {a b : List V} : (HO.lst a = HO.lst b) = (a = b) := propext ⟨fun h => HO.lst.inj h, fun h => by rw [h]⟩
theorem htup_inj {a b : List V} : (HO.tup a = HO.tup b) = (a = b) := propext ⟨fun h => HO.tup.inj h, fun h => by rw [h]⟩
theorem vty_inj {a b : String} : (V.ty a = V.ty b) = (a = b) := propext ⟨fun h => V.ty.inj h, fun h => by rw [h]⟩
end
/-! ### slices, walks over a script's numbered items -/
theorem cut_to (xs : List V) {k : Int} (h : 0 ≤ k) : cutV xs none (some k) = xs.take k.toNat := by
  obtain ⟨n, rfl⟩ := Int.eq_ofNat_of_zero_le h
  unfold cutV
  rw [HT.sIx_none, HT.sIx_nat, Int.toNat_natCast, List.drop_zero, Nat.sub_zero, Nat.min_def]
  split
  · rfl
  · rw [List.take_of_length_le (Nat.le_refl _), List.take_of_length_le (by omega)]
theorem cut_from (xs : List V) {k : Int} (h : 0 ≤ k) : cutV xs (some k) none = xs.drop k.toNat := by
  obtain ⟨n, rfl⟩ := Int.eq_ofNat_of_zero_le h
  unfold cutV
  rw [HT.sIx_none, HT.sIx_nat, Int.toNat_natCast]
  by_cases hn : n ≤ xs.length
  · rw [Nat.min_eq_left hn, List.take_of_length_le (by rw [List.length_drop]; omega)]
  · rw [Nat.min_eq_right (by omega), List.drop_of_length_le (Nat.le_refl _), List.drop_of_length_le (by omega)]
    simp
theorem cut_in (xs : List V) {j k : Int} (h : 0 ≤ j) (h2 : 0 ≤ k) : cutV xs (some j) (some k) = (xs.take k.toNat).drop j.toNat := by
  obtain ⟨m, rfl⟩ := Int.eq_ofNat_of_zero_le h
  obtain ⟨n, rfl⟩ := Int.eq_ofNat_of_zero_le h2
  unfold cutV
  rw [HT.sIx_nat, HT.sIx_nat, Int.toNat_natCast, Int.toNat_natCast]
  apply List.ext_getElem?
  intro i
  rw [List.getElem?_take, List.getElem?_drop, List.getElem?_drop, List.getElem?_take]
  have g : ∀ j, xs.length ≤ j → xs[j]? = none := fun j hj => List.getElem?_eq_none hj
  by_cases h1 : m ≤ xs.length
  · rw [Nat.min_eq_left h1]
    by_cases h4 : m + i < n
    · rw [if_pos h4]
      by_cases h5 : m + i < xs.length
      · rw [if_pos (by omega)]
      · rw [g (m + i) (by omega)]; split <;> rfl
    · rw [if_neg h4, if_neg (by omega)]
  · rw [Nat.min_eq_right (a := m) (by omega), g (xs.length + i) (by omega), g (m + i) (by omega)]
    split <;> split <;> rfl
theorem loop_enum {K : PySem.W.Frag} {a : Addr} {l : List Int} {p q n : Nat} {tb : TS} {D : Ends} {σ : L2.St} {H : Hp} (hn : 2 = n) (Pv : Nat → L2.St → Hp → Prop) (h0 : Pv 0 σ H) (hG : ∀ i σ H, Pv i σ H → H a = some (.lst (ivs l)))
    (hs : ∀ i z σ H H', l[i]? = some z → i < l.length → Pv i σ H → Same H H' → tb { D with nx := fun σ H => At Pv (i + 1) σ H fx, ct := fun σ H => At Pv (i + 1) σ H fx, bk := D.nx } ((σ.set p (some (.int (i : Nat)))).set q (some (.int z))) H')
    (hd : ∀ σ H, Pv l.length σ H → D.nx σ H) {z : Fx (gTup K n (gCons (gName p) (gCons (gName q) gNil)), tb, D)} : Loop (Ite K a) (gTup K n (gCons (gName p) (gCons (gName q) gNil))) tb D σ H z := by
  refine loop_it (walk_enum (xs := ivs l)) Pv h0 (fun i σ H _ h => .of (hG i σ H h)) ?_ (fun σ H h => hd σ H (by rw [ivs_len] at h; exact h))
  rintro i x σ H H' hi hp ⟨T, x1, y1, rfl, hT, rfl, e1, e2⟩
  rw [ivs_len] at hi
  have ev : (ivs l)[i]? = some (.int l[i]) := by rw [ivs_get, List.getElem?_eq_getElem hi]; rfl
  have e3 : V.int (i : Nat) = x1 := Option.some.inj e1
  have e4 : V.int l[i] = y1 := Option.some.inj (ev.symm.trans e2)
  subst e3 e4
  exact ⟨T, _, rfl, .of upd_same, hn, _, _, rfl, _, _, rfl, rfl, hs i l[i] σ H _ (List.getElem?_eq_getElem hi) hi hp (same_upd hT)⟩
/-! ### comprehensions -/
/-- an item is made: y, the heap behind it H4 -/
def Elt (H1 : Hp) (D : Addr) (l : Nat → List V) (i : Nat) (y : V) (H4 : Hp) (_ : Fx l) : Prop := ∃ acc, H4 D = some (.lst acc) ∧ acc.length < sizeLine ∧ LcP H1 D l (i + 1) (upd H4 D (.lst (acc ++ [y])))
theorem elt_is {H1 H H4 : Hp} {D : Addr} {l : Nat → List V} {i : Nat} {y : V} {z : Fx l} (hD : H1 D = none) (p : LcP H1 D l i H) (sm : Same H H4) (hl : l (i + 1) = l i ++ [y]) (hz : (l i).length < 16777216) : Elt H1 D l i y H4 z :=
  lc_app hD p sm hl (by rw [sizeLine_eq]; exact hz)
def NoElt (H1 : Hp) (D : Addr) (l : Nat → List V) (i : Nat) (H3 : Hp) (_ : Fx l) : Prop := LcP H1 D l (i + 1) H3
theorem lc_rng {lo : Int} {n j : Nat} {te : TE} {σ : L2.St} {H1 : Hp} {Q : VK} {z : Fx (gName j, tYes, te, Q)} (l : Nat → List V) (h0 : l 0 = [])
    (hs : ∀ D i H, H1 D = none → i < n → LcP H1 D l i H → te ((σ.set j none).set j (some (.int (lo + (i : Nat))))) H fun y H4 => Elt H1 D l i y H4 fx)
    (hd : ∀ D H, H1 D = none → Same H1 H → H D = some (.lst (l n)) → Q (.ref D) H) : LcNew (Itr lo n) (gName j) tYes te [j] σ H1 Q z := fun D hD => by
  refine lcl_it walk_range hD l h0 (fun _ _ => trivial) ?_ (fun H => hd D H hD)
  rintro i x H H' hi hp ⟨rfl, rfl⟩
  refine ⟨?_, hs D i _ hD hi hp⟩
  show ((σ.set j none).set j (some (.int (lo + (i : Nat))))).set j none = σ.set j none
  rw [List.set_set, List.set_set]
/-- over a list of ints, with a test or without -/
theorem lc_lst {K : PySem.W.Frag} {a : Addr} {j : Nat} {tt : TT} {te : TE} {σ : L2.St} {H1 : Hp} {Q : VK} {z : Fx (gName j, tt, te, Q)} {xs : List V} (ha : H1 a = some (.lst xs)) (l : Nat → List V) (h0 : l 0 = [])
    (hs : ∀ D i x H, H1 D = none → xs[i]? = some x → LcP H1 D l i H → tt ((σ.set j none).set j (some x)) H fun b H3 => if b = true then te ((σ.set j none).set j (some x)) H3 fun y H4 => Elt H1 D l i y H4 fx else NoElt H1 D l i H3 fx)
    (hd : ∀ D H, H1 D = none → Same H1 H → H D = some (.lst (l xs.length)) → Q (.ref D) H) : LcNew (Itl K a) (gName j) tt te [j] σ H1 Q z := fun D hD => by
  refine lcl_it walk_list hD l h0 (fun H s => .of (s _ _ ha)) ?_ (fun H => hd D H hD)
  rintro i x H H' hi hp ⟨rfl, hx⟩
  refine ⟨?_, hs D i x _ hD hx hp⟩
  show ((σ.set j none).set j (some x)).set j none = σ.set j none
  rw [List.set_set, List.set_set]
theorem lc_rngT {lo : Int} {n j : Nat} {tt : TT} {te : TE} {σ : L2.St} {H1 : Hp} {Q : VK} {z : Fx (gName j, tt, te, Q)} (l : Nat → List V) (h0 : l 0 = [])
    (hs : ∀ D i H, H1 D = none → i < n → LcP H1 D l i H → tt ((σ.set j none).set j (some (.int (lo + (i : Nat))))) H fun b H3 => if b = true then te ((σ.set j none).set j (some (.int (lo + (i : Nat))))) H3 fun y H4 => Elt H1 D l i y H4 fx else NoElt H1 D l i H3 fx)
    (hd : ∀ D H, H1 D = none → Same H1 H → H D = some (.lst (l n)) → Q (.ref D) H) : LcNew (Itr lo n) (gName j) tt te [j] σ H1 Q z := fun D hD => by
  refine lcl_it walk_range hD l h0 (fun _ _ => trivial) ?_ (fun H => hd D H hD)
  rintro i x H H' hi hp ⟨rfl, rfl⟩
  refine ⟨?_, hs D i _ hD hi hp⟩
  show ((σ.set j none).set j (some (.int (lo + (i : Nat))))).set j none = σ.set j none
  rw [List.set_set, List.set_set]
theorem no_elt {H1 H H3 : Hp} {D : Addr} {l : Nat → List V} {i : Nat} {z : Fx l} (p : LcP H1 D l i H) (sm : Same H H3) (hl : l (i + 1) = l i) : NoElt H1 D l i H3 z := lc_skip p sm hl
theorem wipe2 {σ : L2.St} {i j : Nat} {x y : Option V} : ((((((σ.set j none).set i none).set i x).set j y).set j none).set i none) = (σ.set j none).set i none := by
  apply List.ext_getElem?
  intro k
  simp only [List.getElem?_set, List.length_set]
  by_cases h1 : i = k <;> by_cases h2 : j = k <;> simp [h1, h2]
theorem lc_zip {K : PySem.W.Frag} {a b : Addr} {i j n : Nat} {te : TE} {σ : L2.St} {H1 : Hp} {Q : VK} {z : Fx (gTup K n (gCons (gName i) (gCons (gName j) gNil)), tYes, te, Q)} {xs ys : List V} (hn : 2 = n) (ha : H1 a = some (.lst xs)) (hb : H1 b = some (.lst ys)) (hl : xs.length = ys.length) (l : Nat → List V) (h0 : l 0 = [])
    (hs : ∀ D k x y H, H1 D = none → xs[k]? = some x → ys[k]? = some y → LcP H1 D l k H → te ((((σ.set j none).set i none).set i (some x)).set j (some y)) H fun y H4 => Elt H1 D l k y H4 fx)
    (hd : ∀ D H, H1 D = none → Same H1 H → H D = some (.lst (l xs.length)) → Q (.ref D) H) : LcNew (Itz K a b) (gTup K n (gCons (gName i) (gCons (gName j) gNil))) tYes te [i, j] σ H1 Q z := fun D hD => by
  refine lcl_it (walk_zip (xs := xs) (ys := ys) (n := xs.length) (by omega)) hD l h0 (fun H s => ⟨.of (s _ _ ha), .of (s _ _ hb)⟩) ?_ (fun H => hd D H hD)
  rintro k v H H' hk hp ⟨T, x, y, rfl, hT, rfl, e1, e2⟩
  refine ⟨T, _, rfl, .of upd_same, hn, _, _, rfl, _, _, rfl, rfl, wipe2, ?_⟩
  exact hs D k x y _ hD e1 e2 ⟨hp.1.trans (same_upd hT), (same_upd hT) _ _ hp.2⟩
theorem ivs_at {l : List Int} {i : Nat} {x : V} (h : (ivs l)[i]? = some x) : ∃ b, l[i]? = some b ∧ x = .int b := by
  rw [ivs_get] at h
  cases e : l[i]? with
  | none => rw [e] at h; cases h
  | some b =>
    rw [e] at h
    exact ⟨b, rfl, (Option.some.inj h).symm⟩
theorem get_setj {σ : L2.St} {j : Nat} {x : V} (hj : j < σ.length) : ((σ.set j none).set j (some x))[j]? = some (some x) := by
  rw [List.set_set, List.getElem?_set_self hj]
/-- [x for x in xs if isinstance(x, bool)] of ints -/
theorem lc_nobools {K : PySem.W.Frag} {a : Addr} {j : Nat} {σ : L2.St} {H1 : Hp} {Q : VK} {z : Fx (gName j, tB (tCB rIsiK (tCons (tVar j) (tCons (tC (V.ty "bool")) tNil))), tVar j, Q)} {l : List Int} (ha : H1 a = some (.lst (ivs l))) (hj : j < σ.length)
    (hd : ∀ D H, H1 D = none → Same H1 H → H D = some (.lst (ivs [])) → Q (.ref D) H) : LcNew (Itl K a) (gName j) (tB (tCB rIsiK (tCons (tVar j) (tCons (tC (V.ty "bool")) tNil)))) (tVar j) [j] σ H1 Q z := by
  refine lc_lst ha (fun _ => []) rfl ?_ hd
  intro D i x H hD hx hp
  obtain ⟨b, _, rfl⟩ := ivs_at hx
  refine ⟨.int b, get_setj hj, _, _, false, rfl, (by simp [tyK_int]), kit1, false, rfl, ?_⟩
  exact iteF ⟨hp.1, hp.2⟩
/-! ### an if whose ways meet: what holds where they meet is said once -/
def tIfJ (c : TT) (t u : TS) : TS := fun D σ H => c σ H fun b H1 => if b = true then t D σ H1 else u D σ H1
theorem ps_ifJ {X : Cx} {c : Expr} {a b : List Stmt} {tc : TT} {t u : TS} {pos : Pos} (hc : PT X c tc) (ha : PSs X a t) (hb : PSs X b u) : PS X (.If c a b pos) (tIfJ tc t u) := ps_if hc ha hb
theorem if_join {c : TT} {t u : TS} {D : Ends} {σ : L2.St} {H : Hp} (R : L2.St → Hp → Prop) (key : ∀ σ H, R σ H → D.nx σ H)
    (main : ∀ nx : L2.St → Hp → Prop, (∀ σ H, R σ H → nx σ H) → tIfS c t u { D with nx := nx } σ H) : tIfJ c t u D σ H := main D.nx key
theorem ivs_bset {u : List Bool} {n : Nat} {b : Bool} : (bz u).set n (b2 b) = bz (u.set n b) := (List.map_set ..).symm
theorem ixN_in {n : Nat} {z : Int} (h0 : 0 ≤ z) (h : z < n) : ixN n z = some z.toNat := by
  unfold ixN
  rw [if_pos h0, if_pos h]
theorem pe_globI {X : Cx} {x : Str} {n : Int} {pos : Pos} (hg : Gl X x) (hm : ∃ t, X.mg x = some (.int n t)) (hd : (x == ("__debug__" : Str)) = false := by decide) : PE X (.Name x pos) (tC (.int n)) := by
  obtain ⟨t, h⟩ := hm
  exact pe_glob hg h ⟨t, rfl⟩ hd
theorem r_ne_refl {K : PySem.W.Frag} {H : Hp} {x y : V} {d : PyData} {Q : VK} (h1 : Dp K H x d) (h2 : Dp K H y d) (hs : SeqAt.shaped d = true) (q : Q (.bl false) H) : rNeD K x y H Q := by
  refine ⟨d, d, h1, h2, hs, hs, ?_⟩
  rw [SeqAt.eqv_refl d (SeqAt.canLay_of_shaped hs)]
  exact q
theorem r_eq_refl {K : PySem.W.Frag} {H : Hp} {x y : V} {d : PyData} {Q : VK} (h1 : Dp K H x d) (h2 : Dp K H y d) (hs : SeqAt.shaped d = true) (q : Q (.bl true) H) : rEqD K x y H Q := by
  refine ⟨d, d, h1, h2, hs, hs, ?_⟩
  rw [SeqAt.eqv_refl d (SeqAt.canLay_of_shaped hs)]
  exact q
theorem dpk_list {K : PySem.W.Frag} {H : Hp} {a : Addr} {l : List Int} (h : H a = some (.lst (ivs l))) : Dp K H (.ref a) (.list (l.map PyData.int)) := dp_list (.of h)
/-- rows of lists of ints -/
def dd (l : List Int) : PyData := .list (l.map PyData.int)
theorem canLay_dd (l : List Int) : (dd l).canLay0 = true := by unfold dd; simp only [PyData.canLay0]; exact canLay_ints l
theorem depth_dd (l : List Int) : (dd l).depth ≤ 2 := by
  have h := depth_ints l
  unfold dd; simp only [PyData.depth]; omega
theorem shaped_dd : ∀ ls : List (List Int), SeqAt.shaped (.list (ls.map dd)) = true := fun ls => by
  have c : ∀ ls : List (List Int), PyData.canLayAll0 (ls.map dd) = true := fun ls => by
    induction ls with
    | nil => simp [PyData.canLayAll0]
    | cons l r ih => simp [PyData.canLayAll0, canLay_dd, ih]
  have d : ∀ ls : List (List Int), PyData.depthAll (ls.map dd) ≤ 2 := fun ls => by
    induction ls with
    | nil => simp [PyData.depthAll]
    | cons l r ih => have := depth_dd l; simp only [List.map_cons, PyData.depthAll]; omega
  unfold SeqAt.shaped
  rw [Bool.and_eq_true]
  have := d ls
  exact ⟨by simp only [PyData.canLay0]; exact c ls, decide_eq_true (by simp only [PyData.depth]; omega)⟩
end Own

namespace PySem
namespace OorX
open PySem.W PySem.Calls PyProof.Rows PySem.HandSPX
/-! ### the text of __init__ -/
def iA (p1 p2 : Pos) : Arguments := { posonlyargs := [], args := [{ arg := "self", annotation := none, pos := p1 }, { arg := "what", annotation := none, pos := p2 }], vararg := none, kwonlyargs := [], kw_defaults := [], kwarg := none, defaults := [] }
def iB (q1 q2 q3 q4 : Pos) : List Stmt := [.Assign [.Attribute (.Name "self" q1) "what" q2] (.Name "what" q3) q4]
def iS : Scope := { kind := .function, names := [(PySem.Str.ofString "self", .local), (PySem.Str.ofString "what", .local)], isGenerator := false, isCoroutine := false, more := [] }
/-- what the written part says of Low, at C, and of its __init__, at fI -/
structure OorTxt (K : Frag) (mg : Str → Option Value) (C fI : Addr) : Prop where
  gC : mg "OutOfRange" = some (.ref C)
  cls : ∃ nm q N bs bm sn sub ab col dd k0 k1 k2 k3 k5, K.lookup C = some (excClassObj nm q C N bs bm true sn sub ab col dd k0 k1 k2 k3 k5 "ValueError.__new__") ∧ refsVE bm = true
  sa : findIn K (.ref C) "__setattr__" = some (some (.builtin "object.__setattr__"))
  ga : findIn K (.ref C) "__getattribute__" = some (some (.builtin "BaseException.__getattribute__"))
  gg : findIn K (.ref C) "__getattr__" = some none
  noN : findIn K (.ref C) "what" = some none
  iC : findIn K (.ref C) "__init__" = some (some (.ref fI))
  tC : typeIn K (.ref fI) = some (.type "function")
  kC : keepIn K (.ref C) = true
  exC : subIn K (.ref C) (.type "BaseException") = some true
  tyC : typeIn K (.ref C) = some (.type "type")
  hdC : hasDictIn K C = true
  te : exmOne K (.ref C) (.ref C) = some true
  fn : ∃ (oc : Value) (od : Option Addr) (doc pm : Value) (an : Option Addr) (cdv ct : Value) (osl : Array (Option Value)) (p1 p2 q1 q2 q3 q4 : Pos),
    K.lookup fI = some ⟨oc, od, .func (fnOf "__init__" "OutOfRange.__init__" (iA p1 p2) (iB q1 q2 q3 q4) iS .none .none doc pm an cdv ct), osl⟩ ∧ codeIn K cdv "OutOfRange.__init__" = true
theorem one_size (v : Value) : [v].length ≤ sizeLine := by
  rw [sizeLine_eq]
  exact (by decide : 1 ≤ 16777216)
theorem kept_but {K : Frag} {h h' : Heap} {x : Addr} (X : K.In h) (hx : K.lookup x = none) (k : ∀ b o, b ≠ x → h.get? b = some o → h'.get? b = some o) : K.In h' := fun a o e =>
  k a o (fun z => by rw [z, hx] at e; cases e) (X a o e)
theorem ldC {M : Model} {s : Shared} {name : Str} {scope : Scope} {L a : Addr} {cd : Value} {m : Str → Option Value} {x : Str} {pos : Pos} {v : Value} {Q : Value → Shared → Prop} {A : Around} {E : Value → Shared → Prop} (hn : s.heap.Ns L m) (hv : m x = some v) (h : Q v s)
    (hk : scope.kind = .function := by rfl) (hl : (envOfC name scope L a cd).kindOf x = some .local := by rfl) (hd : (x == ("__debug__" : Str)) = false := by decide) :
    wpAny M A (eval (.Name x pos) (envOfC name scope L a cd)) Q E s := wpAny_Name (wpAny_loadName_local hk hl hn hv h) hd
/-- what __init__ leaves of a fresh exception at x -/
structure InitEnd (h h' : Heap) (x C dx t1 : Addr) (v : Value) : Prop where
  keep : ∀ b o, b ≠ x → h.get? b = some o → h'.get? b = some o
  obj : h'.get? x = some { cls := .ref C, dict := some dx, data := .fields #[.ref t1, .none, .none, .none, .bool false, .none] }
  dbig : h.objs.size ≤ dx
  dne : dx ≠ x
  ns : h'.Ns1 dx (fun y => if y = "what" then some v else none)
/-- a made Low -/
structure OwnMade (h h' : Heap) (e C d : Addr) (v : Value) : Prop where
  keep : ∀ b o, h.get? b = some o → h'.get? b = some o
  new : h.objs.size ≤ e
  obj : ∃ oe vs, h'.get? e = some oe ∧ oe.cls = .ref C ∧ oe.dict = some d ∧ oe.data = .fields vs ∧ vs[1]? = some .none
  dbig : h.objs.size ≤ d
  dne : d ≠ e
  ns : h'.Ns1 d (fun y => if y = "what" then some v else none)
section
variable {prog : Program} {w : World} {A : Around} {E : Value → Shared → Prop} {R : Result → Shared → Prop} {s : Shared} {K : Frag} {mg : Str → Option Value} {C fI : Addr}
theorem low_init (T : OorTxt K mg C fI) {x t0 : Addr} {v : Value} (X : K.In s.heap) (hlim : s.heap.NoLimit) (hx : s.heap.get? x = some (excO C t0)) (hnx : K.lookup x = none) (hroom : A.depth < recursionLimit)
    (hq : ∀ h' tk dx, InitEnd s.heap h' x C dx t0 v → R (.ok (.ret .none)) { s with heap := h', toks := tk }) :
    codeAny (model prog w) A (.call (.ref fI) ⟨[.ref x, v], []⟩) R s := by
  obtain ⟨oc, od, doc, pm, an, cdv, ct, osl, p1, p2, q1, q2, q3, q4, ho, hcd⟩ := T.fn
  obtain ⟨nm, q, N, bs, bm, sn, sub, ab, col, dd, k0, k1, k2, k3, k5, hC, hbm⟩ := T.cls
  have hcl : clsIn K C = some { name := nm, bases := bs, mro := .ref C :: bm, ns := N, qualname := q, hasDict := true, slotNames := sn, subclasses := sub, abstract := ab, collection := col, hasDel := false } := by unfold clsIn; rw [hC] <;> rfl
  refine Att.call_fn (binds := [("self", .ref x), ("what", v)]) X hlim ho hcd hroom (BindsTo.of_eq (by first | rfl | with_unfolding_all rfl)) (by first | rfl | decide | with_unfolding_all rfl) (fun s₁ IC => ?_) rfl rfl rfl
  obtain ⟨h₁, tk₁, rfl⟩ := IC.toInCall.same
  have k : ∀ b o, s.heap.get? b = some o → h₁.get? b = some o := IC.toInCall.keep
  have hn := IC.toInCall.ns
  have hxL : s.heap.objs.size ≠ x := Nat.ne_of_gt (Heap.lt_size hx)
  have X₁ : K.In h₁ := X.keeps k
  have hx₁ := k _ _ hx
  -- self.by = by
  show wpAny _ _ (execs _ _) _ _ _
  refine wpAny_execs_cons (plainObj_wpAny_Assign_Attribute ?_)
  refine ldC (v := v) hn (by first | rfl | with_unfolding_all rfl | kernel_rfl) (ldC (v := .ref x) hn (by first | rfl | with_unfolding_all rfl | kernel_rfl) ?_)
  refine set_plain X₁ (ox := excO C t0) (od := none) ⟨hx₁, rfl, rfl, trivial⟩ T.sa ?_
  refine exc_osa X₁ hx₁ hcl (show refsVE (.ref C :: bm) = true from hbm) rfl T.noN (fun h₃ tk₃ dx k₃ dn dne hx₃ hn₃ => ?_)
  show wpAny _ _ (execs _ _) _ _ _
  have z : s.heap.objs.size < h₁.objs.size := hn.lt
  exact wpAny_execs_nil (hq h₃ tk₃ dx ⟨fun b o hb e => k₃ b o hb (k b o e), hx₃, Nat.le_of_lt (Nat.lt_of_lt_of_le z dn), dne, hn₃⟩)
theorem low_made (T : OorTxt K mg C fI) {v : Value} (X : K.In s.heap) (hlim : s.heap.NoLimit) (hroom : A.depth + 1 < recursionLimit)
    (hq : ∀ h' tk e d, OwnMade s.heap h' e C d v → R (.ok (.ret (.ref e))) { s with heap := h', toks := tk }) :
    codeAny (model prog w) A (.call (.ref C) ⟨[v], []⟩) R s := by
  obtain ⟨nm, q, N, bs, bm, sn, sub, ab, col, dd, k0, k1, k2, k3, k5, hC, hbm⟩ := T.cls
  obtain ⟨hp, g, dr, tk, os⟩ := s
  have k : ∀ b o, hp.get? b = some o → ((hp.push (kdv_tup [v])).push (excO C hp.objs.size)).get? b = some o := fun b o e => Heap.get?_push_of_some _ (Heap.get?_push_of_some _ e)
  have hget : ((hp.push (kdv_tup [v])).push (excO C hp.objs.size)).get? (hp.objs.size + 1) = some (excO C hp.objs.size) := by heap_get
  have hnx : K.lookup (hp.objs.size + 1) = none := by
    cases e : K.lookup (hp.objs.size + 1) with
    | none => rfl
    | some o =>
      have z : hp.get? (hp.objs.size + 1) = some o := X _ _ e
      exact absurd (Nat.lt_of_succ_lt (Heap.lt_size z)) (Nat.lt_irrefl _)
  refine call_own F.excBase_ValueError (fun X => refsVE_contains X bm hbm) (X _ _ hC) (looks_findIn X T.iC) (fun self => bind_fn X self T.tC) (one_size v) ?_
  refine low_init (s := ⟨(hp.push (kdv_tup [v])).push (excO C hp.objs.size), g, dr, tk, os⟩) T (X.keeps k) (hlim.keeps k) hget hnx ?_ fun h' tk' dx ⟨k', hx, dn, dne, hns⟩ => ?_
  · show A.depth + 1 < recursionLimit
    exact hroom
  · have old : ∀ b o, hp.get? b = some o → h'.get? b = some o := fun b o e => k' b o (Nat.ne_of_lt (Nat.lt_succ_of_lt (Heap.lt_size e))) (k b o e)
    have z : hp.objs.size + 1 + 1 ≤ dx := by
      first
        | (simpa only [Heap.size_push] using dn)
        | exact dn
        | (have q := dn; rw [Heap.size_push, Heap.size_push] at q; exact q)
    exact ⟨rfl, hq h' tk' (hp.objs.size + 1) dx ⟨old, Nat.le_succ _, ⟨_, _, hx, rfl, rfl, rfl, rfl⟩, Nat.le_trans (Nat.le_trans (Nat.le_succ _) (Nat.le_succ _)) z, dne, hns⟩⟩
end
end OorX
end PySem
namespace L2
open PySem PySem.Spec PyProof.Rows
theorem relO_low {v : V} {v' : Value} (r : RelV v v') (f : Str) : RelO (List.lookup f [(("what" : Str), v)]) (if f = "what" then some v' else none) := by
  by_cases hw : f = "what"
  · subst hw
    rw [if_pos rfl]
    have q : List.lookup ("what" : Str) [(("what" : Str), v)] = some v := by simp [List.lookup]
    rw [q]
    exact r
  · rw [if_neg hw]
    have qw : (f == ("what" : Str)) = false := by simpa using hw
    have q2 : List.lookup f [(("what" : Str), v)] = none := by simp [List.lookup, qw]
    rw [q2]
    trivial
section
variable {X : Cx} {C fI : Addr}
/-- Low(e) -/
def tMkO (C : Addr) (ta : TA) : St → Hp → XK → Prop := fun σ H Q => ta σ H fun vs H1 => ∃ v, vs = [v] ∧ ∀ d, H1 d = none → Q (.ref C) (some d) (upd H1 d (.xd [(("what" : Str), v)]))
theorem pmk_oor {a : Expr} {ta : TA} {p pos : Pos} {k : Nat} (T : PySem.OorX.OorTxt X.K X.mg C fI) (hr : Room k X.A) (ha : PA X [a] ta) (hg : Gl X "OutOfRange" := by rfl)
    (he : starEach (a :: []) X.env = (false, eval a X.env) :: starEach [] X.env := by rfl) (hpl : (backTo pos (starEach [] X.env)).any (·.1) = false := by rfl) :
    PMk X (.Call (.Name "OutOfRange" p) [a] [] pos) (tMkO C ta) := by
  intro pins s σ H Q I h
  refine wpAny_Call_Name_kw (ld_glob I hg T.gC ?_)
  refine PySem.W.callWith_K (h₀ := X.base) I.ok.mod.kin T.kC (thn (ha.run pos pins s σ H _ I h) fun us s1 hh => ?_) he hpl
  obtain ⟨vs, H1, I1, r1, v, ev, q1⟩ := hh
  subst ev
  refine ⟨I1.kIn, ?_⟩
  cases r1 with
  | cons rv rn =>
    rename_i v' us'
    cases rn
    show wpAny _ _ (call (.ref C) [v']) _ _ _
    have hlim := I1.nolimit
    obtain ⟨hp, g, dr, tk, os⟩ := s1
    refine wpAny_call (PySem.OorX.low_made T I1.kIn hlim (by have := hr.dp; omega) fun h' tk' e d M => ?_)
    show MkP X pins σ Q (.ref e) ⟨h', g, dr, tk', os⟩
    obtain ⟨oe, fv, hoe, hc, hd, hdat, h1⟩ := M.obj
    have hns := M.ns
    obtain ⟨G', g1, g2⟩ := restrict h' fun b => decide (b ≠ e)
    have gk : ∀ b, b ≠ e → G'.get? b = h'.get? b := fun b hb => g1 b (decide_eq_true hb)
    have ge : G'.get? e = none := g2 e (by simp)
    have old : ∀ b o, hp.get? b = some o → G'.get? b = some o := fun b o q => (gk b (Nat.ne_of_lt (Nat.lt_of_lt_of_le (Heap.lt_size q) M.new))).trans (M.keep b o q)
    have ob : ObjOk X.prog X.w (upd H1 d (.xd [(("what" : Str), v)])) G' d (.xd [(("what" : Str), v)]) :=
      ⟨_, hns.at (fun o q => (gk d M.dne).trans q), fun f => relO_low rv f⟩
    have J : Inv X pins σ (upd H1 d (.xd [(("what" : Str), v)])) ⟨G', g, dr, tk', os⟩ := I1.laid (t' := tk') old M.dbig ob
    refine ⟨e, oe, fv, ⟨G', g, dr, tk', os⟩, _, .ref C, some d, rfl, J, fun b o q => ?_, ge, hoe, ⟨hc, hd⟩, hdat, h1, ?_, rfl, I1.bare, raises_own T.exC T.tyC, q1 d (I1.hok.fresh M.dbig)⟩
    · by_cases hb : b = e
      · have q' : G'.get? b = some o := q
        rw [hb, ge] at q'; cases q'
      · exact (gk b hb).symm.trans q
    · rw [upd_ne (Ne.symm M.dne)]
      exact I1.hok.fresh M.new
/-- raise Low(e) -/
def tRaiseO (C : Addr) (W : WX) (ta : TA) : TS := fun _ σ H => tMkO C ta σ H fun cls d H' => W cls d σ H'
theorem ps_raiseO {a : Expr} {ta : TA} {W : WX} {p pos pos2 : Pos} {k : Nat} (hc : X.calm = true) (T : PySem.OorX.OorTxt X.K X.mg C fI) (hr : Room k X.A) (tk : Takes X W) (ha : PA X [a] ta) (hg : Gl X "OutOfRange" := by rfl)
    (he : starEach (a :: []) X.env = (false, eval a X.env) :: starEach [] X.env := by rfl) (hpl : (backTo pos (starEach [] X.env)).any (·.1) = false := by rfl) :
    PS X (.Raise (some (.Call (.Name "OutOfRange" p) [a] [] pos)) none pos2) (tRaiseO C W ta) := ps_raise hc tk (pmk_oor T hr ha hg he hpl)
/-- low.by, low the exception that the suite holds (at a; its class cls, its dict d) -/
def tWhat (C : Addr) (a : Addr) (cls : Value) (d : Option Addr) (te : TE) : TE := fun σ H Q => te σ H fun x H1 => x = .ref a ∧ cls = .ref C ∧ ∃ (dd : Addr) (v : V), d = some dd ∧ H1 dd = some (.xd [(("what" : Str), v)]) ∧ Q v H1
theorem pe_what {a : Addr} {oe : Obj} {cls : Value} {d : Option Addr} {pn : List (Addr × Obj)} {e : Expr} {te : TE} {pos : Pos} (T : PySem.OorX.OorTxt X.K X.mg C fI) (hz : Zc cls d oe) (hf : ∃ vs, oe.data = .fields vs) (he : PE (X.suite a ((a, oe) :: pn)) e te)
    (hb : attributeBase e "what" X.env (eval e X.env) = eval e X.env := by rfl) :
    PE (X.suite a ((a, oe) :: pn)) (.Attribute e "what" pos) (tWhat C a cls d te) := by
  refine ⟨fun pins s σ H Q I h => ?_⟩
  refine attr_of hb (thn (he.run pins s σ H _ I h) fun u s1 hh => ?_)
  obtain ⟨x, H1, I1, rx, ex, ec, dd, v, ed, ea, q⟩ := hh
  subst ex
  obtain rfl : u = Value.ref a := rx
  subst ec
  subst ed
  obtain ⟨ha, _⟩ := I1.pin (a, oe) (List.mem_append_left _ List.mem_cons_self)
  obtain ⟨vs, hd⟩ := hf
  have hx : ObjOk X.prog X.w H1 s1.heap dd (.xd [(("what" : Str), v)]) := I1.hok dd _ ea
  obtain ⟨mA, hns, hr⟩ := hx
  obtain ⟨od, ho, hl⟩ := lookIn_ns hns
  have l : List.lookup ("what" : Str) [(("what" : Str), v)] = some v := by simp [List.lookup]
  obtain ⟨u, hu, ru⟩ := RelO.some_of (v := v) (o := mA "what") (by rw [← l]; exact hr "what")
  have J : PySem.W.InstAt s1.heap a oe C (some od) := ⟨ha, hz.1, by unfold PySem.W.notCls; rw [hd] <;> rfl, by rw [hz.2]; exact ho⟩
  exact HandSPX.exc_get I1.kIn J T.ga T.gg T.exC (PySem.W.findObj_own T.hdC T.noN rfl (by rw [hl, hu])) (handed_of ru) ⟨v, H1, I1.tok _, ru, q⟩
end
end L2

namespace L2
open PySem PySem.Spec PyProof.Rows
theorem exm_self {K : PySem.W.Frag} {S : Addr} (h1 : PySem.W.subIn K (.ref S) (.type "BaseException") = some true) (h2 : PySem.W.isClsIn K S = true) (h3 : PySem.W.typeIn K (.ref S) = some (.type "type")) (h4 : PySem.W.subIn K (.ref S) (.ref S) = some true) :
    PySem.W.exmOne K (.ref S) (.ref S) = some true := by
  have e1 : (PySem.W.subIn K (.ref S) (.type "BaseException") == some true) = true := by rw [h1] <;> rfl
  have e2 : ((PySem.W.clsIn K S).isSome && PySem.W.typeIn K (.ref S) == some (.type "type")) = true := by
    have h2' : (PySem.W.clsIn K S).isSome = true := h2
    rw [h2', h3] <;> rfl
  show (if (PySem.W.subIn K (.ref S) (.type "BaseException") == some true) = true then (if ((PySem.W.clsIn K S).isSome && PySem.W.typeIn K (.ref S) == some (.type "type")) = true then PySem.W.subIn K (.ref S) (.ref S) else none) else none) = some true
  rw [if_pos e1, if_pos e2]
  exact h4
end L2
namespace L2
open PySem PySem.Spec PyProof.Rows
/-- X(), an own class without an __init__ of its own -/
theorem pmk_own0 {X : Cx} {C : Addr} {bmB : List Value} {B newId initId : String} {x : Str} {p pos : Pos} (F : ExcBaseFacts B newId initId bmB) (q : PySem.W.excIn X.K C bmB newId = true) (gC : X.mg x = some (.ref C)) (kC : PySem.W.keepIn X.K (.ref C) = true) (r : Raises X (.ref C)) (hg : Gl X x)
    (hdb : (x == ("__debug__" : Str)) = false := by decide) : PMk X (.Call (.Name x p) [] [] pos) (fun _ H Q => Q (.ref C) none H) := by
  intro pins s σ H Q I h
  refine wpAny_Call_Name_kw (ld_glob I hg gC ?_ hdb)
  refine PySem.W.callWith_K0 I.kIn kC ?_
  show wpAny _ _ (call (.ref C) []) _ _ _
  obtain ⟨bm, N, nm, qn, bs, hdct, sn, sub, ab, col, dd, k0, k1, k2, k3, k5, mN, hC, hN, hni, T⟩ := exc_obj I.kIn q
  refine wpAny_call_exc_subT F T hC hN hni (fun h' e hm => ?_) (Nat.zero_le _)
  exact mk_of I hm r h (I.hok.gone hm.new)
end L2
namespace Own
open PySem PySem.Spec PyProof.Rows L2
/-- an own error class without fields -/
structure OwnErr (K : PySem.W.Frag) (mg : Str → Option Value) (x : Str) (C : Addr) : Prop where
  gC : mg x = some (.ref C)
  xP : PySem.W.excIn K C [.type "ValueError", .type "Exception", .type "BaseException", .type "object"] "ValueError.__new__" = true
  kP : PySem.W.keepIn K (.ref C) = true
  bP : PySem.W.subIn K (.ref C) (.type "BaseException") = some true
  tP : PySem.W.typeIn K (.ref C) = some (.type "type")
  te : PySem.W.exmOne K (.ref C) (.ref C) = some true
/-- an error's own dict: new -/
def NewX (H : Hp) (v : V) (Q : Addr → Hp → Prop) (_ : Fx Q) : Prop := ∀ d, H d = none → Q d (upd H d (.xd [(("what" : Str), v)]))
theorem newx_of {H : Hp} {v : V} {Q : Addr → Hp → Prop} {z : Fx Q} (h : ∀ d H1, Same H H1 → H d = none → H1 d = some (.xd [(("what" : Str), v)]) → Q d H1) : NewX H v Q z := fun d nd => h d _ (same_upd nd) nd upd_same
theorem e_raiseO {C : Addr} {W : WX} {ta : TA} {D : Ends} {σ : L2.St} {H : Hp} : tRaiseO C W ta D σ H = ta σ H fun vs H1 => ∃ v, vs = [v] ∧ NewX H1 v (fun d H' => W (.ref C) (some d) σ H') fx := rfl
theorem e_callS {sp : Sp} {E : L2.St → XK} {t : TA} {σ : L2.St} {H : Hp} {Q : VK} : tCallS sp E t σ H Q = t σ H fun vs H1 => CallTo sp vs H1 Q (E σ) fx := rfl
theorem e_what {C a : Addr} {cls : Value} {d : Option Addr} {te : TE} {σ : L2.St} {H : Hp} {Q : VK} : tWhat C a cls d te σ H Q = te σ H fun x H1 => x = .ref a ∧ cls = .ref C ∧ ∃ (dd : Addr) (v : V), d = some dd ∧ H1 dd = some (.xd [(("what" : Str), v)]) ∧ Q v H1 := rfl
theorem hxd_inj {f : Str} {a b : V} : (HO.xd [(f, a)] = HO.xd [(f, b)]) = (a = b) := propext ⟨fun h => by injection h with h; injection h with h1 h2; injection h1, fun h => by rw [h]⟩
/-- an error that the clause names -/
theorem as_hit {K : PySem.W.Frag} {C : Addr} {i : Nat} {ts : Addr → Value → Option Addr → TS} {Wout : WX} {D : Ends} {d : Option Addr} {σ : L2.St} {H : Hp} (te : PySem.W.exmOne K (.ref C) (.ref C) = some true)
    (h : ∀ a, H a = none → ts a (.ref C) d { nx := fun σ' H' => D.nx (σ'.set i none) H', rt := D.rt, bk := fun σ' H' => D.bk (σ'.set i none) H', ct := fun σ' H' => D.ct (σ'.set i none) H' } (σ.set i (some (.ref a))) H) :
    WE (wAs K (.ref C) i ts Wout D) σ (.ref C) d H := ⟨true, te, fun _ => h, fun z => by cases z⟩
theorem only_hit {K : PySem.W.Frag} {C : Addr} {ts : Addr → Value → Option Addr → TS} {Wout : WX} {D : Ends} {d : Option Addr} {σ : L2.St} {H : Hp} (te : PySem.W.exmOne K (.ref C) (.ref C) = some true)
    (h : ∀ a, H a = none → ts a (.ref C) d D σ H) : WE (wOnly K (.ref C) ts Wout D) σ (.ref C) d H := ⟨true, te, fun _ => h, fun z => by cases z⟩
/-- the call ends in OutOfRange(z); what stood ahead stands -/
abbrev Ref (C : Addr) (z : Str) (H : Hp) (E : XK) : Prop := ∀ d H', Same H H' → H d = none → H' d = some (.xd [(("what" : Str), .str z)]) → E (.ref C) (some d) H'
theorem Ref.up {C : Addr} {z : Str} {H H1 : Hp} {E : XK} (r : Ref C z H E) (sm : Same H H1) : Ref C z H1 E := fun d H' s n e => r d H' (sm.trans s) (sm.free n) e
end Own

namespace Own
open PySem PySem.Spec PyProof.Rows L2
def topS (i : Nat) : Stmt := PySem.Challenge.pw_mobileair_k02_distance_and_flips.main.body.getD i (.Pass ⟨0, 0, 0, 0⟩)
abbrev s_flipped : Stmt := topS 4
abbrev s_distance : Stmt := topS 5
abbrev s__law_mixed : Stmt := topS 7
abbrev s__law_bits : Stmt := topS 8
abbrev s__law_refused : Stmt := topS 9
abbrev s_law : Stmt := topS 10
theorem sc_flipped : FnScope ["bits", "places", "row", "place"] ["bits", "places"] (defScope s_flipped) := ⟨rfl, rfl, rfl, by decide +kernel, rfl, by decide +kernel, by decide +kernel⟩
theorem sc_distance : FnScope ["first", "second", "one", "other"] ["first", "second"] (defScope s_distance) := ⟨rfl, rfl, rfl, by decide +kernel, rfl, by decide +kernel, by decide +kernel⟩
theorem sc__law_mixed : FnScope ["cell", "turn", "value", "first", "second", "third"] ["cell", "turn"] (defScope s__law_mixed) := ⟨rfl, rfl, rfl, by decide +kernel, rfl, by decide +kernel, by decide +kernel⟩
theorem sc__law_bits : FnScope ["value", "many", "row", "left", "k"] ["value", "many"] (defScope s__law_bits) := ⟨rfl, rfl, rfl, by decide +kernel, rfl, by decide +kernel, by decide +kernel⟩
theorem sc__law_refused : FnScope ["first", "second"] ["first", "second"] (defScope s__law_refused) := ⟨rfl, rfl, rfl, by decide +kernel, rfl, by decide +kernel, by decide +kernel⟩
theorem sc_law : FnScope ["script", "turn", "cell", "value", "many", "first", "second", "places", "k", "place", "due", "copies", "told", "kept", "asked", "row", "bit"] ["script"] (defScope s_law) := ⟨rfl, rfl, rfl, by decide +kernel, rfl, by decide +kernel, by decide +kernel⟩
structure BI (mg : Str → Option Value) : Prop where
  list_ : mg "list" = none
  len_ : mg "len" = none
  sum_ : mg "sum" = none
  zip_ : mg "zip" = none
  int_ : mg "int" = none
  range_ : mg "range" = none
  enumerate_ : mg "enumerate" = none
  isinstance_ : mg "isinstance" = none
  bool_ : mg "bool" = none
/-- the coded form, behind the last four bits a (the newest), b, c, d -/
def cvt : Bool → Bool → Bool → Bool → List Bool → List Bool
  | _, _, _, _, [] => []
  | a, b, c, d, x :: r => (x ^^ c ^^ d) :: (x ^^ a ^^ c ^^ d) :: cvt x a b c r
def conv (u : List Bool) : List Bool := cvt false false false false u
/-- the last four bits -/
def lst4 : Bool → Bool → Bool → Bool → List Bool → Bool × Bool × Bool × Bool
  | a, b, c, d, [] => (a, b, c, d)
  | a, b, c, _, x :: r => lst4 x a b c r
def l4 (u : List Bool) : Bool × Bool × Bool × Bool := lst4 false false false false u
theorem cvt_len : ∀ (a b c d : Bool) (u : List Bool), (cvt a b c d u).length = 2 * u.length
  | _, _, _, _, [] => rfl
  | a, b, c, d, x :: r => by
    show (cvt x a b c r).length + 1 + 1 = 2 * (r.length + 1)
    rw [cvt_len x a b c r]; omega
theorem conv_len (u : List Bool) : (conv u).length = 2 * u.length := cvt_len _ _ _ _ u
theorem cvt_snoc : ∀ (a b c d : Bool) (u : List Bool) (x : Bool), cvt a b c d (u ++ [x]) =
    cvt a b c d u ++ [x ^^ (lst4 a b c d u).2.2.1 ^^ (lst4 a b c d u).2.2.2, x ^^ (lst4 a b c d u).1 ^^ (lst4 a b c d u).2.2.1 ^^ (lst4 a b c d u).2.2.2]
  | _, _, _, _, [], _ => rfl
  | a, b, c, d, y :: r, x => by
    show _ :: _ :: cvt y a b c (r ++ [x]) = _ :: _ :: (cvt y a b c r ++ _)
    rw [cvt_snoc y a b c r x]
    rfl
theorem lst4_snoc : ∀ (a b c d : Bool) (u : List Bool) (x : Bool), lst4 a b c d (u ++ [x]) = (x, (lst4 a b c d u).1, (lst4 a b c d u).2.1, (lst4 a b c d u).2.2.1)
  | _, _, _, _, [], _ => rfl
  | a, b, c, _, y :: r, x => lst4_snoc y a b c r x
theorem conv_snoc (u : List Bool) (x : Bool) : conv (u ++ [x]) = conv u ++ [x ^^ (l4 u).2.2.1 ^^ (l4 u).2.2.2, x ^^ (l4 u).1 ^^ (l4 u).2.2.1 ^^ (l4 u).2.2.2] := cvt_snoc _ _ _ _ u x
theorem l4_snoc (u : List Bool) (x : Bool) : l4 (u ++ [x]) = (x, (l4 u).1, (l4 u).2.1, (l4 u).2.2.1) := lst4_snoc _ _ _ _ u x
theorem conv_take {u : List Bool} {i : Nat} {x : Bool} (h : u[i]? = some x) : conv (u.take (i + 1)) = conv (u.take i) ++ [x ^^ (l4 (u.take i)).2.2.1 ^^ (l4 (u.take i)).2.2.2, x ^^ (l4 (u.take i)).1 ^^ (l4 (u.take i)).2.2.1 ^^ (l4 (u.take i)).2.2.2] := by
  rw [List.take_add_one, h]
  exact conv_snoc _ x
theorem l4_take {u : List Bool} {i : Nat} {x : Bool} (h : u[i]? = some x) : l4 (u.take (i + 1)) = (x, (l4 (u.take i)).1, (l4 (u.take i)).2.1, (l4 (u.take i)).2.2.1) := by
  rw [List.take_add_one, h]
  exact l4_snoc _ x
theorem conv_le (u : List Bool) (i : Nat) : (conv (u.take i)).length ≤ 2 * u.length := by
  rw [conv_len, List.length_take]; omega
def v4 (q : Bool × Bool × Bool × Bool) : List Bool := [q.1, q.2.1, q.2.2.1, q.2.2.2]
theorem bz_at {u : List Bool} {i : Nat} {x : V} (h : (ivs (bz u))[i]? = some x) : ∃ b, u[i]? = some b ∧ x = .int (b2 b) := by
  rw [ivs_get, bz_get] at h
  cases e : u[i]? with
  | none => rw [e] at h; cases h
  | some b =>
    rw [e] at h
    exact ⟨b, rfl, (Option.some.inj h).symm⟩
theorem nth_pad {u : List Bool} {i : Nat} : ([false, false, false, false] ++ u)[i + 4]? = u[i]? := rfl
/-- behind i bits the last four stand ahead of place i + 4 -/
theorem l4_pad : ∀ (u : List Bool) (i : Nat), i ≤ u.length → ([false, false, false, false] ++ u)[i + 3]? = some (l4 (u.take i)).1 ∧ ([false, false, false, false] ++ u)[i + 2]? = some (l4 (u.take i)).2.1 ∧
    ([false, false, false, false] ++ u)[i + 1]? = some (l4 (u.take i)).2.2.1 ∧ ([false, false, false, false] ++ u)[i]? = some (l4 (u.take i)).2.2.2
  | u, 0, _ => ⟨rfl, rfl, rfl, rfl⟩
  | u, i + 1, h => by
    obtain ⟨h1, h2, h3, h4⟩ := l4_pad u i (by omega)
    have e : u[i]? = some u[i] := List.getElem?_eq_getElem (by omega)
    rw [l4_take e]
    exact ⟨by rw [show i + 1 + 3 = i + 4 by omega, nth_pad]; exact e, h1, h2, h3⟩
/-- the sum of two rows -/
def zx (u v : List Bool) : List Bool := List.zipWith (fun a b => a ^^ b) u v
theorem zx_len {u v : List Bool} (h : v.length = u.length) : (zx u v).length = u.length := by
  unfold zx; rw [List.length_zipWith, h, Nat.min_self]
theorem zx_get {u v : List Bool} {i : Nat} {a b : Bool} (h1 : u[i]? = some a) (h2 : v[i]? = some b) : (zx u v)[i]? = some (a ^^ b) := by
  unfold zx; rw [List.getElem?_zipWith, h1, h2]
theorem cvt_zx : ∀ (a b c d a' b' c' d' : Bool) (u v : List Bool), v.length = u.length →
    cvt (a ^^ a') (b ^^ b') (c ^^ c') (d ^^ d') (zx u v) = zx (cvt a b c d u) (cvt a' b' c' d' v)
  | _, _, _, _, _, _, _, _, [], [], _ => rfl
  | a, b, c, d, a', b', c', d', x :: u, y :: v, h => by
    show ((x ^^ y) ^^ (c ^^ c') ^^ (d ^^ d')) :: ((x ^^ y) ^^ (a ^^ a') ^^ (c ^^ c') ^^ (d ^^ d')) :: cvt (x ^^ y) (a ^^ a') (b ^^ b') (c ^^ c') (zx u v) =
      ((x ^^ c ^^ d) ^^ (y ^^ c' ^^ d')) :: ((x ^^ a ^^ c ^^ d) ^^ (y ^^ a' ^^ c' ^^ d')) :: zx (cvt x a b c u) (cvt y a' b' c' v)
    rw [cvt_zx x a b c y a' b' c' u v (by simpa using h)]
    congr 1
    · cases x <;> cases y <;> cases c <;> cases d <;> cases c' <;> cases d' <;> rfl
    · congr 1
      cases x <;> cases y <;> cases a <;> cases c <;> cases d <;> cases a' <;> cases c' <;> cases d' <;> rfl
theorem conv_zx {u v : List Bool} (h : v.length = u.length) : conv (zx u v) = zx (conv u) (conv v) := cvt_zx false false false false false false false false u v h
theorem bz_take {u : List Bool} {n : Nat} : (bz u).take n = bz (u.take n) := (List.map_take ..).symm
theorem take_snoc {α : Type} {u : List α} {i : Nat} {b : α} (h : u[i]? = some b) : u.take (i + 1) = u.take i ++ [b] := by
  rw [List.take_add_one, h]; rfl
theorem ivs_bz_take_snoc {u : List Bool} {i : Nat} {b : Bool} (h : u[i]? = some b) : ivs (bz (u.take (i + 1))) = ivs (bz (u.take i)) ++ [V.int (b2 b)] := by
  rw [take_snoc h, ivs_snoc, bz_snoc]
theorem ivs_bz_len (u : List Bool) (i : Nat) : (ivs (bz (u.take i))).length ≤ u.length := by
  rw [ivs_len, bz_len, List.length_take]; omega
theorem ivs_take_snoc {u : List Int} {i : Nat} {b : Int} (h : u[i]? = some b) : ivs (u.take (i + 1)) = ivs (u.take i) ++ [V.int b] := by
  rw [take_snoc h, ivs_snoc]

/-- how many bits are 1 -/
def wt (u : List Bool) : Nat := (u.filter fun b => b).length
theorem wt_nil : wt [] = 0 := rfl
theorem wt_cons (b : Bool) (u : List Bool) : wt (b :: u) = (if b then 1 else 0) + wt u := by
  cases b
  · show wt u = 0 + wt u
    omega
  · show (u.filter fun b => b).length + 1 = 1 + wt u
    unfold wt; omega
theorem wt_app (u v : List Bool) : wt (u ++ v) = wt u + wt v := by
  unfold wt; rw [List.filter_append, List.length_append]
theorem wt_le (u : List Bool) : wt u ≤ u.length := List.length_filter_le ..
/-- the least weight of a way from a state to 0 -/
def pot (a b c d : Bool) : Nat := match a, b, c, d with
  | false, false, false, false => 0 | false, false, false, true => 2 | false, false, true, false => 4 | false, false, true, true => 2
  | false, true, false, false => 4 | false, true, false, true => 5 | false, true, true, false => 4 | false, true, true, true => 2
  | true, false, false, false => 5 | true, false, false, true => 5 | true, false, true, false => 5 | true, false, true, true => 5
  | true, true, false, false => 4 | true, true, false, true => 4 | true, true, true, false => 3 | true, true, true, true => 3
theorem pot_step (a b c d x : Bool) : pot a b c d ≤ (if (x ^^ c ^^ d) then 1 else 0) + ((if (x ^^ a ^^ c ^^ d) then 1 else 0) + pot x a b c) := by
  cases a <;> cases b <;> cases c <;> cases d <;> cases x <;> decide
theorem pot_le : ∀ (a b c d : Bool) (u : List Bool), lst4 a b c d u = (false, false, false, false) → pot a b c d ≤ wt (cvt a b c d u)
  | a, b, c, d, [], h => by
    have h' : (a, b, c, d) = (false, false, false, false) := h
    simp only [Prod.mk.injEq] at h'
    obtain ⟨rfl, rfl, rfl, rfl⟩ := h'
    exact Nat.zero_le _
  | a, b, c, d, x :: r, h => by
    have ih := pot_le x a b c r h
    have st := pot_step a b c d x
    show _ ≤ wt (_ :: _ :: cvt x a b c r)
    rw [wt_cons, wt_cons]
    omega
theorem lst4_end : ∀ (a b c d : Bool) (u : List Bool), lst4 a b c d (u ++ [false, false, false, false]) = (false, false, false, false)
  | _, _, _, _, [] => rfl
  | a, b, c, d, x :: r => lst4_end x a b c r
theorem conv_far : ∀ u : List Bool, true ∈ u → 7 ≤ wt (conv (u ++ [false, false, false, false]))
  | [], h => by cases h
  | true :: r, _ => by
    have h := pot_le true false false false (r ++ [false, false, false, false]) (lst4_end true false false false r)
    have e : pot true false false false = 5 := rfl
    show 7 ≤ wt (true :: true :: cvt true false false false (r ++ [false, false, false, false]))
    rw [wt_cons, wt_cons]
    simp only [if_true]
    omega
  | false :: r, h => by
    have ih := conv_far r (by simpa using h)
    show 7 ≤ wt (false :: false :: conv (r ++ [false, false, false, false]))
    rw [wt_cons, wt_cons]
    simpa using ih
theorem wt_zero : ∀ {u : List Bool}, true ∉ u → wt u = 0
  | [], _ => rfl
  | false :: r, h => by rw [wt_cons, wt_zero (by simpa using h)]; rfl
  | true :: r, h => absurd List.mem_cons_self h
theorem zx_app {u v a b : List Bool} (h : v.length = u.length) : zx (u ++ a) (v ++ b) = zx u v ++ zx a b := by
  unfold zx
  exact List.zipWith_append (by omega)
/-- rows that end in four zeros: their coded forms are alike or at least 7 apart -/
theorem far_apart {u v : List Bool} (h : v.length = u.length) (ne : true ∈ zx u v) : 7 ≤ wt (zx (conv (u ++ [false, false, false, false])) (conv (v ++ [false, false, false, false]))) := by
  rw [← conv_zx (by simp [h]), zx_app h]
  exact conv_far _ ne
theorem zx_eq : ∀ (u v : List Bool), v.length = u.length → true ∉ zx u v → u = v
  | [], [], _, _ => rfl
  | [], _ :: _, h, _ => by simp at h
  | _ :: _, [], h, _ => by simp at h
  | x :: u, y :: v, h, n => by
    have n' : true ∉ (x ^^ y) :: zx u v := n
    have h1 : (x ^^ y) = false := by
      cases e : (x ^^ y) with
      | false => rfl
      | true => rw [e] at n'; exact absurd List.mem_cons_self n'
    have ih := zx_eq u v (by simpa using h) fun z => n' (List.mem_cons_of_mem _ z)
    have h2 : x = y := by cases x <;> cases y <;> simp_all
    rw [h2, ih]
theorem zx_self : ∀ w : List Bool, wt (zx w w) = 0
  | [] => rfl
  | b :: r => by
    show wt ((b ^^ b) :: zx r r) = 0
    rw [wt_cons, zx_self r]
    cases b <;> rfl
theorem not_apart {u v : List Bool} (h : v.length = u.length) (ne : true ∉ zx u v) : wt (zx (conv (u ++ [false, false, false, false])) (conv (v ++ [false, false, false, false]))) = 0 := by
  rw [zx_eq u v h ne]
  exact zx_self _
/-- the places below n where z has a 1 -/
def ones (z : List Bool) (n : Nat) : List Int := ((List.range n).filter fun k => decide (z[k]? = some true)).map fun (k : Nat) => (0 + (k : Int))
theorem ones_t {z : List Bool} {n : Nat} (h : z[n]? = some true) : ones z (n + 1) = ones z n ++ [0 + (n : Int)] := by
  unfold ones
  rw [List.range_succ, List.filter_append, List.map_append]
  simp [h]
theorem ones_f {z : List Bool} {n : Nat} (h : z[n]? = some false) : ones z (n + 1) = ones z n := by
  unfold ones
  rw [List.range_succ, List.filter_append, List.map_append]
  simp [h]
theorem ones_len : ∀ (z : List Bool) (n : Nat), (ones z n).length = wt (z.take n)
  | z, 0 => by simp [ones, wt]
  | z, n + 1 => by
    have ih := ones_len z n
    cases e : z[n]? with
    | none =>
      have h1 : ones z (n + 1) = ones z n := by
        unfold ones
        rw [List.range_succ, List.filter_append, List.map_append]
        simp [e]
      rw [h1, ih, List.take_add_one, e]
      simp
    | some b =>
      rw [List.take_add_one, e, wt_app]
      cases b with
      | true => rw [ones_t e, List.length_append, ih]; rfl
      | false => rw [ones_f e, ih]; rfl

/-- one place flipped; places one after another -/
def flip1 (u : List Bool) (p : Int) : List Bool := u.set p.toNat (!(u.getD p.toNat false))
def flips (u : List Bool) (ps : List Int) : List Bool := ps.foldl flip1 u
theorem flips_snoc (u : List Bool) (ps : List Int) (p : Int) : flips u (ps ++ [p]) = flip1 (flips u ps) p := by
  unfold flips; rw [List.foldl_append]; rfl
theorem flips_len : ∀ (u : List Bool) (ps : List Int), (flips u ps).length = u.length
  | _, [] => rfl
  | u, p :: r => by
    show (flips (flip1 u p) r).length = u.length
    rw [flips_len (flip1 u p) r]
    unfold flip1; rw [List.length_set]
theorem flips_take {u : List Bool} {ps : List Int} {i : Nat} {p : Int} (h : ps[i]? = some p) : flips u (ps.take (i + 1)) = flip1 (flips u (ps.take i)) p := by
  rw [take_snoc h, flips_snoc]
theorem getD_of {u : List Bool} {k : Nat} {b : Bool} (h : u[k]? = some b) : u.getD k false = b := by
  rw [List.getD_eq_getElem?_getD, h]; rfl
theorem flips_get : ∀ (u : List Bool) (ps : List Int) (k : Nat) (b : Bool), (∀ p ∈ ps, 0 ≤ p) → u[k]? = some b → (flips u ps)[k]? = some (b ^^ decide (ps.count (k : Int) % 2 = 1))
  | u, [], k, b, _, h => by
    show u[k]? = some (b ^^ decide (0 % 2 = 1))
    rw [h]; simp
  | u, p :: r, k, b, h0, h => by
    have hp := h0 p List.mem_cons_self
    show (flips (flip1 u p) r)[k]? = _
    have hk : k < u.length := (List.getElem?_eq_some_iff.mp h).1
    by_cases e : p = (k : Int)
    · subst e
      have g : (flip1 u (k : Int))[k]? = some (!b) := by
        unfold flip1
        rw [Int.toNat_natCast, List.getElem?_set_self hk, getD_of h]
      rw [flips_get _ r k (!b) (fun q hq => h0 q (List.mem_cons_of_mem _ hq)) g, List.count_cons_self]
      congr 1
      have d : decide ((List.count (k : Int) r + 1) % 2 = 1) = !decide (List.count (k : Int) r % 2 = 1) := by
        by_cases z : List.count (k : Int) r % 2 = 1
        · rw [decide_eq_true z, decide_eq_false (by omega)]; rfl
        · rw [decide_eq_false z, decide_eq_true (by omega)]; rfl
      rw [d]
      cases b <;> simp
    · have g : (flip1 u p)[k]? = some b := by
        unfold flip1
        rw [List.getElem?_set_ne (by omega)]
        exact h
      rw [flips_get _ r k b (fun q hq => h0 q (List.mem_cons_of_mem _ hq)) g, List.count_cons_of_ne e]
/-- where a row and its flips differ -/
theorem zx_flips {u : List Bool} {ps : List Int} {k : Nat} (h0 : ∀ p ∈ ps, 0 ≤ p) (hk : k < u.length) : (zx u (flips u ps))[k]? = some (decide (ps.count (k : Int) % 2 = 1)) := by
  have h1 : u[k]? = some u[k] := List.getElem?_eq_getElem hk
  rw [zx_get h1 (flips_get u ps k _ h0 h1)]
  cases u[k] <;> simp
theorem sum_bz : ∀ z : List Bool, (bz z).sum = (wt z : Int)
  | [] => rfl
  | b :: r => by
    show b2 b + (bz r).sum = _
    rw [sum_bz r, wt_cons]
    cases b <;> simp [b2]
theorem wt_take {z : List Bool} {i : Nat} {b : Bool} (h : z[i]? = some b) : (wt (z.take (i + 1)) : Int) = wt (z.take i) + b2 b := by
  rw [take_snoc h, wt_app]
  cases b <;> simp [b2, wt]

section
variable {P : Program} {w : World} {K : PySem.W.Frag} {mg : Str → Option Value} {base : Heap} {C_BadBits : Addr}
def sp_flipped (K : PySem.W.Frag) : Sp := fun vs H Q _ => ∃ (a b : Addr) (u : List Bool) (ps : List Int), vs = [.ref a, .ref b] ∧ H a = some (.lst (ivs (bz u))) ∧ H b = some (.lst (ivs ps)) ∧ (∀ p ∈ ps, 0 ≤ p ∧ p < u.length) ∧
  ∀ H' p, Same H H' → H p = none → H' p = some (.lst (ivs (bz (flips u ps)))) → Q (.ref p) H'

theorem ok_flipped {f : Addr} {fd : FuncData} (F : Fun K "flipped" "flipped" s_flipped f fd) (B : BI mg) : FnOk P w K mg base CX0 1 f fd ["bits", "places"] (sp_flipped K) := by
  refine F.ok sc_flipped (fun vs H Q E h => ?_) (fun cdv A outer s H vs Q E hr h => ?_)
  · obtain ⟨a, b, u, ps, rfl, ha, hb, hps, q⟩ := h
    rfl
  · obtain ⟨a, b, u, ps, rfl, ha, hb, hps, q⟩ := h
    refine ⟨_, (pss_cons (ps_set (i := 2) sc_flipped.nd rfl (Or.inl rfl) (pe_callTy callk_list (by rfl) B.list_ boot_list (pa_cons (pv 0) pa_nil)))
      (pss_cons (ps_for PassesOwn.never rfl (pi_list (pv 1)) (pg_name (i := 3) sc_flipped.nd rfl (Or.inl rfl))
      (pss_one (ps_asg (pe_op op_sub pe_int (pe_ix ixk_list (pv 2) (pv 3) (fun _ _ => rfl))) (pg_sub (pv 2) (pv 3) set_list))))
      (pss_one (ps_ret (pv 2))))), ?_⟩
    (try simp only [Own.e_seq, Own.e_cxK, Own.e_wishK, Own.e_noxK, Own.e_asg, Own.e_gName, Own.e_var, Own.e_C, Own.e_op, Own.e_un, Own.e_rI, Own.e_rI0, Own.e_rU, Own.e_CMul, Own.e_CDiv, Own.e_CPow, Own.e_rEq, Own.e_rNe, Own.e_scal_int, Own.e_scal_str, Own.e_scal_bl, Own.e_ifS, Own.e_test, Own.e_tB, Own.e_ret, Own.e_retN, Own.e_next, Own.e_brk, Own.e_cnt, Own.e_cons, Own.e_nil, Own.e_lst, Own.e_tup, Own.e_drop, Own.e_and, Own.e_or, Own.e_not, Own.e_andV, Own.e_orV, Own.e_notV, Own.e_if, Own.e_chain, Own.e_CB, Own.e_call, Own.e_rIxL, Own.e_rIxT, Own.e_rIxK, Own.e_rIxKT, Own.e_rSlK, Own.e_rLenK, Own.e_rListK, Own.e_rTupleK, Own.e_rSumK, Own.e_rNeK, Own.e_rEqK, Own.e_rNeKT, Own.e_rEqKT, Own.e_rIsiK, Own.tyK_int, Own.tyK_bl, Own.tyK_str, Own.tyK_non, Own.tyK_ref, Own.tyO_lst, Own.tyO_tup, Own.kit1, Own.kit2, Own.kit3, Own.kit4, Own.kit5, Own.kit6, Own.kit7, Own.kit8, Own.kit9, Own.hlst_inj, Own.htup_inj, Own.vty_inj, Own.ivs_inj, Own.bz_inj, Own.ivs_len, Own.bz_len, Own.ivs_app, Own.ivs_set, Own.ivs_bset, Own.bz_app, Own.ivs_snoc, Own.bz_snoc, Own.atI_ints, Own.atI_bz, Own.isLst_some, Own.ty_lst, L2.upd_same, L2.upd_upd, Own.b2_xor, Own.b2_mod2, Own.b2_mod3, Own.b2_mod4, Own.b2_flip, Option.map_some, Option.isSome_some, ne_eq, eq_self, not_false_eq_true, not_true_eq_false, String.reduceEq, Own.e_BM, Own.e_BM0, Own.e_rAppend, Own.e_rCat, Own.e_rRep, Own.e_sl, Own.e_noPart, Own.e_part, Own.e_rSlL, Own.e_gSub, Own.e_rSetL, Own.e_bits, Own.e_yes, Own.e_gTup, Own.e_gNil, Own.e_gCons, Own.e_aug, Own.e_ipI, Own.e_for, Own.e_lc, Own.e_iList, Own.e_iTup, Own.e_iRng1, Own.e_iRng2, Own.e_iEnum, Own.e_iZip, L2.start, L2.wipe, List.map_cons, List.map_nil, List.replicate_succ, List.replicate_zero, List.length_cons, List.length_nil, Nat.reduceAdd, Nat.reduceSub, Nat.zero_add, List.getElem?_cons_zero, List.getElem?_cons_succ, List.set_cons_zero, List.set_cons_succ, Option.some.injEq, L2.V.int.injEq, L2.V.bl.injEq, L2.V.str.injEq, L2.V.ref.injEq, List.cons.injEq, List.cons_append, List.nil_append, List.append_nil, exists_eq_left', exists_eq_left, exists_and_left, exists_and_right, exists_eq, and_true, true_and, reduceCtorEq, false_and, and_false, exists_false, or_false, false_or, true_or, or_true, decide_eq_true_eq, Bool.not_true, Bool.not_false, Bool.not_eq_true', Bool.not_eq_false', decide_eq_false_iff_not, ite_not, if_true, if_false, ite_true, ite_false, Bool.false_eq_true, if_pos trivial, decide_true, decide_false, PySem.sizeLine_eq, eq_self, Int.reduceNeg, Int.reducePow, Int.reduceLT, Int.reduceLE, Int.reduceToNat, Nat.reduceLeDiff, Int.reduceSub, Int.reduceAdd, Int.reduceMul, Int.reduceDiv, Int.reduceMod, Int.reduceEq, Nat.reduceMul, Nat.reduceEqDiff, Own.e_raiseO, Own.e_callS, Own.e_what, Own.hxd_inj, ha])
    refine new_of fun p H1 np sm1 hp => ?_
    (try simp only [Own.e_seq, Own.e_cxK, Own.e_wishK, Own.e_noxK, Own.e_asg, Own.e_gName, Own.e_var, Own.e_C, Own.e_op, Own.e_un, Own.e_rI, Own.e_rI0, Own.e_rU, Own.e_CMul, Own.e_CDiv, Own.e_CPow, Own.e_rEq, Own.e_rNe, Own.e_scal_int, Own.e_scal_str, Own.e_scal_bl, Own.e_ifS, Own.e_test, Own.e_tB, Own.e_ret, Own.e_retN, Own.e_next, Own.e_brk, Own.e_cnt, Own.e_cons, Own.e_nil, Own.e_lst, Own.e_tup, Own.e_drop, Own.e_and, Own.e_or, Own.e_not, Own.e_andV, Own.e_orV, Own.e_notV, Own.e_if, Own.e_chain, Own.e_CB, Own.e_call, Own.e_rIxL, Own.e_rIxT, Own.e_rIxK, Own.e_rIxKT, Own.e_rSlK, Own.e_rLenK, Own.e_rListK, Own.e_rTupleK, Own.e_rSumK, Own.e_rNeK, Own.e_rEqK, Own.e_rNeKT, Own.e_rEqKT, Own.e_rIsiK, Own.tyK_int, Own.tyK_bl, Own.tyK_str, Own.tyK_non, Own.tyK_ref, Own.tyO_lst, Own.tyO_tup, Own.kit1, Own.kit2, Own.kit3, Own.kit4, Own.kit5, Own.kit6, Own.kit7, Own.kit8, Own.kit9, Own.hlst_inj, Own.htup_inj, Own.vty_inj, Own.ivs_inj, Own.bz_inj, Own.ivs_len, Own.bz_len, Own.ivs_app, Own.ivs_set, Own.ivs_bset, Own.bz_app, Own.ivs_snoc, Own.bz_snoc, Own.atI_ints, Own.atI_bz, Own.isLst_some, Own.ty_lst, L2.upd_same, L2.upd_upd, Own.b2_xor, Own.b2_mod2, Own.b2_mod3, Own.b2_mod4, Own.b2_flip, Option.map_some, Option.isSome_some, ne_eq, eq_self, not_false_eq_true, not_true_eq_false, String.reduceEq, Own.e_BM, Own.e_BM0, Own.e_rAppend, Own.e_rCat, Own.e_rRep, Own.e_sl, Own.e_noPart, Own.e_part, Own.e_rSlL, Own.e_gSub, Own.e_rSetL, Own.e_bits, Own.e_yes, Own.e_gTup, Own.e_gNil, Own.e_gCons, Own.e_aug, Own.e_ipI, Own.e_for, Own.e_lc, Own.e_iList, Own.e_iTup, Own.e_iRng1, Own.e_iRng2, Own.e_iEnum, Own.e_iZip, L2.start, L2.wipe, List.map_cons, List.map_nil, List.replicate_succ, List.replicate_zero, List.length_cons, List.length_nil, Nat.reduceAdd, Nat.reduceSub, Nat.zero_add, List.getElem?_cons_zero, List.getElem?_cons_succ, List.set_cons_zero, List.set_cons_succ, Option.some.injEq, L2.V.int.injEq, L2.V.bl.injEq, L2.V.str.injEq, L2.V.ref.injEq, List.cons.injEq, List.cons_append, List.nil_append, List.append_nil, exists_eq_left', exists_eq_left, exists_and_left, exists_and_right, exists_eq, and_true, true_and, reduceCtorEq, false_and, and_false, exists_false, or_false, false_or, true_or, or_true, decide_eq_true_eq, Bool.not_true, Bool.not_false, Bool.not_eq_true', Bool.not_eq_false', decide_eq_false_iff_not, ite_not, if_true, if_false, ite_true, ite_false, Bool.false_eq_true, if_pos trivial, decide_true, decide_false, PySem.sizeLine_eq, eq_self, Int.reduceNeg, Int.reducePow, Int.reduceLT, Int.reduceLE, Int.reduceToNat, Nat.reduceLeDiff, Int.reduceSub, Int.reduceAdd, Int.reduceMul, Int.reduceDiv, Int.reduceMod, Int.reduceEq, Nat.reduceMul, Nat.reduceEqDiff, Own.e_raiseO, Own.e_callS, Own.e_what, Own.hxd_inj])
    refine ⟨⟨_, .of (sm1 _ _ hb)⟩, loop_it walk_list (fun i σ H' => ∃ y : Option V, σ = [some (.ref a), some (.ref b), some (.ref p), y] ∧ Same H H' ∧ H' p = some (.lst (ivs (bz (flips u (ps.take i)))))) ⟨none, rfl, sm1, hp⟩ (fun i σ H' _ ⟨_, _, sm, _⟩ => .of (sm _ _ hb)) ?_ ?_⟩
    · rintro i x σ H' H'' hi ⟨y, rfl, sm, h1⟩ ⟨rfl, hx⟩
      obtain ⟨z, hz, rfl⟩ := ivs_at hx
      have hm := hps z (List.mem_of_getElem? hz)
      have hl : z < (flips u (ps.take i)).length := by rw [flips_len]; exact hm.2
      have hl' : z.toNat < (flips u (ps.take i)).length := by omega
      have g : (flips u (ps.take i))[z.toNat]? = some ((flips u (ps.take i))[z.toNat]'hl') := List.getElem?_eq_getElem hl'
      have gd := getD_of g
      have ax : atI (flips u (ps.take i)) z = some ((flips u (ps.take i))[z.toNat]'hl') := by rw [atI_at hm.1]; exact g
      have ix : ixN (flips u (ps.take i)).length z = some z.toNat := ixN_in hm.1 hl
      generalize (flips u (ps.take i))[z.toNat]'hl' = bv at g gd ax
      (try simp only [Own.e_seq, Own.e_cxK, Own.e_wishK, Own.e_noxK, Own.e_asg, Own.e_gName, Own.e_var, Own.e_C, Own.e_op, Own.e_un, Own.e_rI, Own.e_rI0, Own.e_rU, Own.e_CMul, Own.e_CDiv, Own.e_CPow, Own.e_rEq, Own.e_rNe, Own.e_scal_int, Own.e_scal_str, Own.e_scal_bl, Own.e_ifS, Own.e_test, Own.e_tB, Own.e_ret, Own.e_retN, Own.e_next, Own.e_brk, Own.e_cnt, Own.e_cons, Own.e_nil, Own.e_lst, Own.e_tup, Own.e_drop, Own.e_and, Own.e_or, Own.e_not, Own.e_andV, Own.e_orV, Own.e_notV, Own.e_if, Own.e_chain, Own.e_CB, Own.e_call, Own.e_rIxL, Own.e_rIxT, Own.e_rIxK, Own.e_rIxKT, Own.e_rSlK, Own.e_rLenK, Own.e_rListK, Own.e_rTupleK, Own.e_rSumK, Own.e_rNeK, Own.e_rEqK, Own.e_rNeKT, Own.e_rEqKT, Own.e_rIsiK, Own.tyK_int, Own.tyK_bl, Own.tyK_str, Own.tyK_non, Own.tyK_ref, Own.tyO_lst, Own.tyO_tup, Own.kit1, Own.kit2, Own.kit3, Own.kit4, Own.kit5, Own.kit6, Own.kit7, Own.kit8, Own.kit9, Own.hlst_inj, Own.htup_inj, Own.vty_inj, Own.ivs_inj, Own.bz_inj, Own.ivs_len, Own.bz_len, Own.ivs_app, Own.ivs_set, Own.ivs_bset, Own.bz_app, Own.ivs_snoc, Own.bz_snoc, Own.atI_ints, Own.atI_bz, Own.isLst_some, Own.ty_lst, L2.upd_same, L2.upd_upd, Own.b2_xor, Own.b2_mod2, Own.b2_mod3, Own.b2_mod4, Own.b2_flip, Option.map_some, Option.isSome_some, ne_eq, eq_self, not_false_eq_true, not_true_eq_false, String.reduceEq, Own.e_BM, Own.e_BM0, Own.e_rAppend, Own.e_rCat, Own.e_rRep, Own.e_sl, Own.e_noPart, Own.e_part, Own.e_rSlL, Own.e_gSub, Own.e_rSetL, Own.e_bits, Own.e_yes, Own.e_gTup, Own.e_gNil, Own.e_gCons, Own.e_aug, Own.e_ipI, Own.e_for, Own.e_lc, Own.e_iList, Own.e_iTup, Own.e_iRng1, Own.e_iRng2, Own.e_iEnum, Own.e_iZip, L2.start, L2.wipe, List.map_cons, List.map_nil, List.replicate_succ, List.replicate_zero, List.length_cons, List.length_nil, Nat.reduceAdd, Nat.reduceSub, Nat.zero_add, List.getElem?_cons_zero, List.getElem?_cons_succ, List.set_cons_zero, List.set_cons_succ, Option.some.injEq, L2.V.int.injEq, L2.V.bl.injEq, L2.V.str.injEq, L2.V.ref.injEq, List.cons.injEq, List.cons_append, List.nil_append, List.append_nil, exists_eq_left', exists_eq_left, exists_and_left, exists_and_right, exists_eq, and_true, true_and, reduceCtorEq, false_and, and_false, exists_false, or_false, false_or, true_or, or_true, decide_eq_true_eq, Bool.not_true, Bool.not_false, Bool.not_eq_true', Bool.not_eq_false', decide_eq_false_iff_not, ite_not, if_true, if_false, ite_true, ite_false, Bool.false_eq_true, if_pos trivial, decide_true, decide_false, PySem.sizeLine_eq, eq_self, Int.reduceNeg, Int.reducePow, Int.reduceLT, Int.reduceLE, Int.reduceToNat, Nat.reduceLeDiff, Int.reduceSub, Int.reduceAdd, Int.reduceMul, Int.reduceDiv, Int.reduceMod, Int.reduceEq, Nat.reduceMul, Nat.reduceEqDiff, Own.e_raiseO, Own.e_callS, Own.e_what, Own.hxd_inj, h1, ax, ix])
      exact at_is ⟨_, rfl, same_upd_of sm np, by rw [upd_same, flips_take hz]; unfold flip1; rw [gd]⟩
    · rintro σ H' ⟨y, rfl, sm, h1⟩
      rw [ivs_len, List.take_length] at h1
      (try simp only [Own.e_seq, Own.e_cxK, Own.e_wishK, Own.e_noxK, Own.e_asg, Own.e_gName, Own.e_var, Own.e_C, Own.e_op, Own.e_un, Own.e_rI, Own.e_rI0, Own.e_rU, Own.e_CMul, Own.e_CDiv, Own.e_CPow, Own.e_rEq, Own.e_rNe, Own.e_scal_int, Own.e_scal_str, Own.e_scal_bl, Own.e_ifS, Own.e_test, Own.e_tB, Own.e_ret, Own.e_retN, Own.e_next, Own.e_brk, Own.e_cnt, Own.e_cons, Own.e_nil, Own.e_lst, Own.e_tup, Own.e_drop, Own.e_and, Own.e_or, Own.e_not, Own.e_andV, Own.e_orV, Own.e_notV, Own.e_if, Own.e_chain, Own.e_CB, Own.e_call, Own.e_rIxL, Own.e_rIxT, Own.e_rIxK, Own.e_rIxKT, Own.e_rSlK, Own.e_rLenK, Own.e_rListK, Own.e_rTupleK, Own.e_rSumK, Own.e_rNeK, Own.e_rEqK, Own.e_rNeKT, Own.e_rEqKT, Own.e_rIsiK, Own.tyK_int, Own.tyK_bl, Own.tyK_str, Own.tyK_non, Own.tyK_ref, Own.tyO_lst, Own.tyO_tup, Own.kit1, Own.kit2, Own.kit3, Own.kit4, Own.kit5, Own.kit6, Own.kit7, Own.kit8, Own.kit9, Own.hlst_inj, Own.htup_inj, Own.vty_inj, Own.ivs_inj, Own.bz_inj, Own.ivs_len, Own.bz_len, Own.ivs_app, Own.ivs_set, Own.ivs_bset, Own.bz_app, Own.ivs_snoc, Own.bz_snoc, Own.atI_ints, Own.atI_bz, Own.isLst_some, Own.ty_lst, L2.upd_same, L2.upd_upd, Own.b2_xor, Own.b2_mod2, Own.b2_mod3, Own.b2_mod4, Own.b2_flip, Option.map_some, Option.isSome_some, ne_eq, eq_self, not_false_eq_true, not_true_eq_false, String.reduceEq, Own.e_BM, Own.e_BM0, Own.e_rAppend, Own.e_rCat, Own.e_rRep, Own.e_sl, Own.e_noPart, Own.e_part, Own.e_rSlL, Own.e_gSub, Own.e_rSetL, Own.e_bits, Own.e_yes, Own.e_gTup, Own.e_gNil, Own.e_gCons, Own.e_aug, Own.e_ipI, Own.e_for, Own.e_lc, Own.e_iList, Own.e_iTup, Own.e_iRng1, Own.e_iRng2, Own.e_iEnum, Own.e_iZip, L2.start, L2.wipe, List.map_cons, List.map_nil, List.replicate_succ, List.replicate_zero, List.length_cons, List.length_nil, Nat.reduceAdd, Nat.reduceSub, Nat.zero_add, List.getElem?_cons_zero, List.getElem?_cons_succ, List.set_cons_zero, List.set_cons_succ, Option.some.injEq, L2.V.int.injEq, L2.V.bl.injEq, L2.V.str.injEq, L2.V.ref.injEq, List.cons.injEq, List.cons_append, List.nil_append, List.append_nil, exists_eq_left', exists_eq_left, exists_and_left, exists_and_right, exists_eq, and_true, true_and, reduceCtorEq, false_and, and_false, exists_false, or_false, false_or, true_or, or_true, decide_eq_true_eq, Bool.not_true, Bool.not_false, Bool.not_eq_true', Bool.not_eq_false', decide_eq_false_iff_not, ite_not, if_true, if_false, ite_true, ite_false, Bool.false_eq_true, if_pos trivial, decide_true, decide_false, PySem.sizeLine_eq, eq_self, Int.reduceNeg, Int.reducePow, Int.reduceLT, Int.reduceLE, Int.reduceToNat, Nat.reduceLeDiff, Int.reduceSub, Int.reduceAdd, Int.reduceMul, Int.reduceDiv, Int.reduceMod, Int.reduceEq, Nat.reduceMul, Nat.reduceEqDiff, Own.e_raiseO, Own.e_callS, Own.e_what, Own.hxd_inj])
      exact q H' p sm np h1
def sp_distance (K : PySem.W.Frag) (C : Addr) : Sp := fun vs H Q E => ∃ (a b : Addr) (u v : List Bool), vs = [.ref a, .ref b] ∧ H a = some (.lst (ivs (bz u))) ∧ H b = some (.lst (ivs (bz v))) ∧ u.length ≤ 100000 ∧
  (u.length ≠ v.length → E (.ref C) none H) ∧ (u.length = v.length → ∀ H', Same H H' → Q (.int (wt (zx u v))) H')

theorem ok_distance {f : Addr} {fd : FuncData} (F : Fun K "distance" "distance" s_distance f fd) (B : BI mg) (X_BadBits : OwnErr K mg "BadBits" C_BadBits) : FnOk P w K mg base (L2.CX P w) 1 f fd ["first", "second"] (sp_distance K C_BadBits) := by
  refine F.okX sc_distance (fun vs H Q E h => ?_) (fun cdv A outer s H vs Q E hr h => ?_)
  · obtain ⟨a, b, u, v, rfl, ha, hb, hlen, q1, q2⟩ := h
    rfl
  · obtain ⟨a, b, u, v, rfl, ha, hb, hlen, q1, q2⟩ := h
    refine ⟨_, (pss_cons (ps_if (pt_cmpR op_ne (pe_callB callk_len (by rfl) B.len_ (by decide +kernel) (pa_cons (pv 0) pa_nil)) (pe_callB callk_len (by rfl) B.len_ (by decide +kernel) (pa_cons (pv 1) pa_nil)) (nomark _)) (pss_one (ps_raise rfl (takes_of rfl rfl rfl rfl) (pmk_own0 PySem.F.excBase_ValueError X_BadBits.xP X_BadBits.gC X_BadBits.kP (raises_own X_BadBits.bP X_BadBits.tP) rfl))) pss_nil)
      (pss_one (ps_ret (pe_callB (crk_sum rfl) (by rfl) B.sum_ (by decide +kernel) (pa_cons (by exact (pe_lc (own := [("one", 2), ("other", 3)]) (g := (gTup K 2 (gCons (gName 2) (gCons (gName 3) gNil)))) (tt := tYes) rfl sc_distance.nd (pi_zip (by rfl) B.zip_ (pa_cons (pv 0) (pa_cons (pv 1) pa_nil))) (blkOk_by (own := [("one", 2), ("other", 3)]) (N := ["first", "second", "one", "other"]) (sc := (defScope s_distance)) (by decide +kernel)) (fun _ _ _ _ _ => by exact (pg_tup rfl (pgs_cons (pg_name (i := 2) sc_distance.nd rfl (Or.inl rfl)) (pgs_cons (pg_name (i := 3) sc_distance.nd rfl (Or.inl rfl)) pgs_nil)))) (fun _ _ _ _ _ => pts_nil) (fun _ _ _ _ _ => (pe_op op_xor (pv 2) (pv 3))))) pa_nil))))), ?_⟩
    (try simp only [Own.e_seq, Own.e_cxK, Own.e_wishK, Own.e_noxK, Own.e_asg, Own.e_gName, Own.e_var, Own.e_C, Own.e_op, Own.e_un, Own.e_rI, Own.e_rI0, Own.e_rU, Own.e_CMul, Own.e_CDiv, Own.e_CPow, Own.e_rEq, Own.e_rNe, Own.e_scal_int, Own.e_scal_str, Own.e_scal_bl, Own.e_ifS, Own.e_test, Own.e_tB, Own.e_ret, Own.e_retN, Own.e_next, Own.e_brk, Own.e_cnt, Own.e_cons, Own.e_nil, Own.e_lst, Own.e_tup, Own.e_drop, Own.e_and, Own.e_or, Own.e_not, Own.e_andV, Own.e_orV, Own.e_notV, Own.e_if, Own.e_chain, Own.e_CB, Own.e_call, Own.e_rIxL, Own.e_rIxT, Own.e_rIxK, Own.e_rIxKT, Own.e_rSlK, Own.e_rLenK, Own.e_rListK, Own.e_rTupleK, Own.e_rSumK, Own.e_rNeK, Own.e_rEqK, Own.e_rNeKT, Own.e_rEqKT, Own.e_rIsiK, Own.tyK_int, Own.tyK_bl, Own.tyK_str, Own.tyK_non, Own.tyK_ref, Own.tyO_lst, Own.tyO_tup, Own.kit1, Own.kit2, Own.kit3, Own.kit4, Own.kit5, Own.kit6, Own.kit7, Own.kit8, Own.kit9, Own.hlst_inj, Own.htup_inj, Own.vty_inj, Own.ivs_inj, Own.bz_inj, Own.ivs_len, Own.bz_len, Own.ivs_app, Own.ivs_set, Own.ivs_bset, Own.bz_app, Own.ivs_snoc, Own.bz_snoc, Own.atI_ints, Own.atI_bz, Own.isLst_some, Own.ty_lst, L2.upd_same, L2.upd_upd, Own.b2_xor, Own.b2_mod2, Own.b2_mod3, Own.b2_mod4, Own.b2_flip, Option.map_some, Option.isSome_some, ne_eq, eq_self, not_false_eq_true, not_true_eq_false, String.reduceEq, Own.e_BM, Own.e_BM0, Own.e_rAppend, Own.e_rCat, Own.e_rRep, Own.e_sl, Own.e_noPart, Own.e_part, Own.e_rSlL, Own.e_gSub, Own.e_rSetL, Own.e_bits, Own.e_yes, Own.e_gTup, Own.e_gNil, Own.e_gCons, Own.e_aug, Own.e_ipI, Own.e_for, Own.e_lc, Own.e_iList, Own.e_iTup, Own.e_iRng1, Own.e_iRng2, Own.e_iEnum, Own.e_iZip, L2.start, L2.wipe, List.map_cons, List.map_nil, List.replicate_succ, List.replicate_zero, List.length_cons, List.length_nil, Nat.reduceAdd, Nat.reduceSub, Nat.zero_add, List.getElem?_cons_zero, List.getElem?_cons_succ, List.set_cons_zero, List.set_cons_succ, Option.some.injEq, L2.V.int.injEq, L2.V.bl.injEq, L2.V.str.injEq, L2.V.ref.injEq, List.cons.injEq, List.cons_append, List.nil_append, List.append_nil, exists_eq_left', exists_eq_left, exists_and_left, exists_and_right, exists_eq, and_true, true_and, reduceCtorEq, false_and, and_false, exists_false, or_false, false_or, true_or, or_true, decide_eq_true_eq, Bool.not_true, Bool.not_false, Bool.not_eq_true', Bool.not_eq_false', decide_eq_false_iff_not, ite_not, if_true, if_false, ite_true, ite_false, Bool.false_eq_true, if_pos trivial, decide_true, decide_false, PySem.sizeLine_eq, eq_self, Int.reduceNeg, Int.reducePow, Int.reduceLT, Int.reduceLE, Int.reduceToNat, Nat.reduceLeDiff, Int.reduceSub, Int.reduceAdd, Int.reduceMul, Int.reduceDiv, Int.reduceMod, Int.reduceEq, Nat.reduceMul, Nat.reduceEqDiff, Own.e_raiseO, Own.e_callS, Own.e_what, Own.hxd_inj, ha, hb])
    refine ite2 (fun h => ?_) (fun h => q1 (fun z => h (by rw [z])))
    have hl : u.length = v.length := by omega
    refine ⟨_, _, ⟨rfl, rfl⟩, ⟨_, .of ha⟩, ⟨_, .of hb⟩, lc_zip rfl ha hb (by rw [ivs_len, ivs_len, bz_len, bz_len, hl]) (fun i => ivs (bz ((zx u v).take i))) rfl ?_ ?_⟩
    · intro D k x y HL hD hx hy hp
      obtain ⟨b1, g1, rfl⟩ := bz_at hx
      obtain ⟨b2', g2, rfl⟩ := bz_at hy
      (try simp only [Own.e_seq, Own.e_cxK, Own.e_wishK, Own.e_noxK, Own.e_asg, Own.e_gName, Own.e_var, Own.e_C, Own.e_op, Own.e_un, Own.e_rI, Own.e_rI0, Own.e_rU, Own.e_CMul, Own.e_CDiv, Own.e_CPow, Own.e_rEq, Own.e_rNe, Own.e_scal_int, Own.e_scal_str, Own.e_scal_bl, Own.e_ifS, Own.e_test, Own.e_tB, Own.e_ret, Own.e_retN, Own.e_next, Own.e_brk, Own.e_cnt, Own.e_cons, Own.e_nil, Own.e_lst, Own.e_tup, Own.e_drop, Own.e_and, Own.e_or, Own.e_not, Own.e_andV, Own.e_orV, Own.e_notV, Own.e_if, Own.e_chain, Own.e_CB, Own.e_call, Own.e_rIxL, Own.e_rIxT, Own.e_rIxK, Own.e_rIxKT, Own.e_rSlK, Own.e_rLenK, Own.e_rListK, Own.e_rTupleK, Own.e_rSumK, Own.e_rNeK, Own.e_rEqK, Own.e_rNeKT, Own.e_rEqKT, Own.e_rIsiK, Own.tyK_int, Own.tyK_bl, Own.tyK_str, Own.tyK_non, Own.tyK_ref, Own.tyO_lst, Own.tyO_tup, Own.kit1, Own.kit2, Own.kit3, Own.kit4, Own.kit5, Own.kit6, Own.kit7, Own.kit8, Own.kit9, Own.hlst_inj, Own.htup_inj, Own.vty_inj, Own.ivs_inj, Own.bz_inj, Own.ivs_len, Own.bz_len, Own.ivs_app, Own.ivs_set, Own.ivs_bset, Own.bz_app, Own.ivs_snoc, Own.bz_snoc, Own.atI_ints, Own.atI_bz, Own.isLst_some, Own.ty_lst, L2.upd_same, L2.upd_upd, Own.b2_xor, Own.b2_mod2, Own.b2_mod3, Own.b2_mod4, Own.b2_flip, Option.map_some, Option.isSome_some, ne_eq, eq_self, not_false_eq_true, not_true_eq_false, String.reduceEq, Own.e_BM, Own.e_BM0, Own.e_rAppend, Own.e_rCat, Own.e_rRep, Own.e_sl, Own.e_noPart, Own.e_part, Own.e_rSlL, Own.e_gSub, Own.e_rSetL, Own.e_bits, Own.e_yes, Own.e_gTup, Own.e_gNil, Own.e_gCons, Own.e_aug, Own.e_ipI, Own.e_for, Own.e_lc, Own.e_iList, Own.e_iTup, Own.e_iRng1, Own.e_iRng2, Own.e_iEnum, Own.e_iZip, L2.start, L2.wipe, List.map_cons, List.map_nil, List.replicate_succ, List.replicate_zero, List.length_cons, List.length_nil, Nat.reduceAdd, Nat.reduceSub, Nat.zero_add, List.getElem?_cons_zero, List.getElem?_cons_succ, List.set_cons_zero, List.set_cons_succ, Option.some.injEq, L2.V.int.injEq, L2.V.bl.injEq, L2.V.str.injEq, L2.V.ref.injEq, List.cons.injEq, List.cons_append, List.nil_append, List.append_nil, exists_eq_left', exists_eq_left, exists_and_left, exists_and_right, exists_eq, and_true, true_and, reduceCtorEq, false_and, and_false, exists_false, or_false, false_or, true_or, or_true, decide_eq_true_eq, Bool.not_true, Bool.not_false, Bool.not_eq_true', Bool.not_eq_false', decide_eq_false_iff_not, ite_not, if_true, if_false, ite_true, ite_false, Bool.false_eq_true, if_pos trivial, decide_true, decide_false, PySem.sizeLine_eq, eq_self, Int.reduceNeg, Int.reducePow, Int.reduceLT, Int.reduceLE, Int.reduceToNat, Nat.reduceLeDiff, Int.reduceSub, Int.reduceAdd, Int.reduceMul, Int.reduceDiv, Int.reduceMod, Int.reduceEq, Nat.reduceMul, Nat.reduceEqDiff, Own.e_raiseO, Own.e_callS, Own.e_what, Own.hxd_inj])
      exact elt_is hD hp (Same.refl _) (ivs_bz_take_snoc (zx_get g1 g2)) (by have := ivs_bz_len (zx u v) k; rw [zx_len (by omega)] at this; omega)
    intro D HD hD sm hp
    rw [ivs_len, bz_len, List.take_of_length_le (by rw [zx_len (by omega)]; omega)] at hp
    (try simp only [Own.e_seq, Own.e_cxK, Own.e_wishK, Own.e_noxK, Own.e_asg, Own.e_gName, Own.e_var, Own.e_C, Own.e_op, Own.e_un, Own.e_rI, Own.e_rI0, Own.e_rU, Own.e_CMul, Own.e_CDiv, Own.e_CPow, Own.e_rEq, Own.e_rNe, Own.e_scal_int, Own.e_scal_str, Own.e_scal_bl, Own.e_ifS, Own.e_test, Own.e_tB, Own.e_ret, Own.e_retN, Own.e_next, Own.e_brk, Own.e_cnt, Own.e_cons, Own.e_nil, Own.e_lst, Own.e_tup, Own.e_drop, Own.e_and, Own.e_or, Own.e_not, Own.e_andV, Own.e_orV, Own.e_notV, Own.e_if, Own.e_chain, Own.e_CB, Own.e_call, Own.e_rIxL, Own.e_rIxT, Own.e_rIxK, Own.e_rIxKT, Own.e_rSlK, Own.e_rLenK, Own.e_rListK, Own.e_rTupleK, Own.e_rSumK, Own.e_rNeK, Own.e_rEqK, Own.e_rNeKT, Own.e_rEqKT, Own.e_rIsiK, Own.tyK_int, Own.tyK_bl, Own.tyK_str, Own.tyK_non, Own.tyK_ref, Own.tyO_lst, Own.tyO_tup, Own.kit1, Own.kit2, Own.kit3, Own.kit4, Own.kit5, Own.kit6, Own.kit7, Own.kit8, Own.kit9, Own.hlst_inj, Own.htup_inj, Own.vty_inj, Own.ivs_inj, Own.bz_inj, Own.ivs_len, Own.bz_len, Own.ivs_app, Own.ivs_set, Own.ivs_bset, Own.bz_app, Own.ivs_snoc, Own.bz_snoc, Own.atI_ints, Own.atI_bz, Own.isLst_some, Own.ty_lst, L2.upd_same, L2.upd_upd, Own.b2_xor, Own.b2_mod2, Own.b2_mod3, Own.b2_mod4, Own.b2_flip, Option.map_some, Option.isSome_some, ne_eq, eq_self, not_false_eq_true, not_true_eq_false, String.reduceEq, Own.e_BM, Own.e_BM0, Own.e_rAppend, Own.e_rCat, Own.e_rRep, Own.e_sl, Own.e_noPart, Own.e_part, Own.e_rSlL, Own.e_gSub, Own.e_rSetL, Own.e_bits, Own.e_yes, Own.e_gTup, Own.e_gNil, Own.e_gCons, Own.e_aug, Own.e_ipI, Own.e_for, Own.e_lc, Own.e_iList, Own.e_iTup, Own.e_iRng1, Own.e_iRng2, Own.e_iEnum, Own.e_iZip, L2.start, L2.wipe, List.map_cons, List.map_nil, List.replicate_succ, List.replicate_zero, List.length_cons, List.length_nil, Nat.reduceAdd, Nat.reduceSub, Nat.zero_add, List.getElem?_cons_zero, List.getElem?_cons_succ, List.set_cons_zero, List.set_cons_succ, Option.some.injEq, L2.V.int.injEq, L2.V.bl.injEq, L2.V.str.injEq, L2.V.ref.injEq, List.cons.injEq, List.cons_append, List.nil_append, List.append_nil, exists_eq_left', exists_eq_left, exists_and_left, exists_and_right, exists_eq, and_true, true_and, reduceCtorEq, false_and, and_false, exists_false, or_false, false_or, true_or, or_true, decide_eq_true_eq, Bool.not_true, Bool.not_false, Bool.not_eq_true', Bool.not_eq_false', decide_eq_false_iff_not, ite_not, if_true, if_false, ite_true, ite_false, Bool.false_eq_true, if_pos trivial, decide_true, decide_false, PySem.sizeLine_eq, eq_self, Int.reduceNeg, Int.reducePow, Int.reduceLT, Int.reduceLE, Int.reduceToNat, Nat.reduceLeDiff, Int.reduceSub, Int.reduceAdd, Int.reduceMul, Int.reduceDiv, Int.reduceMod, Int.reduceEq, Nat.reduceMul, Nat.reduceEqDiff, Own.e_raiseO, Own.e_callS, Own.e_what, Own.hxd_inj, hp])
    rw [sum_bz]
    exact q2 hl HD sm
def mixF (c t : Int) : Int := (c % 1000003 * 48271 + 69621 * (t + 1)) % 2147483647
def mixS (c t : Int) : Int := (mixF c t * 48271 + c % 999983) % 2147483647
def mixT (c t : Int) : Int := (mixS c t * 69621 + mixF c t) % 2147483647
/-- what is made of a cell -/
def mixed (c t : Int) : Int := if 1000000000000000000 ≤ c then c else mixF c t + 2147483647 * mixS c t + 4611686014132420609 * mixT c t
theorem mixed_nn (c t : Int) : 0 ≤ mixed c t := by
  unfold mixed mixT mixS mixF
  split <;> omega

def sp__law_mixed (K : PySem.W.Frag) : Sp := fun vs H Q _ => ∃ c t : Int, vs = [.int c, .int t] ∧ Q (.int (mixed c t)) H

theorem ok__law_mixed {f : Addr} {fd : FuncData} (F : Fun K "_law_mixed" "_law_mixed" s__law_mixed f fd) (B : BI mg) : FnOk P w K mg base CX0 1 f fd ["cell", "turn"] (sp__law_mixed K) := by
  refine F.ok sc__law_mixed (fun vs H Q E h => ?_) (fun cdv A outer s H vs Q E hr h => ?_)
  · obtain ⟨c, t, rfl, q⟩ := h
    rfl
  · obtain ⟨c, t, rfl, q⟩ := h
    refine ⟨_, (pss_cons (ps_set (i := 2) sc__law_mixed.nd rfl (Or.inl rfl) (pe_callTy call_int1 (by rfl) B.int_ boot_int (pa_cons (pv 0) pa_nil)))
      (pss_cons (ps_if (pt_cmpR op_ge (pv 2) (pe_op op_pow pe_int pe_int) (nomark _)) (pss_one (ps_ret (pv 2))) pss_nil)
      (pss_cons (ps_set (i := 3) sc__law_mixed.nd rfl (Or.inl rfl) (pe_op op_mod (pe_op op_add (pe_op op_mul (pe_op op_mod (pv 2) pe_int) pe_int) (pe_op op_mul pe_int (pe_op op_add (pv 1) pe_int))) pe_int))
      (pss_cons (ps_set (i := 4) sc__law_mixed.nd rfl (Or.inl rfl) (pe_op op_mod (pe_op op_add (pe_op op_mul (pv 3) pe_int) (pe_op op_mod (pv 2) pe_int)) pe_int))
      (pss_cons (ps_set (i := 5) sc__law_mixed.nd rfl (Or.inl rfl) (pe_op op_mod (pe_op op_add (pe_op op_mul (pv 4) pe_int) (pv 3)) pe_int))
      (pss_one (ps_ret (pe_op op_add (pe_op op_add (pv 3) (pe_op op_mul pe_int (pv 4))) (pe_op op_mul pe_int (pv 5)))))))))), ?_⟩
    (try simp only [Own.e_seq, Own.e_cxK, Own.e_wishK, Own.e_noxK, Own.e_asg, Own.e_gName, Own.e_var, Own.e_C, Own.e_op, Own.e_un, Own.e_rI, Own.e_rI0, Own.e_rU, Own.e_CMul, Own.e_CDiv, Own.e_CPow, Own.e_rEq, Own.e_rNe, Own.e_scal_int, Own.e_scal_str, Own.e_scal_bl, Own.e_ifS, Own.e_test, Own.e_tB, Own.e_ret, Own.e_retN, Own.e_next, Own.e_brk, Own.e_cnt, Own.e_cons, Own.e_nil, Own.e_lst, Own.e_tup, Own.e_drop, Own.e_and, Own.e_or, Own.e_not, Own.e_andV, Own.e_orV, Own.e_notV, Own.e_if, Own.e_chain, Own.e_CB, Own.e_call, Own.e_rIxL, Own.e_rIxT, Own.e_rIxK, Own.e_rIxKT, Own.e_rSlK, Own.e_rLenK, Own.e_rListK, Own.e_rTupleK, Own.e_rSumK, Own.e_rNeK, Own.e_rEqK, Own.e_rNeKT, Own.e_rEqKT, Own.e_rIsiK, Own.tyK_int, Own.tyK_bl, Own.tyK_str, Own.tyK_non, Own.tyK_ref, Own.tyO_lst, Own.tyO_tup, Own.kit1, Own.kit2, Own.kit3, Own.kit4, Own.kit5, Own.kit6, Own.kit7, Own.kit8, Own.kit9, Own.hlst_inj, Own.htup_inj, Own.vty_inj, Own.ivs_inj, Own.bz_inj, Own.ivs_len, Own.bz_len, Own.ivs_app, Own.ivs_set, Own.ivs_bset, Own.bz_app, Own.ivs_snoc, Own.bz_snoc, Own.atI_ints, Own.atI_bz, Own.isLst_some, Own.ty_lst, L2.upd_same, L2.upd_upd, Own.b2_xor, Own.b2_mod2, Own.b2_mod3, Own.b2_mod4, Own.b2_flip, Option.map_some, Option.isSome_some, ne_eq, eq_self, not_false_eq_true, not_true_eq_false, String.reduceEq, Own.e_BM, Own.e_BM0, Own.e_rAppend, Own.e_rCat, Own.e_rRep, Own.e_sl, Own.e_noPart, Own.e_part, Own.e_rSlL, Own.e_gSub, Own.e_rSetL, Own.e_bits, Own.e_yes, Own.e_gTup, Own.e_gNil, Own.e_gCons, Own.e_aug, Own.e_ipI, Own.e_for, Own.e_lc, Own.e_iList, Own.e_iTup, Own.e_iRng1, Own.e_iRng2, Own.e_iEnum, Own.e_iZip, L2.start, L2.wipe, List.map_cons, List.map_nil, List.replicate_succ, List.replicate_zero, List.length_cons, List.length_nil, Nat.reduceAdd, Nat.reduceSub, Nat.zero_add, List.getElem?_cons_zero, List.getElem?_cons_succ, List.set_cons_zero, List.set_cons_succ, Option.some.injEq, L2.V.int.injEq, L2.V.bl.injEq, L2.V.str.injEq, L2.V.ref.injEq, List.cons.injEq, List.cons_append, List.nil_append, List.append_nil, exists_eq_left', exists_eq_left, exists_and_left, exists_and_right, exists_eq, and_true, true_and, reduceCtorEq, false_and, and_false, exists_false, or_false, false_or, true_or, or_true, decide_eq_true_eq, Bool.not_true, Bool.not_false, Bool.not_eq_true', Bool.not_eq_false', decide_eq_false_iff_not, ite_not, if_true, if_false, ite_true, ite_false, Bool.false_eq_true, if_pos trivial, decide_true, decide_false, PySem.sizeLine_eq, eq_self, Int.reduceNeg, Int.reducePow, Int.reduceLT, Int.reduceLE, Int.reduceToNat, Nat.reduceLeDiff, Int.reduceSub, Int.reduceAdd, Int.reduceMul, Int.reduceDiv, Int.reduceMod, Int.reduceEq, Nat.reduceMul, Nat.reduceEqDiff, Own.e_raiseO, Own.e_callS, Own.e_what, Own.hxd_inj])
    refine ⟨by decide, ?_⟩
    have e := q
    unfold mixed mixT mixS mixF at e
    split
    · rename_i h1; rw [if_pos h1] at e; exact e
    · rename_i h1; rw [if_neg h1] at e; exact e
theorem bit_snoc (bs : List Bool) (l : Int) : bz bs ++ [l % 2] = bz (bs ++ [decide (l % 2 = 1)]) := by
  rw [← bz_snoc, ← b2_odd l]

def sp__law_bits (K : PySem.W.Frag) : Sp := fun vs H Q _ => ∃ v m : Int, vs = [.int v, .int m] ∧ 0 ≤ m ∧ m ≤ 100000 ∧ ∀ bs : List Bool, (bs.length : Int) = m → ∀ H' p, Same H H' → H p = none → H' p = some (.lst (ivs (bz bs))) → Q (.ref p) H'

theorem ok__law_bits {f : Addr} {fd : FuncData} (F : Fun K "_law_bits" "_law_bits" s__law_bits f fd) (B : BI mg) : FnOk P w K mg base CX0 1 f fd ["value", "many"] (sp__law_bits K) := by
  refine F.ok sc__law_bits (fun vs H Q E h => ?_) (fun cdv A outer s H vs Q E hr h => ?_)
  · obtain ⟨v, m, rfl, h0, hm, q⟩ := h
    rfl
  · obtain ⟨v, m, rfl, h0, hm, q⟩ := h
    refine ⟨_, (pss_cons (ps_set (i := 2) sc__law_bits.nd rfl (Or.inl rfl) (pe_lst pa_nil))
      (pss_cons (ps_set (i := 3) sc__law_bits.nd rfl (Or.inl rfl) (pv 0))
      (pss_cons (ps_for PassesOwn.never rfl (pi_range1 (by rfl) B.range_ (pa_cons (pv 1) pa_nil)) (pg_name (i := 4) sc__law_bits.nd rfl (Or.inl rfl))
      (pss_cons (ps_if (PW.pt (pw_or (pt_cmpR op_eq (pv 3) pe_int (nomark _)) (pw_or1 (pt_cmpR op_eq (pv 3) (pe_un un_neg pe_int) (nomark _))))) (pss_one (ps_set (i := 3) sc__law_bits.nd rfl (Or.inl rfl) (pe_op op_add (pv 0) (pe_op op_mul pe_int (pe_op op_add (pv 4) pe_int))))) pss_nil)
      (pss_cons (ps_expr (pe_bm PySem.F.plainAttrs_list PySem.F.slot_list_append PySem.F.type_list_append mt_append (pv 2) (pa_cons (pe_op op_mod (pv 3) pe_int) pa_nil)))
      (pss_one (ps_set (i := 3) sc__law_bits.nd rfl (Or.inl rfl) (pe_op op_fdiv (pv 3) pe_int))))))
      (pss_one (ps_ret (pv 2)))))), ?_⟩
    (try simp only [Own.e_seq, Own.e_cxK, Own.e_wishK, Own.e_noxK, Own.e_asg, Own.e_gName, Own.e_var, Own.e_C, Own.e_op, Own.e_un, Own.e_rI, Own.e_rI0, Own.e_rU, Own.e_CMul, Own.e_CDiv, Own.e_CPow, Own.e_rEq, Own.e_rNe, Own.e_scal_int, Own.e_scal_str, Own.e_scal_bl, Own.e_ifS, Own.e_test, Own.e_tB, Own.e_ret, Own.e_retN, Own.e_next, Own.e_brk, Own.e_cnt, Own.e_cons, Own.e_nil, Own.e_lst, Own.e_tup, Own.e_drop, Own.e_and, Own.e_or, Own.e_not, Own.e_andV, Own.e_orV, Own.e_notV, Own.e_if, Own.e_chain, Own.e_CB, Own.e_call, Own.e_rIxL, Own.e_rIxT, Own.e_rIxK, Own.e_rIxKT, Own.e_rSlK, Own.e_rLenK, Own.e_rListK, Own.e_rTupleK, Own.e_rSumK, Own.e_rNeK, Own.e_rEqK, Own.e_rNeKT, Own.e_rEqKT, Own.e_rIsiK, Own.tyK_int, Own.tyK_bl, Own.tyK_str, Own.tyK_non, Own.tyK_ref, Own.tyO_lst, Own.tyO_tup, Own.kit1, Own.kit2, Own.kit3, Own.kit4, Own.kit5, Own.kit6, Own.kit7, Own.kit8, Own.kit9, Own.hlst_inj, Own.htup_inj, Own.vty_inj, Own.ivs_inj, Own.bz_inj, Own.ivs_len, Own.bz_len, Own.ivs_app, Own.ivs_set, Own.ivs_bset, Own.bz_app, Own.ivs_snoc, Own.bz_snoc, Own.atI_ints, Own.atI_bz, Own.isLst_some, Own.ty_lst, L2.upd_same, L2.upd_upd, Own.b2_xor, Own.b2_mod2, Own.b2_mod3, Own.b2_mod4, Own.b2_flip, Option.map_some, Option.isSome_some, ne_eq, eq_self, not_false_eq_true, not_true_eq_false, String.reduceEq, Own.e_BM, Own.e_BM0, Own.e_rAppend, Own.e_rCat, Own.e_rRep, Own.e_sl, Own.e_noPart, Own.e_part, Own.e_rSlL, Own.e_gSub, Own.e_rSetL, Own.e_bits, Own.e_yes, Own.e_gTup, Own.e_gNil, Own.e_gCons, Own.e_aug, Own.e_ipI, Own.e_for, Own.e_lc, Own.e_iList, Own.e_iTup, Own.e_iRng1, Own.e_iRng2, Own.e_iEnum, Own.e_iZip, L2.start, L2.wipe, List.map_cons, List.map_nil, List.replicate_succ, List.replicate_zero, List.length_cons, List.length_nil, Nat.reduceAdd, Nat.reduceSub, Nat.zero_add, List.getElem?_cons_zero, List.getElem?_cons_succ, List.set_cons_zero, List.set_cons_succ, Option.some.injEq, L2.V.int.injEq, L2.V.bl.injEq, L2.V.str.injEq, L2.V.ref.injEq, List.cons.injEq, List.cons_append, List.nil_append, List.append_nil, exists_eq_left', exists_eq_left, exists_and_left, exists_and_right, exists_eq, and_true, true_and, reduceCtorEq, false_and, and_false, exists_false, or_false, false_or, true_or, or_true, decide_eq_true_eq, Bool.not_true, Bool.not_false, Bool.not_eq_true', Bool.not_eq_false', decide_eq_false_iff_not, ite_not, if_true, if_false, ite_true, ite_false, Bool.false_eq_true, if_pos trivial, decide_true, decide_false, PySem.sizeLine_eq, eq_self, Int.reduceNeg, Int.reducePow, Int.reduceLT, Int.reduceLE, Int.reduceToNat, Nat.reduceLeDiff, Int.reduceSub, Int.reduceAdd, Int.reduceMul, Int.reduceDiv, Int.reduceMod, Int.reduceEq, Nat.reduceMul, Nat.reduceEqDiff, Own.e_raiseO, Own.e_callS, Own.e_what, Own.hxd_inj])
    refine fun p np => ⟨by omega, by omega, loop_it walk_range (fun i σ H' => ∃ (left : Int) (y : Option V) (bs : List Bool), bs.length = i ∧ σ = [some (.int v), some (.int m), some (.ref p), some (.int left), y] ∧ Same H H' ∧ H' p = some (.lst (ivs (bz bs)))) ⟨v, none, [], rfl, rfl, same_upd np, upd_same⟩ (fun _ _ _ _ _ => trivial) ?_ ?_⟩
    · rintro i x σ H' H'' hi ⟨left, y, bs, hl, rfl, sm, hp⟩ ⟨rfl, rfl⟩
      have ln : bs.length < 16777216 := by omega
      (try simp only [Own.e_seq, Own.e_cxK, Own.e_wishK, Own.e_noxK, Own.e_asg, Own.e_gName, Own.e_var, Own.e_C, Own.e_op, Own.e_un, Own.e_rI, Own.e_rI0, Own.e_rU, Own.e_CMul, Own.e_CDiv, Own.e_CPow, Own.e_rEq, Own.e_rNe, Own.e_scal_int, Own.e_scal_str, Own.e_scal_bl, Own.e_ifS, Own.e_test, Own.e_tB, Own.e_ret, Own.e_retN, Own.e_next, Own.e_brk, Own.e_cnt, Own.e_cons, Own.e_nil, Own.e_lst, Own.e_tup, Own.e_drop, Own.e_and, Own.e_or, Own.e_not, Own.e_andV, Own.e_orV, Own.e_notV, Own.e_if, Own.e_chain, Own.e_CB, Own.e_call, Own.e_rIxL, Own.e_rIxT, Own.e_rIxK, Own.e_rIxKT, Own.e_rSlK, Own.e_rLenK, Own.e_rListK, Own.e_rTupleK, Own.e_rSumK, Own.e_rNeK, Own.e_rEqK, Own.e_rNeKT, Own.e_rEqKT, Own.e_rIsiK, Own.tyK_int, Own.tyK_bl, Own.tyK_str, Own.tyK_non, Own.tyK_ref, Own.tyO_lst, Own.tyO_tup, Own.kit1, Own.kit2, Own.kit3, Own.kit4, Own.kit5, Own.kit6, Own.kit7, Own.kit8, Own.kit9, Own.hlst_inj, Own.htup_inj, Own.vty_inj, Own.ivs_inj, Own.bz_inj, Own.ivs_len, Own.bz_len, Own.ivs_app, Own.ivs_set, Own.ivs_bset, Own.bz_app, Own.ivs_snoc, Own.bz_snoc, Own.atI_ints, Own.atI_bz, Own.isLst_some, Own.ty_lst, L2.upd_same, L2.upd_upd, Own.b2_xor, Own.b2_mod2, Own.b2_mod3, Own.b2_mod4, Own.b2_flip, Option.map_some, Option.isSome_some, ne_eq, eq_self, not_false_eq_true, not_true_eq_false, String.reduceEq, Own.e_BM, Own.e_BM0, Own.e_rAppend, Own.e_rCat, Own.e_rRep, Own.e_sl, Own.e_noPart, Own.e_part, Own.e_rSlL, Own.e_gSub, Own.e_rSetL, Own.e_bits, Own.e_yes, Own.e_gTup, Own.e_gNil, Own.e_gCons, Own.e_aug, Own.e_ipI, Own.e_for, Own.e_lc, Own.e_iList, Own.e_iTup, Own.e_iRng1, Own.e_iRng2, Own.e_iEnum, Own.e_iZip, L2.start, L2.wipe, List.map_cons, List.map_nil, List.replicate_succ, List.replicate_zero, List.length_cons, List.length_nil, Nat.reduceAdd, Nat.reduceSub, Nat.zero_add, List.getElem?_cons_zero, List.getElem?_cons_succ, List.set_cons_zero, List.set_cons_succ, Option.some.injEq, L2.V.int.injEq, L2.V.bl.injEq, L2.V.str.injEq, L2.V.ref.injEq, List.cons.injEq, List.cons_append, List.nil_append, List.append_nil, exists_eq_left', exists_eq_left, exists_and_left, exists_and_right, exists_eq, and_true, true_and, reduceCtorEq, false_and, and_false, exists_false, or_false, false_or, true_or, or_true, decide_eq_true_eq, Bool.not_true, Bool.not_false, Bool.not_eq_true', Bool.not_eq_false', decide_eq_false_iff_not, ite_not, if_true, if_false, ite_true, ite_false, Bool.false_eq_true, if_pos trivial, decide_true, decide_false, PySem.sizeLine_eq, eq_self, Int.reduceNeg, Int.reducePow, Int.reduceLT, Int.reduceLE, Int.reduceToNat, Nat.reduceLeDiff, Int.reduceSub, Int.reduceAdd, Int.reduceMul, Int.reduceDiv, Int.reduceMod, Int.reduceEq, Nat.reduceMul, Nat.reduceEqDiff, Own.e_raiseO, Own.e_callS, Own.e_what, Own.hxd_inj, hp, ln, bit_snoc])
      (repeat' refine ite2 (fun _ => ?_) (fun _ => ?_)) <;>
      exact at_is ⟨_, _, bs ++ [_], by simp [hl], rfl, same_upd_of sm np, upd_same⟩
    · rintro σ H' ⟨left, y, bs, hl, rfl, sm, hp⟩
      (try simp only [Own.e_seq, Own.e_cxK, Own.e_wishK, Own.e_noxK, Own.e_asg, Own.e_gName, Own.e_var, Own.e_C, Own.e_op, Own.e_un, Own.e_rI, Own.e_rI0, Own.e_rU, Own.e_CMul, Own.e_CDiv, Own.e_CPow, Own.e_rEq, Own.e_rNe, Own.e_scal_int, Own.e_scal_str, Own.e_scal_bl, Own.e_ifS, Own.e_test, Own.e_tB, Own.e_ret, Own.e_retN, Own.e_next, Own.e_brk, Own.e_cnt, Own.e_cons, Own.e_nil, Own.e_lst, Own.e_tup, Own.e_drop, Own.e_and, Own.e_or, Own.e_not, Own.e_andV, Own.e_orV, Own.e_notV, Own.e_if, Own.e_chain, Own.e_CB, Own.e_call, Own.e_rIxL, Own.e_rIxT, Own.e_rIxK, Own.e_rIxKT, Own.e_rSlK, Own.e_rLenK, Own.e_rListK, Own.e_rTupleK, Own.e_rSumK, Own.e_rNeK, Own.e_rEqK, Own.e_rNeKT, Own.e_rEqKT, Own.e_rIsiK, Own.tyK_int, Own.tyK_bl, Own.tyK_str, Own.tyK_non, Own.tyK_ref, Own.tyO_lst, Own.tyO_tup, Own.kit1, Own.kit2, Own.kit3, Own.kit4, Own.kit5, Own.kit6, Own.kit7, Own.kit8, Own.kit9, Own.hlst_inj, Own.htup_inj, Own.vty_inj, Own.ivs_inj, Own.bz_inj, Own.ivs_len, Own.bz_len, Own.ivs_app, Own.ivs_set, Own.ivs_bset, Own.bz_app, Own.ivs_snoc, Own.bz_snoc, Own.atI_ints, Own.atI_bz, Own.isLst_some, Own.ty_lst, L2.upd_same, L2.upd_upd, Own.b2_xor, Own.b2_mod2, Own.b2_mod3, Own.b2_mod4, Own.b2_flip, Option.map_some, Option.isSome_some, ne_eq, eq_self, not_false_eq_true, not_true_eq_false, String.reduceEq, Own.e_BM, Own.e_BM0, Own.e_rAppend, Own.e_rCat, Own.e_rRep, Own.e_sl, Own.e_noPart, Own.e_part, Own.e_rSlL, Own.e_gSub, Own.e_rSetL, Own.e_bits, Own.e_yes, Own.e_gTup, Own.e_gNil, Own.e_gCons, Own.e_aug, Own.e_ipI, Own.e_for, Own.e_lc, Own.e_iList, Own.e_iTup, Own.e_iRng1, Own.e_iRng2, Own.e_iEnum, Own.e_iZip, L2.start, L2.wipe, List.map_cons, List.map_nil, List.replicate_succ, List.replicate_zero, List.length_cons, List.length_nil, Nat.reduceAdd, Nat.reduceSub, Nat.zero_add, List.getElem?_cons_zero, List.getElem?_cons_succ, List.set_cons_zero, List.set_cons_succ, Option.some.injEq, L2.V.int.injEq, L2.V.bl.injEq, L2.V.str.injEq, L2.V.ref.injEq, List.cons.injEq, List.cons_append, List.nil_append, List.append_nil, exists_eq_left', exists_eq_left, exists_and_left, exists_and_right, exists_eq, and_true, true_and, reduceCtorEq, false_and, and_false, exists_false, or_false, false_or, true_or, or_true, decide_eq_true_eq, Bool.not_true, Bool.not_false, Bool.not_eq_true', Bool.not_eq_false', decide_eq_false_iff_not, ite_not, if_true, if_false, ite_true, ite_false, Bool.false_eq_true, if_pos trivial, decide_true, decide_false, PySem.sizeLine_eq, eq_self, Int.reduceNeg, Int.reducePow, Int.reduceLT, Int.reduceLE, Int.reduceToNat, Nat.reduceLeDiff, Int.reduceSub, Int.reduceAdd, Int.reduceMul, Int.reduceDiv, Int.reduceMod, Int.reduceEq, Nat.reduceMul, Nat.reduceEqDiff, Own.e_raiseO, Own.e_callS, Own.e_what, Own.hxd_inj])
      exact q bs (by omega) H' p sm np hp
def sp__law_refused (K : PySem.W.Frag) (C : Addr) : Sp := fun vs H Q _ => ∃ (a b : Addr) (u v : List Bool), vs = [.ref a, .ref b] ∧ H a = some (.lst (ivs (bz u))) ∧ H b = some (.lst (ivs (bz v))) ∧ u.length ≤ 100000 ∧ u.length ≠ v.length ∧ Q (.bl true) H

theorem ok__law_refused {f : Addr} {fd : FuncData} {f_distance : Addr} {fd_distance : FuncData} (F : Fun K "_law_refused" "_law_refused" s__law_refused f fd) (B : BI mg) (X_BadBits : OwnErr K mg "BadBits" C_BadBits) (c_distance : Cal P w K mg base (L2.CX P w) 1 "distance" f_distance fd_distance ["first", "second"] (sp_distance K C_BadBits)) : FnOk P w K mg base CX0 2 f fd ["first", "second"] (sp__law_refused K C_BadBits) := by
  refine F.ok sc__law_refused (fun vs H Q E h => ?_) (fun cdv A outer s H vs Q E hr h => ?_)
  · obtain ⟨a, b, u, v, rfl, ha, hb, hlen, hne, q⟩ := h
    rfl
  · obtain ⟨a, b, u, v, rfl, ha, hb, hlen, hne, q⟩ := h
    refine ⟨_, (pss_cons (ps_try_only (Wout := fun _ _ _ _ => False) rfl rfl ⟨rfl, by decide, Or.inl X_BadBits.gC⟩ takes0 (fun W pn xe tk _ => (pss_one (ps_expr (pe_callS c_distance.ok (hr.mono (by decide)) (by rfl) c_distance.g c_distance.kp c_distance.b (fun σ => passAt tk σ) (by exact (pa_cons (pv 0) (pa_cons (pv 1) pa_nil))))))) (fun a oe cls d pn _ _ => (pss_one (ps_ret pe_bl))))
      (pss_one (ps_ret pe_bl))), ?_⟩
    (try simp only [Own.e_seq, Own.e_cxK, Own.e_wishK, Own.e_noxK, Own.e_asg, Own.e_gName, Own.e_var, Own.e_C, Own.e_op, Own.e_un, Own.e_rI, Own.e_rI0, Own.e_rU, Own.e_CMul, Own.e_CDiv, Own.e_CPow, Own.e_rEq, Own.e_rNe, Own.e_scal_int, Own.e_scal_str, Own.e_scal_bl, Own.e_ifS, Own.e_test, Own.e_tB, Own.e_ret, Own.e_retN, Own.e_next, Own.e_brk, Own.e_cnt, Own.e_cons, Own.e_nil, Own.e_lst, Own.e_tup, Own.e_drop, Own.e_and, Own.e_or, Own.e_not, Own.e_andV, Own.e_orV, Own.e_notV, Own.e_if, Own.e_chain, Own.e_CB, Own.e_call, Own.e_rIxL, Own.e_rIxT, Own.e_rIxK, Own.e_rIxKT, Own.e_rSlK, Own.e_rLenK, Own.e_rListK, Own.e_rTupleK, Own.e_rSumK, Own.e_rNeK, Own.e_rEqK, Own.e_rNeKT, Own.e_rEqKT, Own.e_rIsiK, Own.tyK_int, Own.tyK_bl, Own.tyK_str, Own.tyK_non, Own.tyK_ref, Own.tyO_lst, Own.tyO_tup, Own.kit1, Own.kit2, Own.kit3, Own.kit4, Own.kit5, Own.kit6, Own.kit7, Own.kit8, Own.kit9, Own.hlst_inj, Own.htup_inj, Own.vty_inj, Own.ivs_inj, Own.bz_inj, Own.ivs_len, Own.bz_len, Own.ivs_app, Own.ivs_set, Own.ivs_bset, Own.bz_app, Own.ivs_snoc, Own.bz_snoc, Own.atI_ints, Own.atI_bz, Own.isLst_some, Own.ty_lst, L2.upd_same, L2.upd_upd, Own.b2_xor, Own.b2_mod2, Own.b2_mod3, Own.b2_mod4, Own.b2_flip, Option.map_some, Option.isSome_some, ne_eq, eq_self, not_false_eq_true, not_true_eq_false, String.reduceEq, Own.e_BM, Own.e_BM0, Own.e_rAppend, Own.e_rCat, Own.e_rRep, Own.e_sl, Own.e_noPart, Own.e_part, Own.e_rSlL, Own.e_gSub, Own.e_rSetL, Own.e_bits, Own.e_yes, Own.e_gTup, Own.e_gNil, Own.e_gCons, Own.e_aug, Own.e_ipI, Own.e_for, Own.e_lc, Own.e_iList, Own.e_iTup, Own.e_iRng1, Own.e_iRng2, Own.e_iEnum, Own.e_iZip, L2.start, L2.wipe, List.map_cons, List.map_nil, List.replicate_succ, List.replicate_zero, List.length_cons, List.length_nil, Nat.reduceAdd, Nat.reduceSub, Nat.zero_add, List.getElem?_cons_zero, List.getElem?_cons_succ, List.set_cons_zero, List.set_cons_succ, Option.some.injEq, L2.V.int.injEq, L2.V.bl.injEq, L2.V.str.injEq, L2.V.ref.injEq, List.cons.injEq, List.cons_append, List.nil_append, List.append_nil, exists_eq_left', exists_eq_left, exists_and_left, exists_and_right, exists_eq, and_true, true_and, reduceCtorEq, false_and, and_false, exists_false, or_false, false_or, true_or, or_true, decide_eq_true_eq, Bool.not_true, Bool.not_false, Bool.not_eq_true', Bool.not_eq_false', decide_eq_false_iff_not, ite_not, if_true, if_false, ite_true, ite_false, Bool.false_eq_true, if_pos trivial, decide_true, decide_false, PySem.sizeLine_eq, eq_self, Int.reduceNeg, Int.reducePow, Int.reduceLT, Int.reduceLE, Int.reduceToNat, Nat.reduceLeDiff, Int.reduceSub, Int.reduceAdd, Int.reduceMul, Int.reduceDiv, Int.reduceMod, Int.reduceEq, Nat.reduceMul, Nat.reduceEqDiff, Own.e_raiseO, Own.e_callS, Own.e_what, Own.hxd_inj])
    refine call_to ⟨_, _, u, v, rfl, ha, hb, hlen, fun _ => only_hit X_BadBits.te fun aa na => ?_, fun z => absurd z hne⟩
    (try simp only [Own.e_seq, Own.e_cxK, Own.e_wishK, Own.e_noxK, Own.e_asg, Own.e_gName, Own.e_var, Own.e_C, Own.e_op, Own.e_un, Own.e_rI, Own.e_rI0, Own.e_rU, Own.e_CMul, Own.e_CDiv, Own.e_CPow, Own.e_rEq, Own.e_rNe, Own.e_scal_int, Own.e_scal_str, Own.e_scal_bl, Own.e_ifS, Own.e_test, Own.e_tB, Own.e_ret, Own.e_retN, Own.e_next, Own.e_brk, Own.e_cnt, Own.e_cons, Own.e_nil, Own.e_lst, Own.e_tup, Own.e_drop, Own.e_and, Own.e_or, Own.e_not, Own.e_andV, Own.e_orV, Own.e_notV, Own.e_if, Own.e_chain, Own.e_CB, Own.e_call, Own.e_rIxL, Own.e_rIxT, Own.e_rIxK, Own.e_rIxKT, Own.e_rSlK, Own.e_rLenK, Own.e_rListK, Own.e_rTupleK, Own.e_rSumK, Own.e_rNeK, Own.e_rEqK, Own.e_rNeKT, Own.e_rEqKT, Own.e_rIsiK, Own.tyK_int, Own.tyK_bl, Own.tyK_str, Own.tyK_non, Own.tyK_ref, Own.tyO_lst, Own.tyO_tup, Own.kit1, Own.kit2, Own.kit3, Own.kit4, Own.kit5, Own.kit6, Own.kit7, Own.kit8, Own.kit9, Own.hlst_inj, Own.htup_inj, Own.vty_inj, Own.ivs_inj, Own.bz_inj, Own.ivs_len, Own.bz_len, Own.ivs_app, Own.ivs_set, Own.ivs_bset, Own.bz_app, Own.ivs_snoc, Own.bz_snoc, Own.atI_ints, Own.atI_bz, Own.isLst_some, Own.ty_lst, L2.upd_same, L2.upd_upd, Own.b2_xor, Own.b2_mod2, Own.b2_mod3, Own.b2_mod4, Own.b2_flip, Option.map_some, Option.isSome_some, ne_eq, eq_self, not_false_eq_true, not_true_eq_false, String.reduceEq, Own.e_BM, Own.e_BM0, Own.e_rAppend, Own.e_rCat, Own.e_rRep, Own.e_sl, Own.e_noPart, Own.e_part, Own.e_rSlL, Own.e_gSub, Own.e_rSetL, Own.e_bits, Own.e_yes, Own.e_gTup, Own.e_gNil, Own.e_gCons, Own.e_aug, Own.e_ipI, Own.e_for, Own.e_lc, Own.e_iList, Own.e_iTup, Own.e_iRng1, Own.e_iRng2, Own.e_iEnum, Own.e_iZip, L2.start, L2.wipe, List.map_cons, List.map_nil, List.replicate_succ, List.replicate_zero, List.length_cons, List.length_nil, Nat.reduceAdd, Nat.reduceSub, Nat.zero_add, List.getElem?_cons_zero, List.getElem?_cons_succ, List.set_cons_zero, List.set_cons_succ, Option.some.injEq, L2.V.int.injEq, L2.V.bl.injEq, L2.V.str.injEq, L2.V.ref.injEq, List.cons.injEq, List.cons_append, List.nil_append, List.append_nil, exists_eq_left', exists_eq_left, exists_and_left, exists_and_right, exists_eq, and_true, true_and, reduceCtorEq, false_and, and_false, exists_false, or_false, false_or, true_or, or_true, decide_eq_true_eq, Bool.not_true, Bool.not_false, Bool.not_eq_true', Bool.not_eq_false', decide_eq_false_iff_not, ite_not, if_true, if_false, ite_true, ite_false, Bool.false_eq_true, if_pos trivial, decide_true, decide_false, PySem.sizeLine_eq, eq_self, Int.reduceNeg, Int.reducePow, Int.reduceLT, Int.reduceLE, Int.reduceToNat, Nat.reduceLeDiff, Int.reduceSub, Int.reduceAdd, Int.reduceMul, Int.reduceDiv, Int.reduceMod, Int.reduceEq, Nat.reduceMul, Nat.reduceEqDiff, Own.e_raiseO, Own.e_callS, Own.e_what, Own.hxd_inj])
    exact q
def sp_law (K : PySem.W.Frag) : Sp := fun vs H Q _ => ∃ (a : Addr) (ns : List Int), vs = [.ref a] ∧ SqL K H a (ns.map V.int) ∧ ns.length ≤ 63 ∧ ∀ H', Q (.bl true) H'

theorem ok_law {f : Addr} {fd : FuncData} {f__law_mixed : Addr} {fd__law_mixed : FuncData} {f__law_bits : Addr} {fd__law_bits : FuncData} {f_distance : Addr} {fd_distance : FuncData} {f_flipped : Addr} {fd_flipped : FuncData} {f__law_refused : Addr} {fd__law_refused : FuncData} (F : Fun K "law" "law" s_law f fd) (B : BI mg) (c__law_mixed : Cal P w K mg base CX0 1 "_law_mixed" f__law_mixed fd__law_mixed ["cell", "turn"] (sp__law_mixed K)) (c__law_bits : Cal P w K mg base CX0 1 "_law_bits" f__law_bits fd__law_bits ["value", "many"] (sp__law_bits K)) (c_distance : Cal P w K mg base (L2.CX P w) 1 "distance" f_distance fd_distance ["first", "second"] (sp_distance K C_BadBits)) (c_flipped : Cal P w K mg base CX0 1 "flipped" f_flipped fd_flipped ["bits", "places"] (sp_flipped K)) (c__law_refused : Cal P w K mg base CX0 2 "_law_refused" f__law_refused fd__law_refused ["first", "second"] (sp__law_refused K C_BadBits)) : FnOk P w K mg base CX0 3 f fd ["script"] (sp_law K) := by
  refine F.ok sc_law (fun vs H Q E h => ?_) (fun cdv A outer s H vs Q E hr h => ?_)
  · obtain ⟨a, ns, rfl, hS, hlen, q⟩ := h
    rfl
  · obtain ⟨a, ns, rfl, hS, hlen, q⟩ := h
    refine ⟨_, (pss_cons (ps_for PassesOwn.never rfl (pi_enum (by rfl) B.enumerate_ (pa_cons (pe_slice sl_list (pv 0) po_none (po_some pe_int)) pa_nil)) (pg_tup rfl (pgs_cons (pg_name (i := 1) sc_law.nd rfl (Or.inl rfl)) (pgs_cons (pg_name (i := 2) sc_law.nd rfl (Or.inl rfl)) pgs_nil)))
      (pss_cons (ps_set (i := 3) sc_law.nd rfl (Or.inl rfl) (pe_call c__law_mixed.ok (hr.mono (by decide)) (by rfl) c__law_mixed.g c__law_mixed.kp c__law_mixed.b .nil pass0 (pa_cons (pv 2) (pa_cons (pv 1) pa_nil))))
      (pss_cons (ps_set (i := 4) sc_law.nd rfl (Or.inl rfl) (pe_op op_mod (pv 3) pe_int))
      (pss_cons (ps_set (i := 5) sc_law.nd rfl (Or.inl rfl) (pe_call c__law_bits.ok (hr.mono (by decide)) (by rfl) c__law_bits.g c__law_bits.kp c__law_bits.b .nil pass0 (pa_cons (pe_op op_fdiv (pv 3) pe_int) (pa_cons (pv 4) pa_nil))))
      (pss_cons (ps_set (i := 6) sc_law.nd rfl (Or.inl rfl) (pe_call c__law_bits.ok (hr.mono (by decide)) (by rfl) c__law_bits.g c__law_bits.kp c__law_bits.b .nil pass0 (pa_cons (pe_op op_fdiv (pv 3) pe_int) (pa_cons (pv 4) pa_nil))))
      (pss_cons (ps_set (i := 7) sc_law.nd rfl (Or.inr rfl) (pe_lst pa_nil))
      (pss_cons (ps_for PassesOwn.never rfl (pi_range1 (by rfl) B.range_ (pa_cons (pe_op op_mod (pe_op op_fdiv (pv 3) pe_int) pe_int) pa_nil)) (pg_name (i := 8) sc_law.nd rfl (Or.inl rfl))
      (pss_one (ps_if (pt_cmpR op_gt (pv 4) pe_int (nomark _)) (pss_one (ps_expr (pe_bm PySem.F.plainAttrs_list PySem.F.slot_list_append PySem.F.type_list_append mt_append (pv 7) (pa_cons (pe_op op_mod (pe_op op_fdiv (pv 3) (pe_op op_add pe_int (pe_op op_mul pe_int (pv 8)))) (pv 4)) pa_nil)))) pss_nil)))
      (pss_cons (ps_ifJ (pt_cmpR op_eq (pe_op op_mod (pe_op op_fdiv (pv 3) pe_int) pe_int) pe_int (nomark _)) (pss_cons (ps_set (i := 6) sc_law.nd rfl (Or.inl rfl) (pe_callTy callk_list (by rfl) B.list_ boot_list (pa_cons (pv 5) pa_nil)))
      (pss_one (ps_for PassesOwn.never rfl (pi_list (pv 7)) (pg_name (i := 9) sc_law.nd rfl (Or.inl rfl))
      (pss_one (ps_asg (pe_op op_sub pe_int (pe_ix ixk_list (pv 6) (pv 9) (fun _ _ => rfl))) (pg_sub (pv 6) (pv 9) set_list)))))) pss_nil)
      (pss_cons (ps_set (i := 10) sc_law.nd rfl (Or.inl rfl) pe_int)
      (pss_cons (ps_for PassesOwn.never rfl (pi_range1 (by rfl) B.range_ (pa_cons (pv 4) pa_nil)) (pg_name (i := 8) sc_law.nd rfl (Or.inl rfl))
      (pss_one (ps_if (pt_cmpR op_ne (pe_ix ixk_list (pv 5) (pv 8) (fun _ _ => rfl)) (pe_ix ixk_list (pv 6) (pv 8) (fun _ _ => rfl)) (nomark _)) (pss_one (ps_set (i := 10) sc_law.nd rfl (Or.inl rfl) (pe_op op_add (pv 10) pe_int))) pss_nil)))
      (pss_cons (ps_set (i := 11) sc_law.nd rfl (Or.inl rfl) (pe_lst (pa_cons (pe_callTy callk_list (by rfl) B.list_ boot_list (pa_cons (pv 5) pa_nil)) (pa_cons (pe_callTy callk_list (by rfl) B.list_ boot_list (pa_cons (pv 6) pa_nil)) pa_nil))))
      (pss_cons (ps_set (i := 12) sc_law.nd rfl (Or.inl rfl) (pe_call c_distance.ok (hr.mono (by decide)) (by rfl) c_distance.g c_distance.kp c_distance.b .nil passL (pa_cons (pe_ix ixk_list (pv 11) pe_int (fun _ _ => rfl)) (pa_cons (pe_ix ixk_list (pv 11) pe_int (fun _ _ => rfl)) pa_nil))))
      (pss_cons (ps_if (PW.pt (pw_or (pt_val (pe_callB callk_isi (by rfl) B.isinstance_ (by decide +kernel) (pa_cons (pv 12) (pa_cons (pe_bltn (v := .ty "bool") (by rfl) B.bool_ boot_bool rfl) pa_nil)))) (pw_or (pt_cmpR op_ne (pv 12) (pv 10) (nomark _)) (pw_or1 (pt_cmpR (op_neD hr.units) (pv 11) (pe_lst (pa_cons (pv 5) (pa_cons (pv 6) pa_nil))) (nomark _)))))) (pss_one (ps_ret pe_bl)) pss_nil)
      (pss_cons (ps_set (i := 13) sc_law.nd rfl (Or.inl rfl) (pe_callTy callk_list (by rfl) B.list_ boot_list (pa_cons (pv 5) pa_nil)))
      (pss_cons (ps_set (i := 14) sc_law.nd rfl (Or.inl rfl) (pe_callTy callk_list (by rfl) B.list_ boot_list (pa_cons (pv 7) pa_nil)))
      (pss_cons (ps_set (i := 15) sc_law.nd rfl (Or.inl rfl) (pe_call c_flipped.ok (hr.mono (by decide)) (by rfl) c_flipped.g c_flipped.kp c_flipped.b .nil pass0 (pa_cons (pv 13) (pa_cons (pv 14) pa_nil))))
      (pss_cons (ps_for PassesOwn.never rfl (pi_list (pv 7)) (pg_name (i := 9) sc_law.nd rfl (Or.inl rfl))
      (pss_one (ps_asg (pe_op op_sub pe_int (pe_ix ixk_list (pv 5) (pv 9) (fun _ _ => rfl))) (pg_sub (pv 5) (pv 9) set_list))))
      (pss_cons (ps_if (PW.pt (pw_or (pt_not (pt_val (pe_callB callk_isi (by rfl) B.isinstance_ (by decide +kernel) (pa_cons (pv 15) (pa_cons (pe_bltn (v := .ty "list") (by rfl) B.list_ boot_list rfl) pa_nil))))) (pw_or (pt_cmpR (opk_ne hr.units) (pv 15) (pv 5) (nomark _)) (pw_or1 (pt_cmpR (opk_ne hr.units) (pv 14) (pv 7) (nomark _)))))) (pss_one (ps_ret pe_bl)) pss_nil)
      (pss_cons (ps_if (pt_cmpR (opk_ne hr.units) (pe_lc (own := [("bit", 16)]) (g := gName 16) rfl sc_law.nd (pi_list (pv 15)) (blkOk_by (own := [("bit", 16)]) (N := ["script", "turn", "cell", "value", "many", "first", "second", "places", "k", "place", "due", "copies", "told", "kept", "asked", "row", "bit"]) (sc := (defScope s_law)) (by decide +kernel)) (fun _ _ _ _ _ => pg_name (i := 16) sc_law.nd rfl (Or.inl rfl)) (fun _ _ _ _ _ => pts_one (pt_val (pe_callB callk_isi (by rfl) B.isinstance_ (by decide +kernel) (pa_cons (pv 16) (pa_cons (pe_bltn (v := .ty "bool") (by rfl) B.bool_ boot_bool rfl) pa_nil))))) (fun _ _ _ _ _ => (pv 16))) (pe_lst pa_nil) (nomark _)) (pss_one (ps_ret pe_bl)) pss_nil)
      (pss_cons (ps_expr (pe_bm PySem.F.plainAttrs_list PySem.F.slot_list_append PySem.F.type_list_append mt_append (pv 15) (pa_cons pe_int pa_nil)))
      (pss_cons (ps_if (PW.pt (pw_or (pt_cmpR op_ne (pe_callB callk_len (by rfl) B.len_ (by decide +kernel) (pa_cons (pv 13) pa_nil)) (pv 4) (nomark _)) (pw_or1 (pt_cmpR op_ne (pe_call c_distance.ok (hr.mono (by decide)) (by rfl) c_distance.g c_distance.kp c_distance.b .nil passL (pa_cons (pv 13) (pa_cons (pv 5) pa_nil))) (pe_callB callk_len (by rfl) B.len_ (by decide +kernel) (pa_cons (pe_lc (own := [("k", 8)]) (g := gName 8) (tt := tTest (tOp rEq (tOp (rI (fun _ j => 0 < j) fun i j => V.int (i % j)) (tBM K "list" (rCntI K) (tVar 7) (tCons (tVar 8) tNil)) (tC (V.int 2))) (tC (V.int 1)))) (te := tVar 8) rfl sc_law.nd (pi_range1 (by rfl) B.range_ (pa_cons (pv 4) pa_nil)) (blkOk_by (own := [("k", 8)]) (N := ["script", "turn", "cell", "value", "many", "first", "second", "places", "k", "place", "due", "copies", "told", "kept", "asked", "row", "bit"]) (sc := (defScope s_law)) (by decide +kernel)) (fun _ _ _ _ _ => pg_name (i := 8) sc_law.nd rfl (Or.inl rfl)) (fun _ _ _ _ _ => by exact pts_one (pt_cmpR op_eq (pe_op op_mod (pe_bm PySem.F.plainAttrs_list PySem.F.slot_list_count PySem.F.type_list_count mt_lcount (pv 7) (pa_cons (pv 8) pa_nil)) pe_int) pe_int (nomark _))) (fun _ _ _ _ _ => (pv 8))) pa_nil)) (nomark _))))) (pss_one (ps_ret pe_bl)) pss_nil)
      (pss_one (ps_if (PW.pt (pw_or (pt_not (pt_val (pe_call c__law_refused.ok (hr.mono (by decide)) (by rfl) c__law_refused.g c__law_refused.kp c__law_refused.b .nil pass0 (pa_cons (pv 15) (pa_cons (pv 5) pa_nil))))) (pw_or (pt_not (pt_val (pe_call c__law_refused.ok (hr.mono (by decide)) (by rfl) c__law_refused.g c__law_refused.kp c__law_refused.b .nil pass0 (pa_cons (pv 5) (pa_cons (pv 15) pa_nil))))) (pw_or1 (pt_not (pt_val (pe_call c__law_refused.ok (hr.mono (by decide)) (by rfl) c__law_refused.g c__law_refused.kp c__law_refused.b .nil pass0 (pa_cons (pv 5) (pa_cons (pe_op op_cat (pv 15) (pe_lst (pa_cons pe_int pa_nil))) pa_nil))))))))) (pss_one (ps_ret pe_bl)) pss_nil)))))))))))))))))))))))
      (pss_one (ps_ret pe_bl))), ?_⟩
    (try simp only [Own.e_seq, Own.e_cxK, Own.e_wishK, Own.e_noxK, Own.e_asg, Own.e_gName, Own.e_var, Own.e_C, Own.e_op, Own.e_un, Own.e_rI, Own.e_rI0, Own.e_rU, Own.e_CMul, Own.e_CDiv, Own.e_CPow, Own.e_rEq, Own.e_rNe, Own.e_scal_int, Own.e_scal_str, Own.e_scal_bl, Own.e_ifS, Own.e_test, Own.e_tB, Own.e_ret, Own.e_retN, Own.e_next, Own.e_brk, Own.e_cnt, Own.e_cons, Own.e_nil, Own.e_lst, Own.e_tup, Own.e_drop, Own.e_and, Own.e_or, Own.e_not, Own.e_andV, Own.e_orV, Own.e_notV, Own.e_if, Own.e_chain, Own.e_CB, Own.e_call, Own.e_rIxL, Own.e_rIxT, Own.e_rIxK, Own.e_rIxKT, Own.e_rSlK, Own.e_rLenK, Own.e_rListK, Own.e_rTupleK, Own.e_rSumK, Own.e_rNeK, Own.e_rEqK, Own.e_rNeKT, Own.e_rEqKT, Own.e_rIsiK, Own.tyK_int, Own.tyK_bl, Own.tyK_str, Own.tyK_non, Own.tyK_ref, Own.tyO_lst, Own.tyO_tup, Own.kit1, Own.kit2, Own.kit3, Own.kit4, Own.kit5, Own.kit6, Own.kit7, Own.kit8, Own.kit9, Own.hlst_inj, Own.htup_inj, Own.vty_inj, Own.ivs_inj, Own.bz_inj, Own.ivs_len, Own.bz_len, Own.ivs_app, Own.ivs_set, Own.ivs_bset, Own.bz_app, Own.ivs_snoc, Own.bz_snoc, Own.atI_ints, Own.atI_bz, Own.isLst_some, Own.ty_lst, L2.upd_same, L2.upd_upd, Own.b2_xor, Own.b2_mod2, Own.b2_mod3, Own.b2_mod4, Own.b2_flip, Option.map_some, Option.isSome_some, ne_eq, eq_self, not_false_eq_true, not_true_eq_false, String.reduceEq, Own.e_BM, Own.e_BM0, Own.e_rAppend, Own.e_rCat, Own.e_rRep, Own.e_sl, Own.e_noPart, Own.e_part, Own.e_rSlL, Own.e_gSub, Own.e_rSetL, Own.e_bits, Own.e_yes, Own.e_gTup, Own.e_gNil, Own.e_gCons, Own.e_aug, Own.e_ipI, Own.e_for, Own.e_lc, Own.e_iList, Own.e_iTup, Own.e_iRng1, Own.e_iRng2, Own.e_iEnum, Own.e_iZip, L2.start, L2.wipe, List.map_cons, List.map_nil, List.replicate_succ, List.replicate_zero, List.length_cons, List.length_nil, Nat.reduceAdd, Nat.reduceSub, Nat.zero_add, List.getElem?_cons_zero, List.getElem?_cons_succ, List.set_cons_zero, List.set_cons_succ, Option.some.injEq, L2.V.int.injEq, L2.V.bl.injEq, L2.V.str.injEq, L2.V.ref.injEq, List.cons.injEq, List.cons_append, List.nil_append, List.append_nil, exists_eq_left', exists_eq_left, exists_and_left, exists_and_right, exists_eq, and_true, true_and, reduceCtorEq, false_and, and_false, exists_false, or_false, false_or, true_or, or_true, decide_eq_true_eq, Bool.not_true, Bool.not_false, Bool.not_eq_true', Bool.not_eq_false', decide_eq_false_iff_not, ite_not, if_true, if_false, ite_true, ite_false, Bool.false_eq_true, if_pos trivial, decide_true, decide_false, PySem.sizeLine_eq, eq_self, Int.reduceNeg, Int.reducePow, Int.reduceLT, Int.reduceLE, Int.reduceToNat, Nat.reduceLeDiff, Int.reduceSub, Int.reduceAdd, Int.reduceMul, Int.reduceDiv, Int.reduceMod, Int.reduceEq, Nat.reduceMul, Nat.reduceEqDiff, Own.e_raiseO, Own.e_callS, Own.e_what, Own.hxd_inj])
    refine ⟨_, hS, new_of fun p4 H4 np4 sm4 hp4 => ?_⟩
    (try simp only [Own.e_seq, Own.e_cxK, Own.e_wishK, Own.e_noxK, Own.e_asg, Own.e_gName, Own.e_var, Own.e_C, Own.e_op, Own.e_un, Own.e_rI, Own.e_rI0, Own.e_rU, Own.e_CMul, Own.e_CDiv, Own.e_CPow, Own.e_rEq, Own.e_rNe, Own.e_scal_int, Own.e_scal_str, Own.e_scal_bl, Own.e_ifS, Own.e_test, Own.e_tB, Own.e_ret, Own.e_retN, Own.e_next, Own.e_brk, Own.e_cnt, Own.e_cons, Own.e_nil, Own.e_lst, Own.e_tup, Own.e_drop, Own.e_and, Own.e_or, Own.e_not, Own.e_andV, Own.e_orV, Own.e_notV, Own.e_if, Own.e_chain, Own.e_CB, Own.e_call, Own.e_rIxL, Own.e_rIxT, Own.e_rIxK, Own.e_rIxKT, Own.e_rSlK, Own.e_rLenK, Own.e_rListK, Own.e_rTupleK, Own.e_rSumK, Own.e_rNeK, Own.e_rEqK, Own.e_rNeKT, Own.e_rEqKT, Own.e_rIsiK, Own.tyK_int, Own.tyK_bl, Own.tyK_str, Own.tyK_non, Own.tyK_ref, Own.tyO_lst, Own.tyO_tup, Own.kit1, Own.kit2, Own.kit3, Own.kit4, Own.kit5, Own.kit6, Own.kit7, Own.kit8, Own.kit9, Own.hlst_inj, Own.htup_inj, Own.vty_inj, Own.ivs_inj, Own.bz_inj, Own.ivs_len, Own.bz_len, Own.ivs_app, Own.ivs_set, Own.ivs_bset, Own.bz_app, Own.ivs_snoc, Own.bz_snoc, Own.atI_ints, Own.atI_bz, Own.isLst_some, Own.ty_lst, L2.upd_same, L2.upd_upd, Own.b2_xor, Own.b2_mod2, Own.b2_mod3, Own.b2_mod4, Own.b2_flip, Option.map_some, Option.isSome_some, ne_eq, eq_self, not_false_eq_true, not_true_eq_false, String.reduceEq, Own.e_BM, Own.e_BM0, Own.e_rAppend, Own.e_rCat, Own.e_rRep, Own.e_sl, Own.e_noPart, Own.e_part, Own.e_rSlL, Own.e_gSub, Own.e_rSetL, Own.e_bits, Own.e_yes, Own.e_gTup, Own.e_gNil, Own.e_gCons, Own.e_aug, Own.e_ipI, Own.e_for, Own.e_lc, Own.e_iList, Own.e_iTup, Own.e_iRng1, Own.e_iRng2, Own.e_iEnum, Own.e_iZip, L2.start, L2.wipe, List.map_cons, List.map_nil, List.replicate_succ, List.replicate_zero, List.length_cons, List.length_nil, Nat.reduceAdd, Nat.reduceSub, Nat.zero_add, List.getElem?_cons_zero, List.getElem?_cons_succ, List.set_cons_zero, List.set_cons_succ, Option.some.injEq, L2.V.int.injEq, L2.V.bl.injEq, L2.V.str.injEq, L2.V.ref.injEq, List.cons.injEq, List.cons_append, List.nil_append, List.append_nil, exists_eq_left', exists_eq_left, exists_and_left, exists_and_right, exists_eq, and_true, true_and, reduceCtorEq, false_and, and_false, exists_false, or_false, false_or, true_or, or_true, decide_eq_true_eq, Bool.not_true, Bool.not_false, Bool.not_eq_true', Bool.not_eq_false', decide_eq_false_iff_not, ite_not, if_true, if_false, ite_true, ite_false, Bool.false_eq_true, if_pos trivial, decide_true, decide_false, PySem.sizeLine_eq, eq_self, Int.reduceNeg, Int.reducePow, Int.reduceLT, Int.reduceLE, Int.reduceToNat, Nat.reduceLeDiff, Int.reduceSub, Int.reduceAdd, Int.reduceMul, Int.reduceDiv, Int.reduceMod, Int.reduceEq, Nat.reduceMul, Nat.reduceEqDiff, Own.e_raiseO, Own.e_callS, Own.e_what, Own.hxd_inj])
    have e4 : cutV (ns.map V.int) none (some 40) = ivs (ns.take 40) := by rw [cut_to _ (by decide)]; exact ivs_take
    rw [e4] at hp4
    refine ⟨⟨_, .of hp4⟩, loop_enum rfl (fun i σ H' => ∃ y1 y2 y3 y4 y5 y6 y7 y8 y9 y10 y11 y12 y13 y14 y15 y16 : Option V, σ = [some (.ref a), y1, y2, y3, y4, y5, y6, y7, y8, y9, y10, y11, y12, y13, y14, y15, y16] ∧ Same H4 H') ⟨none, none, none, none, none, none, none, none, none, none, none, none, none, none, none, none, rfl, Same.refl _⟩ (fun i σ H' ⟨_, _, _, _, _, _, _, _, _, _, _, _, _, _, _, _, _, sm⟩ => sm _ _ hp4) ?_ ?_⟩
    · rintro i z σ H' H5 hz hi ⟨y1, y2, y3, y4, y5, y6, y7, y8, y9, y10, y11, y12, y13, y14, y15, y16, rfl, smx⟩ smy
      have sm5 : Same H4 H5 := smx.trans smy
      (try simp only [Own.e_seq, Own.e_cxK, Own.e_wishK, Own.e_noxK, Own.e_asg, Own.e_gName, Own.e_var, Own.e_C, Own.e_op, Own.e_un, Own.e_rI, Own.e_rI0, Own.e_rU, Own.e_CMul, Own.e_CDiv, Own.e_CPow, Own.e_rEq, Own.e_rNe, Own.e_scal_int, Own.e_scal_str, Own.e_scal_bl, Own.e_ifS, Own.e_test, Own.e_tB, Own.e_ret, Own.e_retN, Own.e_next, Own.e_brk, Own.e_cnt, Own.e_cons, Own.e_nil, Own.e_lst, Own.e_tup, Own.e_drop, Own.e_and, Own.e_or, Own.e_not, Own.e_andV, Own.e_orV, Own.e_notV, Own.e_if, Own.e_chain, Own.e_CB, Own.e_call, Own.e_rIxL, Own.e_rIxT, Own.e_rIxK, Own.e_rIxKT, Own.e_rSlK, Own.e_rLenK, Own.e_rListK, Own.e_rTupleK, Own.e_rSumK, Own.e_rNeK, Own.e_rEqK, Own.e_rNeKT, Own.e_rEqKT, Own.e_rIsiK, Own.tyK_int, Own.tyK_bl, Own.tyK_str, Own.tyK_non, Own.tyK_ref, Own.tyO_lst, Own.tyO_tup, Own.kit1, Own.kit2, Own.kit3, Own.kit4, Own.kit5, Own.kit6, Own.kit7, Own.kit8, Own.kit9, Own.hlst_inj, Own.htup_inj, Own.vty_inj, Own.ivs_inj, Own.bz_inj, Own.ivs_len, Own.bz_len, Own.ivs_app, Own.ivs_set, Own.ivs_bset, Own.bz_app, Own.ivs_snoc, Own.bz_snoc, Own.atI_ints, Own.atI_bz, Own.isLst_some, Own.ty_lst, L2.upd_same, L2.upd_upd, Own.b2_xor, Own.b2_mod2, Own.b2_mod3, Own.b2_mod4, Own.b2_flip, Option.map_some, Option.isSome_some, ne_eq, eq_self, not_false_eq_true, not_true_eq_false, String.reduceEq, Own.e_BM, Own.e_BM0, Own.e_rAppend, Own.e_rCat, Own.e_rRep, Own.e_sl, Own.e_noPart, Own.e_part, Own.e_rSlL, Own.e_gSub, Own.e_rSetL, Own.e_bits, Own.e_yes, Own.e_gTup, Own.e_gNil, Own.e_gCons, Own.e_aug, Own.e_ipI, Own.e_for, Own.e_lc, Own.e_iList, Own.e_iTup, Own.e_iRng1, Own.e_iRng2, Own.e_iEnum, Own.e_iZip, L2.start, L2.wipe, List.map_cons, List.map_nil, List.replicate_succ, List.replicate_zero, List.length_cons, List.length_nil, Nat.reduceAdd, Nat.reduceSub, Nat.zero_add, List.getElem?_cons_zero, List.getElem?_cons_succ, List.set_cons_zero, List.set_cons_succ, Option.some.injEq, L2.V.int.injEq, L2.V.bl.injEq, L2.V.str.injEq, L2.V.ref.injEq, List.cons.injEq, List.cons_append, List.nil_append, List.append_nil, exists_eq_left', exists_eq_left, exists_and_left, exists_and_right, exists_eq, and_true, true_and, reduceCtorEq, false_and, and_false, exists_false, or_false, false_or, true_or, or_true, decide_eq_true_eq, Bool.not_true, Bool.not_false, Bool.not_eq_true', Bool.not_eq_false', decide_eq_false_iff_not, ite_not, if_true, if_false, ite_true, ite_false, Bool.false_eq_true, if_pos trivial, decide_true, decide_false, PySem.sizeLine_eq, eq_self, Int.reduceNeg, Int.reducePow, Int.reduceLT, Int.reduceLE, Int.reduceToNat, Nat.reduceLeDiff, Int.reduceSub, Int.reduceAdd, Int.reduceMul, Int.reduceDiv, Int.reduceMod, Int.reduceEq, Nat.reduceMul, Nat.reduceEqDiff, Own.e_raiseO, Own.e_callS, Own.e_what, Own.hxd_inj])
      refine call_to ⟨_, _, rfl, ?_⟩
      have hv := mixed_nn z i
      generalize mixed z i = v at hv ⊢
      (try simp only [Own.e_seq, Own.e_cxK, Own.e_wishK, Own.e_noxK, Own.e_asg, Own.e_gName, Own.e_var, Own.e_C, Own.e_op, Own.e_un, Own.e_rI, Own.e_rI0, Own.e_rU, Own.e_CMul, Own.e_CDiv, Own.e_CPow, Own.e_rEq, Own.e_rNe, Own.e_scal_int, Own.e_scal_str, Own.e_scal_bl, Own.e_ifS, Own.e_test, Own.e_tB, Own.e_ret, Own.e_retN, Own.e_next, Own.e_brk, Own.e_cnt, Own.e_cons, Own.e_nil, Own.e_lst, Own.e_tup, Own.e_drop, Own.e_and, Own.e_or, Own.e_not, Own.e_andV, Own.e_orV, Own.e_notV, Own.e_if, Own.e_chain, Own.e_CB, Own.e_call, Own.e_rIxL, Own.e_rIxT, Own.e_rIxK, Own.e_rIxKT, Own.e_rSlK, Own.e_rLenK, Own.e_rListK, Own.e_rTupleK, Own.e_rSumK, Own.e_rNeK, Own.e_rEqK, Own.e_rNeKT, Own.e_rEqKT, Own.e_rIsiK, Own.tyK_int, Own.tyK_bl, Own.tyK_str, Own.tyK_non, Own.tyK_ref, Own.tyO_lst, Own.tyO_tup, Own.kit1, Own.kit2, Own.kit3, Own.kit4, Own.kit5, Own.kit6, Own.kit7, Own.kit8, Own.kit9, Own.hlst_inj, Own.htup_inj, Own.vty_inj, Own.ivs_inj, Own.bz_inj, Own.ivs_len, Own.bz_len, Own.ivs_app, Own.ivs_set, Own.ivs_bset, Own.bz_app, Own.ivs_snoc, Own.bz_snoc, Own.atI_ints, Own.atI_bz, Own.isLst_some, Own.ty_lst, L2.upd_same, L2.upd_upd, Own.b2_xor, Own.b2_mod2, Own.b2_mod3, Own.b2_mod4, Own.b2_flip, Option.map_some, Option.isSome_some, ne_eq, eq_self, not_false_eq_true, not_true_eq_false, String.reduceEq, Own.e_BM, Own.e_BM0, Own.e_rAppend, Own.e_rCat, Own.e_rRep, Own.e_sl, Own.e_noPart, Own.e_part, Own.e_rSlL, Own.e_gSub, Own.e_rSetL, Own.e_bits, Own.e_yes, Own.e_gTup, Own.e_gNil, Own.e_gCons, Own.e_aug, Own.e_ipI, Own.e_for, Own.e_lc, Own.e_iList, Own.e_iTup, Own.e_iRng1, Own.e_iRng2, Own.e_iEnum, Own.e_iZip, L2.start, L2.wipe, List.map_cons, List.map_nil, List.replicate_succ, List.replicate_zero, List.length_cons, List.length_nil, Nat.reduceAdd, Nat.reduceSub, Nat.zero_add, List.getElem?_cons_zero, List.getElem?_cons_succ, List.set_cons_zero, List.set_cons_succ, Option.some.injEq, L2.V.int.injEq, L2.V.bl.injEq, L2.V.str.injEq, L2.V.ref.injEq, List.cons.injEq, List.cons_append, List.nil_append, List.append_nil, exists_eq_left', exists_eq_left, exists_and_left, exists_and_right, exists_eq, and_true, true_and, reduceCtorEq, false_and, and_false, exists_false, or_false, false_or, true_or, or_true, decide_eq_true_eq, Bool.not_true, Bool.not_false, Bool.not_eq_true', Bool.not_eq_false', decide_eq_false_iff_not, ite_not, if_true, if_false, ite_true, ite_false, Bool.false_eq_true, if_pos trivial, decide_true, decide_false, PySem.sizeLine_eq, eq_self, Int.reduceNeg, Int.reducePow, Int.reduceLT, Int.reduceLE, Int.reduceToNat, Nat.reduceLeDiff, Int.reduceSub, Int.reduceAdd, Int.reduceMul, Int.reduceDiv, Int.reduceMod, Int.reduceEq, Nat.reduceMul, Nat.reduceEqDiff, Own.e_raiseO, Own.e_callS, Own.e_what, Own.hxd_inj])
      refine call_to ⟨_, _, rfl, by omega, by omega, fun u hu H6 p6 sm6 np6 hp6 => ?_⟩
      (try simp only [Own.e_seq, Own.e_cxK, Own.e_wishK, Own.e_noxK, Own.e_asg, Own.e_gName, Own.e_var, Own.e_C, Own.e_op, Own.e_un, Own.e_rI, Own.e_rI0, Own.e_rU, Own.e_CMul, Own.e_CDiv, Own.e_CPow, Own.e_rEq, Own.e_rNe, Own.e_scal_int, Own.e_scal_str, Own.e_scal_bl, Own.e_ifS, Own.e_test, Own.e_tB, Own.e_ret, Own.e_retN, Own.e_next, Own.e_brk, Own.e_cnt, Own.e_cons, Own.e_nil, Own.e_lst, Own.e_tup, Own.e_drop, Own.e_and, Own.e_or, Own.e_not, Own.e_andV, Own.e_orV, Own.e_notV, Own.e_if, Own.e_chain, Own.e_CB, Own.e_call, Own.e_rIxL, Own.e_rIxT, Own.e_rIxK, Own.e_rIxKT, Own.e_rSlK, Own.e_rLenK, Own.e_rListK, Own.e_rTupleK, Own.e_rSumK, Own.e_rNeK, Own.e_rEqK, Own.e_rNeKT, Own.e_rEqKT, Own.e_rIsiK, Own.tyK_int, Own.tyK_bl, Own.tyK_str, Own.tyK_non, Own.tyK_ref, Own.tyO_lst, Own.tyO_tup, Own.kit1, Own.kit2, Own.kit3, Own.kit4, Own.kit5, Own.kit6, Own.kit7, Own.kit8, Own.kit9, Own.hlst_inj, Own.htup_inj, Own.vty_inj, Own.ivs_inj, Own.bz_inj, Own.ivs_len, Own.bz_len, Own.ivs_app, Own.ivs_set, Own.ivs_bset, Own.bz_app, Own.ivs_snoc, Own.bz_snoc, Own.atI_ints, Own.atI_bz, Own.isLst_some, Own.ty_lst, L2.upd_same, L2.upd_upd, Own.b2_xor, Own.b2_mod2, Own.b2_mod3, Own.b2_mod4, Own.b2_flip, Option.map_some, Option.isSome_some, ne_eq, eq_self, not_false_eq_true, not_true_eq_false, String.reduceEq, Own.e_BM, Own.e_BM0, Own.e_rAppend, Own.e_rCat, Own.e_rRep, Own.e_sl, Own.e_noPart, Own.e_part, Own.e_rSlL, Own.e_gSub, Own.e_rSetL, Own.e_bits, Own.e_yes, Own.e_gTup, Own.e_gNil, Own.e_gCons, Own.e_aug, Own.e_ipI, Own.e_for, Own.e_lc, Own.e_iList, Own.e_iTup, Own.e_iRng1, Own.e_iRng2, Own.e_iEnum, Own.e_iZip, L2.start, L2.wipe, List.map_cons, List.map_nil, List.replicate_succ, List.replicate_zero, List.length_cons, List.length_nil, Nat.reduceAdd, Nat.reduceSub, Nat.zero_add, List.getElem?_cons_zero, List.getElem?_cons_succ, List.set_cons_zero, List.set_cons_succ, Option.some.injEq, L2.V.int.injEq, L2.V.bl.injEq, L2.V.str.injEq, L2.V.ref.injEq, List.cons.injEq, List.cons_append, List.nil_append, List.append_nil, exists_eq_left', exists_eq_left, exists_and_left, exists_and_right, exists_eq, and_true, true_and, reduceCtorEq, false_and, and_false, exists_false, or_false, false_or, true_or, or_true, decide_eq_true_eq, Bool.not_true, Bool.not_false, Bool.not_eq_true', Bool.not_eq_false', decide_eq_false_iff_not, ite_not, if_true, if_false, ite_true, ite_false, Bool.false_eq_true, if_pos trivial, decide_true, decide_false, PySem.sizeLine_eq, eq_self, Int.reduceNeg, Int.reducePow, Int.reduceLT, Int.reduceLE, Int.reduceToNat, Nat.reduceLeDiff, Int.reduceSub, Int.reduceAdd, Int.reduceMul, Int.reduceDiv, Int.reduceMod, Int.reduceEq, Nat.reduceMul, Nat.reduceEqDiff, Own.e_raiseO, Own.e_callS, Own.e_what, Own.hxd_inj])
      refine call_to ⟨_, _, rfl, by omega, by omega, fun u2 hu2 H7 p7 sm7 np7 hp7 => ?_⟩
      (try simp only [Own.e_seq, Own.e_cxK, Own.e_wishK, Own.e_noxK, Own.e_asg, Own.e_gName, Own.e_var, Own.e_C, Own.e_op, Own.e_un, Own.e_rI, Own.e_rI0, Own.e_rU, Own.e_CMul, Own.e_CDiv, Own.e_CPow, Own.e_rEq, Own.e_rNe, Own.e_scal_int, Own.e_scal_str, Own.e_scal_bl, Own.e_ifS, Own.e_test, Own.e_tB, Own.e_ret, Own.e_retN, Own.e_next, Own.e_brk, Own.e_cnt, Own.e_cons, Own.e_nil, Own.e_lst, Own.e_tup, Own.e_drop, Own.e_and, Own.e_or, Own.e_not, Own.e_andV, Own.e_orV, Own.e_notV, Own.e_if, Own.e_chain, Own.e_CB, Own.e_call, Own.e_rIxL, Own.e_rIxT, Own.e_rIxK, Own.e_rIxKT, Own.e_rSlK, Own.e_rLenK, Own.e_rListK, Own.e_rTupleK, Own.e_rSumK, Own.e_rNeK, Own.e_rEqK, Own.e_rNeKT, Own.e_rEqKT, Own.e_rIsiK, Own.tyK_int, Own.tyK_bl, Own.tyK_str, Own.tyK_non, Own.tyK_ref, Own.tyO_lst, Own.tyO_tup, Own.kit1, Own.kit2, Own.kit3, Own.kit4, Own.kit5, Own.kit6, Own.kit7, Own.kit8, Own.kit9, Own.hlst_inj, Own.htup_inj, Own.vty_inj, Own.ivs_inj, Own.bz_inj, Own.ivs_len, Own.bz_len, Own.ivs_app, Own.ivs_set, Own.ivs_bset, Own.bz_app, Own.ivs_snoc, Own.bz_snoc, Own.atI_ints, Own.atI_bz, Own.isLst_some, Own.ty_lst, L2.upd_same, L2.upd_upd, Own.b2_xor, Own.b2_mod2, Own.b2_mod3, Own.b2_mod4, Own.b2_flip, Option.map_some, Option.isSome_some, ne_eq, eq_self, not_false_eq_true, not_true_eq_false, String.reduceEq, Own.e_BM, Own.e_BM0, Own.e_rAppend, Own.e_rCat, Own.e_rRep, Own.e_sl, Own.e_noPart, Own.e_part, Own.e_rSlL, Own.e_gSub, Own.e_rSetL, Own.e_bits, Own.e_yes, Own.e_gTup, Own.e_gNil, Own.e_gCons, Own.e_aug, Own.e_ipI, Own.e_for, Own.e_lc, Own.e_iList, Own.e_iTup, Own.e_iRng1, Own.e_iRng2, Own.e_iEnum, Own.e_iZip, L2.start, L2.wipe, List.map_cons, List.map_nil, List.replicate_succ, List.replicate_zero, List.length_cons, List.length_nil, Nat.reduceAdd, Nat.reduceSub, Nat.zero_add, List.getElem?_cons_zero, List.getElem?_cons_succ, List.set_cons_zero, List.set_cons_succ, Option.some.injEq, L2.V.int.injEq, L2.V.bl.injEq, L2.V.str.injEq, L2.V.ref.injEq, List.cons.injEq, List.cons_append, List.nil_append, List.append_nil, exists_eq_left', exists_eq_left, exists_and_left, exists_and_right, exists_eq, and_true, true_and, reduceCtorEq, false_and, and_false, exists_false, or_false, false_or, true_or, or_true, decide_eq_true_eq, Bool.not_true, Bool.not_false, Bool.not_eq_true', Bool.not_eq_false', decide_eq_false_iff_not, ite_not, if_true, if_false, ite_true, ite_false, Bool.false_eq_true, if_pos trivial, decide_true, decide_false, PySem.sizeLine_eq, eq_self, Int.reduceNeg, Int.reducePow, Int.reduceLT, Int.reduceLE, Int.reduceToNat, Nat.reduceLeDiff, Int.reduceSub, Int.reduceAdd, Int.reduceMul, Int.reduceDiv, Int.reduceMod, Int.reduceEq, Nat.reduceMul, Nat.reduceEqDiff, Own.e_raiseO, Own.e_callS, Own.e_what, Own.hxd_inj])
      refine new_of fun p8 H8 np8 sm8 hp8 => ?_
      (try simp only [Own.e_seq, Own.e_cxK, Own.e_wishK, Own.e_noxK, Own.e_asg, Own.e_gName, Own.e_var, Own.e_C, Own.e_op, Own.e_un, Own.e_rI, Own.e_rI0, Own.e_rU, Own.e_CMul, Own.e_CDiv, Own.e_CPow, Own.e_rEq, Own.e_rNe, Own.e_scal_int, Own.e_scal_str, Own.e_scal_bl, Own.e_ifS, Own.e_test, Own.e_tB, Own.e_ret, Own.e_retN, Own.e_next, Own.e_brk, Own.e_cnt, Own.e_cons, Own.e_nil, Own.e_lst, Own.e_tup, Own.e_drop, Own.e_and, Own.e_or, Own.e_not, Own.e_andV, Own.e_orV, Own.e_notV, Own.e_if, Own.e_chain, Own.e_CB, Own.e_call, Own.e_rIxL, Own.e_rIxT, Own.e_rIxK, Own.e_rIxKT, Own.e_rSlK, Own.e_rLenK, Own.e_rListK, Own.e_rTupleK, Own.e_rSumK, Own.e_rNeK, Own.e_rEqK, Own.e_rNeKT, Own.e_rEqKT, Own.e_rIsiK, Own.tyK_int, Own.tyK_bl, Own.tyK_str, Own.tyK_non, Own.tyK_ref, Own.tyO_lst, Own.tyO_tup, Own.kit1, Own.kit2, Own.kit3, Own.kit4, Own.kit5, Own.kit6, Own.kit7, Own.kit8, Own.kit9, Own.hlst_inj, Own.htup_inj, Own.vty_inj, Own.ivs_inj, Own.bz_inj, Own.ivs_len, Own.bz_len, Own.ivs_app, Own.ivs_set, Own.ivs_bset, Own.bz_app, Own.ivs_snoc, Own.bz_snoc, Own.atI_ints, Own.atI_bz, Own.isLst_some, Own.ty_lst, L2.upd_same, L2.upd_upd, Own.b2_xor, Own.b2_mod2, Own.b2_mod3, Own.b2_mod4, Own.b2_flip, Option.map_some, Option.isSome_some, ne_eq, eq_self, not_false_eq_true, not_true_eq_false, String.reduceEq, Own.e_BM, Own.e_BM0, Own.e_rAppend, Own.e_rCat, Own.e_rRep, Own.e_sl, Own.e_noPart, Own.e_part, Own.e_rSlL, Own.e_gSub, Own.e_rSetL, Own.e_bits, Own.e_yes, Own.e_gTup, Own.e_gNil, Own.e_gCons, Own.e_aug, Own.e_ipI, Own.e_for, Own.e_lc, Own.e_iList, Own.e_iTup, Own.e_iRng1, Own.e_iRng2, Own.e_iEnum, Own.e_iZip, L2.start, L2.wipe, List.map_cons, List.map_nil, List.replicate_succ, List.replicate_zero, List.length_cons, List.length_nil, Nat.reduceAdd, Nat.reduceSub, Nat.zero_add, List.getElem?_cons_zero, List.getElem?_cons_succ, List.set_cons_zero, List.set_cons_succ, Option.some.injEq, L2.V.int.injEq, L2.V.bl.injEq, L2.V.str.injEq, L2.V.ref.injEq, List.cons.injEq, List.cons_append, List.nil_append, List.append_nil, exists_eq_left', exists_eq_left, exists_and_left, exists_and_right, exists_eq, and_true, true_and, reduceCtorEq, false_and, and_false, exists_false, or_false, false_or, true_or, or_true, decide_eq_true_eq, Bool.not_true, Bool.not_false, Bool.not_eq_true', Bool.not_eq_false', decide_eq_false_iff_not, ite_not, if_true, if_false, ite_true, ite_false, Bool.false_eq_true, if_pos trivial, decide_true, decide_false, PySem.sizeLine_eq, eq_self, Int.reduceNeg, Int.reducePow, Int.reduceLT, Int.reduceLE, Int.reduceToNat, Nat.reduceLeDiff, Int.reduceSub, Int.reduceAdd, Int.reduceMul, Int.reduceDiv, Int.reduceMod, Int.reduceEq, Nat.reduceMul, Nat.reduceEqDiff, Own.e_raiseO, Own.e_callS, Own.e_what, Own.hxd_inj])
      have t8 : Same H4 H8 := ((sm5.trans sm6).trans sm7).trans sm8
      have fr8 : H4 p8 = none := ((sm5.trans sm6).trans sm7).free np8
      have hu8 := sm8 _ _ (sm7 _ _ hp6)
      have hw8 := sm8 _ _ hp7
      have n68 : p6 ≠ p8 := ne_of_none (sm7 _ _ hp6) np8
      have n78 : p7 ≠ p8 := ne_of_none hp7 np8
      refine ⟨by omega, by omega, loop_it walk_range (fun k σ H' => ∃ (ps : List Int) (y8 : Option V), σ = [some (.ref a), some (.int i), some (.int z), some (.int v), some (.int (v % 61)), some (.ref p6), some (.ref p7), some (.ref p8), y8, y9, y10, y11, y12, y13, y14, y15, y16] ∧ Same H4 H' ∧ H' p6 = some (.lst (ivs (bz u))) ∧ H' p7 = some (.lst (ivs (bz u2))) ∧ H' p8 = some (.lst (ivs ps)) ∧ ps.length ≤ k ∧ ∀ p ∈ ps, 0 ≤ p ∧ p < v % 61) ⟨[], _, rfl, t8, hu8, hw8, hp8, Nat.le_refl _, fun _ h => nomatch h⟩ (fun _ _ _ _ _ => trivial) ?_ ?_⟩
      · rintro k x σ Hk H'' hk ⟨ps, y8, rfl, smk, h6, h7, h8, lps, hps⟩ ⟨rfl, rfl⟩
        have c1 : ps.length < 16777216 := by omega
        (try simp only [Own.e_seq, Own.e_cxK, Own.e_wishK, Own.e_noxK, Own.e_asg, Own.e_gName, Own.e_var, Own.e_C, Own.e_op, Own.e_un, Own.e_rI, Own.e_rI0, Own.e_rU, Own.e_CMul, Own.e_CDiv, Own.e_CPow, Own.e_rEq, Own.e_rNe, Own.e_scal_int, Own.e_scal_str, Own.e_scal_bl, Own.e_ifS, Own.e_test, Own.e_tB, Own.e_ret, Own.e_retN, Own.e_next, Own.e_brk, Own.e_cnt, Own.e_cons, Own.e_nil, Own.e_lst, Own.e_tup, Own.e_drop, Own.e_and, Own.e_or, Own.e_not, Own.e_andV, Own.e_orV, Own.e_notV, Own.e_if, Own.e_chain, Own.e_CB, Own.e_call, Own.e_rIxL, Own.e_rIxT, Own.e_rIxK, Own.e_rIxKT, Own.e_rSlK, Own.e_rLenK, Own.e_rListK, Own.e_rTupleK, Own.e_rSumK, Own.e_rNeK, Own.e_rEqK, Own.e_rNeKT, Own.e_rEqKT, Own.e_rIsiK, Own.tyK_int, Own.tyK_bl, Own.tyK_str, Own.tyK_non, Own.tyK_ref, Own.tyO_lst, Own.tyO_tup, Own.kit1, Own.kit2, Own.kit3, Own.kit4, Own.kit5, Own.kit6, Own.kit7, Own.kit8, Own.kit9, Own.hlst_inj, Own.htup_inj, Own.vty_inj, Own.ivs_inj, Own.bz_inj, Own.ivs_len, Own.bz_len, Own.ivs_app, Own.ivs_set, Own.ivs_bset, Own.bz_app, Own.ivs_snoc, Own.bz_snoc, Own.atI_ints, Own.atI_bz, Own.isLst_some, Own.ty_lst, L2.upd_same, L2.upd_upd, Own.b2_xor, Own.b2_mod2, Own.b2_mod3, Own.b2_mod4, Own.b2_flip, Option.map_some, Option.isSome_some, ne_eq, eq_self, not_false_eq_true, not_true_eq_false, String.reduceEq, Own.e_BM, Own.e_BM0, Own.e_rAppend, Own.e_rCat, Own.e_rRep, Own.e_sl, Own.e_noPart, Own.e_part, Own.e_rSlL, Own.e_gSub, Own.e_rSetL, Own.e_bits, Own.e_yes, Own.e_gTup, Own.e_gNil, Own.e_gCons, Own.e_aug, Own.e_ipI, Own.e_for, Own.e_lc, Own.e_iList, Own.e_iTup, Own.e_iRng1, Own.e_iRng2, Own.e_iEnum, Own.e_iZip, L2.start, L2.wipe, List.map_cons, List.map_nil, List.replicate_succ, List.replicate_zero, List.length_cons, List.length_nil, Nat.reduceAdd, Nat.reduceSub, Nat.zero_add, List.getElem?_cons_zero, List.getElem?_cons_succ, List.set_cons_zero, List.set_cons_succ, Option.some.injEq, L2.V.int.injEq, L2.V.bl.injEq, L2.V.str.injEq, L2.V.ref.injEq, List.cons.injEq, List.cons_append, List.nil_append, List.append_nil, exists_eq_left', exists_eq_left, exists_and_left, exists_and_right, exists_eq, and_true, true_and, reduceCtorEq, false_and, and_false, exists_false, or_false, false_or, true_or, or_true, decide_eq_true_eq, Bool.not_true, Bool.not_false, Bool.not_eq_true', Bool.not_eq_false', decide_eq_false_iff_not, ite_not, if_true, if_false, ite_true, ite_false, Bool.false_eq_true, if_pos trivial, decide_true, decide_false, PySem.sizeLine_eq, eq_self, Int.reduceNeg, Int.reducePow, Int.reduceLT, Int.reduceLE, Int.reduceToNat, Nat.reduceLeDiff, Int.reduceSub, Int.reduceAdd, Int.reduceMul, Int.reduceDiv, Int.reduceMod, Int.reduceEq, Nat.reduceMul, Nat.reduceEqDiff, Own.e_raiseO, Own.e_callS, Own.e_what, Own.hxd_inj, h8, c1])
        refine ite2 (fun hm => ?_) (fun _ => at_is ⟨ps, _, rfl, smk, h6, h7, h8, by omega, hps⟩)
        refine ⟨⟨by omega, by omega⟩, hm, at_is ⟨ps ++ [_], _, rfl, same_upd_of smk fr8, by rw [upd_ne n68]; exact h6, by rw [upd_ne n78]; exact h7, upd_same, by simp; omega, ?_⟩⟩
        intro p hp
        rcases List.mem_append.mp hp with hp | hp
        · exact hps p hp
        · rw [List.mem_singleton.mp hp]
          exact ⟨Int.emod_nonneg _ (by omega), Int.emod_lt_of_pos _ hm⟩
      · rintro σ Hk ⟨ps, y8, rfl, smk, h6, h7, h8, lps, hps⟩
        (try simp only [Own.e_seq, Own.e_cxK, Own.e_wishK, Own.e_noxK, Own.e_asg, Own.e_gName, Own.e_var, Own.e_C, Own.e_op, Own.e_un, Own.e_rI, Own.e_rI0, Own.e_rU, Own.e_CMul, Own.e_CDiv, Own.e_CPow, Own.e_rEq, Own.e_rNe, Own.e_scal_int, Own.e_scal_str, Own.e_scal_bl, Own.e_ifS, Own.e_test, Own.e_tB, Own.e_ret, Own.e_retN, Own.e_next, Own.e_brk, Own.e_cnt, Own.e_cons, Own.e_nil, Own.e_lst, Own.e_tup, Own.e_drop, Own.e_and, Own.e_or, Own.e_not, Own.e_andV, Own.e_orV, Own.e_notV, Own.e_if, Own.e_chain, Own.e_CB, Own.e_call, Own.e_rIxL, Own.e_rIxT, Own.e_rIxK, Own.e_rIxKT, Own.e_rSlK, Own.e_rLenK, Own.e_rListK, Own.e_rTupleK, Own.e_rSumK, Own.e_rNeK, Own.e_rEqK, Own.e_rNeKT, Own.e_rEqKT, Own.e_rIsiK, Own.tyK_int, Own.tyK_bl, Own.tyK_str, Own.tyK_non, Own.tyK_ref, Own.tyO_lst, Own.tyO_tup, Own.kit1, Own.kit2, Own.kit3, Own.kit4, Own.kit5, Own.kit6, Own.kit7, Own.kit8, Own.kit9, Own.hlst_inj, Own.htup_inj, Own.vty_inj, Own.ivs_inj, Own.bz_inj, Own.ivs_len, Own.bz_len, Own.ivs_app, Own.ivs_set, Own.ivs_bset, Own.bz_app, Own.ivs_snoc, Own.bz_snoc, Own.atI_ints, Own.atI_bz, Own.isLst_some, Own.ty_lst, L2.upd_same, L2.upd_upd, Own.b2_xor, Own.b2_mod2, Own.b2_mod3, Own.b2_mod4, Own.b2_flip, Option.map_some, Option.isSome_some, ne_eq, eq_self, not_false_eq_true, not_true_eq_false, String.reduceEq, Own.e_BM, Own.e_BM0, Own.e_rAppend, Own.e_rCat, Own.e_rRep, Own.e_sl, Own.e_noPart, Own.e_part, Own.e_rSlL, Own.e_gSub, Own.e_rSetL, Own.e_bits, Own.e_yes, Own.e_gTup, Own.e_gNil, Own.e_gCons, Own.e_aug, Own.e_ipI, Own.e_for, Own.e_lc, Own.e_iList, Own.e_iTup, Own.e_iRng1, Own.e_iRng2, Own.e_iEnum, Own.e_iZip, L2.start, L2.wipe, List.map_cons, List.map_nil, List.replicate_succ, List.replicate_zero, List.length_cons, List.length_nil, Nat.reduceAdd, Nat.reduceSub, Nat.zero_add, List.getElem?_cons_zero, List.getElem?_cons_succ, List.set_cons_zero, List.set_cons_succ, Option.some.injEq, L2.V.int.injEq, L2.V.bl.injEq, L2.V.str.injEq, L2.V.ref.injEq, List.cons.injEq, List.cons_append, List.nil_append, List.append_nil, exists_eq_left', exists_eq_left, exists_and_left, exists_and_right, exists_eq, and_true, true_and, reduceCtorEq, false_and, and_false, exists_false, or_false, false_or, true_or, or_true, decide_eq_true_eq, Bool.not_true, Bool.not_false, Bool.not_eq_true', Bool.not_eq_false', decide_eq_false_iff_not, ite_not, if_true, if_false, ite_true, ite_false, Bool.false_eq_true, if_pos trivial, decide_true, decide_false, PySem.sizeLine_eq, eq_self, Int.reduceNeg, Int.reducePow, Int.reduceLT, Int.reduceLE, Int.reduceToNat, Nat.reduceLeDiff, Int.reduceSub, Int.reduceAdd, Int.reduceMul, Int.reduceDiv, Int.reduceMod, Int.reduceEq, Nat.reduceMul, Nat.reduceEqDiff, Own.e_raiseO, Own.e_callS, Own.e_what, Own.hxd_inj])
        have hps' : ∀ p ∈ ps, 0 ≤ p ∧ p < u.length := fun p hp => by have := hps p hp; omega
        refine if_join (fun σ H' => ∃ (w : List Bool) (q7 : Addr) (z9 : Option V), σ = [some (.ref a), some (.int i), some (.int z), some (.int v), some (.int (v % 61)), some (.ref p6), some (.ref q7), some (.ref p8), y8, z9, y10, y11, y12, y13, y14, y15, y16] ∧ Same H4 H' ∧ H' p6 = some (.lst (ivs (bz u))) ∧ H' q7 = some (.lst (ivs (bz w))) ∧ H' p8 = some (.lst (ivs ps)) ∧ w.length = u.length) ?_ ?_
        · rintro σ H9 ⟨w, q7, z9, rfl, sm9, h6, h7, h8, lw⟩
          have zl : (zx u w).length = u.length := zx_len lw
          (try simp only [Own.e_seq, Own.e_cxK, Own.e_wishK, Own.e_noxK, Own.e_asg, Own.e_gName, Own.e_var, Own.e_C, Own.e_op, Own.e_un, Own.e_rI, Own.e_rI0, Own.e_rU, Own.e_CMul, Own.e_CDiv, Own.e_CPow, Own.e_rEq, Own.e_rNe, Own.e_scal_int, Own.e_scal_str, Own.e_scal_bl, Own.e_ifS, Own.e_test, Own.e_tB, Own.e_ret, Own.e_retN, Own.e_next, Own.e_brk, Own.e_cnt, Own.e_cons, Own.e_nil, Own.e_lst, Own.e_tup, Own.e_drop, Own.e_and, Own.e_or, Own.e_not, Own.e_andV, Own.e_orV, Own.e_notV, Own.e_if, Own.e_chain, Own.e_CB, Own.e_call, Own.e_rIxL, Own.e_rIxT, Own.e_rIxK, Own.e_rIxKT, Own.e_rSlK, Own.e_rLenK, Own.e_rListK, Own.e_rTupleK, Own.e_rSumK, Own.e_rNeK, Own.e_rEqK, Own.e_rNeKT, Own.e_rEqKT, Own.e_rIsiK, Own.tyK_int, Own.tyK_bl, Own.tyK_str, Own.tyK_non, Own.tyK_ref, Own.tyO_lst, Own.tyO_tup, Own.kit1, Own.kit2, Own.kit3, Own.kit4, Own.kit5, Own.kit6, Own.kit7, Own.kit8, Own.kit9, Own.hlst_inj, Own.htup_inj, Own.vty_inj, Own.ivs_inj, Own.bz_inj, Own.ivs_len, Own.bz_len, Own.ivs_app, Own.ivs_set, Own.ivs_bset, Own.bz_app, Own.ivs_snoc, Own.bz_snoc, Own.atI_ints, Own.atI_bz, Own.isLst_some, Own.ty_lst, L2.upd_same, L2.upd_upd, Own.b2_xor, Own.b2_mod2, Own.b2_mod3, Own.b2_mod4, Own.b2_flip, Option.map_some, Option.isSome_some, ne_eq, eq_self, not_false_eq_true, not_true_eq_false, String.reduceEq, Own.e_BM, Own.e_BM0, Own.e_rAppend, Own.e_rCat, Own.e_rRep, Own.e_sl, Own.e_noPart, Own.e_part, Own.e_rSlL, Own.e_gSub, Own.e_rSetL, Own.e_bits, Own.e_yes, Own.e_gTup, Own.e_gNil, Own.e_gCons, Own.e_aug, Own.e_ipI, Own.e_for, Own.e_lc, Own.e_iList, Own.e_iTup, Own.e_iRng1, Own.e_iRng2, Own.e_iEnum, Own.e_iZip, L2.start, L2.wipe, List.map_cons, List.map_nil, List.replicate_succ, List.replicate_zero, List.length_cons, List.length_nil, Nat.reduceAdd, Nat.reduceSub, Nat.zero_add, List.getElem?_cons_zero, List.getElem?_cons_succ, List.set_cons_zero, List.set_cons_succ, Option.some.injEq, L2.V.int.injEq, L2.V.bl.injEq, L2.V.str.injEq, L2.V.ref.injEq, List.cons.injEq, List.cons_append, List.nil_append, List.append_nil, exists_eq_left', exists_eq_left, exists_and_left, exists_and_right, exists_eq, and_true, true_and, reduceCtorEq, false_and, and_false, exists_false, or_false, false_or, true_or, or_true, decide_eq_true_eq, Bool.not_true, Bool.not_false, Bool.not_eq_true', Bool.not_eq_false', decide_eq_false_iff_not, ite_not, if_true, if_false, ite_true, ite_false, Bool.false_eq_true, if_pos trivial, decide_true, decide_false, PySem.sizeLine_eq, eq_self, Int.reduceNeg, Int.reducePow, Int.reduceLT, Int.reduceLE, Int.reduceToNat, Nat.reduceLeDiff, Int.reduceSub, Int.reduceAdd, Int.reduceMul, Int.reduceDiv, Int.reduceMod, Int.reduceEq, Nat.reduceMul, Nat.reduceEqDiff, Own.e_raiseO, Own.e_callS, Own.e_what, Own.hxd_inj])
          refine ⟨by omega, by omega, loop_it walk_range (fun k σ H' => ∃ y8 : Option V, σ = [some (.ref a), some (.int i), some (.int z), some (.int v), some (.int (v % 61)), some (.ref p6), some (.ref q7), some (.ref p8), y8, z9, some (.int (wt ((zx u w).take k))), y11, y12, y13, y14, y15, y16] ∧ H' = H9) ⟨y8, rfl, rfl⟩ (fun _ _ _ _ _ => trivial) ?_ ?_⟩
          · rintro k x σ Hk H'' hk ⟨y8, rfl, rfl⟩ ⟨rfl, rfl⟩
            have g1 : u[k]? = some (u[k]'(by omega)) := List.getElem?_eq_getElem _
            have g2 : w[k]? = some (w[k]'(by omega)) := List.getElem?_eq_getElem _
            have a1 : atI u (0 + (k : Int)) = some (u[k]'(by omega)) := by rw [atI_at (by omega), show (0 + (k : Int)).toNat = k by omega]; exact g1
            have a2 : atI w (0 + (k : Int)) = some (w[k]'(by omega)) := by rw [atI_at (by omega), show (0 + (k : Int)).toNat = k by omega]; exact g2
            have gz := zx_get g1 g2
            generalize u[k]'(by omega) = b1 at a1 gz
            generalize w[k]'(by omega) = b2' at a2 gz
            have wk := wt_take gz
            (try simp only [Own.e_seq, Own.e_cxK, Own.e_wishK, Own.e_noxK, Own.e_asg, Own.e_gName, Own.e_var, Own.e_C, Own.e_op, Own.e_un, Own.e_rI, Own.e_rI0, Own.e_rU, Own.e_CMul, Own.e_CDiv, Own.e_CPow, Own.e_rEq, Own.e_rNe, Own.e_scal_int, Own.e_scal_str, Own.e_scal_bl, Own.e_ifS, Own.e_test, Own.e_tB, Own.e_ret, Own.e_retN, Own.e_next, Own.e_brk, Own.e_cnt, Own.e_cons, Own.e_nil, Own.e_lst, Own.e_tup, Own.e_drop, Own.e_and, Own.e_or, Own.e_not, Own.e_andV, Own.e_orV, Own.e_notV, Own.e_if, Own.e_chain, Own.e_CB, Own.e_call, Own.e_rIxL, Own.e_rIxT, Own.e_rIxK, Own.e_rIxKT, Own.e_rSlK, Own.e_rLenK, Own.e_rListK, Own.e_rTupleK, Own.e_rSumK, Own.e_rNeK, Own.e_rEqK, Own.e_rNeKT, Own.e_rEqKT, Own.e_rIsiK, Own.tyK_int, Own.tyK_bl, Own.tyK_str, Own.tyK_non, Own.tyK_ref, Own.tyO_lst, Own.tyO_tup, Own.kit1, Own.kit2, Own.kit3, Own.kit4, Own.kit5, Own.kit6, Own.kit7, Own.kit8, Own.kit9, Own.hlst_inj, Own.htup_inj, Own.vty_inj, Own.ivs_inj, Own.bz_inj, Own.ivs_len, Own.bz_len, Own.ivs_app, Own.ivs_set, Own.ivs_bset, Own.bz_app, Own.ivs_snoc, Own.bz_snoc, Own.atI_ints, Own.atI_bz, Own.isLst_some, Own.ty_lst, L2.upd_same, L2.upd_upd, Own.b2_xor, Own.b2_mod2, Own.b2_mod3, Own.b2_mod4, Own.b2_flip, Option.map_some, Option.isSome_some, ne_eq, eq_self, not_false_eq_true, not_true_eq_false, String.reduceEq, Own.e_BM, Own.e_BM0, Own.e_rAppend, Own.e_rCat, Own.e_rRep, Own.e_sl, Own.e_noPart, Own.e_part, Own.e_rSlL, Own.e_gSub, Own.e_rSetL, Own.e_bits, Own.e_yes, Own.e_gTup, Own.e_gNil, Own.e_gCons, Own.e_aug, Own.e_ipI, Own.e_for, Own.e_lc, Own.e_iList, Own.e_iTup, Own.e_iRng1, Own.e_iRng2, Own.e_iEnum, Own.e_iZip, L2.start, L2.wipe, List.map_cons, List.map_nil, List.replicate_succ, List.replicate_zero, List.length_cons, List.length_nil, Nat.reduceAdd, Nat.reduceSub, Nat.zero_add, List.getElem?_cons_zero, List.getElem?_cons_succ, List.set_cons_zero, List.set_cons_succ, Option.some.injEq, L2.V.int.injEq, L2.V.bl.injEq, L2.V.str.injEq, L2.V.ref.injEq, List.cons.injEq, List.cons_append, List.nil_append, List.append_nil, exists_eq_left', exists_eq_left, exists_and_left, exists_and_right, exists_eq, and_true, true_and, reduceCtorEq, false_and, and_false, exists_false, or_false, false_or, true_or, or_true, decide_eq_true_eq, Bool.not_true, Bool.not_false, Bool.not_eq_true', Bool.not_eq_false', decide_eq_false_iff_not, ite_not, if_true, if_false, ite_true, ite_false, Bool.false_eq_true, if_pos trivial, decide_true, decide_false, PySem.sizeLine_eq, eq_self, Int.reduceNeg, Int.reducePow, Int.reduceLT, Int.reduceLE, Int.reduceToNat, Nat.reduceLeDiff, Int.reduceSub, Int.reduceAdd, Int.reduceMul, Int.reduceDiv, Int.reduceMod, Int.reduceEq, Nat.reduceMul, Nat.reduceEqDiff, Own.e_raiseO, Own.e_callS, Own.e_what, Own.hxd_inj, h6, h7, a1, a2])
            refine ite2 (fun h => at_is ⟨some (.int (0 + (k : Int))), ?_, rfl⟩) (fun h => at_is ⟨some (.int (0 + (k : Int))), ?_, rfl⟩)
            · have e := b2_inj h
              subst e
              rw [wk, Bool.xor_self, show b2 false = 0 from rfl, Int.add_zero]
            · have e : (b1 ^^ b2') = true := by cases b1 <;> cases b2' <;> simp_all
              rw [wk, e]; rfl
          rintro σ Hk ⟨y8, rfl, rfl⟩
          rw [List.take_of_length_le (by omega)]
          (try simp only [Own.e_seq, Own.e_cxK, Own.e_wishK, Own.e_noxK, Own.e_asg, Own.e_gName, Own.e_var, Own.e_C, Own.e_op, Own.e_un, Own.e_rI, Own.e_rI0, Own.e_rU, Own.e_CMul, Own.e_CDiv, Own.e_CPow, Own.e_rEq, Own.e_rNe, Own.e_scal_int, Own.e_scal_str, Own.e_scal_bl, Own.e_ifS, Own.e_test, Own.e_tB, Own.e_ret, Own.e_retN, Own.e_next, Own.e_brk, Own.e_cnt, Own.e_cons, Own.e_nil, Own.e_lst, Own.e_tup, Own.e_drop, Own.e_and, Own.e_or, Own.e_not, Own.e_andV, Own.e_orV, Own.e_notV, Own.e_if, Own.e_chain, Own.e_CB, Own.e_call, Own.e_rIxL, Own.e_rIxT, Own.e_rIxK, Own.e_rIxKT, Own.e_rSlK, Own.e_rLenK, Own.e_rListK, Own.e_rTupleK, Own.e_rSumK, Own.e_rNeK, Own.e_rEqK, Own.e_rNeKT, Own.e_rEqKT, Own.e_rIsiK, Own.tyK_int, Own.tyK_bl, Own.tyK_str, Own.tyK_non, Own.tyK_ref, Own.tyO_lst, Own.tyO_tup, Own.kit1, Own.kit2, Own.kit3, Own.kit4, Own.kit5, Own.kit6, Own.kit7, Own.kit8, Own.kit9, Own.hlst_inj, Own.htup_inj, Own.vty_inj, Own.ivs_inj, Own.bz_inj, Own.ivs_len, Own.bz_len, Own.ivs_app, Own.ivs_set, Own.ivs_bset, Own.bz_app, Own.ivs_snoc, Own.bz_snoc, Own.atI_ints, Own.atI_bz, Own.isLst_some, Own.ty_lst, L2.upd_same, L2.upd_upd, Own.b2_xor, Own.b2_mod2, Own.b2_mod3, Own.b2_mod4, Own.b2_flip, Option.map_some, Option.isSome_some, ne_eq, eq_self, not_false_eq_true, not_true_eq_false, String.reduceEq, Own.e_BM, Own.e_BM0, Own.e_rAppend, Own.e_rCat, Own.e_rRep, Own.e_sl, Own.e_noPart, Own.e_part, Own.e_rSlL, Own.e_gSub, Own.e_rSetL, Own.e_bits, Own.e_yes, Own.e_gTup, Own.e_gNil, Own.e_gCons, Own.e_aug, Own.e_ipI, Own.e_for, Own.e_lc, Own.e_iList, Own.e_iTup, Own.e_iRng1, Own.e_iRng2, Own.e_iEnum, Own.e_iZip, L2.start, L2.wipe, List.map_cons, List.map_nil, List.replicate_succ, List.replicate_zero, List.length_cons, List.length_nil, Nat.reduceAdd, Nat.reduceSub, Nat.zero_add, List.getElem?_cons_zero, List.getElem?_cons_succ, List.set_cons_zero, List.set_cons_succ, Option.some.injEq, L2.V.int.injEq, L2.V.bl.injEq, L2.V.str.injEq, L2.V.ref.injEq, List.cons.injEq, List.cons_append, List.nil_append, List.append_nil, exists_eq_left', exists_eq_left, exists_and_left, exists_and_right, exists_eq, and_true, true_and, reduceCtorEq, false_and, and_false, exists_false, or_false, false_or, true_or, or_true, decide_eq_true_eq, Bool.not_true, Bool.not_false, Bool.not_eq_true', Bool.not_eq_false', decide_eq_false_iff_not, ite_not, if_true, if_false, ite_true, ite_false, Bool.false_eq_true, if_pos trivial, decide_true, decide_false, PySem.sizeLine_eq, eq_self, Int.reduceNeg, Int.reducePow, Int.reduceLT, Int.reduceLE, Int.reduceToNat, Nat.reduceLeDiff, Int.reduceSub, Int.reduceAdd, Int.reduceMul, Int.reduceDiv, Int.reduceMod, Int.reduceEq, Nat.reduceMul, Nat.reduceEqDiff, Own.e_raiseO, Own.e_callS, Own.e_what, Own.hxd_inj, h6, h7])
          refine new_of fun c1 G1 n1 s1 e1 => ?_
          (try simp only [Own.e_seq, Own.e_cxK, Own.e_wishK, Own.e_noxK, Own.e_asg, Own.e_gName, Own.e_var, Own.e_C, Own.e_op, Own.e_un, Own.e_rI, Own.e_rI0, Own.e_rU, Own.e_CMul, Own.e_CDiv, Own.e_CPow, Own.e_rEq, Own.e_rNe, Own.e_scal_int, Own.e_scal_str, Own.e_scal_bl, Own.e_ifS, Own.e_test, Own.e_tB, Own.e_ret, Own.e_retN, Own.e_next, Own.e_brk, Own.e_cnt, Own.e_cons, Own.e_nil, Own.e_lst, Own.e_tup, Own.e_drop, Own.e_and, Own.e_or, Own.e_not, Own.e_andV, Own.e_orV, Own.e_notV, Own.e_if, Own.e_chain, Own.e_CB, Own.e_call, Own.e_rIxL, Own.e_rIxT, Own.e_rIxK, Own.e_rIxKT, Own.e_rSlK, Own.e_rLenK, Own.e_rListK, Own.e_rTupleK, Own.e_rSumK, Own.e_rNeK, Own.e_rEqK, Own.e_rNeKT, Own.e_rEqKT, Own.e_rIsiK, Own.tyK_int, Own.tyK_bl, Own.tyK_str, Own.tyK_non, Own.tyK_ref, Own.tyO_lst, Own.tyO_tup, Own.kit1, Own.kit2, Own.kit3, Own.kit4, Own.kit5, Own.kit6, Own.kit7, Own.kit8, Own.kit9, Own.hlst_inj, Own.htup_inj, Own.vty_inj, Own.ivs_inj, Own.bz_inj, Own.ivs_len, Own.bz_len, Own.ivs_app, Own.ivs_set, Own.ivs_bset, Own.bz_app, Own.ivs_snoc, Own.bz_snoc, Own.atI_ints, Own.atI_bz, Own.isLst_some, Own.ty_lst, L2.upd_same, L2.upd_upd, Own.b2_xor, Own.b2_mod2, Own.b2_mod3, Own.b2_mod4, Own.b2_flip, Option.map_some, Option.isSome_some, ne_eq, eq_self, not_false_eq_true, not_true_eq_false, String.reduceEq, Own.e_BM, Own.e_BM0, Own.e_rAppend, Own.e_rCat, Own.e_rRep, Own.e_sl, Own.e_noPart, Own.e_part, Own.e_rSlL, Own.e_gSub, Own.e_rSetL, Own.e_bits, Own.e_yes, Own.e_gTup, Own.e_gNil, Own.e_gCons, Own.e_aug, Own.e_ipI, Own.e_for, Own.e_lc, Own.e_iList, Own.e_iTup, Own.e_iRng1, Own.e_iRng2, Own.e_iEnum, Own.e_iZip, L2.start, L2.wipe, List.map_cons, List.map_nil, List.replicate_succ, List.replicate_zero, List.length_cons, List.length_nil, Nat.reduceAdd, Nat.reduceSub, Nat.zero_add, List.getElem?_cons_zero, List.getElem?_cons_succ, List.set_cons_zero, List.set_cons_succ, Option.some.injEq, L2.V.int.injEq, L2.V.bl.injEq, L2.V.str.injEq, L2.V.ref.injEq, List.cons.injEq, List.cons_append, List.nil_append, List.append_nil, exists_eq_left', exists_eq_left, exists_and_left, exists_and_right, exists_eq, and_true, true_and, reduceCtorEq, false_and, and_false, exists_false, or_false, false_or, true_or, or_true, decide_eq_true_eq, Bool.not_true, Bool.not_false, Bool.not_eq_true', Bool.not_eq_false', decide_eq_false_iff_not, ite_not, if_true, if_false, ite_true, ite_false, Bool.false_eq_true, if_pos trivial, decide_true, decide_false, PySem.sizeLine_eq, eq_self, Int.reduceNeg, Int.reducePow, Int.reduceLT, Int.reduceLE, Int.reduceToNat, Nat.reduceLeDiff, Int.reduceSub, Int.reduceAdd, Int.reduceMul, Int.reduceDiv, Int.reduceMod, Int.reduceEq, Nat.reduceMul, Nat.reduceEqDiff, Own.e_raiseO, Own.e_callS, Own.e_what, Own.hxd_inj, s1 _ _ h7])
          refine new_of fun c2 G2 n2 s2 e2 => ?_
          (try simp only [Own.e_seq, Own.e_cxK, Own.e_wishK, Own.e_noxK, Own.e_asg, Own.e_gName, Own.e_var, Own.e_C, Own.e_op, Own.e_un, Own.e_rI, Own.e_rI0, Own.e_rU, Own.e_CMul, Own.e_CDiv, Own.e_CPow, Own.e_rEq, Own.e_rNe, Own.e_scal_int, Own.e_scal_str, Own.e_scal_bl, Own.e_ifS, Own.e_test, Own.e_tB, Own.e_ret, Own.e_retN, Own.e_next, Own.e_brk, Own.e_cnt, Own.e_cons, Own.e_nil, Own.e_lst, Own.e_tup, Own.e_drop, Own.e_and, Own.e_or, Own.e_not, Own.e_andV, Own.e_orV, Own.e_notV, Own.e_if, Own.e_chain, Own.e_CB, Own.e_call, Own.e_rIxL, Own.e_rIxT, Own.e_rIxK, Own.e_rIxKT, Own.e_rSlK, Own.e_rLenK, Own.e_rListK, Own.e_rTupleK, Own.e_rSumK, Own.e_rNeK, Own.e_rEqK, Own.e_rNeKT, Own.e_rEqKT, Own.e_rIsiK, Own.tyK_int, Own.tyK_bl, Own.tyK_str, Own.tyK_non, Own.tyK_ref, Own.tyO_lst, Own.tyO_tup, Own.kit1, Own.kit2, Own.kit3, Own.kit4, Own.kit5, Own.kit6, Own.kit7, Own.kit8, Own.kit9, Own.hlst_inj, Own.htup_inj, Own.vty_inj, Own.ivs_inj, Own.bz_inj, Own.ivs_len, Own.bz_len, Own.ivs_app, Own.ivs_set, Own.ivs_bset, Own.bz_app, Own.ivs_snoc, Own.bz_snoc, Own.atI_ints, Own.atI_bz, Own.isLst_some, Own.ty_lst, L2.upd_same, L2.upd_upd, Own.b2_xor, Own.b2_mod2, Own.b2_mod3, Own.b2_mod4, Own.b2_flip, Option.map_some, Option.isSome_some, ne_eq, eq_self, not_false_eq_true, not_true_eq_false, String.reduceEq, Own.e_BM, Own.e_BM0, Own.e_rAppend, Own.e_rCat, Own.e_rRep, Own.e_sl, Own.e_noPart, Own.e_part, Own.e_rSlL, Own.e_gSub, Own.e_rSetL, Own.e_bits, Own.e_yes, Own.e_gTup, Own.e_gNil, Own.e_gCons, Own.e_aug, Own.e_ipI, Own.e_for, Own.e_lc, Own.e_iList, Own.e_iTup, Own.e_iRng1, Own.e_iRng2, Own.e_iEnum, Own.e_iZip, L2.start, L2.wipe, List.map_cons, List.map_nil, List.replicate_succ, List.replicate_zero, List.length_cons, List.length_nil, Nat.reduceAdd, Nat.reduceSub, Nat.zero_add, List.getElem?_cons_zero, List.getElem?_cons_succ, List.set_cons_zero, List.set_cons_succ, Option.some.injEq, L2.V.int.injEq, L2.V.bl.injEq, L2.V.str.injEq, L2.V.ref.injEq, List.cons.injEq, List.cons_append, List.nil_append, List.append_nil, exists_eq_left', exists_eq_left, exists_and_left, exists_and_right, exists_eq, and_true, true_and, reduceCtorEq, false_and, and_false, exists_false, or_false, false_or, true_or, or_true, decide_eq_true_eq, Bool.not_true, Bool.not_false, Bool.not_eq_true', Bool.not_eq_false', decide_eq_false_iff_not, ite_not, if_true, if_false, ite_true, ite_false, Bool.false_eq_true, if_pos trivial, decide_true, decide_false, PySem.sizeLine_eq, eq_self, Int.reduceNeg, Int.reducePow, Int.reduceLT, Int.reduceLE, Int.reduceToNat, Nat.reduceLeDiff, Int.reduceSub, Int.reduceAdd, Int.reduceMul, Int.reduceDiv, Int.reduceMod, Int.reduceEq, Nat.reduceMul, Nat.reduceEqDiff, Own.e_raiseO, Own.e_callS, Own.e_what, Own.hxd_inj])
          refine new_of fun c3 G3 n3 s3 e3 => ?_
          have i0 : atI [V.ref c1, V.ref c2] 0 = some (.ref c1) := rfl
          have i1 : atI [V.ref c1, V.ref c2] 1 = some (.ref c2) := rfl
          (try simp only [Own.e_seq, Own.e_cxK, Own.e_wishK, Own.e_noxK, Own.e_asg, Own.e_gName, Own.e_var, Own.e_C, Own.e_op, Own.e_un, Own.e_rI, Own.e_rI0, Own.e_rU, Own.e_CMul, Own.e_CDiv, Own.e_CPow, Own.e_rEq, Own.e_rNe, Own.e_scal_int, Own.e_scal_str, Own.e_scal_bl, Own.e_ifS, Own.e_test, Own.e_tB, Own.e_ret, Own.e_retN, Own.e_next, Own.e_brk, Own.e_cnt, Own.e_cons, Own.e_nil, Own.e_lst, Own.e_tup, Own.e_drop, Own.e_and, Own.e_or, Own.e_not, Own.e_andV, Own.e_orV, Own.e_notV, Own.e_if, Own.e_chain, Own.e_CB, Own.e_call, Own.e_rIxL, Own.e_rIxT, Own.e_rIxK, Own.e_rIxKT, Own.e_rSlK, Own.e_rLenK, Own.e_rListK, Own.e_rTupleK, Own.e_rSumK, Own.e_rNeK, Own.e_rEqK, Own.e_rNeKT, Own.e_rEqKT, Own.e_rIsiK, Own.tyK_int, Own.tyK_bl, Own.tyK_str, Own.tyK_non, Own.tyK_ref, Own.tyO_lst, Own.tyO_tup, Own.kit1, Own.kit2, Own.kit3, Own.kit4, Own.kit5, Own.kit6, Own.kit7, Own.kit8, Own.kit9, Own.hlst_inj, Own.htup_inj, Own.vty_inj, Own.ivs_inj, Own.bz_inj, Own.ivs_len, Own.bz_len, Own.ivs_app, Own.ivs_set, Own.ivs_bset, Own.bz_app, Own.ivs_snoc, Own.bz_snoc, Own.atI_ints, Own.atI_bz, Own.isLst_some, Own.ty_lst, L2.upd_same, L2.upd_upd, Own.b2_xor, Own.b2_mod2, Own.b2_mod3, Own.b2_mod4, Own.b2_flip, Option.map_some, Option.isSome_some, ne_eq, eq_self, not_false_eq_true, not_true_eq_false, String.reduceEq, Own.e_BM, Own.e_BM0, Own.e_rAppend, Own.e_rCat, Own.e_rRep, Own.e_sl, Own.e_noPart, Own.e_part, Own.e_rSlL, Own.e_gSub, Own.e_rSetL, Own.e_bits, Own.e_yes, Own.e_gTup, Own.e_gNil, Own.e_gCons, Own.e_aug, Own.e_ipI, Own.e_for, Own.e_lc, Own.e_iList, Own.e_iTup, Own.e_iRng1, Own.e_iRng2, Own.e_iEnum, Own.e_iZip, L2.start, L2.wipe, List.map_cons, List.map_nil, List.replicate_succ, List.replicate_zero, List.length_cons, List.length_nil, Nat.reduceAdd, Nat.reduceSub, Nat.zero_add, List.getElem?_cons_zero, List.getElem?_cons_succ, List.set_cons_zero, List.set_cons_succ, Option.some.injEq, L2.V.int.injEq, L2.V.bl.injEq, L2.V.str.injEq, L2.V.ref.injEq, List.cons.injEq, List.cons_append, List.nil_append, List.append_nil, exists_eq_left', exists_eq_left, exists_and_left, exists_and_right, exists_eq, and_true, true_and, reduceCtorEq, false_and, and_false, exists_false, or_false, false_or, true_or, or_true, decide_eq_true_eq, Bool.not_true, Bool.not_false, Bool.not_eq_true', Bool.not_eq_false', decide_eq_false_iff_not, ite_not, if_true, if_false, ite_true, ite_false, Bool.false_eq_true, if_pos trivial, decide_true, decide_false, PySem.sizeLine_eq, eq_self, Int.reduceNeg, Int.reducePow, Int.reduceLT, Int.reduceLE, Int.reduceToNat, Nat.reduceLeDiff, Int.reduceSub, Int.reduceAdd, Int.reduceMul, Int.reduceDiv, Int.reduceMod, Int.reduceEq, Nat.reduceMul, Nat.reduceEqDiff, Own.e_raiseO, Own.e_callS, Own.e_what, Own.hxd_inj, e3, i0, i1])
          have s13 : Same Hk G3 := (s1.trans s2).trans s3
          refine call_to ⟨_, _, u, w, rfl, s3 _ _ (s2 _ _ e1), s3 _ _ e2, by omega, fun h => absurd lw.symm h, fun _ G4 s4 => ?_⟩
          (try simp only [Own.e_seq, Own.e_cxK, Own.e_wishK, Own.e_noxK, Own.e_asg, Own.e_gName, Own.e_var, Own.e_C, Own.e_op, Own.e_un, Own.e_rI, Own.e_rI0, Own.e_rU, Own.e_CMul, Own.e_CDiv, Own.e_CPow, Own.e_rEq, Own.e_rNe, Own.e_scal_int, Own.e_scal_str, Own.e_scal_bl, Own.e_ifS, Own.e_test, Own.e_tB, Own.e_ret, Own.e_retN, Own.e_next, Own.e_brk, Own.e_cnt, Own.e_cons, Own.e_nil, Own.e_lst, Own.e_tup, Own.e_drop, Own.e_and, Own.e_or, Own.e_not, Own.e_andV, Own.e_orV, Own.e_notV, Own.e_if, Own.e_chain, Own.e_CB, Own.e_call, Own.e_rIxL, Own.e_rIxT, Own.e_rIxK, Own.e_rIxKT, Own.e_rSlK, Own.e_rLenK, Own.e_rListK, Own.e_rTupleK, Own.e_rSumK, Own.e_rNeK, Own.e_rEqK, Own.e_rNeKT, Own.e_rEqKT, Own.e_rIsiK, Own.tyK_int, Own.tyK_bl, Own.tyK_str, Own.tyK_non, Own.tyK_ref, Own.tyO_lst, Own.tyO_tup, Own.kit1, Own.kit2, Own.kit3, Own.kit4, Own.kit5, Own.kit6, Own.kit7, Own.kit8, Own.kit9, Own.hlst_inj, Own.htup_inj, Own.vty_inj, Own.ivs_inj, Own.bz_inj, Own.ivs_len, Own.bz_len, Own.ivs_app, Own.ivs_set, Own.ivs_bset, Own.bz_app, Own.ivs_snoc, Own.bz_snoc, Own.atI_ints, Own.atI_bz, Own.isLst_some, Own.ty_lst, L2.upd_same, L2.upd_upd, Own.b2_xor, Own.b2_mod2, Own.b2_mod3, Own.b2_mod4, Own.b2_flip, Option.map_some, Option.isSome_some, ne_eq, eq_self, not_false_eq_true, not_true_eq_false, String.reduceEq, Own.e_BM, Own.e_BM0, Own.e_rAppend, Own.e_rCat, Own.e_rRep, Own.e_sl, Own.e_noPart, Own.e_part, Own.e_rSlL, Own.e_gSub, Own.e_rSetL, Own.e_bits, Own.e_yes, Own.e_gTup, Own.e_gNil, Own.e_gCons, Own.e_aug, Own.e_ipI, Own.e_for, Own.e_lc, Own.e_iList, Own.e_iTup, Own.e_iRng1, Own.e_iRng2, Own.e_iEnum, Own.e_iZip, L2.start, L2.wipe, List.map_cons, List.map_nil, List.replicate_succ, List.replicate_zero, List.length_cons, List.length_nil, Nat.reduceAdd, Nat.reduceSub, Nat.zero_add, List.getElem?_cons_zero, List.getElem?_cons_succ, List.set_cons_zero, List.set_cons_succ, Option.some.injEq, L2.V.int.injEq, L2.V.bl.injEq, L2.V.str.injEq, L2.V.ref.injEq, List.cons.injEq, List.cons_append, List.nil_append, List.append_nil, exists_eq_left', exists_eq_left, exists_and_left, exists_and_right, exists_eq, and_true, true_and, reduceCtorEq, false_and, and_false, exists_false, or_false, false_or, true_or, or_true, decide_eq_true_eq, Bool.not_true, Bool.not_false, Bool.not_eq_true', Bool.not_eq_false', decide_eq_false_iff_not, ite_not, if_true, if_false, ite_true, ite_false, Bool.false_eq_true, if_pos trivial, decide_true, decide_false, PySem.sizeLine_eq, eq_self, Int.reduceNeg, Int.reducePow, Int.reduceLT, Int.reduceLE, Int.reduceToNat, Nat.reduceLeDiff, Int.reduceSub, Int.reduceAdd, Int.reduceMul, Int.reduceDiv, Int.reduceMod, Int.reduceEq, Nat.reduceMul, Nat.reduceEqDiff, Own.e_raiseO, Own.e_callS, Own.e_what, Own.hxd_inj])
          refine new_of fun c5 G5 n5 s5 e5 => ?_
          have s35 : Same G3 G5 := s4.trans s5
          refine r_ne_refl (d := .list ([bz u, bz w].map dd)) (.lst (.of (s35 _ _ e3)) (.cons (dpk_list ((s2.trans s3).trans s35 _ _ e1)) (.cons (dpk_list (s3.trans s35 _ _ e2)) .nil))) (.lst (.of e5) (.cons (dpk_list (s13.trans s35 _ _ h6)) (.cons (dpk_list (s13.trans s35 _ _ h7)) .nil))) (shaped_dd _) ?_
          have t5 : Same Hk G5 := s13.trans s35
          (try simp only [Own.e_seq, Own.e_cxK, Own.e_wishK, Own.e_noxK, Own.e_asg, Own.e_gName, Own.e_var, Own.e_C, Own.e_op, Own.e_un, Own.e_rI, Own.e_rI0, Own.e_rU, Own.e_CMul, Own.e_CDiv, Own.e_CPow, Own.e_rEq, Own.e_rNe, Own.e_scal_int, Own.e_scal_str, Own.e_scal_bl, Own.e_ifS, Own.e_test, Own.e_tB, Own.e_ret, Own.e_retN, Own.e_next, Own.e_brk, Own.e_cnt, Own.e_cons, Own.e_nil, Own.e_lst, Own.e_tup, Own.e_drop, Own.e_and, Own.e_or, Own.e_not, Own.e_andV, Own.e_orV, Own.e_notV, Own.e_if, Own.e_chain, Own.e_CB, Own.e_call, Own.e_rIxL, Own.e_rIxT, Own.e_rIxK, Own.e_rIxKT, Own.e_rSlK, Own.e_rLenK, Own.e_rListK, Own.e_rTupleK, Own.e_rSumK, Own.e_rNeK, Own.e_rEqK, Own.e_rNeKT, Own.e_rEqKT, Own.e_rIsiK, Own.tyK_int, Own.tyK_bl, Own.tyK_str, Own.tyK_non, Own.tyK_ref, Own.tyO_lst, Own.tyO_tup, Own.kit1, Own.kit2, Own.kit3, Own.kit4, Own.kit5, Own.kit6, Own.kit7, Own.kit8, Own.kit9, Own.hlst_inj, Own.htup_inj, Own.vty_inj, Own.ivs_inj, Own.bz_inj, Own.ivs_len, Own.bz_len, Own.ivs_app, Own.ivs_set, Own.ivs_bset, Own.bz_app, Own.ivs_snoc, Own.bz_snoc, Own.atI_ints, Own.atI_bz, Own.isLst_some, Own.ty_lst, L2.upd_same, L2.upd_upd, Own.b2_xor, Own.b2_mod2, Own.b2_mod3, Own.b2_mod4, Own.b2_flip, Option.map_some, Option.isSome_some, ne_eq, eq_self, not_false_eq_true, not_true_eq_false, String.reduceEq, Own.e_BM, Own.e_BM0, Own.e_rAppend, Own.e_rCat, Own.e_rRep, Own.e_sl, Own.e_noPart, Own.e_part, Own.e_rSlL, Own.e_gSub, Own.e_rSetL, Own.e_bits, Own.e_yes, Own.e_gTup, Own.e_gNil, Own.e_gCons, Own.e_aug, Own.e_ipI, Own.e_for, Own.e_lc, Own.e_iList, Own.e_iTup, Own.e_iRng1, Own.e_iRng2, Own.e_iEnum, Own.e_iZip, L2.start, L2.wipe, List.map_cons, List.map_nil, List.replicate_succ, List.replicate_zero, List.length_cons, List.length_nil, Nat.reduceAdd, Nat.reduceSub, Nat.zero_add, List.getElem?_cons_zero, List.getElem?_cons_succ, List.set_cons_zero, List.set_cons_succ, Option.some.injEq, L2.V.int.injEq, L2.V.bl.injEq, L2.V.str.injEq, L2.V.ref.injEq, List.cons.injEq, List.cons_append, List.nil_append, List.append_nil, exists_eq_left', exists_eq_left, exists_and_left, exists_and_right, exists_eq, and_true, true_and, reduceCtorEq, false_and, and_false, exists_false, or_false, false_or, true_or, or_true, decide_eq_true_eq, Bool.not_true, Bool.not_false, Bool.not_eq_true', Bool.not_eq_false', decide_eq_false_iff_not, ite_not, if_true, if_false, ite_true, ite_false, Bool.false_eq_true, if_pos trivial, decide_true, decide_false, PySem.sizeLine_eq, eq_self, Int.reduceNeg, Int.reducePow, Int.reduceLT, Int.reduceLE, Int.reduceToNat, Nat.reduceLeDiff, Int.reduceSub, Int.reduceAdd, Int.reduceMul, Int.reduceDiv, Int.reduceMod, Int.reduceEq, Nat.reduceMul, Nat.reduceEqDiff, Own.e_raiseO, Own.e_callS, Own.e_what, Own.hxd_inj, t5 _ _ h6])
          refine new_of fun k1 G6 n6 s6 e6 => ?_
          (try simp only [Own.e_seq, Own.e_cxK, Own.e_wishK, Own.e_noxK, Own.e_asg, Own.e_gName, Own.e_var, Own.e_C, Own.e_op, Own.e_un, Own.e_rI, Own.e_rI0, Own.e_rU, Own.e_CMul, Own.e_CDiv, Own.e_CPow, Own.e_rEq, Own.e_rNe, Own.e_scal_int, Own.e_scal_str, Own.e_scal_bl, Own.e_ifS, Own.e_test, Own.e_tB, Own.e_ret, Own.e_retN, Own.e_next, Own.e_brk, Own.e_cnt, Own.e_cons, Own.e_nil, Own.e_lst, Own.e_tup, Own.e_drop, Own.e_and, Own.e_or, Own.e_not, Own.e_andV, Own.e_orV, Own.e_notV, Own.e_if, Own.e_chain, Own.e_CB, Own.e_call, Own.e_rIxL, Own.e_rIxT, Own.e_rIxK, Own.e_rIxKT, Own.e_rSlK, Own.e_rLenK, Own.e_rListK, Own.e_rTupleK, Own.e_rSumK, Own.e_rNeK, Own.e_rEqK, Own.e_rNeKT, Own.e_rEqKT, Own.e_rIsiK, Own.tyK_int, Own.tyK_bl, Own.tyK_str, Own.tyK_non, Own.tyK_ref, Own.tyO_lst, Own.tyO_tup, Own.kit1, Own.kit2, Own.kit3, Own.kit4, Own.kit5, Own.kit6, Own.kit7, Own.kit8, Own.kit9, Own.hlst_inj, Own.htup_inj, Own.vty_inj, Own.ivs_inj, Own.bz_inj, Own.ivs_len, Own.bz_len, Own.ivs_app, Own.ivs_set, Own.ivs_bset, Own.bz_app, Own.ivs_snoc, Own.bz_snoc, Own.atI_ints, Own.atI_bz, Own.isLst_some, Own.ty_lst, L2.upd_same, L2.upd_upd, Own.b2_xor, Own.b2_mod2, Own.b2_mod3, Own.b2_mod4, Own.b2_flip, Option.map_some, Option.isSome_some, ne_eq, eq_self, not_false_eq_true, not_true_eq_false, String.reduceEq, Own.e_BM, Own.e_BM0, Own.e_rAppend, Own.e_rCat, Own.e_rRep, Own.e_sl, Own.e_noPart, Own.e_part, Own.e_rSlL, Own.e_gSub, Own.e_rSetL, Own.e_bits, Own.e_yes, Own.e_gTup, Own.e_gNil, Own.e_gCons, Own.e_aug, Own.e_ipI, Own.e_for, Own.e_lc, Own.e_iList, Own.e_iTup, Own.e_iRng1, Own.e_iRng2, Own.e_iEnum, Own.e_iZip, L2.start, L2.wipe, List.map_cons, List.map_nil, List.replicate_succ, List.replicate_zero, List.length_cons, List.length_nil, Nat.reduceAdd, Nat.reduceSub, Nat.zero_add, List.getElem?_cons_zero, List.getElem?_cons_succ, List.set_cons_zero, List.set_cons_succ, Option.some.injEq, L2.V.int.injEq, L2.V.bl.injEq, L2.V.str.injEq, L2.V.ref.injEq, List.cons.injEq, List.cons_append, List.nil_append, List.append_nil, exists_eq_left', exists_eq_left, exists_and_left, exists_and_right, exists_eq, and_true, true_and, reduceCtorEq, false_and, and_false, exists_false, or_false, false_or, true_or, or_true, decide_eq_true_eq, Bool.not_true, Bool.not_false, Bool.not_eq_true', Bool.not_eq_false', decide_eq_false_iff_not, ite_not, if_true, if_false, ite_true, ite_false, Bool.false_eq_true, if_pos trivial, decide_true, decide_false, PySem.sizeLine_eq, eq_self, Int.reduceNeg, Int.reducePow, Int.reduceLT, Int.reduceLE, Int.reduceToNat, Nat.reduceLeDiff, Int.reduceSub, Int.reduceAdd, Int.reduceMul, Int.reduceDiv, Int.reduceMod, Int.reduceEq, Nat.reduceMul, Nat.reduceEqDiff, Own.e_raiseO, Own.e_callS, Own.e_what, Own.hxd_inj, (t5.trans s6) _ _ h8])
          refine new_of fun k2 G7 n7 s7 e7 => ?_
          (try simp only [Own.e_seq, Own.e_cxK, Own.e_wishK, Own.e_noxK, Own.e_asg, Own.e_gName, Own.e_var, Own.e_C, Own.e_op, Own.e_un, Own.e_rI, Own.e_rI0, Own.e_rU, Own.e_CMul, Own.e_CDiv, Own.e_CPow, Own.e_rEq, Own.e_rNe, Own.e_scal_int, Own.e_scal_str, Own.e_scal_bl, Own.e_ifS, Own.e_test, Own.e_tB, Own.e_ret, Own.e_retN, Own.e_next, Own.e_brk, Own.e_cnt, Own.e_cons, Own.e_nil, Own.e_lst, Own.e_tup, Own.e_drop, Own.e_and, Own.e_or, Own.e_not, Own.e_andV, Own.e_orV, Own.e_notV, Own.e_if, Own.e_chain, Own.e_CB, Own.e_call, Own.e_rIxL, Own.e_rIxT, Own.e_rIxK, Own.e_rIxKT, Own.e_rSlK, Own.e_rLenK, Own.e_rListK, Own.e_rTupleK, Own.e_rSumK, Own.e_rNeK, Own.e_rEqK, Own.e_rNeKT, Own.e_rEqKT, Own.e_rIsiK, Own.tyK_int, Own.tyK_bl, Own.tyK_str, Own.tyK_non, Own.tyK_ref, Own.tyO_lst, Own.tyO_tup, Own.kit1, Own.kit2, Own.kit3, Own.kit4, Own.kit5, Own.kit6, Own.kit7, Own.kit8, Own.kit9, Own.hlst_inj, Own.htup_inj, Own.vty_inj, Own.ivs_inj, Own.bz_inj, Own.ivs_len, Own.bz_len, Own.ivs_app, Own.ivs_set, Own.ivs_bset, Own.bz_app, Own.ivs_snoc, Own.bz_snoc, Own.atI_ints, Own.atI_bz, Own.isLst_some, Own.ty_lst, L2.upd_same, L2.upd_upd, Own.b2_xor, Own.b2_mod2, Own.b2_mod3, Own.b2_mod4, Own.b2_flip, Option.map_some, Option.isSome_some, ne_eq, eq_self, not_false_eq_true, not_true_eq_false, String.reduceEq, Own.e_BM, Own.e_BM0, Own.e_rAppend, Own.e_rCat, Own.e_rRep, Own.e_sl, Own.e_noPart, Own.e_part, Own.e_rSlL, Own.e_gSub, Own.e_rSetL, Own.e_bits, Own.e_yes, Own.e_gTup, Own.e_gNil, Own.e_gCons, Own.e_aug, Own.e_ipI, Own.e_for, Own.e_lc, Own.e_iList, Own.e_iTup, Own.e_iRng1, Own.e_iRng2, Own.e_iEnum, Own.e_iZip, L2.start, L2.wipe, List.map_cons, List.map_nil, List.replicate_succ, List.replicate_zero, List.length_cons, List.length_nil, Nat.reduceAdd, Nat.reduceSub, Nat.zero_add, List.getElem?_cons_zero, List.getElem?_cons_succ, List.set_cons_zero, List.set_cons_succ, Option.some.injEq, L2.V.int.injEq, L2.V.bl.injEq, L2.V.str.injEq, L2.V.ref.injEq, List.cons.injEq, List.cons_append, List.nil_append, List.append_nil, exists_eq_left', exists_eq_left, exists_and_left, exists_and_right, exists_eq, and_true, true_and, reduceCtorEq, false_and, and_false, exists_false, or_false, false_or, true_or, or_true, decide_eq_true_eq, Bool.not_true, Bool.not_false, Bool.not_eq_true', Bool.not_eq_false', decide_eq_false_iff_not, ite_not, if_true, if_false, ite_true, ite_false, Bool.false_eq_true, if_pos trivial, decide_true, decide_false, PySem.sizeLine_eq, eq_self, Int.reduceNeg, Int.reducePow, Int.reduceLT, Int.reduceLE, Int.reduceToNat, Nat.reduceLeDiff, Int.reduceSub, Int.reduceAdd, Int.reduceMul, Int.reduceDiv, Int.reduceMod, Int.reduceEq, Nat.reduceMul, Nat.reduceEqDiff, Own.e_raiseO, Own.e_callS, Own.e_what, Own.hxd_inj])
          refine call_to ⟨_, _, u, ps, rfl, s7 _ _ e6, e7, hps', fun G8 rw' s8 n8 e8 => ?_⟩
          (try simp only [Own.e_seq, Own.e_cxK, Own.e_wishK, Own.e_noxK, Own.e_asg, Own.e_gName, Own.e_var, Own.e_C, Own.e_op, Own.e_un, Own.e_rI, Own.e_rI0, Own.e_rU, Own.e_CMul, Own.e_CDiv, Own.e_CPow, Own.e_rEq, Own.e_rNe, Own.e_scal_int, Own.e_scal_str, Own.e_scal_bl, Own.e_ifS, Own.e_test, Own.e_tB, Own.e_ret, Own.e_retN, Own.e_next, Own.e_brk, Own.e_cnt, Own.e_cons, Own.e_nil, Own.e_lst, Own.e_tup, Own.e_drop, Own.e_and, Own.e_or, Own.e_not, Own.e_andV, Own.e_orV, Own.e_notV, Own.e_if, Own.e_chain, Own.e_CB, Own.e_call, Own.e_rIxL, Own.e_rIxT, Own.e_rIxK, Own.e_rIxKT, Own.e_rSlK, Own.e_rLenK, Own.e_rListK, Own.e_rTupleK, Own.e_rSumK, Own.e_rNeK, Own.e_rEqK, Own.e_rNeKT, Own.e_rEqKT, Own.e_rIsiK, Own.tyK_int, Own.tyK_bl, Own.tyK_str, Own.tyK_non, Own.tyK_ref, Own.tyO_lst, Own.tyO_tup, Own.kit1, Own.kit2, Own.kit3, Own.kit4, Own.kit5, Own.kit6, Own.kit7, Own.kit8, Own.kit9, Own.hlst_inj, Own.htup_inj, Own.vty_inj, Own.ivs_inj, Own.bz_inj, Own.ivs_len, Own.bz_len, Own.ivs_app, Own.ivs_set, Own.ivs_bset, Own.bz_app, Own.ivs_snoc, Own.bz_snoc, Own.atI_ints, Own.atI_bz, Own.isLst_some, Own.ty_lst, L2.upd_same, L2.upd_upd, Own.b2_xor, Own.b2_mod2, Own.b2_mod3, Own.b2_mod4, Own.b2_flip, Option.map_some, Option.isSome_some, ne_eq, eq_self, not_false_eq_true, not_true_eq_false, String.reduceEq, Own.e_BM, Own.e_BM0, Own.e_rAppend, Own.e_rCat, Own.e_rRep, Own.e_sl, Own.e_noPart, Own.e_part, Own.e_rSlL, Own.e_gSub, Own.e_rSetL, Own.e_bits, Own.e_yes, Own.e_gTup, Own.e_gNil, Own.e_gCons, Own.e_aug, Own.e_ipI, Own.e_for, Own.e_lc, Own.e_iList, Own.e_iTup, Own.e_iRng1, Own.e_iRng2, Own.e_iEnum, Own.e_iZip, L2.start, L2.wipe, List.map_cons, List.map_nil, List.replicate_succ, List.replicate_zero, List.length_cons, List.length_nil, Nat.reduceAdd, Nat.reduceSub, Nat.zero_add, List.getElem?_cons_zero, List.getElem?_cons_succ, List.set_cons_zero, List.set_cons_succ, Option.some.injEq, L2.V.int.injEq, L2.V.bl.injEq, L2.V.str.injEq, L2.V.ref.injEq, List.cons.injEq, List.cons_append, List.nil_append, List.append_nil, exists_eq_left', exists_eq_left, exists_and_left, exists_and_right, exists_eq, and_true, true_and, reduceCtorEq, false_and, and_false, exists_false, or_false, false_or, true_or, or_true, decide_eq_true_eq, Bool.not_true, Bool.not_false, Bool.not_eq_true', Bool.not_eq_false', decide_eq_false_iff_not, ite_not, if_true, if_false, ite_true, ite_false, Bool.false_eq_true, if_pos trivial, decide_true, decide_false, PySem.sizeLine_eq, eq_self, Int.reduceNeg, Int.reducePow, Int.reduceLT, Int.reduceLE, Int.reduceToNat, Nat.reduceLeDiff, Int.reduceSub, Int.reduceAdd, Int.reduceMul, Int.reduceDiv, Int.reduceMod, Int.reduceEq, Nat.reduceMul, Nat.reduceEqDiff, Own.e_raiseO, Own.e_callS, Own.e_what, Own.hxd_inj])
          have t8' : Same Hk G8 := ((t5.trans s6).trans s7).trans s8
          have nk1 : k1 ≠ p6 := (ne_of_none (t5 _ _ h6) n6).symm
          have nk2 : k2 ≠ p6 := (ne_of_none ((t5.trans s6) _ _ h6) n7).symm
          have nrw : rw' ≠ p6 := (ne_of_none (((t5.trans s6).trans s7) _ _ h6) n8).symm
          have np8' : p8 ≠ p6 := n68.symm
          have np6' : H4 p6 = none := sm5.free np6
          refine ⟨⟨_, .of (t8' _ _ h8)⟩, loop_it walk_list (fun k σ H' => ∃ y9 : Option V, σ = [some (.ref a), some (.int i), some (.int z), some (.int v), some (.int (v % 61)), some (.ref p6), some (.ref q7), some (.ref p8), y8, y9, some (.int (wt (zx u w))), some (.ref c3), some (.int (wt (zx u w))), some (.ref k1), some (.ref k2), some (.ref rw'), y16] ∧ Same H4 H' ∧ H' p6 = some (.lst (ivs (bz (flips u (ps.take k))))) ∧ H' p8 = some (.lst (ivs ps)) ∧ H' k1 = some (.lst (ivs (bz u))) ∧ H' k2 = some (.lst (ivs ps)) ∧ H' rw' = some (.lst (ivs (bz (flips u ps)))))
            ⟨z9, rfl, sm9.trans t8', t8' _ _ h6, t8' _ _ h8, (s7.trans s8) _ _ e6, s8 _ _ e7, e8⟩ (fun k σ H' _ ⟨_, _, _, _, h, _⟩ => .of h) ?_ ?_⟩
          · rintro k x σ Hj H'' hi ⟨y9, rfl, sm, f1, f2, f3, f4, f5⟩ ⟨rfl, hx⟩
            obtain ⟨zz, hz, rfl⟩ := ivs_at hx
            have hm := hps' zz (List.mem_of_getElem? hz)
            have hl : zz < (flips u (ps.take k)).length := by rw [flips_len]; exact hm.2
            have hl' : zz.toNat < (flips u (ps.take k)).length := by omega
            have g : (flips u (ps.take k))[zz.toNat]? = some ((flips u (ps.take k))[zz.toNat]'hl') := List.getElem?_eq_getElem hl'
            have gd := getD_of g
            have ax : atI (flips u (ps.take k)) zz = some ((flips u (ps.take k))[zz.toNat]'hl') := by rw [atI_at hm.1]; exact g
            have ix : ixN (flips u (ps.take k)).length zz = some zz.toNat := ixN_in hm.1 hl
            generalize (flips u (ps.take k))[zz.toNat]'hl' = bv at g gd ax
            (try simp only [Own.e_seq, Own.e_cxK, Own.e_wishK, Own.e_noxK, Own.e_asg, Own.e_gName, Own.e_var, Own.e_C, Own.e_op, Own.e_un, Own.e_rI, Own.e_rI0, Own.e_rU, Own.e_CMul, Own.e_CDiv, Own.e_CPow, Own.e_rEq, Own.e_rNe, Own.e_scal_int, Own.e_scal_str, Own.e_scal_bl, Own.e_ifS, Own.e_test, Own.e_tB, Own.e_ret, Own.e_retN, Own.e_next, Own.e_brk, Own.e_cnt, Own.e_cons, Own.e_nil, Own.e_lst, Own.e_tup, Own.e_drop, Own.e_and, Own.e_or, Own.e_not, Own.e_andV, Own.e_orV, Own.e_notV, Own.e_if, Own.e_chain, Own.e_CB, Own.e_call, Own.e_rIxL, Own.e_rIxT, Own.e_rIxK, Own.e_rIxKT, Own.e_rSlK, Own.e_rLenK, Own.e_rListK, Own.e_rTupleK, Own.e_rSumK, Own.e_rNeK, Own.e_rEqK, Own.e_rNeKT, Own.e_rEqKT, Own.e_rIsiK, Own.tyK_int, Own.tyK_bl, Own.tyK_str, Own.tyK_non, Own.tyK_ref, Own.tyO_lst, Own.tyO_tup, Own.kit1, Own.kit2, Own.kit3, Own.kit4, Own.kit5, Own.kit6, Own.kit7, Own.kit8, Own.kit9, Own.hlst_inj, Own.htup_inj, Own.vty_inj, Own.ivs_inj, Own.bz_inj, Own.ivs_len, Own.bz_len, Own.ivs_app, Own.ivs_set, Own.ivs_bset, Own.bz_app, Own.ivs_snoc, Own.bz_snoc, Own.atI_ints, Own.atI_bz, Own.isLst_some, Own.ty_lst, L2.upd_same, L2.upd_upd, Own.b2_xor, Own.b2_mod2, Own.b2_mod3, Own.b2_mod4, Own.b2_flip, Option.map_some, Option.isSome_some, ne_eq, eq_self, not_false_eq_true, not_true_eq_false, String.reduceEq, Own.e_BM, Own.e_BM0, Own.e_rAppend, Own.e_rCat, Own.e_rRep, Own.e_sl, Own.e_noPart, Own.e_part, Own.e_rSlL, Own.e_gSub, Own.e_rSetL, Own.e_bits, Own.e_yes, Own.e_gTup, Own.e_gNil, Own.e_gCons, Own.e_aug, Own.e_ipI, Own.e_for, Own.e_lc, Own.e_iList, Own.e_iTup, Own.e_iRng1, Own.e_iRng2, Own.e_iEnum, Own.e_iZip, L2.start, L2.wipe, List.map_cons, List.map_nil, List.replicate_succ, List.replicate_zero, List.length_cons, List.length_nil, Nat.reduceAdd, Nat.reduceSub, Nat.zero_add, List.getElem?_cons_zero, List.getElem?_cons_succ, List.set_cons_zero, List.set_cons_succ, Option.some.injEq, L2.V.int.injEq, L2.V.bl.injEq, L2.V.str.injEq, L2.V.ref.injEq, List.cons.injEq, List.cons_append, List.nil_append, List.append_nil, exists_eq_left', exists_eq_left, exists_and_left, exists_and_right, exists_eq, and_true, true_and, reduceCtorEq, false_and, and_false, exists_false, or_false, false_or, true_or, or_true, decide_eq_true_eq, Bool.not_true, Bool.not_false, Bool.not_eq_true', Bool.not_eq_false', decide_eq_false_iff_not, ite_not, if_true, if_false, ite_true, ite_false, Bool.false_eq_true, if_pos trivial, decide_true, decide_false, PySem.sizeLine_eq, eq_self, Int.reduceNeg, Int.reducePow, Int.reduceLT, Int.reduceLE, Int.reduceToNat, Nat.reduceLeDiff, Int.reduceSub, Int.reduceAdd, Int.reduceMul, Int.reduceDiv, Int.reduceMod, Int.reduceEq, Nat.reduceMul, Nat.reduceEqDiff, Own.e_raiseO, Own.e_callS, Own.e_what, Own.hxd_inj, f1, ax, ix])
            exact at_is ⟨_, rfl, same_upd_of sm np6', by rw [upd_same, flips_take hz]; unfold flip1; rw [gd], by rw [upd_ne np8']; exact f2, by rw [upd_ne nk1]; exact f3, by rw [upd_ne nk2]; exact f4, by rw [upd_ne nrw]; exact f5⟩
          rintro σ Hj ⟨y9, rfl, sm, f1, f2, f3, f4, f5⟩
          rw [ivs_len, List.take_length] at f1
          have fl := flips_len u ps
          have ZF : ∀ k, k < u.length → (zx u (flips u ps))[k]? = some (decide (ps.count (k : Int) % 2 = 1)) := fun k hk => zx_flips (fun p hp => (hps' p hp).1) hk
          generalize flips u ps = fu at f1 f5 fl ZF
          (try simp only [Own.e_seq, Own.e_cxK, Own.e_wishK, Own.e_noxK, Own.e_asg, Own.e_gName, Own.e_var, Own.e_C, Own.e_op, Own.e_un, Own.e_rI, Own.e_rI0, Own.e_rU, Own.e_CMul, Own.e_CDiv, Own.e_CPow, Own.e_rEq, Own.e_rNe, Own.e_scal_int, Own.e_scal_str, Own.e_scal_bl, Own.e_ifS, Own.e_test, Own.e_tB, Own.e_ret, Own.e_retN, Own.e_next, Own.e_brk, Own.e_cnt, Own.e_cons, Own.e_nil, Own.e_lst, Own.e_tup, Own.e_drop, Own.e_and, Own.e_or, Own.e_not, Own.e_andV, Own.e_orV, Own.e_notV, Own.e_if, Own.e_chain, Own.e_CB, Own.e_call, Own.e_rIxL, Own.e_rIxT, Own.e_rIxK, Own.e_rIxKT, Own.e_rSlK, Own.e_rLenK, Own.e_rListK, Own.e_rTupleK, Own.e_rSumK, Own.e_rNeK, Own.e_rEqK, Own.e_rNeKT, Own.e_rEqKT, Own.e_rIsiK, Own.tyK_int, Own.tyK_bl, Own.tyK_str, Own.tyK_non, Own.tyK_ref, Own.tyO_lst, Own.tyO_tup, Own.kit1, Own.kit2, Own.kit3, Own.kit4, Own.kit5, Own.kit6, Own.kit7, Own.kit8, Own.kit9, Own.hlst_inj, Own.htup_inj, Own.vty_inj, Own.ivs_inj, Own.bz_inj, Own.ivs_len, Own.bz_len, Own.ivs_app, Own.ivs_set, Own.ivs_bset, Own.bz_app, Own.ivs_snoc, Own.bz_snoc, Own.atI_ints, Own.atI_bz, Own.isLst_some, Own.ty_lst, L2.upd_same, L2.upd_upd, Own.b2_xor, Own.b2_mod2, Own.b2_mod3, Own.b2_mod4, Own.b2_flip, Option.map_some, Option.isSome_some, ne_eq, eq_self, not_false_eq_true, not_true_eq_false, String.reduceEq, Own.e_BM, Own.e_BM0, Own.e_rAppend, Own.e_rCat, Own.e_rRep, Own.e_sl, Own.e_noPart, Own.e_part, Own.e_rSlL, Own.e_gSub, Own.e_rSetL, Own.e_bits, Own.e_yes, Own.e_gTup, Own.e_gNil, Own.e_gCons, Own.e_aug, Own.e_ipI, Own.e_for, Own.e_lc, Own.e_iList, Own.e_iTup, Own.e_iRng1, Own.e_iRng2, Own.e_iEnum, Own.e_iZip, L2.start, L2.wipe, List.map_cons, List.map_nil, List.replicate_succ, List.replicate_zero, List.length_cons, List.length_nil, Nat.reduceAdd, Nat.reduceSub, Nat.zero_add, List.getElem?_cons_zero, List.getElem?_cons_succ, List.set_cons_zero, List.set_cons_succ, Option.some.injEq, L2.V.int.injEq, L2.V.bl.injEq, L2.V.str.injEq, L2.V.ref.injEq, List.cons.injEq, List.cons_append, List.nil_append, List.append_nil, exists_eq_left', exists_eq_left, exists_and_left, exists_and_right, exists_eq, and_true, true_and, reduceCtorEq, false_and, and_false, exists_false, or_false, false_or, true_or, or_true, decide_eq_true_eq, Bool.not_true, Bool.not_false, Bool.not_eq_true', Bool.not_eq_false', decide_eq_false_iff_not, ite_not, if_true, if_false, ite_true, ite_false, Bool.false_eq_true, if_pos trivial, decide_true, decide_false, PySem.sizeLine_eq, eq_self, Int.reduceNeg, Int.reducePow, Int.reduceLT, Int.reduceLE, Int.reduceToNat, Nat.reduceLeDiff, Int.reduceSub, Int.reduceAdd, Int.reduceMul, Int.reduceDiv, Int.reduceMod, Int.reduceEq, Nat.reduceMul, Nat.reduceEqDiff, Own.e_raiseO, Own.e_callS, Own.e_what, Own.hxd_inj, f1, f2, f3, f4, f5])
          refine ⟨⟨_, .of f5⟩, lc_nobools f5 (by simp) fun d1 J1 m1 o1 x1 => ?_⟩
          (try simp only [Own.e_seq, Own.e_cxK, Own.e_wishK, Own.e_noxK, Own.e_asg, Own.e_gName, Own.e_var, Own.e_C, Own.e_op, Own.e_un, Own.e_rI, Own.e_rI0, Own.e_rU, Own.e_CMul, Own.e_CDiv, Own.e_CPow, Own.e_rEq, Own.e_rNe, Own.e_scal_int, Own.e_scal_str, Own.e_scal_bl, Own.e_ifS, Own.e_test, Own.e_tB, Own.e_ret, Own.e_retN, Own.e_next, Own.e_brk, Own.e_cnt, Own.e_cons, Own.e_nil, Own.e_lst, Own.e_tup, Own.e_drop, Own.e_and, Own.e_or, Own.e_not, Own.e_andV, Own.e_orV, Own.e_notV, Own.e_if, Own.e_chain, Own.e_CB, Own.e_call, Own.e_rIxL, Own.e_rIxT, Own.e_rIxK, Own.e_rIxKT, Own.e_rSlK, Own.e_rLenK, Own.e_rListK, Own.e_rTupleK, Own.e_rSumK, Own.e_rNeK, Own.e_rEqK, Own.e_rNeKT, Own.e_rEqKT, Own.e_rIsiK, Own.tyK_int, Own.tyK_bl, Own.tyK_str, Own.tyK_non, Own.tyK_ref, Own.tyO_lst, Own.tyO_tup, Own.kit1, Own.kit2, Own.kit3, Own.kit4, Own.kit5, Own.kit6, Own.kit7, Own.kit8, Own.kit9, Own.hlst_inj, Own.htup_inj, Own.vty_inj, Own.ivs_inj, Own.bz_inj, Own.ivs_len, Own.bz_len, Own.ivs_app, Own.ivs_set, Own.ivs_bset, Own.bz_app, Own.ivs_snoc, Own.bz_snoc, Own.atI_ints, Own.atI_bz, Own.isLst_some, Own.ty_lst, L2.upd_same, L2.upd_upd, Own.b2_xor, Own.b2_mod2, Own.b2_mod3, Own.b2_mod4, Own.b2_flip, Option.map_some, Option.isSome_some, ne_eq, eq_self, not_false_eq_true, not_true_eq_false, String.reduceEq, Own.e_BM, Own.e_BM0, Own.e_rAppend, Own.e_rCat, Own.e_rRep, Own.e_sl, Own.e_noPart, Own.e_part, Own.e_rSlL, Own.e_gSub, Own.e_rSetL, Own.e_bits, Own.e_yes, Own.e_gTup, Own.e_gNil, Own.e_gCons, Own.e_aug, Own.e_ipI, Own.e_for, Own.e_lc, Own.e_iList, Own.e_iTup, Own.e_iRng1, Own.e_iRng2, Own.e_iEnum, Own.e_iZip, L2.start, L2.wipe, List.map_cons, List.map_nil, List.replicate_succ, List.replicate_zero, List.length_cons, List.length_nil, Nat.reduceAdd, Nat.reduceSub, Nat.zero_add, List.getElem?_cons_zero, List.getElem?_cons_succ, List.set_cons_zero, List.set_cons_succ, Option.some.injEq, L2.V.int.injEq, L2.V.bl.injEq, L2.V.str.injEq, L2.V.ref.injEq, List.cons.injEq, List.cons_append, List.nil_append, List.append_nil, exists_eq_left', exists_eq_left, exists_and_left, exists_and_right, exists_eq, and_true, true_and, reduceCtorEq, false_and, and_false, exists_false, or_false, false_or, true_or, or_true, decide_eq_true_eq, Bool.not_true, Bool.not_false, Bool.not_eq_true', Bool.not_eq_false', decide_eq_false_iff_not, ite_not, if_true, if_false, ite_true, ite_false, Bool.false_eq_true, if_pos trivial, decide_true, decide_false, PySem.sizeLine_eq, eq_self, Int.reduceNeg, Int.reducePow, Int.reduceLT, Int.reduceLE, Int.reduceToNat, Nat.reduceLeDiff, Int.reduceSub, Int.reduceAdd, Int.reduceMul, Int.reduceDiv, Int.reduceMod, Int.reduceEq, Nat.reduceMul, Nat.reduceEqDiff, Own.e_raiseO, Own.e_callS, Own.e_what, Own.hxd_inj])
          refine new_of fun d2 J2 m2 o2 x2 => ?_
          rw [← ivs_nil] at x2
          have cfu : fu.length < 16777216 := by omega
          (try simp only [Own.e_seq, Own.e_cxK, Own.e_wishK, Own.e_noxK, Own.e_asg, Own.e_gName, Own.e_var, Own.e_C, Own.e_op, Own.e_un, Own.e_rI, Own.e_rI0, Own.e_rU, Own.e_CMul, Own.e_CDiv, Own.e_CPow, Own.e_rEq, Own.e_rNe, Own.e_scal_int, Own.e_scal_str, Own.e_scal_bl, Own.e_ifS, Own.e_test, Own.e_tB, Own.e_ret, Own.e_retN, Own.e_next, Own.e_brk, Own.e_cnt, Own.e_cons, Own.e_nil, Own.e_lst, Own.e_tup, Own.e_drop, Own.e_and, Own.e_or, Own.e_not, Own.e_andV, Own.e_orV, Own.e_notV, Own.e_if, Own.e_chain, Own.e_CB, Own.e_call, Own.e_rIxL, Own.e_rIxT, Own.e_rIxK, Own.e_rIxKT, Own.e_rSlK, Own.e_rLenK, Own.e_rListK, Own.e_rTupleK, Own.e_rSumK, Own.e_rNeK, Own.e_rEqK, Own.e_rNeKT, Own.e_rEqKT, Own.e_rIsiK, Own.tyK_int, Own.tyK_bl, Own.tyK_str, Own.tyK_non, Own.tyK_ref, Own.tyO_lst, Own.tyO_tup, Own.kit1, Own.kit2, Own.kit3, Own.kit4, Own.kit5, Own.kit6, Own.kit7, Own.kit8, Own.kit9, Own.hlst_inj, Own.htup_inj, Own.vty_inj, Own.ivs_inj, Own.bz_inj, Own.ivs_len, Own.bz_len, Own.ivs_app, Own.ivs_set, Own.ivs_bset, Own.bz_app, Own.ivs_snoc, Own.bz_snoc, Own.atI_ints, Own.atI_bz, Own.isLst_some, Own.ty_lst, L2.upd_same, L2.upd_upd, Own.b2_xor, Own.b2_mod2, Own.b2_mod3, Own.b2_mod4, Own.b2_flip, Option.map_some, Option.isSome_some, ne_eq, eq_self, not_false_eq_true, not_true_eq_false, String.reduceEq, Own.e_BM, Own.e_BM0, Own.e_rAppend, Own.e_rCat, Own.e_rRep, Own.e_sl, Own.e_noPart, Own.e_part, Own.e_rSlL, Own.e_gSub, Own.e_rSetL, Own.e_bits, Own.e_yes, Own.e_gTup, Own.e_gNil, Own.e_gCons, Own.e_aug, Own.e_ipI, Own.e_for, Own.e_lc, Own.e_iList, Own.e_iTup, Own.e_iRng1, Own.e_iRng2, Own.e_iEnum, Own.e_iZip, L2.start, L2.wipe, List.map_cons, List.map_nil, List.replicate_succ, List.replicate_zero, List.length_cons, List.length_nil, Nat.reduceAdd, Nat.reduceSub, Nat.zero_add, List.getElem?_cons_zero, List.getElem?_cons_succ, List.set_cons_zero, List.set_cons_succ, Option.some.injEq, L2.V.int.injEq, L2.V.bl.injEq, L2.V.str.injEq, L2.V.ref.injEq, List.cons.injEq, List.cons_append, List.nil_append, List.append_nil, exists_eq_left', exists_eq_left, exists_and_left, exists_and_right, exists_eq, and_true, true_and, reduceCtorEq, false_and, and_false, exists_false, or_false, false_or, true_or, or_true, decide_eq_true_eq, Bool.not_true, Bool.not_false, Bool.not_eq_true', Bool.not_eq_false', decide_eq_false_iff_not, ite_not, if_true, if_false, ite_true, ite_false, Bool.false_eq_true, if_pos trivial, decide_true, decide_false, PySem.sizeLine_eq, eq_self, Int.reduceNeg, Int.reducePow, Int.reduceLT, Int.reduceLE, Int.reduceToNat, Nat.reduceLeDiff, Int.reduceSub, Int.reduceAdd, Int.reduceMul, Int.reduceDiv, Int.reduceMod, Int.reduceEq, Nat.reduceMul, Nat.reduceEqDiff, Own.e_raiseO, Own.e_callS, Own.e_what, Own.hxd_inj, x2, o2 _ _ x1, (o1.trans o2) _ _ f5, (o1.trans o2) _ _ f3, upd_ne nk1, cfu])
          have q1 : k1 ≠ rw' := ne_of_none (s7 _ _ e6) n8
          have q2 : p8 ≠ rw' := ne_of_none (((t5.trans s6).trans s7) _ _ h8) n8
          have frw : H4 rw' = none := ((sm9.trans ((t5.trans s6).trans s7))).free n8
          have b21 : bz fu ++ [1] = bz (fu ++ [true]) := bz_snoc (b := true)
          rw [b21]
          obtain ⟨J3, eJ⟩ : ∃ J3, J3 = upd J2 rw' (.lst (ivs (bz (fu ++ [true])))) := ⟨_, rfl⟩
          rw [← eJ]
          have g1 : J3 k1 = some (.lst (ivs (bz u))) := by rw [eJ, upd_ne q1]; exact (o1.trans o2) _ _ f3
          have g2 : J3 p6 = some (.lst (ivs (bz fu))) := by rw [eJ, upd_ne nrw.symm]; exact (o1.trans o2) _ _ f1
          have g3 : J3 p8 = some (.lst (ivs ps)) := by rw [eJ, upd_ne q2]; exact (o1.trans o2) _ _ f2
          have g4 : J3 rw' = some (.lst (ivs (bz (fu ++ [true])))) := by rw [eJ, upd_same]
          have g5 : Same H4 J3 := by rw [eJ]; exact same_upd_of ((sm.trans o1).trans o2) frw
          (try simp only [Own.e_seq, Own.e_cxK, Own.e_wishK, Own.e_noxK, Own.e_asg, Own.e_gName, Own.e_var, Own.e_C, Own.e_op, Own.e_un, Own.e_rI, Own.e_rI0, Own.e_rU, Own.e_CMul, Own.e_CDiv, Own.e_CPow, Own.e_rEq, Own.e_rNe, Own.e_scal_int, Own.e_scal_str, Own.e_scal_bl, Own.e_ifS, Own.e_test, Own.e_tB, Own.e_ret, Own.e_retN, Own.e_next, Own.e_brk, Own.e_cnt, Own.e_cons, Own.e_nil, Own.e_lst, Own.e_tup, Own.e_drop, Own.e_and, Own.e_or, Own.e_not, Own.e_andV, Own.e_orV, Own.e_notV, Own.e_if, Own.e_chain, Own.e_CB, Own.e_call, Own.e_rIxL, Own.e_rIxT, Own.e_rIxK, Own.e_rIxKT, Own.e_rSlK, Own.e_rLenK, Own.e_rListK, Own.e_rTupleK, Own.e_rSumK, Own.e_rNeK, Own.e_rEqK, Own.e_rNeKT, Own.e_rEqKT, Own.e_rIsiK, Own.tyK_int, Own.tyK_bl, Own.tyK_str, Own.tyK_non, Own.tyK_ref, Own.tyO_lst, Own.tyO_tup, Own.kit1, Own.kit2, Own.kit3, Own.kit4, Own.kit5, Own.kit6, Own.kit7, Own.kit8, Own.kit9, Own.hlst_inj, Own.htup_inj, Own.vty_inj, Own.ivs_inj, Own.bz_inj, Own.ivs_len, Own.bz_len, Own.ivs_app, Own.ivs_set, Own.ivs_bset, Own.bz_app, Own.ivs_snoc, Own.bz_snoc, Own.atI_ints, Own.atI_bz, Own.isLst_some, Own.ty_lst, L2.upd_same, L2.upd_upd, Own.b2_xor, Own.b2_mod2, Own.b2_mod3, Own.b2_mod4, Own.b2_flip, Option.map_some, Option.isSome_some, ne_eq, eq_self, not_false_eq_true, not_true_eq_false, String.reduceEq, Own.e_BM, Own.e_BM0, Own.e_rAppend, Own.e_rCat, Own.e_rRep, Own.e_sl, Own.e_noPart, Own.e_part, Own.e_rSlL, Own.e_gSub, Own.e_rSetL, Own.e_bits, Own.e_yes, Own.e_gTup, Own.e_gNil, Own.e_gCons, Own.e_aug, Own.e_ipI, Own.e_for, Own.e_lc, Own.e_iList, Own.e_iTup, Own.e_iRng1, Own.e_iRng2, Own.e_iEnum, Own.e_iZip, L2.start, L2.wipe, List.map_cons, List.map_nil, List.replicate_succ, List.replicate_zero, List.length_cons, List.length_nil, Nat.reduceAdd, Nat.reduceSub, Nat.zero_add, List.getElem?_cons_zero, List.getElem?_cons_succ, List.set_cons_zero, List.set_cons_succ, Option.some.injEq, L2.V.int.injEq, L2.V.bl.injEq, L2.V.str.injEq, L2.V.ref.injEq, List.cons.injEq, List.cons_append, List.nil_append, List.append_nil, exists_eq_left', exists_eq_left, exists_and_left, exists_and_right, exists_eq, and_true, true_and, reduceCtorEq, false_and, and_false, exists_false, or_false, false_or, true_or, or_true, decide_eq_true_eq, Bool.not_true, Bool.not_false, Bool.not_eq_true', Bool.not_eq_false', decide_eq_false_iff_not, ite_not, if_true, if_false, ite_true, ite_false, Bool.false_eq_true, if_pos trivial, decide_true, decide_false, PySem.sizeLine_eq, eq_self, Int.reduceNeg, Int.reducePow, Int.reduceLT, Int.reduceLE, Int.reduceToNat, Nat.reduceLeDiff, Int.reduceSub, Int.reduceAdd, Int.reduceMul, Int.reduceDiv, Int.reduceMod, Int.reduceEq, Nat.reduceMul, Nat.reduceEqDiff, Own.e_raiseO, Own.e_callS, Own.e_what, Own.hxd_inj, g1])
          refine ite2 (fun _ => ?_) (fun h => absurd hu h)
          refine call_to ⟨_, _, u, fu, rfl, g1, g2, by omega, fun h => absurd fl.symm h, fun _ L1 r1 => ?_⟩
          have zl2 : (zx u fu).length = u.length := zx_len fl
          (try simp only [Own.e_seq, Own.e_cxK, Own.e_wishK, Own.e_noxK, Own.e_asg, Own.e_gName, Own.e_var, Own.e_C, Own.e_op, Own.e_un, Own.e_rI, Own.e_rI0, Own.e_rU, Own.e_CMul, Own.e_CDiv, Own.e_CPow, Own.e_rEq, Own.e_rNe, Own.e_scal_int, Own.e_scal_str, Own.e_scal_bl, Own.e_ifS, Own.e_test, Own.e_tB, Own.e_ret, Own.e_retN, Own.e_next, Own.e_brk, Own.e_cnt, Own.e_cons, Own.e_nil, Own.e_lst, Own.e_tup, Own.e_drop, Own.e_and, Own.e_or, Own.e_not, Own.e_andV, Own.e_orV, Own.e_notV, Own.e_if, Own.e_chain, Own.e_CB, Own.e_call, Own.e_rIxL, Own.e_rIxT, Own.e_rIxK, Own.e_rIxKT, Own.e_rSlK, Own.e_rLenK, Own.e_rListK, Own.e_rTupleK, Own.e_rSumK, Own.e_rNeK, Own.e_rEqK, Own.e_rNeKT, Own.e_rEqKT, Own.e_rIsiK, Own.tyK_int, Own.tyK_bl, Own.tyK_str, Own.tyK_non, Own.tyK_ref, Own.tyO_lst, Own.tyO_tup, Own.kit1, Own.kit2, Own.kit3, Own.kit4, Own.kit5, Own.kit6, Own.kit7, Own.kit8, Own.kit9, Own.hlst_inj, Own.htup_inj, Own.vty_inj, Own.ivs_inj, Own.bz_inj, Own.ivs_len, Own.bz_len, Own.ivs_app, Own.ivs_set, Own.ivs_bset, Own.bz_app, Own.ivs_snoc, Own.bz_snoc, Own.atI_ints, Own.atI_bz, Own.isLst_some, Own.ty_lst, L2.upd_same, L2.upd_upd, Own.b2_xor, Own.b2_mod2, Own.b2_mod3, Own.b2_mod4, Own.b2_flip, Option.map_some, Option.isSome_some, ne_eq, eq_self, not_false_eq_true, not_true_eq_false, String.reduceEq, Own.e_BM, Own.e_BM0, Own.e_rAppend, Own.e_rCat, Own.e_rRep, Own.e_sl, Own.e_noPart, Own.e_part, Own.e_rSlL, Own.e_gSub, Own.e_rSetL, Own.e_bits, Own.e_yes, Own.e_gTup, Own.e_gNil, Own.e_gCons, Own.e_aug, Own.e_ipI, Own.e_for, Own.e_lc, Own.e_iList, Own.e_iTup, Own.e_iRng1, Own.e_iRng2, Own.e_iEnum, Own.e_iZip, L2.start, L2.wipe, List.map_cons, List.map_nil, List.replicate_succ, List.replicate_zero, List.length_cons, List.length_nil, Nat.reduceAdd, Nat.reduceSub, Nat.zero_add, List.getElem?_cons_zero, List.getElem?_cons_succ, List.set_cons_zero, List.set_cons_succ, Option.some.injEq, L2.V.int.injEq, L2.V.bl.injEq, L2.V.str.injEq, L2.V.ref.injEq, List.cons.injEq, List.cons_append, List.nil_append, List.append_nil, exists_eq_left', exists_eq_left, exists_and_left, exists_and_right, exists_eq, and_true, true_and, reduceCtorEq, false_and, and_false, exists_false, or_false, false_or, true_or, or_true, decide_eq_true_eq, Bool.not_true, Bool.not_false, Bool.not_eq_true', Bool.not_eq_false', decide_eq_false_iff_not, ite_not, if_true, if_false, ite_true, ite_false, Bool.false_eq_true, if_pos trivial, decide_true, decide_false, PySem.sizeLine_eq, eq_self, Int.reduceNeg, Int.reducePow, Int.reduceLT, Int.reduceLE, Int.reduceToNat, Nat.reduceLeDiff, Int.reduceSub, Int.reduceAdd, Int.reduceMul, Int.reduceDiv, Int.reduceMod, Int.reduceEq, Nat.reduceMul, Nat.reduceEqDiff, Own.e_raiseO, Own.e_callS, Own.e_what, Own.hxd_inj])
          refine ⟨by omega, by omega, lc_rngT (fun i => ivs (ones (zx u fu) i)) rfl ?_ ?_⟩
          · intro D j HL hD hj hp
            have gz := ZF j (by omega)
            have g8 := hp.1 _ _ (r1 _ _ g3)
            have ol := ones_len (zx u fu) j
            have wl := wt_le ((zx u fu).take j)
            rw [List.length_take] at wl
            (try simp only [Own.e_seq, Own.e_cxK, Own.e_wishK, Own.e_noxK, Own.e_asg, Own.e_gName, Own.e_var, Own.e_C, Own.e_op, Own.e_un, Own.e_rI, Own.e_rI0, Own.e_rU, Own.e_CMul, Own.e_CDiv, Own.e_CPow, Own.e_rEq, Own.e_rNe, Own.e_scal_int, Own.e_scal_str, Own.e_scal_bl, Own.e_ifS, Own.e_test, Own.e_tB, Own.e_ret, Own.e_retN, Own.e_next, Own.e_brk, Own.e_cnt, Own.e_cons, Own.e_nil, Own.e_lst, Own.e_tup, Own.e_drop, Own.e_and, Own.e_or, Own.e_not, Own.e_andV, Own.e_orV, Own.e_notV, Own.e_if, Own.e_chain, Own.e_CB, Own.e_call, Own.e_rIxL, Own.e_rIxT, Own.e_rIxK, Own.e_rIxKT, Own.e_rSlK, Own.e_rLenK, Own.e_rListK, Own.e_rTupleK, Own.e_rSumK, Own.e_rNeK, Own.e_rEqK, Own.e_rNeKT, Own.e_rEqKT, Own.e_rIsiK, Own.tyK_int, Own.tyK_bl, Own.tyK_str, Own.tyK_non, Own.tyK_ref, Own.tyO_lst, Own.tyO_tup, Own.kit1, Own.kit2, Own.kit3, Own.kit4, Own.kit5, Own.kit6, Own.kit7, Own.kit8, Own.kit9, Own.hlst_inj, Own.htup_inj, Own.vty_inj, Own.ivs_inj, Own.bz_inj, Own.ivs_len, Own.bz_len, Own.ivs_app, Own.ivs_set, Own.ivs_bset, Own.bz_app, Own.ivs_snoc, Own.bz_snoc, Own.atI_ints, Own.atI_bz, Own.isLst_some, Own.ty_lst, L2.upd_same, L2.upd_upd, Own.b2_xor, Own.b2_mod2, Own.b2_mod3, Own.b2_mod4, Own.b2_flip, Option.map_some, Option.isSome_some, ne_eq, eq_self, not_false_eq_true, not_true_eq_false, String.reduceEq, Own.e_BM, Own.e_BM0, Own.e_rAppend, Own.e_rCat, Own.e_rRep, Own.e_sl, Own.e_noPart, Own.e_part, Own.e_rSlL, Own.e_gSub, Own.e_rSetL, Own.e_bits, Own.e_yes, Own.e_gTup, Own.e_gNil, Own.e_gCons, Own.e_aug, Own.e_ipI, Own.e_for, Own.e_lc, Own.e_iList, Own.e_iTup, Own.e_iRng1, Own.e_iRng2, Own.e_iEnum, Own.e_iZip, L2.start, L2.wipe, List.map_cons, List.map_nil, List.replicate_succ, List.replicate_zero, List.length_cons, List.length_nil, Nat.reduceAdd, Nat.reduceSub, Nat.zero_add, List.getElem?_cons_zero, List.getElem?_cons_succ, List.set_cons_zero, List.set_cons_succ, Option.some.injEq, L2.V.int.injEq, L2.V.bl.injEq, L2.V.str.injEq, L2.V.ref.injEq, List.cons.injEq, List.cons_append, List.nil_append, List.append_nil, exists_eq_left', exists_eq_left, exists_and_left, exists_and_right, exists_eq, and_true, true_and, reduceCtorEq, false_and, and_false, exists_false, or_false, false_or, true_or, or_true, decide_eq_true_eq, Bool.not_true, Bool.not_false, Bool.not_eq_true', Bool.not_eq_false', decide_eq_false_iff_not, ite_not, if_true, if_false, ite_true, ite_false, Bool.false_eq_true, if_pos trivial, decide_true, decide_false, PySem.sizeLine_eq, eq_self, Int.reduceNeg, Int.reducePow, Int.reduceLT, Int.reduceLE, Int.reduceToNat, Nat.reduceLeDiff, Int.reduceSub, Int.reduceAdd, Int.reduceMul, Int.reduceDiv, Int.reduceMod, Int.reduceEq, Nat.reduceMul, Nat.reduceEqDiff, Own.e_raiseO, Own.e_callS, Own.e_what, Own.hxd_inj, g8])
            refine ⟨p8, ps, _, rfl, rfl, .of g8, ?_⟩
            (try simp only [Own.e_seq, Own.e_cxK, Own.e_wishK, Own.e_noxK, Own.e_asg, Own.e_gName, Own.e_var, Own.e_C, Own.e_op, Own.e_un, Own.e_rI, Own.e_rI0, Own.e_rU, Own.e_CMul, Own.e_CDiv, Own.e_CPow, Own.e_rEq, Own.e_rNe, Own.e_scal_int, Own.e_scal_str, Own.e_scal_bl, Own.e_ifS, Own.e_test, Own.e_tB, Own.e_ret, Own.e_retN, Own.e_next, Own.e_brk, Own.e_cnt, Own.e_cons, Own.e_nil, Own.e_lst, Own.e_tup, Own.e_drop, Own.e_and, Own.e_or, Own.e_not, Own.e_andV, Own.e_orV, Own.e_notV, Own.e_if, Own.e_chain, Own.e_CB, Own.e_call, Own.e_rIxL, Own.e_rIxT, Own.e_rIxK, Own.e_rIxKT, Own.e_rSlK, Own.e_rLenK, Own.e_rListK, Own.e_rTupleK, Own.e_rSumK, Own.e_rNeK, Own.e_rEqK, Own.e_rNeKT, Own.e_rEqKT, Own.e_rIsiK, Own.tyK_int, Own.tyK_bl, Own.tyK_str, Own.tyK_non, Own.tyK_ref, Own.tyO_lst, Own.tyO_tup, Own.kit1, Own.kit2, Own.kit3, Own.kit4, Own.kit5, Own.kit6, Own.kit7, Own.kit8, Own.kit9, Own.hlst_inj, Own.htup_inj, Own.vty_inj, Own.ivs_inj, Own.bz_inj, Own.ivs_len, Own.bz_len, Own.ivs_app, Own.ivs_set, Own.ivs_bset, Own.bz_app, Own.ivs_snoc, Own.bz_snoc, Own.atI_ints, Own.atI_bz, Own.isLst_some, Own.ty_lst, L2.upd_same, L2.upd_upd, Own.b2_xor, Own.b2_mod2, Own.b2_mod3, Own.b2_mod4, Own.b2_flip, Option.map_some, Option.isSome_some, ne_eq, eq_self, not_false_eq_true, not_true_eq_false, String.reduceEq, Own.e_BM, Own.e_BM0, Own.e_rAppend, Own.e_rCat, Own.e_rRep, Own.e_sl, Own.e_noPart, Own.e_part, Own.e_rSlL, Own.e_gSub, Own.e_rSetL, Own.e_bits, Own.e_yes, Own.e_gTup, Own.e_gNil, Own.e_gCons, Own.e_aug, Own.e_ipI, Own.e_for, Own.e_lc, Own.e_iList, Own.e_iTup, Own.e_iRng1, Own.e_iRng2, Own.e_iEnum, Own.e_iZip, L2.start, L2.wipe, List.map_cons, List.map_nil, List.replicate_succ, List.replicate_zero, List.length_cons, List.length_nil, Nat.reduceAdd, Nat.reduceSub, Nat.zero_add, List.getElem?_cons_zero, List.getElem?_cons_succ, List.set_cons_zero, List.set_cons_succ, Option.some.injEq, L2.V.int.injEq, L2.V.bl.injEq, L2.V.str.injEq, L2.V.ref.injEq, List.cons.injEq, List.cons_append, List.nil_append, List.append_nil, exists_eq_left', exists_eq_left, exists_and_left, exists_and_right, exists_eq, and_true, true_and, reduceCtorEq, false_and, and_false, exists_false, or_false, false_or, true_or, or_true, decide_eq_true_eq, Bool.not_true, Bool.not_false, Bool.not_eq_true', Bool.not_eq_false', decide_eq_false_iff_not, ite_not, if_true, if_false, ite_true, ite_false, Bool.false_eq_true, if_pos trivial, decide_true, decide_false, PySem.sizeLine_eq, eq_self, Int.reduceNeg, Int.reducePow, Int.reduceLT, Int.reduceLE, Int.reduceToNat, Nat.reduceLeDiff, Int.reduceSub, Int.reduceAdd, Int.reduceMul, Int.reduceDiv, Int.reduceMod, Int.reduceEq, Nat.reduceMul, Nat.reduceEqDiff, Own.e_raiseO, Own.e_callS, Own.e_what, Own.hxd_inj, Int.zero_add])
            refine ite2 (fun h => ?_) (fun h => ?_)
            · rw [decide_eq_true (by omega)] at gz
              exact elt_is hD hp (Same.refl _) (by rw [ones_t gz, ← ivs_snoc, Int.zero_add]) (by rw [ivs_len]; omega)
            · rw [decide_eq_false (by omega)] at gz
              exact no_elt hp (Same.refl _) (by rw [ones_f gz])
          intro d3 J4 m4 r2 x4
          have ol := ones_len (zx u fu) (v % 61).toNat
          rw [List.take_of_length_le (by omega)] at ol
          (try simp only [Own.e_seq, Own.e_cxK, Own.e_wishK, Own.e_noxK, Own.e_asg, Own.e_gName, Own.e_var, Own.e_C, Own.e_op, Own.e_un, Own.e_rI, Own.e_rI0, Own.e_rU, Own.e_CMul, Own.e_CDiv, Own.e_CPow, Own.e_rEq, Own.e_rNe, Own.e_scal_int, Own.e_scal_str, Own.e_scal_bl, Own.e_ifS, Own.e_test, Own.e_tB, Own.e_ret, Own.e_retN, Own.e_next, Own.e_brk, Own.e_cnt, Own.e_cons, Own.e_nil, Own.e_lst, Own.e_tup, Own.e_drop, Own.e_and, Own.e_or, Own.e_not, Own.e_andV, Own.e_orV, Own.e_notV, Own.e_if, Own.e_chain, Own.e_CB, Own.e_call, Own.e_rIxL, Own.e_rIxT, Own.e_rIxK, Own.e_rIxKT, Own.e_rSlK, Own.e_rLenK, Own.e_rListK, Own.e_rTupleK, Own.e_rSumK, Own.e_rNeK, Own.e_rEqK, Own.e_rNeKT, Own.e_rEqKT, Own.e_rIsiK, Own.tyK_int, Own.tyK_bl, Own.tyK_str, Own.tyK_non, Own.tyK_ref, Own.tyO_lst, Own.tyO_tup, Own.kit1, Own.kit2, Own.kit3, Own.kit4, Own.kit5, Own.kit6, Own.kit7, Own.kit8, Own.kit9, Own.hlst_inj, Own.htup_inj, Own.vty_inj, Own.ivs_inj, Own.bz_inj, Own.ivs_len, Own.bz_len, Own.ivs_app, Own.ivs_set, Own.ivs_bset, Own.bz_app, Own.ivs_snoc, Own.bz_snoc, Own.atI_ints, Own.atI_bz, Own.isLst_some, Own.ty_lst, L2.upd_same, L2.upd_upd, Own.b2_xor, Own.b2_mod2, Own.b2_mod3, Own.b2_mod4, Own.b2_flip, Option.map_some, Option.isSome_some, ne_eq, eq_self, not_false_eq_true, not_true_eq_false, String.reduceEq, Own.e_BM, Own.e_BM0, Own.e_rAppend, Own.e_rCat, Own.e_rRep, Own.e_sl, Own.e_noPart, Own.e_part, Own.e_rSlL, Own.e_gSub, Own.e_rSetL, Own.e_bits, Own.e_yes, Own.e_gTup, Own.e_gNil, Own.e_gCons, Own.e_aug, Own.e_ipI, Own.e_for, Own.e_lc, Own.e_iList, Own.e_iTup, Own.e_iRng1, Own.e_iRng2, Own.e_iEnum, Own.e_iZip, L2.start, L2.wipe, List.map_cons, List.map_nil, List.replicate_succ, List.replicate_zero, List.length_cons, List.length_nil, Nat.reduceAdd, Nat.reduceSub, Nat.zero_add, List.getElem?_cons_zero, List.getElem?_cons_succ, List.set_cons_zero, List.set_cons_succ, Option.some.injEq, L2.V.int.injEq, L2.V.bl.injEq, L2.V.str.injEq, L2.V.ref.injEq, List.cons.injEq, List.cons_append, List.nil_append, List.append_nil, exists_eq_left', exists_eq_left, exists_and_left, exists_and_right, exists_eq, and_true, true_and, reduceCtorEq, false_and, and_false, exists_false, or_false, false_or, true_or, or_true, decide_eq_true_eq, Bool.not_true, Bool.not_false, Bool.not_eq_true', Bool.not_eq_false', decide_eq_false_iff_not, ite_not, if_true, if_false, ite_true, ite_false, Bool.false_eq_true, if_pos trivial, decide_true, decide_false, PySem.sizeLine_eq, eq_self, Int.reduceNeg, Int.reducePow, Int.reduceLT, Int.reduceLE, Int.reduceToNat, Nat.reduceLeDiff, Int.reduceSub, Int.reduceAdd, Int.reduceMul, Int.reduceDiv, Int.reduceMod, Int.reduceEq, Nat.reduceMul, Nat.reduceEqDiff, Own.e_raiseO, Own.e_callS, Own.e_what, Own.hxd_inj, x4, ol])
          have s34 : Same J3 J4 := r1.trans r2
          refine call_to ⟨_, _, fu ++ [true], fu, rfl, s34 _ _ g4, s34 _ _ g2, by simp; omega, by simp, ?_⟩
          (try simp only [Own.e_seq, Own.e_cxK, Own.e_wishK, Own.e_noxK, Own.e_asg, Own.e_gName, Own.e_var, Own.e_C, Own.e_op, Own.e_un, Own.e_rI, Own.e_rI0, Own.e_rU, Own.e_CMul, Own.e_CDiv, Own.e_CPow, Own.e_rEq, Own.e_rNe, Own.e_scal_int, Own.e_scal_str, Own.e_scal_bl, Own.e_ifS, Own.e_test, Own.e_tB, Own.e_ret, Own.e_retN, Own.e_next, Own.e_brk, Own.e_cnt, Own.e_cons, Own.e_nil, Own.e_lst, Own.e_tup, Own.e_drop, Own.e_and, Own.e_or, Own.e_not, Own.e_andV, Own.e_orV, Own.e_notV, Own.e_if, Own.e_chain, Own.e_CB, Own.e_call, Own.e_rIxL, Own.e_rIxT, Own.e_rIxK, Own.e_rIxKT, Own.e_rSlK, Own.e_rLenK, Own.e_rListK, Own.e_rTupleK, Own.e_rSumK, Own.e_rNeK, Own.e_rEqK, Own.e_rNeKT, Own.e_rEqKT, Own.e_rIsiK, Own.tyK_int, Own.tyK_bl, Own.tyK_str, Own.tyK_non, Own.tyK_ref, Own.tyO_lst, Own.tyO_tup, Own.kit1, Own.kit2, Own.kit3, Own.kit4, Own.kit5, Own.kit6, Own.kit7, Own.kit8, Own.kit9, Own.hlst_inj, Own.htup_inj, Own.vty_inj, Own.ivs_inj, Own.bz_inj, Own.ivs_len, Own.bz_len, Own.ivs_app, Own.ivs_set, Own.ivs_bset, Own.bz_app, Own.ivs_snoc, Own.bz_snoc, Own.atI_ints, Own.atI_bz, Own.isLst_some, Own.ty_lst, L2.upd_same, L2.upd_upd, Own.b2_xor, Own.b2_mod2, Own.b2_mod3, Own.b2_mod4, Own.b2_flip, Option.map_some, Option.isSome_some, ne_eq, eq_self, not_false_eq_true, not_true_eq_false, String.reduceEq, Own.e_BM, Own.e_BM0, Own.e_rAppend, Own.e_rCat, Own.e_rRep, Own.e_sl, Own.e_noPart, Own.e_part, Own.e_rSlL, Own.e_gSub, Own.e_rSetL, Own.e_bits, Own.e_yes, Own.e_gTup, Own.e_gNil, Own.e_gCons, Own.e_aug, Own.e_ipI, Own.e_for, Own.e_lc, Own.e_iList, Own.e_iTup, Own.e_iRng1, Own.e_iRng2, Own.e_iEnum, Own.e_iZip, L2.start, L2.wipe, List.map_cons, List.map_nil, List.replicate_succ, List.replicate_zero, List.length_cons, List.length_nil, Nat.reduceAdd, Nat.reduceSub, Nat.zero_add, List.getElem?_cons_zero, List.getElem?_cons_succ, List.set_cons_zero, List.set_cons_succ, Option.some.injEq, L2.V.int.injEq, L2.V.bl.injEq, L2.V.str.injEq, L2.V.ref.injEq, List.cons.injEq, List.cons_append, List.nil_append, List.append_nil, exists_eq_left', exists_eq_left, exists_and_left, exists_and_right, exists_eq, and_true, true_and, reduceCtorEq, false_and, and_false, exists_false, or_false, false_or, true_or, or_true, decide_eq_true_eq, Bool.not_true, Bool.not_false, Bool.not_eq_true', Bool.not_eq_false', decide_eq_false_iff_not, ite_not, if_true, if_false, ite_true, ite_false, Bool.false_eq_true, if_pos trivial, decide_true, decide_false, PySem.sizeLine_eq, eq_self, Int.reduceNeg, Int.reducePow, Int.reduceLT, Int.reduceLE, Int.reduceToNat, Nat.reduceLeDiff, Int.reduceSub, Int.reduceAdd, Int.reduceMul, Int.reduceDiv, Int.reduceMod, Int.reduceEq, Nat.reduceMul, Nat.reduceEqDiff, Own.e_raiseO, Own.e_callS, Own.e_what, Own.hxd_inj])
          refine call_to ⟨_, _, fu, fu ++ [true], rfl, s34 _ _ g2, s34 _ _ g4, by omega, by simp, ?_⟩
          (try simp only [Own.e_seq, Own.e_cxK, Own.e_wishK, Own.e_noxK, Own.e_asg, Own.e_gName, Own.e_var, Own.e_C, Own.e_op, Own.e_un, Own.e_rI, Own.e_rI0, Own.e_rU, Own.e_CMul, Own.e_CDiv, Own.e_CPow, Own.e_rEq, Own.e_rNe, Own.e_scal_int, Own.e_scal_str, Own.e_scal_bl, Own.e_ifS, Own.e_test, Own.e_tB, Own.e_ret, Own.e_retN, Own.e_next, Own.e_brk, Own.e_cnt, Own.e_cons, Own.e_nil, Own.e_lst, Own.e_tup, Own.e_drop, Own.e_and, Own.e_or, Own.e_not, Own.e_andV, Own.e_orV, Own.e_notV, Own.e_if, Own.e_chain, Own.e_CB, Own.e_call, Own.e_rIxL, Own.e_rIxT, Own.e_rIxK, Own.e_rIxKT, Own.e_rSlK, Own.e_rLenK, Own.e_rListK, Own.e_rTupleK, Own.e_rSumK, Own.e_rNeK, Own.e_rEqK, Own.e_rNeKT, Own.e_rEqKT, Own.e_rIsiK, Own.tyK_int, Own.tyK_bl, Own.tyK_str, Own.tyK_non, Own.tyK_ref, Own.tyO_lst, Own.tyO_tup, Own.kit1, Own.kit2, Own.kit3, Own.kit4, Own.kit5, Own.kit6, Own.kit7, Own.kit8, Own.kit9, Own.hlst_inj, Own.htup_inj, Own.vty_inj, Own.ivs_inj, Own.bz_inj, Own.ivs_len, Own.bz_len, Own.ivs_app, Own.ivs_set, Own.ivs_bset, Own.bz_app, Own.ivs_snoc, Own.bz_snoc, Own.atI_ints, Own.atI_bz, Own.isLst_some, Own.ty_lst, L2.upd_same, L2.upd_upd, Own.b2_xor, Own.b2_mod2, Own.b2_mod3, Own.b2_mod4, Own.b2_flip, Option.map_some, Option.isSome_some, ne_eq, eq_self, not_false_eq_true, not_true_eq_false, String.reduceEq, Own.e_BM, Own.e_BM0, Own.e_rAppend, Own.e_rCat, Own.e_rRep, Own.e_sl, Own.e_noPart, Own.e_part, Own.e_rSlL, Own.e_gSub, Own.e_rSetL, Own.e_bits, Own.e_yes, Own.e_gTup, Own.e_gNil, Own.e_gCons, Own.e_aug, Own.e_ipI, Own.e_for, Own.e_lc, Own.e_iList, Own.e_iTup, Own.e_iRng1, Own.e_iRng2, Own.e_iEnum, Own.e_iZip, L2.start, L2.wipe, List.map_cons, List.map_nil, List.replicate_succ, List.replicate_zero, List.length_cons, List.length_nil, Nat.reduceAdd, Nat.reduceSub, Nat.zero_add, List.getElem?_cons_zero, List.getElem?_cons_succ, List.set_cons_zero, List.set_cons_succ, Option.some.injEq, L2.V.int.injEq, L2.V.bl.injEq, L2.V.str.injEq, L2.V.ref.injEq, List.cons.injEq, List.cons_append, List.nil_append, List.append_nil, exists_eq_left', exists_eq_left, exists_and_left, exists_and_right, exists_eq, and_true, true_and, reduceCtorEq, false_and, and_false, exists_false, or_false, false_or, true_or, or_true, decide_eq_true_eq, Bool.not_true, Bool.not_false, Bool.not_eq_true', Bool.not_eq_false', decide_eq_false_iff_not, ite_not, if_true, if_false, ite_true, ite_false, Bool.false_eq_true, if_pos trivial, decide_true, decide_false, PySem.sizeLine_eq, eq_self, Int.reduceNeg, Int.reducePow, Int.reduceLT, Int.reduceLE, Int.reduceToNat, Nat.reduceLeDiff, Int.reduceSub, Int.reduceAdd, Int.reduceMul, Int.reduceDiv, Int.reduceMod, Int.reduceEq, Nat.reduceMul, Nat.reduceEqDiff, Own.e_raiseO, Own.e_callS, Own.e_what, Own.hxd_inj])
          refine new_of fun d5 J5 m5 r5 x5 => ?_
          have x5' : J5 d5 = some (.lst (ivs (bz [false]))) := x5
          have c5 : fu.length + 1 + 1 ≤ 16777216 := by omega
          have s35 : Same J3 J5 := s34.trans r5
          (try simp only [Own.e_seq, Own.e_cxK, Own.e_wishK, Own.e_noxK, Own.e_asg, Own.e_gName, Own.e_var, Own.e_C, Own.e_op, Own.e_un, Own.e_rI, Own.e_rI0, Own.e_rU, Own.e_CMul, Own.e_CDiv, Own.e_CPow, Own.e_rEq, Own.e_rNe, Own.e_scal_int, Own.e_scal_str, Own.e_scal_bl, Own.e_ifS, Own.e_test, Own.e_tB, Own.e_ret, Own.e_retN, Own.e_next, Own.e_brk, Own.e_cnt, Own.e_cons, Own.e_nil, Own.e_lst, Own.e_tup, Own.e_drop, Own.e_and, Own.e_or, Own.e_not, Own.e_andV, Own.e_orV, Own.e_notV, Own.e_if, Own.e_chain, Own.e_CB, Own.e_call, Own.e_rIxL, Own.e_rIxT, Own.e_rIxK, Own.e_rIxKT, Own.e_rSlK, Own.e_rLenK, Own.e_rListK, Own.e_rTupleK, Own.e_rSumK, Own.e_rNeK, Own.e_rEqK, Own.e_rNeKT, Own.e_rEqKT, Own.e_rIsiK, Own.tyK_int, Own.tyK_bl, Own.tyK_str, Own.tyK_non, Own.tyK_ref, Own.tyO_lst, Own.tyO_tup, Own.kit1, Own.kit2, Own.kit3, Own.kit4, Own.kit5, Own.kit6, Own.kit7, Own.kit8, Own.kit9, Own.hlst_inj, Own.htup_inj, Own.vty_inj, Own.ivs_inj, Own.bz_inj, Own.ivs_len, Own.bz_len, Own.ivs_app, Own.ivs_set, Own.ivs_bset, Own.bz_app, Own.ivs_snoc, Own.bz_snoc, Own.atI_ints, Own.atI_bz, Own.isLst_some, Own.ty_lst, L2.upd_same, L2.upd_upd, Own.b2_xor, Own.b2_mod2, Own.b2_mod3, Own.b2_mod4, Own.b2_flip, Option.map_some, Option.isSome_some, ne_eq, eq_self, not_false_eq_true, not_true_eq_false, String.reduceEq, Own.e_BM, Own.e_BM0, Own.e_rAppend, Own.e_rCat, Own.e_rRep, Own.e_sl, Own.e_noPart, Own.e_part, Own.e_rSlL, Own.e_gSub, Own.e_rSetL, Own.e_bits, Own.e_yes, Own.e_gTup, Own.e_gNil, Own.e_gCons, Own.e_aug, Own.e_ipI, Own.e_for, Own.e_lc, Own.e_iList, Own.e_iTup, Own.e_iRng1, Own.e_iRng2, Own.e_iEnum, Own.e_iZip, L2.start, L2.wipe, List.map_cons, List.map_nil, List.replicate_succ, List.replicate_zero, List.length_cons, List.length_nil, Nat.reduceAdd, Nat.reduceSub, Nat.zero_add, List.getElem?_cons_zero, List.getElem?_cons_succ, List.set_cons_zero, List.set_cons_succ, Option.some.injEq, L2.V.int.injEq, L2.V.bl.injEq, L2.V.str.injEq, L2.V.ref.injEq, List.cons.injEq, List.cons_append, List.nil_append, List.append_nil, exists_eq_left', exists_eq_left, exists_and_left, exists_and_right, exists_eq, and_true, true_and, reduceCtorEq, false_and, and_false, exists_false, or_false, false_or, true_or, or_true, decide_eq_true_eq, Bool.not_true, Bool.not_false, Bool.not_eq_true', Bool.not_eq_false', decide_eq_false_iff_not, ite_not, if_true, if_false, ite_true, ite_false, Bool.false_eq_true, if_pos trivial, decide_true, decide_false, PySem.sizeLine_eq, eq_self, Int.reduceNeg, Int.reducePow, Int.reduceLT, Int.reduceLE, Int.reduceToNat, Nat.reduceLeDiff, Int.reduceSub, Int.reduceAdd, Int.reduceMul, Int.reduceDiv, Int.reduceMod, Int.reduceEq, Nat.reduceMul, Nat.reduceEqDiff, Own.e_raiseO, Own.e_callS, Own.e_what, Own.hxd_inj, x5', s35 _ _ g4, List.length_append])
          refine ⟨by omega, new_of fun d6 J6 m6 r6 x6 => ?_⟩
          (try simp only [Own.e_seq, Own.e_cxK, Own.e_wishK, Own.e_noxK, Own.e_asg, Own.e_gName, Own.e_var, Own.e_C, Own.e_op, Own.e_un, Own.e_rI, Own.e_rI0, Own.e_rU, Own.e_CMul, Own.e_CDiv, Own.e_CPow, Own.e_rEq, Own.e_rNe, Own.e_scal_int, Own.e_scal_str, Own.e_scal_bl, Own.e_ifS, Own.e_test, Own.e_tB, Own.e_ret, Own.e_retN, Own.e_next, Own.e_brk, Own.e_cnt, Own.e_cons, Own.e_nil, Own.e_lst, Own.e_tup, Own.e_drop, Own.e_and, Own.e_or, Own.e_not, Own.e_andV, Own.e_orV, Own.e_notV, Own.e_if, Own.e_chain, Own.e_CB, Own.e_call, Own.e_rIxL, Own.e_rIxT, Own.e_rIxK, Own.e_rIxKT, Own.e_rSlK, Own.e_rLenK, Own.e_rListK, Own.e_rTupleK, Own.e_rSumK, Own.e_rNeK, Own.e_rEqK, Own.e_rNeKT, Own.e_rEqKT, Own.e_rIsiK, Own.tyK_int, Own.tyK_bl, Own.tyK_str, Own.tyK_non, Own.tyK_ref, Own.tyO_lst, Own.tyO_tup, Own.kit1, Own.kit2, Own.kit3, Own.kit4, Own.kit5, Own.kit6, Own.kit7, Own.kit8, Own.kit9, Own.hlst_inj, Own.htup_inj, Own.vty_inj, Own.ivs_inj, Own.bz_inj, Own.ivs_len, Own.bz_len, Own.ivs_app, Own.ivs_set, Own.ivs_bset, Own.bz_app, Own.ivs_snoc, Own.bz_snoc, Own.atI_ints, Own.atI_bz, Own.isLst_some, Own.ty_lst, L2.upd_same, L2.upd_upd, Own.b2_xor, Own.b2_mod2, Own.b2_mod3, Own.b2_mod4, Own.b2_flip, Option.map_some, Option.isSome_some, ne_eq, eq_self, not_false_eq_true, not_true_eq_false, String.reduceEq, Own.e_BM, Own.e_BM0, Own.e_rAppend, Own.e_rCat, Own.e_rRep, Own.e_sl, Own.e_noPart, Own.e_part, Own.e_rSlL, Own.e_gSub, Own.e_rSetL, Own.e_bits, Own.e_yes, Own.e_gTup, Own.e_gNil, Own.e_gCons, Own.e_aug, Own.e_ipI, Own.e_for, Own.e_lc, Own.e_iList, Own.e_iTup, Own.e_iRng1, Own.e_iRng2, Own.e_iEnum, Own.e_iZip, L2.start, L2.wipe, List.map_cons, List.map_nil, List.replicate_succ, List.replicate_zero, List.length_cons, List.length_nil, Nat.reduceAdd, Nat.reduceSub, Nat.zero_add, List.getElem?_cons_zero, List.getElem?_cons_succ, List.set_cons_zero, List.set_cons_succ, Option.some.injEq, L2.V.int.injEq, L2.V.bl.injEq, L2.V.str.injEq, L2.V.ref.injEq, List.cons.injEq, List.cons_append, List.nil_append, List.append_nil, exists_eq_left', exists_eq_left, exists_and_left, exists_and_right, exists_eq, and_true, true_and, reduceCtorEq, false_and, and_false, exists_false, or_false, false_or, true_or, or_true, decide_eq_true_eq, Bool.not_true, Bool.not_false, Bool.not_eq_true', Bool.not_eq_false', decide_eq_false_iff_not, ite_not, if_true, if_false, ite_true, ite_false, Bool.false_eq_true, if_pos trivial, decide_true, decide_false, PySem.sizeLine_eq, eq_self, Int.reduceNeg, Int.reducePow, Int.reduceLT, Int.reduceLE, Int.reduceToNat, Nat.reduceLeDiff, Int.reduceSub, Int.reduceAdd, Int.reduceMul, Int.reduceDiv, Int.reduceMod, Int.reduceEq, Nat.reduceMul, Nat.reduceEqDiff, Own.e_raiseO, Own.e_callS, Own.e_what, Own.hxd_inj])
          refine call_to ⟨_, _, fu, fu ++ [true] ++ [false], rfl, r6 _ _ (s35 _ _ g2), by rw [x6], by omega, by simp, ?_⟩
          (try simp only [Own.e_seq, Own.e_cxK, Own.e_wishK, Own.e_noxK, Own.e_asg, Own.e_gName, Own.e_var, Own.e_C, Own.e_op, Own.e_un, Own.e_rI, Own.e_rI0, Own.e_rU, Own.e_CMul, Own.e_CDiv, Own.e_CPow, Own.e_rEq, Own.e_rNe, Own.e_scal_int, Own.e_scal_str, Own.e_scal_bl, Own.e_ifS, Own.e_test, Own.e_tB, Own.e_ret, Own.e_retN, Own.e_next, Own.e_brk, Own.e_cnt, Own.e_cons, Own.e_nil, Own.e_lst, Own.e_tup, Own.e_drop, Own.e_and, Own.e_or, Own.e_not, Own.e_andV, Own.e_orV, Own.e_notV, Own.e_if, Own.e_chain, Own.e_CB, Own.e_call, Own.e_rIxL, Own.e_rIxT, Own.e_rIxK, Own.e_rIxKT, Own.e_rSlK, Own.e_rLenK, Own.e_rListK, Own.e_rTupleK, Own.e_rSumK, Own.e_rNeK, Own.e_rEqK, Own.e_rNeKT, Own.e_rEqKT, Own.e_rIsiK, Own.tyK_int, Own.tyK_bl, Own.tyK_str, Own.tyK_non, Own.tyK_ref, Own.tyO_lst, Own.tyO_tup, Own.kit1, Own.kit2, Own.kit3, Own.kit4, Own.kit5, Own.kit6, Own.kit7, Own.kit8, Own.kit9, Own.hlst_inj, Own.htup_inj, Own.vty_inj, Own.ivs_inj, Own.bz_inj, Own.ivs_len, Own.bz_len, Own.ivs_app, Own.ivs_set, Own.ivs_bset, Own.bz_app, Own.ivs_snoc, Own.bz_snoc, Own.atI_ints, Own.atI_bz, Own.isLst_some, Own.ty_lst, L2.upd_same, L2.upd_upd, Own.b2_xor, Own.b2_mod2, Own.b2_mod3, Own.b2_mod4, Own.b2_flip, Option.map_some, Option.isSome_some, ne_eq, eq_self, not_false_eq_true, not_true_eq_false, String.reduceEq, Own.e_BM, Own.e_BM0, Own.e_rAppend, Own.e_rCat, Own.e_rRep, Own.e_sl, Own.e_noPart, Own.e_part, Own.e_rSlL, Own.e_gSub, Own.e_rSetL, Own.e_bits, Own.e_yes, Own.e_gTup, Own.e_gNil, Own.e_gCons, Own.e_aug, Own.e_ipI, Own.e_for, Own.e_lc, Own.e_iList, Own.e_iTup, Own.e_iRng1, Own.e_iRng2, Own.e_iEnum, Own.e_iZip, L2.start, L2.wipe, List.map_cons, List.map_nil, List.replicate_succ, List.replicate_zero, List.length_cons, List.length_nil, Nat.reduceAdd, Nat.reduceSub, Nat.zero_add, List.getElem?_cons_zero, List.getElem?_cons_succ, List.set_cons_zero, List.set_cons_succ, Option.some.injEq, L2.V.int.injEq, L2.V.bl.injEq, L2.V.str.injEq, L2.V.ref.injEq, List.cons.injEq, List.cons_append, List.nil_append, List.append_nil, exists_eq_left', exists_eq_left, exists_and_left, exists_and_right, exists_eq, and_true, true_and, reduceCtorEq, false_and, and_false, exists_false, or_false, false_or, true_or, or_true, decide_eq_true_eq, Bool.not_true, Bool.not_false, Bool.not_eq_true', Bool.not_eq_false', decide_eq_false_iff_not, ite_not, if_true, if_false, ite_true, ite_false, Bool.false_eq_true, if_pos trivial, decide_true, decide_false, PySem.sizeLine_eq, eq_self, Int.reduceNeg, Int.reducePow, Int.reduceLT, Int.reduceLE, Int.reduceToNat, Nat.reduceLeDiff, Int.reduceSub, Int.reduceAdd, Int.reduceMul, Int.reduceDiv, Int.reduceMod, Int.reduceEq, Nat.reduceMul, Nat.reduceEqDiff, Own.e_raiseO, Own.e_callS, Own.e_what, Own.hxd_inj])
          exact at_is ⟨_, _, _, _, _, _, _, _, _, _, _, _, _, _, _, _, rfl, (g5.trans s35).trans r6⟩
        · intro nx key
          (try simp only [Own.e_seq, Own.e_cxK, Own.e_wishK, Own.e_noxK, Own.e_asg, Own.e_gName, Own.e_var, Own.e_C, Own.e_op, Own.e_un, Own.e_rI, Own.e_rI0, Own.e_rU, Own.e_CMul, Own.e_CDiv, Own.e_CPow, Own.e_rEq, Own.e_rNe, Own.e_scal_int, Own.e_scal_str, Own.e_scal_bl, Own.e_ifS, Own.e_test, Own.e_tB, Own.e_ret, Own.e_retN, Own.e_next, Own.e_brk, Own.e_cnt, Own.e_cons, Own.e_nil, Own.e_lst, Own.e_tup, Own.e_drop, Own.e_and, Own.e_or, Own.e_not, Own.e_andV, Own.e_orV, Own.e_notV, Own.e_if, Own.e_chain, Own.e_CB, Own.e_call, Own.e_rIxL, Own.e_rIxT, Own.e_rIxK, Own.e_rIxKT, Own.e_rSlK, Own.e_rLenK, Own.e_rListK, Own.e_rTupleK, Own.e_rSumK, Own.e_rNeK, Own.e_rEqK, Own.e_rNeKT, Own.e_rEqKT, Own.e_rIsiK, Own.tyK_int, Own.tyK_bl, Own.tyK_str, Own.tyK_non, Own.tyK_ref, Own.tyO_lst, Own.tyO_tup, Own.kit1, Own.kit2, Own.kit3, Own.kit4, Own.kit5, Own.kit6, Own.kit7, Own.kit8, Own.kit9, Own.hlst_inj, Own.htup_inj, Own.vty_inj, Own.ivs_inj, Own.bz_inj, Own.ivs_len, Own.bz_len, Own.ivs_app, Own.ivs_set, Own.ivs_bset, Own.bz_app, Own.ivs_snoc, Own.bz_snoc, Own.atI_ints, Own.atI_bz, Own.isLst_some, Own.ty_lst, L2.upd_same, L2.upd_upd, Own.b2_xor, Own.b2_mod2, Own.b2_mod3, Own.b2_mod4, Own.b2_flip, Option.map_some, Option.isSome_some, ne_eq, eq_self, not_false_eq_true, not_true_eq_false, String.reduceEq, Own.e_BM, Own.e_BM0, Own.e_rAppend, Own.e_rCat, Own.e_rRep, Own.e_sl, Own.e_noPart, Own.e_part, Own.e_rSlL, Own.e_gSub, Own.e_rSetL, Own.e_bits, Own.e_yes, Own.e_gTup, Own.e_gNil, Own.e_gCons, Own.e_aug, Own.e_ipI, Own.e_for, Own.e_lc, Own.e_iList, Own.e_iTup, Own.e_iRng1, Own.e_iRng2, Own.e_iEnum, Own.e_iZip, L2.start, L2.wipe, List.map_cons, List.map_nil, List.replicate_succ, List.replicate_zero, List.length_cons, List.length_nil, Nat.reduceAdd, Nat.reduceSub, Nat.zero_add, List.getElem?_cons_zero, List.getElem?_cons_succ, List.set_cons_zero, List.set_cons_succ, Option.some.injEq, L2.V.int.injEq, L2.V.bl.injEq, L2.V.str.injEq, L2.V.ref.injEq, List.cons.injEq, List.cons_append, List.nil_append, List.append_nil, exists_eq_left', exists_eq_left, exists_and_left, exists_and_right, exists_eq, and_true, true_and, reduceCtorEq, false_and, and_false, exists_false, or_false, false_or, true_or, or_true, decide_eq_true_eq, Bool.not_true, Bool.not_false, Bool.not_eq_true', Bool.not_eq_false', decide_eq_false_iff_not, ite_not, if_true, if_false, ite_true, ite_false, Bool.false_eq_true, if_pos trivial, decide_true, decide_false, PySem.sizeLine_eq, eq_self, Int.reduceNeg, Int.reducePow, Int.reduceLT, Int.reduceLE, Int.reduceToNat, Nat.reduceLeDiff, Int.reduceSub, Int.reduceAdd, Int.reduceMul, Int.reduceDiv, Int.reduceMod, Int.reduceEq, Nat.reduceMul, Nat.reduceEqDiff, Own.e_raiseO, Own.e_callS, Own.e_what, Own.hxd_inj, h6])
          refine ite2 (fun hm => ?_) (fun _ => key _ _ ⟨u2, p7, _, rfl, smk, h6, h7, h8, by omega⟩)
          refine new_of fun q7 G n7 s7 e7 => ?_
          (try simp only [Own.e_seq, Own.e_cxK, Own.e_wishK, Own.e_noxK, Own.e_asg, Own.e_gName, Own.e_var, Own.e_C, Own.e_op, Own.e_un, Own.e_rI, Own.e_rI0, Own.e_rU, Own.e_CMul, Own.e_CDiv, Own.e_CPow, Own.e_rEq, Own.e_rNe, Own.e_scal_int, Own.e_scal_str, Own.e_scal_bl, Own.e_ifS, Own.e_test, Own.e_tB, Own.e_ret, Own.e_retN, Own.e_next, Own.e_brk, Own.e_cnt, Own.e_cons, Own.e_nil, Own.e_lst, Own.e_tup, Own.e_drop, Own.e_and, Own.e_or, Own.e_not, Own.e_andV, Own.e_orV, Own.e_notV, Own.e_if, Own.e_chain, Own.e_CB, Own.e_call, Own.e_rIxL, Own.e_rIxT, Own.e_rIxK, Own.e_rIxKT, Own.e_rSlK, Own.e_rLenK, Own.e_rListK, Own.e_rTupleK, Own.e_rSumK, Own.e_rNeK, Own.e_rEqK, Own.e_rNeKT, Own.e_rEqKT, Own.e_rIsiK, Own.tyK_int, Own.tyK_bl, Own.tyK_str, Own.tyK_non, Own.tyK_ref, Own.tyO_lst, Own.tyO_tup, Own.kit1, Own.kit2, Own.kit3, Own.kit4, Own.kit5, Own.kit6, Own.kit7, Own.kit8, Own.kit9, Own.hlst_inj, Own.htup_inj, Own.vty_inj, Own.ivs_inj, Own.bz_inj, Own.ivs_len, Own.bz_len, Own.ivs_app, Own.ivs_set, Own.ivs_bset, Own.bz_app, Own.ivs_snoc, Own.bz_snoc, Own.atI_ints, Own.atI_bz, Own.isLst_some, Own.ty_lst, L2.upd_same, L2.upd_upd, Own.b2_xor, Own.b2_mod2, Own.b2_mod3, Own.b2_mod4, Own.b2_flip, Option.map_some, Option.isSome_some, ne_eq, eq_self, not_false_eq_true, not_true_eq_false, String.reduceEq, Own.e_BM, Own.e_BM0, Own.e_rAppend, Own.e_rCat, Own.e_rRep, Own.e_sl, Own.e_noPart, Own.e_part, Own.e_rSlL, Own.e_gSub, Own.e_rSetL, Own.e_bits, Own.e_yes, Own.e_gTup, Own.e_gNil, Own.e_gCons, Own.e_aug, Own.e_ipI, Own.e_for, Own.e_lc, Own.e_iList, Own.e_iTup, Own.e_iRng1, Own.e_iRng2, Own.e_iEnum, Own.e_iZip, L2.start, L2.wipe, List.map_cons, List.map_nil, List.replicate_succ, List.replicate_zero, List.length_cons, List.length_nil, Nat.reduceAdd, Nat.reduceSub, Nat.zero_add, List.getElem?_cons_zero, List.getElem?_cons_succ, List.set_cons_zero, List.set_cons_succ, Option.some.injEq, L2.V.int.injEq, L2.V.bl.injEq, L2.V.str.injEq, L2.V.ref.injEq, List.cons.injEq, List.cons_append, List.nil_append, List.append_nil, exists_eq_left', exists_eq_left, exists_and_left, exists_and_right, exists_eq, and_true, true_and, reduceCtorEq, false_and, and_false, exists_false, or_false, false_or, true_or, or_true, decide_eq_true_eq, Bool.not_true, Bool.not_false, Bool.not_eq_true', Bool.not_eq_false', decide_eq_false_iff_not, ite_not, if_true, if_false, ite_true, ite_false, Bool.false_eq_true, if_pos trivial, decide_true, decide_false, PySem.sizeLine_eq, eq_self, Int.reduceNeg, Int.reducePow, Int.reduceLT, Int.reduceLE, Int.reduceToNat, Nat.reduceLeDiff, Int.reduceSub, Int.reduceAdd, Int.reduceMul, Int.reduceDiv, Int.reduceMod, Int.reduceEq, Nat.reduceMul, Nat.reduceEqDiff, Own.e_raiseO, Own.e_callS, Own.e_what, Own.hxd_inj])
          have nq8 : p8 ≠ q7 := ne_of_none h8 n7
          have nq6 : p6 ≠ q7 := ne_of_none h6 n7
          have fq7 : H4 q7 = none := smk.free n7
          refine ⟨⟨_, .of (s7 _ _ h8)⟩, loop_it walk_list (fun k σ H' => ∃ y9 : Option V, σ = [some (.ref a), some (.int i), some (.int z), some (.int v), some (.int (v % 61)), some (.ref p6), some (.ref q7), some (.ref p8), y8, y9, y10, y11, y12, y13, y14, y15, y16] ∧ Same H4 H' ∧ H' p6 = some (.lst (ivs (bz u))) ∧ H' q7 = some (.lst (ivs (bz (flips u (ps.take k))))) ∧ H' p8 = some (.lst (ivs ps))) ⟨y9, rfl, smk.trans s7, s7 _ _ h6, e7, s7 _ _ h8⟩ (fun k σ H' _ ⟨_, _, _, _, _, h⟩ => .of h) ?_ ?_⟩
          · rintro k x σ Hj H'' hi ⟨y9, rfl, sm, f1, f2, f3⟩ ⟨rfl, hx⟩
            obtain ⟨zz, hz, rfl⟩ := ivs_at hx
            have hm := hps' zz (List.mem_of_getElem? hz)
            have hl : zz < (flips u (ps.take k)).length := by rw [flips_len]; exact hm.2
            have hl' : zz.toNat < (flips u (ps.take k)).length := by omega
            have g : (flips u (ps.take k))[zz.toNat]? = some ((flips u (ps.take k))[zz.toNat]'hl') := List.getElem?_eq_getElem hl'
            have gd := getD_of g
            have ax : atI (flips u (ps.take k)) zz = some ((flips u (ps.take k))[zz.toNat]'hl') := by rw [atI_at hm.1]; exact g
            have ix : ixN (flips u (ps.take k)).length zz = some zz.toNat := ixN_in hm.1 hl
            generalize (flips u (ps.take k))[zz.toNat]'hl' = bv at g gd ax
            (try simp only [Own.e_seq, Own.e_cxK, Own.e_wishK, Own.e_noxK, Own.e_asg, Own.e_gName, Own.e_var, Own.e_C, Own.e_op, Own.e_un, Own.e_rI, Own.e_rI0, Own.e_rU, Own.e_CMul, Own.e_CDiv, Own.e_CPow, Own.e_rEq, Own.e_rNe, Own.e_scal_int, Own.e_scal_str, Own.e_scal_bl, Own.e_ifS, Own.e_test, Own.e_tB, Own.e_ret, Own.e_retN, Own.e_next, Own.e_brk, Own.e_cnt, Own.e_cons, Own.e_nil, Own.e_lst, Own.e_tup, Own.e_drop, Own.e_and, Own.e_or, Own.e_not, Own.e_andV, Own.e_orV, Own.e_notV, Own.e_if, Own.e_chain, Own.e_CB, Own.e_call, Own.e_rIxL, Own.e_rIxT, Own.e_rIxK, Own.e_rIxKT, Own.e_rSlK, Own.e_rLenK, Own.e_rListK, Own.e_rTupleK, Own.e_rSumK, Own.e_rNeK, Own.e_rEqK, Own.e_rNeKT, Own.e_rEqKT, Own.e_rIsiK, Own.tyK_int, Own.tyK_bl, Own.tyK_str, Own.tyK_non, Own.tyK_ref, Own.tyO_lst, Own.tyO_tup, Own.kit1, Own.kit2, Own.kit3, Own.kit4, Own.kit5, Own.kit6, Own.kit7, Own.kit8, Own.kit9, Own.hlst_inj, Own.htup_inj, Own.vty_inj, Own.ivs_inj, Own.bz_inj, Own.ivs_len, Own.bz_len, Own.ivs_app, Own.ivs_set, Own.ivs_bset, Own.bz_app, Own.ivs_snoc, Own.bz_snoc, Own.atI_ints, Own.atI_bz, Own.isLst_some, Own.ty_lst, L2.upd_same, L2.upd_upd, Own.b2_xor, Own.b2_mod2, Own.b2_mod3, Own.b2_mod4, Own.b2_flip, Option.map_some, Option.isSome_some, ne_eq, eq_self, not_false_eq_true, not_true_eq_false, String.reduceEq, Own.e_BM, Own.e_BM0, Own.e_rAppend, Own.e_rCat, Own.e_rRep, Own.e_sl, Own.e_noPart, Own.e_part, Own.e_rSlL, Own.e_gSub, Own.e_rSetL, Own.e_bits, Own.e_yes, Own.e_gTup, Own.e_gNil, Own.e_gCons, Own.e_aug, Own.e_ipI, Own.e_for, Own.e_lc, Own.e_iList, Own.e_iTup, Own.e_iRng1, Own.e_iRng2, Own.e_iEnum, Own.e_iZip, L2.start, L2.wipe, List.map_cons, List.map_nil, List.replicate_succ, List.replicate_zero, List.length_cons, List.length_nil, Nat.reduceAdd, Nat.reduceSub, Nat.zero_add, List.getElem?_cons_zero, List.getElem?_cons_succ, List.set_cons_zero, List.set_cons_succ, Option.some.injEq, L2.V.int.injEq, L2.V.bl.injEq, L2.V.str.injEq, L2.V.ref.injEq, List.cons.injEq, List.cons_append, List.nil_append, List.append_nil, exists_eq_left', exists_eq_left, exists_and_left, exists_and_right, exists_eq, and_true, true_and, reduceCtorEq, false_and, and_false, exists_false, or_false, false_or, true_or, or_true, decide_eq_true_eq, Bool.not_true, Bool.not_false, Bool.not_eq_true', Bool.not_eq_false', decide_eq_false_iff_not, ite_not, if_true, if_false, ite_true, ite_false, Bool.false_eq_true, if_pos trivial, decide_true, decide_false, PySem.sizeLine_eq, eq_self, Int.reduceNeg, Int.reducePow, Int.reduceLT, Int.reduceLE, Int.reduceToNat, Nat.reduceLeDiff, Int.reduceSub, Int.reduceAdd, Int.reduceMul, Int.reduceDiv, Int.reduceMod, Int.reduceEq, Nat.reduceMul, Nat.reduceEqDiff, Own.e_raiseO, Own.e_callS, Own.e_what, Own.hxd_inj, f2, ax, ix])
            exact at_is ⟨_, rfl, same_upd_of sm fq7, by rw [upd_ne nq6]; exact f1, by rw [upd_same, flips_take hz]; unfold flip1; rw [gd], by rw [upd_ne nq8]; exact f3⟩
          rintro σ Hj ⟨y9, rfl, sm, f1, f2, f3⟩
          rw [ivs_len, List.take_length] at f2
          exact key _ _ ⟨flips u ps, q7, y9, rfl, sm, f1, f2, f3, flips_len u ps⟩
    · rintro σ H' ⟨y1, y2, y3, y4, y5, y6, y7, y8, y9, y10, y11, y12, y13, y14, y15, y16, rfl, sm⟩
      (try simp only [Own.e_seq, Own.e_cxK, Own.e_wishK, Own.e_noxK, Own.e_asg, Own.e_gName, Own.e_var, Own.e_C, Own.e_op, Own.e_un, Own.e_rI, Own.e_rI0, Own.e_rU, Own.e_CMul, Own.e_CDiv, Own.e_CPow, Own.e_rEq, Own.e_rNe, Own.e_scal_int, Own.e_scal_str, Own.e_scal_bl, Own.e_ifS, Own.e_test, Own.e_tB, Own.e_ret, Own.e_retN, Own.e_next, Own.e_brk, Own.e_cnt, Own.e_cons, Own.e_nil, Own.e_lst, Own.e_tup, Own.e_drop, Own.e_and, Own.e_or, Own.e_not, Own.e_andV, Own.e_orV, Own.e_notV, Own.e_if, Own.e_chain, Own.e_CB, Own.e_call, Own.e_rIxL, Own.e_rIxT, Own.e_rIxK, Own.e_rIxKT, Own.e_rSlK, Own.e_rLenK, Own.e_rListK, Own.e_rTupleK, Own.e_rSumK, Own.e_rNeK, Own.e_rEqK, Own.e_rNeKT, Own.e_rEqKT, Own.e_rIsiK, Own.tyK_int, Own.tyK_bl, Own.tyK_str, Own.tyK_non, Own.tyK_ref, Own.tyO_lst, Own.tyO_tup, Own.kit1, Own.kit2, Own.kit3, Own.kit4, Own.kit5, Own.kit6, Own.kit7, Own.kit8, Own.kit9, Own.hlst_inj, Own.htup_inj, Own.vty_inj, Own.ivs_inj, Own.bz_inj, Own.ivs_len, Own.bz_len, Own.ivs_app, Own.ivs_set, Own.ivs_bset, Own.bz_app, Own.ivs_snoc, Own.bz_snoc, Own.atI_ints, Own.atI_bz, Own.isLst_some, Own.ty_lst, L2.upd_same, L2.upd_upd, Own.b2_xor, Own.b2_mod2, Own.b2_mod3, Own.b2_mod4, Own.b2_flip, Option.map_some, Option.isSome_some, ne_eq, eq_self, not_false_eq_true, not_true_eq_false, String.reduceEq, Own.e_BM, Own.e_BM0, Own.e_rAppend, Own.e_rCat, Own.e_rRep, Own.e_sl, Own.e_noPart, Own.e_part, Own.e_rSlL, Own.e_gSub, Own.e_rSetL, Own.e_bits, Own.e_yes, Own.e_gTup, Own.e_gNil, Own.e_gCons, Own.e_aug, Own.e_ipI, Own.e_for, Own.e_lc, Own.e_iList, Own.e_iTup, Own.e_iRng1, Own.e_iRng2, Own.e_iEnum, Own.e_iZip, L2.start, L2.wipe, List.map_cons, List.map_nil, List.replicate_succ, List.replicate_zero, List.length_cons, List.length_nil, Nat.reduceAdd, Nat.reduceSub, Nat.zero_add, List.getElem?_cons_zero, List.getElem?_cons_succ, List.set_cons_zero, List.set_cons_succ, Option.some.injEq, L2.V.int.injEq, L2.V.bl.injEq, L2.V.str.injEq, L2.V.ref.injEq, List.cons.injEq, List.cons_append, List.nil_append, List.append_nil, exists_eq_left', exists_eq_left, exists_and_left, exists_and_right, exists_eq, and_true, true_and, reduceCtorEq, false_and, and_false, exists_false, or_false, false_or, true_or, or_true, decide_eq_true_eq, Bool.not_true, Bool.not_false, Bool.not_eq_true', Bool.not_eq_false', decide_eq_false_iff_not, ite_not, if_true, if_false, ite_true, ite_false, Bool.false_eq_true, if_pos trivial, decide_true, decide_false, PySem.sizeLine_eq, eq_self, Int.reduceNeg, Int.reducePow, Int.reduceLT, Int.reduceLE, Int.reduceToNat, Nat.reduceLeDiff, Int.reduceSub, Int.reduceAdd, Int.reduceMul, Int.reduceDiv, Int.reduceMod, Int.reduceEq, Nat.reduceMul, Nat.reduceEqDiff, Own.e_raiseO, Own.e_callS, Own.e_what, Own.hxd_inj])
      exact q H'
end
theorem all_mk {l : PySem.W.OpenLaw} {w : World} {K : PySem.W.Frag} {h : Heap} {mg : Str → Option Value} {fa f1 f2 f3 f4 f5 f6 : Addr} (X : K.In h) (G : h.Ns mainGlobals mg) (hfa : mg "law" = some (.ref fa))
    {od1 an1 od2 an2 od3 an3 od4 an4 od5 an5 od6 an6 : Option Addr} {sl1 sl2 sl3 sl4 sl5 sl6 : Array (Option Value)} {oc1 kV1 dc1 pm1 cd1 ct1 oc2 kV2 dc2 pm2 cd2 ct2 oc3 kV3 dc3 pm3 cd3 ct3 oc4 kV4 dc4 pm4 cd4 ct4 oc5 kV5 dc5 pm5 cd5 ct5 oc6 kV6 dc6 pm6 cd6 ct6 : Value}  {C_BadBits : Addr}
    (a1 : PySem.W.nsIn K mainGlobals "flipped" = some (some (.ref f1)))
    (l1 : K.lookup f1 = some ⟨oc1, od1, .func (PySem.W.fnOf "flipped" "flipped" (defArgs s_flipped) (defBody s_flipped) (defScope s_flipped) .none kV1 dc1 pm1 an1 cd1 ct1), sl1⟩)
    (c1 : PySem.W.codeIn K cd1 "flipped" = true)
    (k1 : PySem.W.keepIn K (.ref f1) = true)
    (a2 : PySem.W.nsIn K mainGlobals "distance" = some (some (.ref f2)))
    (l2 : K.lookup f2 = some ⟨oc2, od2, .func (PySem.W.fnOf "distance" "distance" (defArgs s_distance) (defBody s_distance) (defScope s_distance) .none kV2 dc2 pm2 an2 cd2 ct2), sl2⟩)
    (c2 : PySem.W.codeIn K cd2 "distance" = true)
    (k2 : PySem.W.keepIn K (.ref f2) = true)
    (a3 : PySem.W.nsIn K mainGlobals "_law_mixed" = some (some (.ref f3)))
    (l3 : K.lookup f3 = some ⟨oc3, od3, .func (PySem.W.fnOf "_law_mixed" "_law_mixed" (defArgs s__law_mixed) (defBody s__law_mixed) (defScope s__law_mixed) .none kV3 dc3 pm3 an3 cd3 ct3), sl3⟩)
    (c3 : PySem.W.codeIn K cd3 "_law_mixed" = true)
    (k3 : PySem.W.keepIn K (.ref f3) = true)
    (a4 : PySem.W.nsIn K mainGlobals "_law_bits" = some (some (.ref f4)))
    (l4 : K.lookup f4 = some ⟨oc4, od4, .func (PySem.W.fnOf "_law_bits" "_law_bits" (defArgs s__law_bits) (defBody s__law_bits) (defScope s__law_bits) .none kV4 dc4 pm4 an4 cd4 ct4), sl4⟩)
    (c4 : PySem.W.codeIn K cd4 "_law_bits" = true)
    (k4 : PySem.W.keepIn K (.ref f4) = true)
    (a5 : PySem.W.nsIn K mainGlobals "_law_refused" = some (some (.ref f5)))
    (l5 : K.lookup f5 = some ⟨oc5, od5, .func (PySem.W.fnOf "_law_refused" "_law_refused" (defArgs s__law_refused) (defBody s__law_refused) (defScope s__law_refused) .none kV5 dc5 pm5 an5 cd5 ct5), sl5⟩)
    (c5 : PySem.W.codeIn K cd5 "_law_refused" = true)
    (k5 : PySem.W.keepIn K (.ref f5) = true)
    (a6 : PySem.W.nsIn K mainGlobals "law" = some (some (.ref f6)))
    (l6 : K.lookup f6 = some ⟨oc6, od6, .func (PySem.W.fnOf "law" "law" (defArgs s_law) (defBody s_law) (defScope s_law) .none kV6 dc6 pm6 an6 cd6 ct6), sl6⟩)
    (c6 : PySem.W.codeIn K cd6 "law" = true)
    (k6 : PySem.W.keepIn K (.ref f6) = true)
    (z0 : PySem.W.nsIn K mainGlobals "list" = some none)
    (z1 : PySem.W.nsIn K mainGlobals "len" = some none)
    (z2 : PySem.W.nsIn K mainGlobals "sum" = some none)
    (z3 : PySem.W.nsIn K mainGlobals "zip" = some none)
    (z4 : PySem.W.nsIn K mainGlobals "int" = some none)
    (z5 : PySem.W.nsIn K mainGlobals "range" = some none)
    (z6 : PySem.W.nsIn K mainGlobals "enumerate" = some none)
    (z7 : PySem.W.nsIn K mainGlobals "isinstance" = some none)
    (z8 : PySem.W.nsIn K mainGlobals "bool" = some none)
    (aC_BadBits : PySem.W.nsIn K mainGlobals "BadBits" = some (some (.ref C_BadBits)))
    (BadBits_xP : PySem.W.excIn K C_BadBits [.type "ValueError", .type "Exception", .type "BaseException", .type "object"] "ValueError.__new__" = true)
    (BadBits_kP : PySem.W.keepIn K (.ref C_BadBits) = true)
    (BadBits_bP : PySem.W.subIn K (.ref C_BadBits) (.type "BaseException") = some true)
    (BadBits_tP : PySem.W.typeIn K (.ref C_BadBits) = some (.type "type"))
    (BadBits_iP : PySem.W.isClsIn K C_BadBits = true)
    (BadBits_sP : PySem.W.subIn K (.ref C_BadBits) (.ref C_BadBits) = some true) :
    ∃ fd : FuncData, (∀ (s : Shared) (v : Value), BindsTo s fd ⟨[v], []⟩ [("script", v)]) ∧ ∀ base : Heap, K.In base → base.Ns mainGlobals mg → FnOk l.prog w K mg base CX0 3 fa fd ["script"] (sp_law K) := by
  have e := hfa.symm.trans (PySem.W.mg_of X G a6)
  cases e
  have B : BI mg := ⟨PySem.W.mg_none_of X G z0, PySem.W.mg_none_of X G z1, PySem.W.mg_none_of X G z2, PySem.W.mg_none_of X G z3, PySem.W.mg_none_of X G z4, PySem.W.mg_none_of X G z5, PySem.W.mg_none_of X G z6, PySem.W.mg_none_of X G z7, PySem.W.mg_none_of X G z8⟩
  have X_BadBits : OwnErr K mg "BadBits" C_BadBits := ⟨PySem.W.mg_of X G aC_BadBits, BadBits_xP, BadBits_kP, BadBits_bP, BadBits_tP, exm_self BadBits_bP BadBits_iP BadBits_tP BadBits_sP⟩
  refine ⟨PySem.W.fnOf "law" "law" (defArgs s_law) (defBody s_law) (defScope s_law) .none kV6 dc6 pm6 an6 cd6 ct6, fun s v => .of_eq rfl, fun base _ _ => ?_⟩
  have F1 := fun_mk (st := s_flipped) l1 c1 k1
  have C1 : Cal l.prog w K mg base CX0 1 "flipped" f1 _ ["bits", "places"] (sp_flipped K) := ⟨ok_flipped F1 B   , F1.binds (ps := ["bits", "places"]) fun _ _ _ _ _ _ us hl => match us, hl with | [_, _], _ => rfl, PySem.W.mg_of X G a1, k1⟩
  have F2 := fun_mk (st := s_distance) l2 c2 k2
  have C2 : Cal l.prog w K mg base (L2.CX l.prog w) 1 "distance" f2 _ ["first", "second"] (sp_distance K C_BadBits) := ⟨ok_distance F2 B  X_BadBits , F2.binds (ps := ["first", "second"]) fun _ _ _ _ _ _ us hl => match us, hl with | [_, _], _ => rfl, PySem.W.mg_of X G a2, k2⟩
  have F3 := fun_mk (st := s__law_mixed) l3 c3 k3
  have C3 : Cal l.prog w K mg base CX0 1 "_law_mixed" f3 _ ["cell", "turn"] (sp__law_mixed K) := ⟨ok__law_mixed F3 B   , F3.binds (ps := ["cell", "turn"]) fun _ _ _ _ _ _ us hl => match us, hl with | [_, _], _ => rfl, PySem.W.mg_of X G a3, k3⟩
  have F4 := fun_mk (st := s__law_bits) l4 c4 k4
  have C4 : Cal l.prog w K mg base CX0 1 "_law_bits" f4 _ ["value", "many"] (sp__law_bits K) := ⟨ok__law_bits F4 B   , F4.binds (ps := ["value", "many"]) fun _ _ _ _ _ _ us hl => match us, hl with | [_, _], _ => rfl, PySem.W.mg_of X G a4, k4⟩
  have F5 := fun_mk (st := s__law_refused) l5 c5 k5
  have C5 : Cal l.prog w K mg base CX0 2 "_law_refused" f5 _ ["first", "second"] (sp__law_refused K C_BadBits) := ⟨ok__law_refused F5 B  X_BadBits C2, F5.binds (ps := ["first", "second"]) fun _ _ _ _ _ _ us hl => match us, hl with | [_, _], _ => rfl, PySem.W.mg_of X G a5, k5⟩
  have F6 := fun_mk (st := s_law) l6 c6 k6
  exact ok_law F6 B   C3 C4 C2 C1 C5
end Own
open PySem PySem.W PyProof.Rows
set_option pp.maxSteps 300 in
set_option maxHeartbeats 0 in
theorem PySem.Challenge.cw_mobileair_k02_distance_and_flips_holds : PySem.Challenge.rw_mobileair_k02_distance_and_flips.Holds := by
  w_on; o_law; k_head; (case hw => w_witness2)
  k_fill
  refine L2.walk_of (l := PySem.Challenge.rw_mobileair_k02_distance_and_flips) (n := 63) (k := 3) (x := "script") (CX := fun _ => L2.CX0) (sp := fun w => Own.sp_law _) rfl (by decide) rfl ⟨rfl, by decide, by decide⟩ (fun w h Y => PySem.W.kIn_of Y) ?F (fun _ _ a ns hl _ hS => ⟨a, ns, rfl, hS, hl, fun _ => rfl⟩) (fun _ _ _ _ _ h => h)
  case F =>
    intro w mg fa h KX G hmg
    refine' Own.all_mk KX G hmg ?a1 ?l1 ?c1 ?k1 ?a2 ?l2 ?c2 ?k2 ?a3 ?l3 ?c3 ?k3 ?a4 ?l4 ?c4 ?k4 ?a5 ?l5 ?c5 ?k5 ?a6 ?l6 ?c6 ?k6 ?z0 ?z1 ?z2 ?z3 ?z4 ?z5 ?z6 ?z7 ?z8 ?aC_BadBits ?BadBits_xP ?BadBits_kP ?BadBits_bP ?BadBits_tP ?BadBits_iP ?BadBits_sP
    (case a1 => k_is); (case l1 => k_is); (case c1 => k_is); (case k1 => k_is); (case a2 => k_is); (case l2 => k_is); (case c2 => k_is); (case k2 => k_is); (case a3 => k_is); (case l3 => k_is); (case c3 => k_is); (case k3 => k_is); (case a4 => k_is); (case l4 => k_is); (case c4 => k_is); (case k4 => k_is); (case a5 => k_is); (case l5 => k_is); (case c5 => k_is); (case k5 => k_is); (case a6 => k_is); (case l6 => k_is); (case c6 => k_is); (case k6 => k_is); (case z0 => k_is); (case z1 => k_is); (case z2 => k_is); (case z3 => k_is); (case z4 => k_is); (case z5 => k_is); (case z6 => k_is); (case z7 => k_is); (case z8 => k_is); (case aC_BadBits => k_is); (case BadBits_xP => first | k_exc | k_is); (case BadBits_kP => k_is); (case BadBits_bP => k_is); (case BadBits_tP => k_is); (case BadBits_iP => k_is); (case BadBits_sP => first | rfl | k_is)
