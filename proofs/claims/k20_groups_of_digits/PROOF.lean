import PyProof.Rows.All
import Wide.All
import OpenK.AllK
import Wide.FinOn
import HandS.ForMost
import HandS.ForExc
import HandS.IsInst
import HandS.WideBits
import HandS.Walk
import HandS.EndBits
import HandS.Text
import PySem.Challenge.RW_mobileair_k20_groups_of_digits
set_option Elab.async false
set_option linter.all false
set_option maxRecDepth 100000
set_option maxHeartbeats 4000000
namespace Own
open PySem PySem.Spec PyProof.Rows L2

/-- a def of the text that others call: its promise, how it binds, where its name stands -/
structure Cal (P : Program) (w : World) (K : PySem.W.Frag) (mg : Str → Option Value) (base : Heap) (CX : CXT) (k : Nat) (x : Str) (f : Addr) (fd : FuncData) (ps : List Str) (sp : Sp) : Prop where
  ok : FnOk P w K mg base CX k f fd ps sp
  b : Binds K fd ps []
  g : mg x = some (.ref f)
  kp : PySem.W.keepIn K (.ref f) = true

theorem same_upd {H : Hp} {p : Addr} {o : HO} (h : H p = none) : Same H (upd H p o) := fun b x e => by
  rw [upd_ne (ne_of_none e h)]
  exact e
theorem same_upd_of {H0 H : Hp} {p : Addr} {o : HO} (h : Same H0 H) (hp : H0 p = none) : Same H0 (upd H p o) := fun b x e => by
  rw [upd_ne (ne_of_none e hp)]
  exact h b x e
theorem upd_get_ne {H : Hp} {p q : Addr} {o u : HO} (hp : H p = none) (hq : H q = some u) : upd H p o q = some u := by
  rw [upd_ne (ne_of_none hq hp)]
  exact hq

/-- a bit as an int, as a value -/
def b2 (b : Bool) : Int := match b with
  | true => 1
  | false => 0
def vb (b : Bool) : V := .int (b2 b)
theorem b2_t : b2 true = 1 := rfl
theorem b2_f : b2 false = 0 := rfl
theorem b2_01 (b : Bool) : b2 b = 0 ∨ b2 b = 1 := by cases b <;> simp [b2]
theorem b2_nn (b : Bool) : 0 ≤ b2 b := by cases b <;> simp [b2]
theorem b2_le (b : Bool) : b2 b ≤ 1 := by cases b <;> simp [b2]
theorem b2_inj {a b : Bool} (h : b2 a = b2 b) : a = b := by cases a <;> cases b <;> simp [b2] at h <;> rfl
theorem b2_xor (a b : Bool) : Builtin.bitXor (b2 a) (b2 b) = b2 (a ^^ b) := by cases a <;> cases b <;> decide +kernel
theorem b2_mod2 (a b : Bool) : (b2 a + b2 b) % 2 = b2 (a ^^ b) := by cases a <;> cases b <;> decide +kernel
theorem b2_mod3 (a b c : Bool) : (b2 a + b2 b + b2 c) % 2 = b2 (a ^^ b ^^ c) := by cases a <;> cases b <;> cases c <;> decide +kernel
theorem b2_mod4 (a b c d : Bool) : (b2 a + b2 b + b2 c + b2 d) % 2 = b2 (a ^^ b ^^ c ^^ d) := by cases a <;> cases b <;> cases c <;> cases d <;> decide +kernel
theorem b2_flip (a : Bool) : 1 - b2 a = b2 (!a) := by cases a <;> decide +kernel
theorem b2_odd (n : Int) : n % 2 = b2 (decide (n % 2 = 1)) := by
  by_cases h : n % 2 = 1
  · rw [decide_eq_true h, h]; rfl
  · have h2 : n % 2 = 0 := by omega
    rw [h2]; rfl

/-- data of lists of ints, of bits -/
theorem dp_ints {K : PySem.W.Frag} {H : Hp} : ∀ ns : List Int, DpAll K H (ns.map V.int) (ns.map PyData.int)
  | [] => .nil
  | n :: r => .cons (.int n) (dp_ints r)
theorem dp_list {K : PySem.W.Frag} {H : Hp} {a : Addr} {ns : List Int} (h : SqL K H a (ns.map V.int)) : Dp K H (.ref a) (.list (ns.map PyData.int)) := .lst h (dp_ints ns)
theorem dp_tup {K : PySem.W.Frag} {H : Hp} {a : Addr} {ns : List Int} (h : SqT K H a (ns.map V.int)) : Dp K H (.ref a) (.tuple (ns.map PyData.int)) := .tup h (dp_ints ns)
theorem map_vb (bs : List Bool) : bs.map vb = (bs.map b2).map V.int := by
  rw [List.map_map]; rfl
end Own

namespace Own
open PySem PySem.Spec PyProof.Rows L2
/-! ### places where the reading stops: a new object, a call, a loop, a comprehension (simp does not look behind them) -/
def Fx {α : Type} (_ : α) : Type := Unit
def fx {α : Type} {a : α} : Fx a := ()
def New (H : Hp) (o : HO) (Q : VK) (_ : Fx Q) : Prop := ∀ p, H p = none → Q (.ref p) (upd H p o)
theorem new_of {H : Hp} {o : HO} {Q : VK} (h : ∀ p H1, H p = none → Same H H1 → H1 p = some o → Q (.ref p) H1) {z : Fx Q} : New H o Q z := fun p np => h p _ np (same_upd np) upd_same
theorem new_ex {H : Hp} {o : HO} {Q : VK} (h : ∀ p, H p = none → Q (.ref p) (upd H p o)) : New H o Q fx := h
def CallTo (sp : Sp) (vs : List V) (H : Hp) (Q : VK) (E : XK) (_ : Fx (sp, Q, E)) : Prop := sp vs H Q E
theorem call_to {sp : Sp} {vs : List V} {H : Hp} {Q : VK} {E : XK} {z : Fx (sp, Q, E)} (h : sp vs H Q E) : CallTo sp vs H Q E z := h
/-- a loop, what is left of it behind its walk's own reading -/
def Loop (J : It) (g : TG) (tb : TS) (D : Ends) (σ : L2.St) (H : Hp) (_ : Fx (g, tb, D)) : Prop := ∃ W : Nat → Nat → L2.St → Hp → Prop, (∃ m, W 0 m σ H) ∧ ∀ i m σ H, W i m σ H →
  (J.stop i H ∧ D.nx σ H) ∨ (J.go i H ∧ ∃ N : L2.St → Hp → Prop, (∀ σ' H', N σ' H' → ∃ m', m' < m ∧ W (i + 1) m' σ' H') ∧ ∀ x H', J.yld i H x H' → g x σ H' fun σ2 H2 => tb { D with nx := N, ct := N, bk := D.nx } σ2 H2)
/-- a comprehension's rest -/
def LcLoop (J : It) (g : TG) (tt : TT) (te : TE) (vs : List Nat) (σ : L2.St) (H1 : Hp) (D : Addr) (Qd : Hp → Prop) : Prop := ∃ W : Nat → Nat → Hp → Prop, (∃ m, W 0 m (upd H1 D (.lst []))) ∧ ∀ i m H, W i m H →
  (J.stop i H ∧ Qd H) ∨ (J.go i H ∧ ∃ Nx : Hp → Prop, (∀ H', Nx H' → ∃ m', m' < m ∧ W (i + 1) m' H') ∧ ∀ x H', J.yld i H x H' → g x (wipe σ vs) H' fun σ2 H2 => wipe σ2 vs = wipe σ vs ∧ tt σ2 H2 fun b H3 =>
    if b = true then te σ2 H3 fun y H4 => ∃ acc, H4 D = some (.lst acc) ∧ acc.length < sizeLine ∧ Nx (upd H4 D (.lst (acc ++ [y]))) else Nx H3)
def LcNew (J : It) (g : TG) (tt : TT) (te : TE) (vs : List Nat) (σ : L2.St) (H1 : Hp) (Q : VK) (_ : Fx (g, tt, te, Q)) : Prop := ∀ D, H1 D = none → LcLoop J g tt te vs σ H1 D (Q (.ref D))
section
variable {t u : TS} {te ta tb tc : TE} {tt tu : TT} {g : TG} {D : Ends} {σ : L2.St} {H : Hp} {Q : VK} {K : PySem.W.Frag} {x y : V} {r r' : R2}
theorem e_seq : tSeq t u D σ H = t { D with nx := u D } σ H := rfl
theorem e_asg : tAsg te g D σ H = te σ H fun x H1 => g x σ H1 D.nx := rfl
theorem e_gName {i : Nat} {v : V} {Q : L2.St → Hp → Prop} : gName i v σ H Q = Q (σ.set i (some v)) H := rfl
theorem e_var {i : Nat} : tVar i σ H Q = ∃ v, σ[i]? = some (some v) ∧ Q v H := rfl
theorem e_C {v : V} : tC v σ H Q = Q v H := rfl
theorem e_op : tOp r ta tb σ H Q = ta σ H fun x H1 => tb σ H1 fun y H2 => r x y H2 Q := rfl
theorem e_un {r : V → Hp → VK → Prop} : tUn r ta σ H Q = ta σ H fun x H1 => r x H1 Q := rfl
theorem e_rI {C : Int → Int → Prop} {g : Int → Int → V} : rI C g x y H Q = ∃ i j, x = .int i ∧ y = .int j ∧ C i j ∧ Q (g i j) H := rfl
theorem e_rI0 {g : Int → Int → V} : rI0 g x y H Q = ∃ i j, x = .int i ∧ y = .int j ∧ Q (g i j) H := rfl
theorem e_rU {g : Int → V} : rU g x H Q = ∃ i, x = .int i ∧ Q (g i) H := rfl
theorem e_CMul {i j : Int} : CMul i j = ((-(2 ^ 64) < i ∧ i < 2 ^ 64) ∨ (-(2 ^ 64) < j ∧ j < 2 ^ 64)) := rfl
theorem e_CDiv {i j : Int} : CDiv i j = (0 < j ∧ j < 1073741824) := rfl
theorem e_CPow {i j : Int} : CPow i j = (0 ≤ j ∧ j ≤ 1000000 ∧ i.natAbs < 2 ^ 64) := rfl
theorem e_rEq : rEq x y H Q = (scal x y = true ∧ Q (.bl (decide (x = y))) H) := rfl
theorem e_rNe : rNe x y H Q = (scal x y = true ∧ Q (.bl (!decide (x = y))) H) := rfl
theorem e_scal_int {i j : Int} : (scal (.int i) (.int j) = true) = True := by rw [show scal (.int i) (.int j) = true from rfl]; exact eq_self true
theorem e_scal_str {i j : Str} : (scal (.str i) (.str j) = true) = True := by rw [show scal (.str i) (.str j) = true from rfl]; exact eq_self true
theorem e_scal_bl {i j : Bool} : (scal (.bl i) (.bl j) = true) = True := by rw [show scal (.bl i) (.bl j) = true from rfl]; exact eq_self true
theorem e_ifS {c : TT} : tIfS c t u D σ H = c σ H fun b H1 => if b = true then t D σ H1 else u D σ H1 := rfl
theorem e_test {Q : Bool → Hp → Prop} : tTest te σ H Q = te σ H fun x H' => ∃ k, x = .bl k ∧ Q k H' := rfl
theorem e_tB {Q : Bool → Hp → Prop} : tB te σ H Q = te σ H fun x H' => ∃ k, x = .bl k ∧ Q k H' := rfl
theorem e_ret : tRet te D σ H = te σ H D.rt := rfl
theorem e_retN : tRetN D σ H = D.rt .non H := rfl
theorem e_next : tNext D σ H = D.nx σ H := rfl
theorem e_brk : tBreak D σ H = D.bk σ H := rfl
theorem e_cnt : tCont D σ H = D.ct σ H := rfl
theorem e_cons {tr : TA} {Q : List V → Hp → Prop} : tCons te tr σ H Q = te σ H fun x H1 => tr σ H1 fun xs H2 => Q (x :: xs) H2 := rfl
theorem e_nil {Q : List V → Hp → Prop} : tNil σ H Q = Q [] H := rfl
theorem e_lst {t : TA} : tLst t σ H Q = t σ H fun xs H1 => xs.length ≤ sizeLine ∧ New H1 (.lst xs) Q fx := rfl
theorem e_tup {t : TA} : tTup t σ H Q = t σ H fun xs H1 => xs.length ≤ sizeLine ∧ New H1 (.tup xs) Q fx := rfl
theorem e_drop : tDrop te D σ H = te σ H fun _ H1 => D.nx σ H1 := rfl
theorem e_and {Q : Bool → Hp → Prop} : tAnd tt tu σ H Q = tt σ H fun c H1 => if c = true then tu σ H1 Q else Q false H1 := rfl
theorem e_or {Q : Bool → Hp → Prop} : tOr tt tu σ H Q = tt σ H fun c H1 => if c = true then Q true H1 else tu σ H1 Q := rfl
theorem e_not {Q : Bool → Hp → Prop} : tNot tt σ H Q = tt σ H fun c H1 => Q (!c) H1 := rfl
theorem e_andV : tAndV ta tb σ H Q = ta σ H fun x H1 => ∃ c, x = .bl c ∧ if c = true then tb σ H1 Q else Q (.bl false) H1 := rfl
theorem e_orV : tOrV ta tb σ H Q = ta σ H fun x H1 => ∃ c, x = .bl c ∧ if c = true then Q (.bl true) H1 else tb σ H1 Q := rfl
theorem e_notV : tNotV ta σ H Q = ta σ H fun x H1 => ∃ c, x = .bl c ∧ Q (.bl (!c)) H1 := rfl
theorem e_if : tIf tt ta tb σ H Q = tt σ H fun c H1 => if c = true then ta σ H1 Q else tb σ H1 Q := rfl
theorem e_chain : tChain r r' ta tb tc σ H Q = ta σ H fun x H1 => tb σ H1 fun y H2 => r x y H2 fun z H3 => ∃ k, z = .bl k ∧ (if k = true then tc σ H3 fun w' H4 => r' y w' H4 Q else Q (.bl false) H3) := rfl
theorem e_CB {rr : List V → Hp → VK → Prop} {t : TA} : tCB rr t σ H Q = t σ H fun vs H1 => rr vs H1 Q := rfl
theorem e_call {sp : Sp} {dvs : List V} {E : XK} {t : TA} : tCall sp dvs E t σ H Q = t σ H fun vs H1 => CallTo sp (vs ++ dvs) H1 Q E fx := rfl
theorem e_rIxL : rIxL K x y H Q = ∃ p xs i v, x = .ref p ∧ y = .int i ∧ SqL K H p xs ∧ atI xs i = some v ∧ Q v H := rfl
theorem e_rIxT : rIxT K x y H Q = ∃ p xs i v, x = .ref p ∧ y = .int i ∧ SqT K H p xs ∧ atI xs i = some v ∧ Q v H := rfl
theorem e_BM {T : String} {rr : V → List V → Hp → VK → Prop} {t : TA} : tBM K T rr te t σ H Q = te σ H fun x H1 => tyV K T x H1 ∧ t σ H1 fun xs H2 => rr x xs H2 Q := rfl
theorem e_BM0 {T : String} {rr : V → List V → Hp → VK → Prop} : tBM0 K T rr te σ H Q = te σ H fun x H1 => tyV K T x H1 ∧ rr x [] H1 Q := rfl
theorem e_rAppend {vs : List V} : rAppend x vs H Q = ∃ l xs y, x = .ref l ∧ vs = [y] ∧ H l = some (.lst xs) ∧ xs.length < sizeLine ∧ Q .non (upd H l (.lst (xs ++ [y]))) := rfl
theorem e_rCat : rCat x y H Q = ∃ l b xs zs, x = .ref l ∧ y = .ref b ∧ H l = some (.lst xs) ∧ H b = some (.lst zs) ∧ xs.length + zs.length ≤ sizeLine ∧ New H (.lst (xs ++ zs)) Q fx := rfl
theorem e_rRep : rRep x y H Q = ∃ l k xs, x = .ref l ∧ y = .int k ∧ H l = some (.lst xs) ∧ -(2 ^ 63) ≤ k ∧ k < 2 ^ 63 ∧ xs.length * k.toNat ≤ sizeLine ∧ New H (.lst (List.replicate k.toNat xs).flatten) Q fx := rfl
theorem e_sl {rr : V → Option Int → Option Int → Hp → VK → Prop} {tl th : TO} : tSl rr te tl th σ H Q = te σ H fun x H1 => tl σ H1 fun l H2 => th σ H2 fun u H3 => rr x l u H3 Q := rfl
theorem e_noPart {Q : Option Int → Hp → Prop} : tNoPart σ H Q = Q none H := rfl
theorem e_part {Q : Option Int → Hp → Prop} : tPart te σ H Q = te σ H fun x H1 => ∃ i, x = .int i ∧ Q (some i) H1 := rfl
theorem e_rSlL {lo hi : Option Int} : rSlL K x lo hi H Q = ∃ a xs, x = .ref a ∧ SqL K H a xs ∧ New H (.lst (cutV xs lo hi)) Q fx := rfl
theorem e_gSub {to ti : TE} {ts : TSet} {v : V} {Q : L2.St → Hp → Prop} : gSub to ti ts v σ H Q = to σ H fun o H1 => ti σ H1 fun i H2 => ts o i v H2 fun H3 => Q σ H3 := rfl
theorem e_rSetL {o i v : V} {Q : Hp → Prop} : rSetL o i v H Q = ∃ p xs k j, o = .ref p ∧ i = .int k ∧ H p = some (.lst xs) ∧ ixN xs.length k = some j ∧ Q (upd H p (.lst (xs.set j v))) := rfl
theorem e_bits : tBits te σ H Q = te σ H fun x H1 => ∃ i, x = .int i ∧ Q (.int (Builtin.Int.intBits i : Nat)) H1 := rfl
theorem e_yes {Q : Bool → Hp → Prop} : tYes σ H Q = Q true H := rfl
theorem e_gTup {n : Nat} {t : TGs} {v : V} {Q : L2.St → Hp → Prop} : gTup K n t v σ H Q = ∃ a xs, v = .ref a ∧ SqT K H a xs ∧ xs.length = n ∧ t xs σ H Q := rfl
theorem e_gNil {vs : List V} {Q : L2.St → Hp → Prop} : gNil vs σ H Q = (vs = [] ∧ Q σ H) := rfl
theorem e_gCons {t : TG} {u : TGs} {vs : List V} {Q : L2.St → Hp → Prop} : gCons t u vs σ H Q = ∃ v r, vs = v :: r ∧ t v σ H fun σ' H' => u r σ' H' Q := rfl
theorem e_aug {i : Nat} {ti : TIp} : tAug i te ti D σ H = ∃ x, σ[i]? = some (some x) ∧ te σ H fun y H1 => ti x y H1 fun z H2 => D.nx (σ.set i (some z)) H2 := rfl
theorem e_ipI {f : Int → Int → Int} : ipI f x y H Q = ∃ i j, x = .int i ∧ y = .int j ∧ Q (.int (f i j)) H := rfl
theorem e_cxK {CX : CXT} {P : Program} {w : World} {K : PySem.W.Frag} {mg : Str → Option Value} {base : Heap} {N : List Str} {q : Str} {sc : Scope} {f : Addr} {cd : Value} {A : Around} {o : List Env} {s : Shared} {H : Hp} {E : XK} : (cxOf CX P w K mg base N q sc f cd A o s H E).K = K := rfl
theorem e_wishK {X : Cx} {E : Value → Shared → Prop} : (X.wish E).K = X.K := rfl
theorem e_noxK {X : Cx} : X.nox.K = X.K := rfl
theorem e_for {wi : TI} {tb : TS} : tFor wi g tb D σ H = wi σ H fun J H1 => Loop J g tb D σ H1 fx := rfl
theorem e_lc {wi : TI} {vs : List Nat} : tLc wi g tt te vs σ H Q = wi σ H fun J H1 => LcNew J g tt te vs σ H1 Q fx := rfl
theorem e_iList {R : It → Hp → Prop} : iList K te σ H R = te σ H fun x H1 => ∃ a, x = .ref a ∧ (∃ xs, SqL K H1 a xs) ∧ R (Itl K a) H1 := rfl
theorem e_iTup {R : It → Hp → Prop} : iTup K te σ H R = te σ H fun x H1 => ∃ a, x = .ref a ∧ (∃ xs, SqT K H1 a xs) ∧ R (Itt K a) H1 := rfl
theorem e_iRng1 {t : TA} {R : It → Hp → Prop} : iRng1 t σ H R = t σ H fun vs H1 => ∃ j : Int, vs = [.int j] ∧ -(2 ^ 62) ≤ j ∧ j < 2 ^ 62 ∧ R (Itr 0 j.toNat) H1 := rfl
theorem e_iRng2 {t : TA} {R : It → Hp → Prop} : iRng2 t σ H R = t σ H fun vs H1 => ∃ i j : Int, vs = [.int i, .int j] ∧ (-(2 ^ 62) ≤ i ∧ i < 2 ^ 62 ∧ -(2 ^ 62) ≤ j ∧ j < 2 ^ 62) ∧ R (Itr i (j - i).toNat) H1 := rfl
theorem e_iEnum {t : TA} {R : It → Hp → Prop} : iEnum K t σ H R = t σ H fun vs H1 => ∃ a xs, vs = [.ref a] ∧ SqL K H1 a xs ∧ R (Ite K a) H1 := rfl
theorem e_iZip {t : TA} {R : It → Hp → Prop} : iZip K t σ H R = t σ H fun vs H1 => ∃ a b xs ys, vs = [.ref a, .ref b] ∧ SqL K H1 a xs ∧ SqL K H1 b ys ∧ R (Itz K a b) H1 := rfl
end
/-- a loop's word at a turn (simp leaves the word itself alone) -/
def At (Pv : Nat → L2.St → Hp → Prop) (i : Nat) (σ : L2.St) (H : Hp) (_ : Fx Pv) : Prop := Pv i σ H
theorem at_is {Pv : Nat → L2.St → Hp → Prop} {i : Nat} {σ : L2.St} {H : Hp} {z : Fx Pv} (h : Pv i σ H) : At Pv i σ H z := h
theorem loop_it {J : It} {n : Nat} {G : Hp → Prop} {Y : Nat → Hp → V → Hp → Prop} (w : Walk J n G Y) {g : TG} {tb : TS} {D : Ends} {σ : L2.St} {H : Hp} (Pv : Nat → L2.St → Hp → Prop) (h0 : Pv 0 σ H) (hG : ∀ i σ H, i ≤ n → Pv i σ H → G H)
    (hs : ∀ i x σ H H', i < n → Pv i σ H → Y i H x H' → g x σ H' fun σ2 H2 => tb { D with nx := fun σ H => At Pv (i + 1) σ H fx, ct := fun σ H => At Pv (i + 1) σ H fx, bk := D.nx } σ2 H2) (hd : ∀ σ H, Pv n σ H → D.nx σ H) {z : Fx (g, tb, D)} : Loop J g tb D σ H z := for_it w Pv h0 hG hs hd
/-- the list at D so far: l i; what stood ahead stands -/
def LcP (H1 : Hp) (D : Addr) (l : Nat → List V) (i : Nat) (H : Hp) : Prop := Same H1 H ∧ H D = some (.lst (l i))
theorem lcl_it {J : It} {n : Nat} {G : Hp → Prop} {Y : Nat → Hp → V → Hp → Prop} (w : Walk J n G Y) {g : TG} {tt : TT} {te : TE} {vs : List Nat} {σ : L2.St} {H1 : Hp} {D : Addr} {Qd : Hp → Prop} (hD : H1 D = none) (l : Nat → List V) (h0 : l 0 = []) (hG : ∀ H, Same H1 H → G H)
    (hs : ∀ i x H H', i < n → LcP H1 D l i H → Y i H x H' → g x (wipe σ vs) H' fun σ2 H2 => wipe σ2 vs = wipe σ vs ∧ tt σ2 H2 fun b H3 =>
      if b = true then te σ2 H3 fun y H4 => ∃ acc, H4 D = some (.lst acc) ∧ acc.length < sizeLine ∧ LcP H1 D l (i + 1) (upd H4 D (.lst (acc ++ [y]))) else LcP H1 D l (i + 1) H3)
    (hd : ∀ H, Same H1 H → H D = some (.lst (l n)) → Qd H) : LcLoop J g tt te vs σ H1 D Qd :=
  lc_it w (LcP H1 D l) ⟨same_upd hD, by rw [upd_same, h0]⟩ (fun _ H _ p => hG H p.1) hs fun H p => hd H p.1 p.2
theorem lc_app {H1 H H4 : Hp} {D : Addr} {l : Nat → List V} {i : Nat} {y : V} (hD : H1 D = none) (p : LcP H1 D l i H) (sm : Same H H4) (hl : l (i + 1) = l i ++ [y]) (hz : (l i).length < sizeLine) :
    ∃ acc, H4 D = some (.lst acc) ∧ acc.length < sizeLine ∧ LcP H1 D l (i + 1) (upd H4 D (.lst (acc ++ [y]))) :=
  ⟨l i, sm _ _ p.2, hz, same_upd_of (p.1.trans sm) hD, by rw [upd_same, hl]⟩
theorem lc_skip {H1 H H3 : Hp} {D : Addr} {l : Nat → List V} {i : Nat} (p : LcP H1 D l i H) (sm : Same H H3) (hl : l (i + 1) = l i) : LcP H1 D l (i + 1) H3 :=
  ⟨p.1.trans sm, by rw [hl]; exact sm _ _ p.2⟩
theorem ty_list {K : PySem.W.Frag} {H : Hp} {a : Addr} {xs : List V} (h : H a = some (.lst xs)) : tyV K "list" (.ref a) H := .inl ⟨rfl, _, .inl (.inl h)⟩
theorem r_append {K : PySem.W.Frag} {H : Hp} {l : Addr} {xs : List V} {y : V} {Q : VK} (h : H l = some (.lst xs)) (hz : xs.length < sizeLine) (q : Q .non (upd H l (.lst (xs ++ [y])))) : tyV K "list" (.ref l) H ∧ rAppend (.ref l) [y] H Q :=
  ⟨ty_list h, l, xs, y, rfl, rfl, h, hz, q⟩
theorem atI_in {α : Type} {xs : List α} {z : Int} {v : α} (h0 : 0 ≤ z) (h : xs[z.toNat]? = some v) : atI xs z = some v := by
  have e := atI_nat h
  rw [Int.toNat_of_nonneg h0] at e
  exact e

/-! ### equal lists of ints -/
theorem eqvAll_ints : ∀ ns ms : List Int, PyData.eqvAll (ns.map PyData.int) (ms.map PyData.int) = decide (ns = ms)
  | [], [] => by simp [PyData.eqvAll]
  | [], m :: r => by simp [PyData.eqvAll]
  | n :: r, [] => by simp [PyData.eqvAll]
  | n :: r, m :: q => by
    simp only [List.map_cons, PyData.eqvAll, PyData.eqv, eqvAll_ints r q, List.cons.injEq]
    by_cases h1 : n = m <;> by_cases h2 : r = q <;> simp [h1, h2]
theorem canLay_ints : ∀ ns : List Int, PyData.canLayAll0 (ns.map PyData.int) = true
  | [] => by simp [PyData.canLayAll0]
  | n :: r => by simp [PyData.canLayAll0, PyData.canLay0, canLay_ints r]
theorem depth_ints : ∀ ns : List Int, PyData.depthAll (ns.map PyData.int) ≤ 1
  | [] => by simp [PyData.depthAll]
  | n :: r => by
    have ih := depth_ints r
    simp only [List.map_cons, PyData.depthAll, PyData.depth]
    omega
theorem shaped_ints (ns : List Int) : SeqAt.shaped (.list (ns.map PyData.int)) = true := by
  have h := depth_ints ns
  unfold SeqAt.shaped
  rw [Bool.and_eq_true]
  refine ⟨by simp only [PyData.canLay0]; exact canLay_ints ns, decide_eq_true ?_⟩
  simp only [PyData.depth]
  omega
theorem shaped_intsT (ns : List Int) : SeqAt.shaped (.tuple (ns.map PyData.int)) = true := by
  have h := depth_ints ns
  unfold SeqAt.shaped
  rw [Bool.and_eq_true]
  refine ⟨by simp only [PyData.canLay0]; exact canLay_ints ns, decide_eq_true ?_⟩
  simp only [PyData.depth]
  omega
section
variable {K : PySem.W.Frag} {H : Hp} {a b : Addr} {ns ms : List Int} {Q : VK}
theorem r_ne_list (ha : SqL K H a (ns.map V.int)) (hb : SqL K H b (ms.map V.int)) (q : Q (.bl (!decide (ns = ms))) H) : rNeD K (.ref a) (.ref b) H Q := by
  refine ⟨_, _, dp_list ha, dp_list hb, shaped_ints _, shaped_ints _, ?_⟩
  rw [PyData.eqv, eqvAll_ints]
  exact q
theorem r_eq_list (ha : SqL K H a (ns.map V.int)) (hb : SqL K H b (ms.map V.int)) (q : Q (.bl (decide (ns = ms))) H) : rEqD K (.ref a) (.ref b) H Q := by
  refine ⟨_, _, dp_list ha, dp_list hb, shaped_ints _, shaped_ints _, ?_⟩
  rw [PyData.eqv, eqvAll_ints]
  exact q
theorem r_ne_tup (ha : SqT K H a (ns.map V.int)) (hb : SqT K H b (ms.map V.int)) (q : Q (.bl (!decide (ns = ms))) H) : rNeD K (.ref a) (.ref b) H Q := by
  refine ⟨_, _, dp_tup ha, dp_tup hb, shaped_intsT _, shaped_intsT _, ?_⟩
  rw [PyData.eqv, eqvAll_ints]
  exact q
/-- isinstance of an int, a list, a tuple -/
theorem r_isi {x : V} {t u : String} {b : Bool} (ty : TyX K H x (.type t)) (e : kitB t u = some b) (q : Q (.bl b) H) : rIsi K [x, .ty u] H Q := ⟨x, .ty u, .type t, .type u, b, rfl, .ty u, ty, kit_ty e, q⟩
end
end Own

namespace Own
open PySem PySem.Spec PyProof.Rows L2
/-! ### rules for what is tracked: the premise is an equation of the heap -/
def ivs (l : List Int) : List V := l.map V.int
def bz (u : List Bool) : List Int := u.map b2
theorem vint_inj {a b : Int} (h : V.int a = V.int b) : a = b := V.int.inj h
theorem map_inj_of {α β : Type} {f : α → β} (hf : ∀ a b, f a = f b → a = b) : ∀ {l m : List α}, l.map f = m.map f → l = m
  | [], [], _ => rfl
  | [], _ :: _, h => by simp at h
  | _ :: _, [], h => by simp at h
  | a :: l, b :: m, h => by
    simp only [List.map_cons, List.cons.injEq] at h
    rw [hf _ _ h.1, map_inj_of hf h.2]
theorem ivs_inj {a b : List Int} : (ivs a = ivs b) = (a = b) := propext ⟨fun h => map_inj_of (fun _ _ => vint_inj) h, fun h => by rw [h]⟩
theorem bz_inj {a b : List Bool} : (bz a = bz b) = (a = b) := propext ⟨fun h => map_inj_of (fun _ _ => b2_inj) h, fun h => by rw [h]⟩
theorem ivs_len {l : List Int} : (ivs l).length = l.length := List.length_map ..
theorem bz_len {u : List Bool} : (bz u).length = u.length := List.length_map ..
theorem ivs_app {a b : List Int} : ivs a ++ ivs b = ivs (a ++ b) := (List.map_append ..).symm
theorem bz_app {a b : List Bool} : bz a ++ bz b = bz (a ++ b) := (List.map_append (f := b2) ..).symm
theorem ivs_snoc {a : List Int} {z : Int} : ivs a ++ [V.int z] = ivs (a ++ [z]) := (List.map_append (f := V.int) (l₂ := [z])).symm
theorem bz_snoc {a : List Bool} {b : Bool} : bz a ++ [b2 b] = bz (a ++ [b]) := (List.map_append (f := b2) (l₂ := [b])).symm
theorem ivs_get {l : List Int} {i : Nat} : (ivs l)[i]? = (l[i]?).map V.int := List.getElem?_map ..
theorem bz_get {u : List Bool} {i : Nat} : (bz u)[i]? = (u[i]?).map b2 := List.getElem?_map ..
theorem atI_ints {l : List Int} {i : Int} : atI (ivs l) i = (atI l i).map V.int := by
  unfold atI ivs
  rw [List.length_map]
  cases ixN l.length i with
  | none => rfl
  | some j => exact List.getElem?_map ..
theorem atI_bz {u : List Bool} {i : Int} : atI (bz u) i = (atI u i).map b2 := by
  unfold atI bz
  rw [List.length_map]
  cases ixN u.length i with
  | none => rfl
  | some j => exact List.getElem?_map ..
theorem atI_at {α : Type} {l : List α} {i : Int} (h0 : 0 ≤ i) : atI l i = l[i.toNat]? := by
  unfold atI ixN
  rw [if_pos h0]
  by_cases h : i < l.length
  · rw [if_pos h]; rfl
  · rw [if_neg h]
    exact (List.getElem?_eq_none (by omega)).symm
theorem ivs_take {l : List Int} {n : Nat} : (ivs l).take n = ivs (l.take n) := (List.map_take ..).symm
theorem ivs_drop {l : List Int} {n : Nat} : (ivs l).drop n = ivs (l.drop n) := (List.map_drop ..).symm
theorem ivs_set {l : List Int} {n : Nat} {z : Int} : (ivs l).set n (.int z) = ivs (l.set n z) := (List.map_set ..).symm
theorem ivs_nil : ivs [] = [] := rfl
theorem ivs_cons {z : Int} {l : List Int} : ivs (z :: l) = .int z :: ivs l := rfl
theorem bz_nil : bz [] = [] := rfl
theorem bz_cons {b : Bool} {l : List Bool} : bz (b :: l) = b2 b :: bz l := rfl
def isLst : Option HO → Bool
  | some (.lst _) => true
  | _ => false
theorem isLst_some {xs : List V} : isLst (some (.lst xs)) = true := rfl
theorem ty_lst {K : PySem.W.Frag} {H : Hp} {p : Addr} (h : isLst (H p) = true) : tyV K "list" (.ref p) H = True := by
  cases e : H p with
  | none => rw [e] at h; cases h
  | some o =>
    cases o with
    | lst xs => exact eq_true (ty_list e)
    | _ => rw [e] at h; cases h
theorem upd_old {H : Hp} {p q : Addr} {o : HO} (hp : H p = none) (hq : (H q).isSome = true) : upd H p o q = H q :=
  upd_ne fun e => by rw [e, hp] at hq; cases hq
theorem upd_none {H : Hp} {p q : Addr} {o : HO} (h : upd H p o q = none) : q ≠ p ∧ H q = none := by
  have ne : q ≠ p := fun e => by rw [e, upd_same] at h; cases h
  exact ⟨ne, by rw [upd_ne ne] at h; exact h⟩
/-- an object changed: the heap behind it by a letter -/
theorem chg_of {H H0 : Hp} {p : Addr} {o : HO} {Q : Hp → Prop} (np : H0 p = none) (sm : Same H0 H) (h : ∀ H1, Same H0 H1 → (∀ q, q ≠ p → H1 q = H q) → H1 p = some o → Q H1) : Q (upd H p o) := h _ (same_upd_of sm np) (fun _ h => upd_ne h) upd_same
section
variable {X : Cx}
def rIxK : R2 := fun x y H Q => ∃ p xs i v, x = .ref p ∧ y = .int i ∧ H p = some (.lst xs) ∧ atI xs i = some v ∧ Q v H
theorem ixk_list : IxR X rIxK := fun value slice pins s σ H x y v u Q I rx ry h => ix_list value slice pins s σ H x y v u Q I rx ry (by
  obtain ⟨p, xs, i, v', e1, e2, hp, ha, q⟩ := h
  exact ⟨p, xs, i, v', e1, e2, .of hp, ha, q⟩)
def rIxKT : R2 := fun x y H Q => ∃ p xs i v, x = .ref p ∧ y = .int i ∧ H p = some (.tup xs) ∧ atI xs i = some v ∧ Q v H
theorem ixk_tup : IxR X rIxKT := fun value slice pins s σ H x y v u Q I rx ry h => ix_tup value slice pins s σ H x y v u Q I rx ry (by
  obtain ⟨p, xs, i, v', e1, e2, hp, ha, q⟩ := h
  exact ⟨p, xs, i, v', e1, e2, .of hp, ha, q⟩)
def rSlK : V → Option Int → Option Int → Hp → VK → Prop := fun x lo hi H Q => ∃ a xs, x = .ref a ∧ H a = some (.lst xs) ∧ ∀ p, H p = none → Q (.ref p) (upd H p (.lst (cutV xs lo hi)))
theorem slk_list : SlR X rSlK := fun pins s σ H x v vl vu lo hi sl Q I rx hs pl pu h => sl_list pins s σ H x v vl vu lo hi sl Q I rx hs pl pu (by
  obtain ⟨a, xs, e, hp, q⟩ := h
  exact ⟨a, xs, e, .of hp, q⟩)
def rLenK : List V → Hp → VK → Prop := fun vs H Q => ∃ p ys, vs = [.ref p] ∧ H p = some (.lst ys) ∧ Q (.int ys.length) H
theorem callk_len : CallR X (.builtin "len") rLenK := fun pins s σ H xs us Q I r h => call_len_seq pins s σ H xs us Q I r (by
  obtain ⟨p, ys, e, hp, q⟩ := h
  exact ⟨p, ys, e, .inl (.of hp), q⟩)
def rListK : List V → Hp → VK → Prop := fun vs H Q => ∃ p ys, vs = [.ref p] ∧ H p = some (.lst ys) ∧ ∀ l, H l = none → Q (.ref l) (upd H l (.lst ys))
theorem callk_list : CallR X (.type "list") rListK := fun pins s σ H xs us Q I r h => call_list_of pins s σ H xs us Q I r (by
  obtain ⟨p, ys, e, hp, q⟩ := h
  exact ⟨p, ys, e, .inl (.of hp), q⟩)
def rTupleK : List V → Hp → VK → Prop := fun vs H Q => ∃ p ys, vs = [.ref p] ∧ H p = some (.lst ys) ∧ ∀ l, H l = none → Q (.ref l) (upd H l (.tup ys))
theorem callk_tuple : CallR X (.type "tuple") rTupleK := fun pins s σ H xs us Q I r h => call_tuple_of pins s σ H xs us Q I r (by
  obtain ⟨p, ys, e, hp, q⟩ := h
  exact ⟨p, ys, e, .inl ⟨.of hp, q⟩⟩)
def rSumK : List V → Hp → VK → Prop := fun vs H Q => ∃ a ns, vs = [V.ref a] ∧ H a = some (.lst (ivs ns)) ∧ Q (.int ns.sum) H
theorem crk_sum (hc : X.calm = true) : CallR X (.builtin "sum") rSumK := fun pins s σ H xs us Q I r h => cr_sum hc pins s σ H xs us Q I r (by
  obtain ⟨p, ys, e, hp, q⟩ := h
  exact ⟨p, ys, e, .of hp, q⟩)
/-- == and != of lists of ivs -/
def rDivK : List V → Hp → VK → Prop := fun vs H Q => ∃ i j, vs = [.int i, .int j] ∧ CDiv i j ∧ New H (.tup [.int (i / j), .int (i % j)]) Q fx
theorem callk_divmod : CallR X (.builtin "divmod") rDivK := fun pins s σ H xs us Q I r h => call_divmod pins s σ H xs us Q I r (by
  obtain ⟨i, j, e, hc, q⟩ := h
  exact ⟨i, j, e, hc, q⟩)
def rNeK : R2 := fun x y H Q => ∃ a b ns ms, x = .ref a ∧ y = .ref b ∧ H a = some (.lst (ivs ns)) ∧ H b = some (.lst (ivs ms)) ∧ Q (.bl (!decide (ns = ms))) H
def rEqK : R2 := fun x y H Q => ∃ a b ns ms, x = .ref a ∧ y = .ref b ∧ H a = some (.lst (ivs ns)) ∧ H b = some (.lst (ivs ms)) ∧ Q (.bl (decide (ns = ms))) H
theorem opk_ne (hu : X.A.units + 64 < cLine) : OpR X (compareOp .NotEq) rNeK := fun pins s σ H x y v u Q I rx ry h => op_neD hu pins s σ H x y v u Q I rx ry (by
  obtain ⟨a, b, ns, ms, rfl, rfl, h1, h2, q⟩ := h
  exact r_ne_list (.of h1) (.of h2) q)
theorem opk_eq (hu : X.A.units + 64 < cLine) : OpR X (compareOp .Eq) rEqK := fun pins s σ H x y v u Q I rx ry h => op_eqD hu pins s σ H x y v u Q I rx ry (by
  obtain ⟨a, b, ns, ms, rfl, rfl, h1, h2, q⟩ := h
  exact r_eq_list (.of h1) (.of h2) q)
theorem r_eq_tup {K : PySem.W.Frag} {H : Hp} {a b : Addr} {ns ms : List Int} {Q : VK} (ha : SqT K H a (ns.map V.int)) (hb : SqT K H b (ms.map V.int)) (q : Q (.bl (decide (ns = ms))) H) : rEqD K (.ref a) (.ref b) H Q := by
  refine ⟨_, _, dp_tup ha, dp_tup hb, shaped_intsT _, shaped_intsT _, ?_⟩
  rw [PyData.eqv, eqvAll_ints]
  exact q
def rNeKT : R2 := fun x y H Q => ∃ a b ns ms, x = .ref a ∧ y = .ref b ∧ H a = some (.tup (ivs ns)) ∧ H b = some (.tup (ivs ms)) ∧ Q (.bl (!decide (ns = ms))) H
def rEqKT : R2 := fun x y H Q => ∃ a b ns ms, x = .ref a ∧ y = .ref b ∧ H a = some (.tup (ivs ns)) ∧ H b = some (.tup (ivs ms)) ∧ Q (.bl (decide (ns = ms))) H
theorem opk_neT (hu : X.A.units + 64 < cLine) : OpR X (compareOp .NotEq) rNeKT := fun pins s σ H x y v u Q I rx ry h => op_neD hu pins s σ H x y v u Q I rx ry (by
  obtain ⟨a, b, ns, ms, rfl, rfl, h1, h2, q⟩ := h
  exact r_ne_tup (.of h1) (.of h2) q)
theorem opk_eqT (hu : X.A.units + 64 < cLine) : OpR X (compareOp .Eq) rEqKT := fun pins s σ H x y v u Q I rx ry h => op_eqD hu pins s σ H x y v u Q I rx ry (by
  obtain ⟨a, b, ns, ms, rfl, rfl, h1, h2, q⟩ := h
  exact r_eq_tup (.of h1) (.of h2) q)
/-- isinstance(x, T) of an int, a bool, a tracked list or tuple -/
def tyO : Option HO → String
  | some (.lst _) => "list"
  | some (.tup _) => "tuple"
  | _ => ""
def tyK : V → Hp → String
  | .int _, _ => "int"
  | .bl _, _ => "bool"
  | .str _, _ => "str"
  | .non, _ => "NoneType"
  | .ref a, H => tyO (H a)
  | _, _ => ""
theorem tyX_of {K : PySem.W.Frag} {x : V} {H : Hp} (h : tyK x H ≠ "") : TyX K H x (.type (tyK x H)) := by
  cases x with
  | int i => exact .base (.int i)
  | bl b => exact .base (.bl b)
  | str b => exact .base (.str b)
  | non => exact .base .non
  | ref a =>
    have h' : tyO (H a) ≠ "" := h
    show TyX K H (.ref a) (.type (tyO (H a)))
    cases e : H a with
    | none => rw [e] at h'; exact absurd rfl h'
    | some o =>
      rw [e] at h'
      cases o with
      | lst xs => exact .base (.lst e)
      | tup xs => exact .base (.tup e)
      | _ => exact absurd rfl h'
  | _ => exact absurd rfl h
def rIsiK : List V → Hp → VK → Prop := fun xs H Q => ∃ x T b, xs = [x, .ty T] ∧ tyK x H ≠ "" ∧ kitB (tyK x H) T = some b ∧ Q (.bl b) H
theorem callk_isi : CallR X (.builtin "isinstance") rIsiK := fun pins s σ H xs us Q I r h => call_isi pins s σ H xs us Q I r (by
  obtain ⟨x, T, b, rfl, h1, h2, q⟩ := h
  exact ⟨x, .ty T, _, _, b, rfl, .ty T, tyX_of h1, kit_ty h2, q⟩)
end
section
variable {H : Hp} {Q : VK} {x y : V} {vs : List V}
theorem e_rIxK : rIxK x y H Q = ∃ p xs i v, x = .ref p ∧ y = .int i ∧ H p = some (.lst xs) ∧ atI xs i = some v ∧ Q v H := rfl
theorem e_rIxKT : rIxKT x y H Q = ∃ p xs i v, x = .ref p ∧ y = .int i ∧ H p = some (.tup xs) ∧ atI xs i = some v ∧ Q v H := rfl
theorem e_rSlK {lo hi : Option Int} : rSlK x lo hi H Q = ∃ a xs, x = .ref a ∧ H a = some (.lst xs) ∧ New H (.lst (cutV xs lo hi)) Q fx := rfl
theorem e_rLenK : rLenK vs H Q = ∃ p ys, vs = [.ref p] ∧ H p = some (.lst ys) ∧ Q (.int ys.length) H := rfl
theorem e_rListK : rListK vs H Q = ∃ p ys, vs = [.ref p] ∧ H p = some (.lst ys) ∧ New H (.lst ys) Q fx := rfl
theorem e_rTupleK : rTupleK vs H Q = ∃ p ys, vs = [.ref p] ∧ H p = some (.lst ys) ∧ New H (.tup ys) Q fx := rfl
theorem e_rDivK {i j : Int} : rDivK [.int i, .int j] H Q = (CDiv i j ∧ New H (.tup [.int (i / j), .int (i % j)]) Q fx) := propext ⟨fun ⟨i', j', e, hc, q⟩ => by
    injection e with e1 e2
    injection e2 with e3 _
    injection e1 with e1
    injection e3 with e3
    subst e1 e3
    exact ⟨hc, q⟩, fun ⟨hc, q⟩ => ⟨i, j, rfl, hc, q⟩⟩
theorem e_rSumK : rSumK vs H Q = ∃ a ns, vs = [V.ref a] ∧ H a = some (.lst (ivs ns)) ∧ Q (.int ns.sum) H := rfl
theorem e_rNeK : rNeK x y H Q = ∃ a b ns ms, x = .ref a ∧ y = .ref b ∧ H a = some (.lst (ivs ns)) ∧ H b = some (.lst (ivs ms)) ∧ Q (.bl (!decide (ns = ms))) H := rfl
theorem e_rEqK : rEqK x y H Q = ∃ a b ns ms, x = .ref a ∧ y = .ref b ∧ H a = some (.lst (ivs ns)) ∧ H b = some (.lst (ivs ms)) ∧ Q (.bl (decide (ns = ms))) H := rfl
theorem e_rNeKT : rNeKT x y H Q = ∃ a b ns ms, x = .ref a ∧ y = .ref b ∧ H a = some (.tup (ivs ns)) ∧ H b = some (.tup (ivs ms)) ∧ Q (.bl (!decide (ns = ms))) H := rfl
theorem e_rEqKT : rEqKT x y H Q = ∃ a b ns ms, x = .ref a ∧ y = .ref b ∧ H a = some (.tup (ivs ns)) ∧ H b = some (.tup (ivs ms)) ∧ Q (.bl (decide (ns = ms))) H := rfl
theorem e_rIsiK {T : String} : rIsiK [x, .ty T] H Q = (tyK x H ≠ "" ∧ ∃ b, kitB (tyK x H) T = some b ∧ Q (.bl b) H) := propext ⟨fun ⟨x', T', b, e, h1, h2, q⟩ => by
    injection e with e1 e2
    injection e2 with e3 _
    injection e3 with e3
    subst e1 e3
    exact ⟨h1, b, h2, q⟩, fun ⟨h1, b, h2, q⟩ => ⟨x, T, b, rfl, h1, h2, q⟩⟩
theorem e_rSlS {lo hi : Option Int} : rSlS x lo hi H Q = ∃ z, x = .str z ∧ z.length ≤ sizeLine ∧ Q (.str (cutS z lo hi)) H := rfl
theorem e_rIxS : rIxS x y H Q = ∃ z i c, x = .str z ∧ y = .int i ∧ z.length ≤ sizeLine ∧ atI z.cps.toList i = some c ∧ Q (.str ⟨#[c]⟩) H := rfl
theorem e_rIn {K : PySem.W.Frag} {neg : Bool} : rIn K neg x y H Q = ∃ p xs, y = .ref p ∧ (SqL K H p xs ∨ SqT K H p xs) ∧ flatV x = true ∧ xs.all flatV = true ∧ Q (.bl (if neg then !inV x xs else inV x xs)) H := rfl
theorem tyK_int {z : Int} : tyK (.int z) H = "int" := rfl
theorem tyK_bl {z : Bool} : tyK (.bl z) H = "bool" := rfl
theorem tyK_str {z : Str} : tyK (.str z) H = "str" := rfl
theorem tyK_non : tyK .non H = "NoneType" := rfl
theorem tyK_ref {a : Addr} : tyK (.ref a) H = tyO (H a) := rfl
theorem tyO_lst {xs : List V} : tyO (some (.lst xs)) = "list" := rfl
theorem tyO_tup {xs : List V} : tyO (some (.tup xs)) = "tuple" := rfl
theorem kit1 : kitB "int" "bool" = some false := by decide +kernel
theorem kit2 : kitB "bool" "bool" = some true := by decide +kernel
theorem kit3 : kitB "list" "list" = some true := by decide +kernel
theorem kit4 : kitB "tuple" "tuple" = some true := by decide +kernel
theorem kit5 : kitB "int" "int" = some true := by decide +kernel
theorem kit6 : kitB "list" "tuple" = some false := by decide +kernel
theorem kit7 : kitB "tuple" "list" = some false := by decide +kernel
theorem kit8 : kitB "NoneType" "bool" = some false := by decide +kernel
theorem kit9 : kitB "NoneType" "int" = some false := by decide +kernel
theorem hlst_inj {a b : List V} : (HO.lst a = HO.lst b) = (a = b) := propext ⟨fun h => HO.lst.inj h, fun h => by rw [h]⟩
theorem htup_inj {a b : List V} : (HO.tup a = HO.tup b) = (a = b) := propext ⟨fun h => HO.tup.inj h, fun h => by rw [h]⟩
theorem vty_inj {a b : String} : (V.ty a = V.ty b) = (a = b) := propext ⟨fun h => V.ty.inj h, fun h => by rw [h]⟩
end
/-! ### slices, walks over a script's numbered items -/
theorem cut_to (xs : List V) {k : Int} (h : 0 ≤ k) : cutV xs none (some k) = xs.take k.toNat := by
  obtain ⟨n, rfl⟩ := Int.eq_ofNat_of_zero_le h
  unfold cutV
  rw [HT.sIx_none, HT.sIx_nat, Int.toNat_natCast, List.drop_zero, Nat.sub_zero, Nat.min_def]
  split
  · rfl
  · rw [List.take_of_length_le (Nat.le_refl _), List.take_of_length_le (by omega)]
theorem cut_from (xs : List V) {k : Int} (h : 0 ≤ k) : cutV xs (some k) none = xs.drop k.toNat := by
  obtain ⟨n, rfl⟩ := Int.eq_ofNat_of_zero_le h
  unfold cutV
  rw [HT.sIx_none, HT.sIx_nat, Int.toNat_natCast]
  by_cases hn : n ≤ xs.length
  · rw [Nat.min_eq_left hn, List.take_of_length_le (by rw [List.length_drop]; omega)]
  · rw [Nat.min_eq_right (by omega), List.drop_of_length_le (Nat.le_refl _), List.drop_of_length_le (by omega)]
    simp
theorem cut_in (xs : List V) {j k : Int} (h : 0 ≤ j) (h2 : 0 ≤ k) : cutV xs (some j) (some k) = (xs.take k.toNat).drop j.toNat := by
  obtain ⟨m, rfl⟩ := Int.eq_ofNat_of_zero_le h
  obtain ⟨n, rfl⟩ := Int.eq_ofNat_of_zero_le h2
  unfold cutV
  rw [HT.sIx_nat, HT.sIx_nat, Int.toNat_natCast, Int.toNat_natCast]
  apply List.ext_getElem?
  intro i
  rw [List.getElem?_take, List.getElem?_drop, List.getElem?_drop, List.getElem?_take]
  have g : ∀ j, xs.length ≤ j → xs[j]? = none := fun j hj => List.getElem?_eq_none hj
  by_cases h1 : m ≤ xs.length
  · rw [Nat.min_eq_left h1]
    by_cases h4 : m + i < n
    · rw [if_pos h4]
      by_cases h5 : m + i < xs.length
      · rw [if_pos (by omega)]
      · rw [g (m + i) (by omega)]; split <;> rfl
    · rw [if_neg h4, if_neg (by omega)]
  · rw [Nat.min_eq_right (a := m) (by omega), g (xs.length + i) (by omega), g (m + i) (by omega)]
    split <;> split <;> rfl
theorem loop_enum {K : PySem.W.Frag} {a : Addr} {l : List Int} {p q n : Nat} {tb : TS} {D : Ends} {σ : L2.St} {H : Hp} (hn : 2 = n) (Pv : Nat → L2.St → Hp → Prop) (h0 : Pv 0 σ H) (hG : ∀ i σ H, Pv i σ H → H a = some (.lst (ivs l)))
    (hs : ∀ i z σ H H', l[i]? = some z → i < l.length → Pv i σ H → Same H H' → tb { D with nx := fun σ H => At Pv (i + 1) σ H fx, ct := fun σ H => At Pv (i + 1) σ H fx, bk := D.nx } ((σ.set p (some (.int (i : Nat)))).set q (some (.int z))) H')
    (hd : ∀ σ H, Pv l.length σ H → D.nx σ H) {z : Fx (gTup K n (gCons (gName p) (gCons (gName q) gNil)), tb, D)} : Loop (Ite K a) (gTup K n (gCons (gName p) (gCons (gName q) gNil))) tb D σ H z := by
  refine loop_it (walk_enum (xs := ivs l)) Pv h0 (fun i σ H _ h => .of (hG i σ H h)) ?_ (fun σ H h => hd σ H (by rw [ivs_len] at h; exact h))
  rintro i x σ H H' hi hp ⟨T, x1, y1, rfl, hT, rfl, e1, e2⟩
  rw [ivs_len] at hi
  have ev : (ivs l)[i]? = some (.int l[i]) := by rw [ivs_get, List.getElem?_eq_getElem hi]; rfl
  have e3 : V.int (i : Nat) = x1 := Option.some.inj e1
  have e4 : V.int l[i] = y1 := Option.some.inj (ev.symm.trans e2)
  subst e3 e4
  exact ⟨T, _, rfl, .of upd_same, hn, _, _, rfl, _, _, rfl, rfl, hs i l[i] σ H _ (List.getElem?_eq_getElem hi) hi hp (same_upd hT)⟩
/-! ### comprehensions -/
/-- an item is made: y, the heap behind it H4 -/
def Elt (H1 : Hp) (D : Addr) (l : Nat → List V) (i : Nat) (y : V) (H4 : Hp) (_ : Fx l) : Prop := ∃ acc, H4 D = some (.lst acc) ∧ acc.length < sizeLine ∧ LcP H1 D l (i + 1) (upd H4 D (.lst (acc ++ [y])))
theorem elt_is {H1 H H4 : Hp} {D : Addr} {l : Nat → List V} {i : Nat} {y : V} {z : Fx l} (hD : H1 D = none) (p : LcP H1 D l i H) (sm : Same H H4) (hl : l (i + 1) = l i ++ [y]) (hz : (l i).length < 16777216) : Elt H1 D l i y H4 z :=
  lc_app hD p sm hl (by rw [sizeLine_eq]; exact hz)
def NoElt (H1 : Hp) (D : Addr) (l : Nat → List V) (i : Nat) (H3 : Hp) (_ : Fx l) : Prop := LcP H1 D l (i + 1) H3
theorem lc_rng {lo : Int} {n j : Nat} {te : TE} {σ : L2.St} {H1 : Hp} {Q : VK} {z : Fx (gName j, tYes, te, Q)} (l : Nat → List V) (h0 : l 0 = [])
    (hs : ∀ D i H, H1 D = none → i < n → LcP H1 D l i H → te ((σ.set j none).set j (some (.int (lo + (i : Nat))))) H fun y H4 => Elt H1 D l i y H4 fx)
    (hd : ∀ D H, H1 D = none → Same H1 H → H D = some (.lst (l n)) → Q (.ref D) H) : LcNew (Itr lo n) (gName j) tYes te [j] σ H1 Q z := fun D hD => by
  refine lcl_it walk_range hD l h0 (fun _ _ => trivial) ?_ (fun H => hd D H hD)
  rintro i x H H' hi hp ⟨rfl, rfl⟩
  refine ⟨?_, hs D i _ hD hi hp⟩
  show ((σ.set j none).set j (some (.int (lo + (i : Nat))))).set j none = σ.set j none
  rw [List.set_set, List.set_set]
/-- over a list of ints, with a test or without -/
theorem lc_lst {K : PySem.W.Frag} {a : Addr} {j : Nat} {tt : TT} {te : TE} {σ : L2.St} {H1 : Hp} {Q : VK} {z : Fx (gName j, tt, te, Q)} {xs : List V} (ha : H1 a = some (.lst xs)) (l : Nat → List V) (h0 : l 0 = [])
    (hs : ∀ D i x H, H1 D = none → xs[i]? = some x → LcP H1 D l i H → tt ((σ.set j none).set j (some x)) H fun b H3 => if b = true then te ((σ.set j none).set j (some x)) H3 fun y H4 => Elt H1 D l i y H4 fx else NoElt H1 D l i H3 fx)
    (hd : ∀ D H, H1 D = none → Same H1 H → H D = some (.lst (l xs.length)) → Q (.ref D) H) : LcNew (Itl K a) (gName j) tt te [j] σ H1 Q z := fun D hD => by
  refine lcl_it walk_list hD l h0 (fun H s => .of (s _ _ ha)) ?_ (fun H => hd D H hD)
  rintro i x H H' hi hp ⟨rfl, hx⟩
  refine ⟨?_, hs D i x _ hD hx hp⟩
  show ((σ.set j none).set j (some x)).set j none = σ.set j none
  rw [List.set_set, List.set_set]
theorem lc_rngT {lo : Int} {n j : Nat} {tt : TT} {te : TE} {σ : L2.St} {H1 : Hp} {Q : VK} {z : Fx (gName j, tt, te, Q)} (l : Nat → List V) (h0 : l 0 = [])
    (hs : ∀ D i H, H1 D = none → i < n → LcP H1 D l i H → tt ((σ.set j none).set j (some (.int (lo + (i : Nat))))) H fun b H3 => if b = true then te ((σ.set j none).set j (some (.int (lo + (i : Nat))))) H3 fun y H4 => Elt H1 D l i y H4 fx else NoElt H1 D l i H3 fx)
    (hd : ∀ D H, H1 D = none → Same H1 H → H D = some (.lst (l n)) → Q (.ref D) H) : LcNew (Itr lo n) (gName j) tt te [j] σ H1 Q z := fun D hD => by
  refine lcl_it walk_range hD l h0 (fun _ _ => trivial) ?_ (fun H => hd D H hD)
  rintro i x H H' hi hp ⟨rfl, rfl⟩
  refine ⟨?_, hs D i _ hD hi hp⟩
  show ((σ.set j none).set j (some (.int (lo + (i : Nat))))).set j none = σ.set j none
  rw [List.set_set, List.set_set]
theorem no_elt {H1 H H3 : Hp} {D : Addr} {l : Nat → List V} {i : Nat} {z : Fx l} (p : LcP H1 D l i H) (sm : Same H H3) (hl : l (i + 1) = l i) : NoElt H1 D l i H3 z := lc_skip p sm hl
theorem wipe2 {σ : L2.St} {i j : Nat} {x y : Option V} : ((((((σ.set j none).set i none).set i x).set j y).set j none).set i none) = (σ.set j none).set i none := by
  apply List.ext_getElem?
  intro k
  simp only [List.getElem?_set, List.length_set]
  by_cases h1 : i = k <;> by_cases h2 : j = k <;> simp [h1, h2]
theorem lc_zip {K : PySem.W.Frag} {a b : Addr} {i j n : Nat} {te : TE} {σ : L2.St} {H1 : Hp} {Q : VK} {z : Fx (gTup K n (gCons (gName i) (gCons (gName j) gNil)), tYes, te, Q)} {xs ys : List V} (hn : 2 = n) (ha : H1 a = some (.lst xs)) (hb : H1 b = some (.lst ys)) (hl : xs.length = ys.length) (l : Nat → List V) (h0 : l 0 = [])
    (hs : ∀ D k x y H, H1 D = none → xs[k]? = some x → ys[k]? = some y → LcP H1 D l k H → te ((((σ.set j none).set i none).set i (some x)).set j (some y)) H fun y H4 => Elt H1 D l k y H4 fx)
    (hd : ∀ D H, H1 D = none → Same H1 H → H D = some (.lst (l xs.length)) → Q (.ref D) H) : LcNew (Itz K a b) (gTup K n (gCons (gName i) (gCons (gName j) gNil))) tYes te [i, j] σ H1 Q z := fun D hD => by
  refine lcl_it (walk_zip (xs := xs) (ys := ys) (n := xs.length) (by omega)) hD l h0 (fun H s => ⟨.of (s _ _ ha), .of (s _ _ hb)⟩) ?_ (fun H => hd D H hD)
  rintro k v H H' hk hp ⟨T, x, y, rfl, hT, rfl, e1, e2⟩
  refine ⟨T, _, rfl, .of upd_same, hn, _, _, rfl, _, _, rfl, rfl, wipe2, ?_⟩
  exact hs D k x y _ hD e1 e2 ⟨hp.1.trans (same_upd hT), (same_upd hT) _ _ hp.2⟩
theorem replicate_snoc {α : Type} (n : Nat) (v : α) : List.replicate (n + 1) v = List.replicate n v ++ [v] := by
  rw [List.replicate_succ']
/-- [v for _ in range(n)], v written -/
theorem lc_const {lo : Int} {n j : Nat} {v : V} {σ : L2.St} {H1 : Hp} {Q : VK} {z : Fx (gName j, tYes, tC v, Q)} (hn : n < 16777216)
    (hd : ∀ D H, H1 D = none → Same H1 H → H D = some (.lst (List.replicate n v)) → Q (.ref D) H) : LcNew (Itr lo n) (gName j) tYes (tC v) [j] σ H1 Q z :=
  lc_rng (fun i => List.replicate i v) rfl (fun D i H hD hi hp => elt_is (z := fx) hD hp (Same.refl _) (replicate_snoc i v) (by rw [List.length_replicate]; omega)) hd
theorem ivs_at {l : List Int} {i : Nat} {x : V} (h : (ivs l)[i]? = some x) : ∃ b, l[i]? = some b ∧ x = .int b := by
  rw [ivs_get] at h
  cases e : l[i]? with
  | none => rw [e] at h; cases h
  | some b =>
    rw [e] at h
    exact ⟨b, rfl, (Option.some.inj h).symm⟩
theorem get_setj {σ : L2.St} {j : Nat} {x : V} (hj : j < σ.length) : ((σ.set j none).set j (some x))[j]? = some (some x) := by
  rw [List.set_set, List.getElem?_set_self hj]
/-- [x for x in xs if isinstance(x, bool)] of ints -/
theorem lc_nobools {K : PySem.W.Frag} {a : Addr} {j : Nat} {σ : L2.St} {H1 : Hp} {Q : VK} {z : Fx (gName j, tB (tCB rIsiK (tCons (tVar j) (tCons (tC (V.ty "bool")) tNil))), tVar j, Q)} {l : List Int} (ha : H1 a = some (.lst (ivs l))) (hj : j < σ.length)
    (hd : ∀ D H, H1 D = none → Same H1 H → H D = some (.lst (ivs [])) → Q (.ref D) H) : LcNew (Itl K a) (gName j) (tB (tCB rIsiK (tCons (tVar j) (tCons (tC (V.ty "bool")) tNil)))) (tVar j) [j] σ H1 Q z := by
  refine lc_lst ha (fun _ => []) rfl ?_ hd
  intro D i x H hD hx hp
  obtain ⟨b, _, rfl⟩ := ivs_at hx
  refine ⟨.int b, get_setj hj, _, _, false, rfl, (by simp [tyK_int]), kit1, false, rfl, ?_⟩
  exact iteF ⟨hp.1, hp.2⟩
/-! ### an if whose ways meet: what holds where they meet is said once -/
def tIfJ (c : TT) (t u : TS) : TS := fun D σ H => c σ H fun b H1 => if b = true then t D σ H1 else u D σ H1
theorem ps_ifJ {X : Cx} {c : Expr} {a b : List Stmt} {tc : TT} {t u : TS} {pos : Pos} (hc : PT X c tc) (ha : PSs X a t) (hb : PSs X b u) : PS X (.If c a b pos) (tIfJ tc t u) := ps_if hc ha hb
theorem if_join {c : TT} {t u : TS} {D : Ends} {σ : L2.St} {H : Hp} (R : L2.St → Hp → Prop) (key : ∀ σ H, R σ H → D.nx σ H)
    (main : ∀ nx : L2.St → Hp → Prop, (∀ σ H, R σ H → nx σ H) → tIfS c t u { D with nx := nx } σ H) : tIfJ c t u D σ H := main D.nx key
theorem ivs_bset {u : List Bool} {n : Nat} {b : Bool} : (bz u).set n (b2 b) = bz (u.set n b) := (List.map_set ..).symm
theorem ixN_in {n : Nat} {z : Int} (h0 : 0 ≤ z) (h : z < n) : ixN n z = some z.toNat := by
  unfold ixN
  rw [if_pos h0, if_pos h]
theorem pe_globI {X : Cx} {x : Str} {n : Int} {pos : Pos} (hg : Gl X x) (hm : ∃ t, X.mg x = some (.int n t)) (hd : (x == ("__debug__" : Str)) = false := by decide) : PE X (.Name x pos) (tC (.int n)) := by
  obtain ⟨t, h⟩ := hm
  exact pe_glob hg h ⟨t, rfl⟩ hd
theorem r_ne_refl {K : PySem.W.Frag} {H : Hp} {x y : V} {d : PyData} {Q : VK} (h1 : Dp K H x d) (h2 : Dp K H y d) (hs : SeqAt.shaped d = true) (q : Q (.bl false) H) : rNeD K x y H Q := by
  refine ⟨d, d, h1, h2, hs, hs, ?_⟩
  rw [SeqAt.eqv_refl d (SeqAt.canLay_of_shaped hs)]
  exact q
theorem r_eq_refl {K : PySem.W.Frag} {H : Hp} {x y : V} {d : PyData} {Q : VK} (h1 : Dp K H x d) (h2 : Dp K H y d) (hs : SeqAt.shaped d = true) (q : Q (.bl true) H) : rEqD K x y H Q := by
  refine ⟨d, d, h1, h2, hs, hs, ?_⟩
  rw [SeqAt.eqv_refl d (SeqAt.canLay_of_shaped hs)]
  exact q
theorem dpk_list {K : PySem.W.Frag} {H : Hp} {a : Addr} {l : List Int} (h : H a = some (.lst (ivs l))) : Dp K H (.ref a) (.list (l.map PyData.int)) := dp_list (.of h)
/-- rows of lists of ints -/
def dd (l : List Int) : PyData := .list (l.map PyData.int)
theorem canLay_dd (l : List Int) : (dd l).canLay0 = true := by unfold dd; simp only [PyData.canLay0]; exact canLay_ints l
theorem depth_dd (l : List Int) : (dd l).depth ≤ 2 := by
  have h := depth_ints l
  unfold dd; simp only [PyData.depth]; omega
theorem shaped_dd : ∀ ls : List (List Int), SeqAt.shaped (.list (ls.map dd)) = true := fun ls => by
  have c : ∀ ls : List (List Int), PyData.canLayAll0 (ls.map dd) = true := fun ls => by
    induction ls with
    | nil => simp [PyData.canLayAll0]
    | cons l r ih => simp [PyData.canLayAll0, canLay_dd, ih]
  have d : ∀ ls : List (List Int), PyData.depthAll (ls.map dd) ≤ 2 := fun ls => by
    induction ls with
    | nil => simp [PyData.depthAll]
    | cons l r ih => have := depth_dd l; simp only [List.map_cons, PyData.depthAll]; omega
  unfold SeqAt.shaped
  rw [Bool.and_eq_true]
  have := d ls
  exact ⟨by simp only [PyData.canLay0]; exact c ls, decide_eq_true (by simp only [PyData.depth]; omega)⟩
end Own

namespace PySem
namespace OorX
open PySem.W PySem.Calls PyProof.Rows PySem.HandSPX
/-! ### the text of __init__ -/
def iA (p1 p2 : Pos) : Arguments := { posonlyargs := [], args := [{ arg := "self", annotation := none, pos := p1 }, { arg := "what", annotation := none, pos := p2 }], vararg := none, kwonlyargs := [], kw_defaults := [], kwarg := none, defaults := [] }
def iB (q1 q2 q3 q4 : Pos) : List Stmt := [.Assign [.Attribute (.Name "self" q1) "what" q2] (.Name "what" q3) q4]
def iS : Scope := { kind := .function, names := [(PySem.Str.ofString "self", .local), (PySem.Str.ofString "what", .local)], isGenerator := false, isCoroutine := false, more := [] }
/-- what the written part says of Low, at C, and of its __init__, at fI -/
structure OorTxt (K : Frag) (mg : Str → Option Value) (C fI : Addr) : Prop where
  gC : mg "OutOfRange" = some (.ref C)
  cls : ∃ nm q N bs bm sn sub ab col dd k0 k1 k2 k3 k5, K.lookup C = some (excClassObj nm q C N bs bm true sn sub ab col dd k0 k1 k2 k3 k5 "ValueError.__new__") ∧ refsVE bm = true
  sa : findIn K (.ref C) "__setattr__" = some (some (.builtin "object.__setattr__"))
  ga : findIn K (.ref C) "__getattribute__" = some (some (.builtin "BaseException.__getattribute__"))
  gg : findIn K (.ref C) "__getattr__" = some none
  noN : findIn K (.ref C) "what" = some none
  iC : findIn K (.ref C) "__init__" = some (some (.ref fI))
  tC : typeIn K (.ref fI) = some (.type "function")
  kC : keepIn K (.ref C) = true
  exC : subIn K (.ref C) (.type "BaseException") = some true
  tyC : typeIn K (.ref C) = some (.type "type")
  hdC : hasDictIn K C = true
  te : exmOne K (.ref C) (.ref C) = some true
  fn : ∃ (oc : Value) (od : Option Addr) (doc pm : Value) (an : Option Addr) (cdv ct : Value) (osl : Array (Option Value)) (p1 p2 q1 q2 q3 q4 : Pos),
    K.lookup fI = some ⟨oc, od, .func (fnOf "__init__" "OutOfRange.__init__" (iA p1 p2) (iB q1 q2 q3 q4) iS .none .none doc pm an cdv ct), osl⟩ ∧ codeIn K cdv "OutOfRange.__init__" = true
theorem one_size (v : Value) : [v].length ≤ sizeLine := by
  rw [sizeLine_eq]
  exact (by decide : 1 ≤ 16777216)
theorem kept_but {K : Frag} {h h' : Heap} {x : Addr} (X : K.In h) (hx : K.lookup x = none) (k : ∀ b o, b ≠ x → h.get? b = some o → h'.get? b = some o) : K.In h' := fun a o e =>
  k a o (fun z => by rw [z, hx] at e; cases e) (X a o e)
theorem ldC {M : Model} {s : Shared} {name : Str} {scope : Scope} {L a : Addr} {cd : Value} {m : Str → Option Value} {x : Str} {pos : Pos} {v : Value} {Q : Value → Shared → Prop} {A : Around} {E : Value → Shared → Prop} (hn : s.heap.Ns L m) (hv : m x = some v) (h : Q v s)
    (hk : scope.kind = .function := by rfl) (hl : (envOfC name scope L a cd).kindOf x = some .local := by rfl) (hd : (x == ("__debug__" : Str)) = false := by decide) :
    wpAny M A (eval (.Name x pos) (envOfC name scope L a cd)) Q E s := wpAny_Name (wpAny_loadName_local hk hl hn hv h) hd
/-- what __init__ leaves of a fresh exception at x -/
structure InitEnd (h h' : Heap) (x C dx t1 : Addr) (v : Value) : Prop where
  keep : ∀ b o, b ≠ x → h.get? b = some o → h'.get? b = some o
  obj : h'.get? x = some { cls := .ref C, dict := some dx, data := .fields #[.ref t1, .none, .none, .none, .bool false, .none] }
  dbig : h.objs.size ≤ dx
  dne : dx ≠ x
  ns : h'.Ns1 dx (fun y => if y = "what" then some v else none)
/-- a made Low -/
structure OwnMade (h h' : Heap) (e C d : Addr) (v : Value) : Prop where
  keep : ∀ b o, h.get? b = some o → h'.get? b = some o
  new : h.objs.size ≤ e
  obj : ∃ oe vs, h'.get? e = some oe ∧ oe.cls = .ref C ∧ oe.dict = some d ∧ oe.data = .fields vs ∧ vs[1]? = some .none
  dbig : h.objs.size ≤ d
  dne : d ≠ e
  ns : h'.Ns1 d (fun y => if y = "what" then some v else none)
section
variable {prog : Program} {w : World} {A : Around} {E : Value → Shared → Prop} {R : Result → Shared → Prop} {s : Shared} {K : Frag} {mg : Str → Option Value} {C fI : Addr}
theorem low_init (T : OorTxt K mg C fI) {x t0 : Addr} {v : Value} (X : K.In s.heap) (hlim : s.heap.NoLimit) (hx : s.heap.get? x = some (excO C t0)) (hnx : K.lookup x = none) (hroom : A.depth < recursionLimit)
    (hq : ∀ h' tk dx, InitEnd s.heap h' x C dx t0 v → R (.ok (.ret .none)) { s with heap := h', toks := tk }) :
    codeAny (model prog w) A (.call (.ref fI) ⟨[.ref x, v], []⟩) R s := by
  obtain ⟨oc, od, doc, pm, an, cdv, ct, osl, p1, p2, q1, q2, q3, q4, ho, hcd⟩ := T.fn
  obtain ⟨nm, q, N, bs, bm, sn, sub, ab, col, dd, k0, k1, k2, k3, k5, hC, hbm⟩ := T.cls
  have hcl : clsIn K C = some { name := nm, bases := bs, mro := .ref C :: bm, ns := N, qualname := q, hasDict := true, slotNames := sn, subclasses := sub, abstract := ab, collection := col, hasDel := false } := by unfold clsIn; rw [hC] <;> rfl
  refine Att.call_fn (binds := [("self", .ref x), ("what", v)]) X hlim ho hcd hroom (BindsTo.of_eq (by first | rfl | with_unfolding_all rfl)) (by first | rfl | decide | with_unfolding_all rfl) (fun s₁ IC => ?_) rfl rfl rfl
  obtain ⟨h₁, tk₁, rfl⟩ := IC.toInCall.same
  have k : ∀ b o, s.heap.get? b = some o → h₁.get? b = some o := IC.toInCall.keep
  have hn := IC.toInCall.ns
  have hxL : s.heap.objs.size ≠ x := Nat.ne_of_gt (Heap.lt_size hx)
  have X₁ : K.In h₁ := X.keeps k
  have hx₁ := k _ _ hx
  -- self.by = by
  show wpAny _ _ (execs _ _) _ _ _
  refine wpAny_execs_cons (plainObj_wpAny_Assign_Attribute ?_)
  refine ldC (v := v) hn (by first | rfl | with_unfolding_all rfl | kernel_rfl) (ldC (v := .ref x) hn (by first | rfl | with_unfolding_all rfl | kernel_rfl) ?_)
  refine set_plain X₁ (ox := excO C t0) (od := none) ⟨hx₁, rfl, rfl, trivial⟩ T.sa ?_
  refine exc_osa X₁ hx₁ hcl (show refsVE (.ref C :: bm) = true from hbm) rfl T.noN (fun h₃ tk₃ dx k₃ dn dne hx₃ hn₃ => ?_)
  show wpAny _ _ (execs _ _) _ _ _
  have z : s.heap.objs.size < h₁.objs.size := hn.lt
  exact wpAny_execs_nil (hq h₃ tk₃ dx ⟨fun b o hb e => k₃ b o hb (k b o e), hx₃, Nat.le_of_lt (Nat.lt_of_lt_of_le z dn), dne, hn₃⟩)
theorem low_made (T : OorTxt K mg C fI) {v : Value} (X : K.In s.heap) (hlim : s.heap.NoLimit) (hroom : A.depth + 1 < recursionLimit)
    (hq : ∀ h' tk e d, OwnMade s.heap h' e C d v → R (.ok (.ret (.ref e))) { s with heap := h', toks := tk }) :
    codeAny (model prog w) A (.call (.ref C) ⟨[v], []⟩) R s := by
  obtain ⟨nm, q, N, bs, bm, sn, sub, ab, col, dd, k0, k1, k2, k3, k5, hC, hbm⟩ := T.cls
  obtain ⟨hp, g, dr, tk, os⟩ := s
  have k : ∀ b o, hp.get? b = some o → ((hp.push (kdv_tup [v])).push (excO C hp.objs.size)).get? b = some o := fun b o e => Heap.get?_push_of_some _ (Heap.get?_push_of_some _ e)
  have hget : ((hp.push (kdv_tup [v])).push (excO C hp.objs.size)).get? (hp.objs.size + 1) = some (excO C hp.objs.size) := by heap_get
  have hnx : K.lookup (hp.objs.size + 1) = none := by
    cases e : K.lookup (hp.objs.size + 1) with
    | none => rfl
    | some o =>
      have z : hp.get? (hp.objs.size + 1) = some o := X _ _ e
      exact absurd (Nat.lt_of_succ_lt (Heap.lt_size z)) (Nat.lt_irrefl _)
  refine call_own F.excBase_ValueError (fun X => refsVE_contains X bm hbm) (X _ _ hC) (looks_findIn X T.iC) (fun self => bind_fn X self T.tC) (one_size v) ?_
  refine low_init (s := ⟨(hp.push (kdv_tup [v])).push (excO C hp.objs.size), g, dr, tk, os⟩) T (X.keeps k) (hlim.keeps k) hget hnx ?_ fun h' tk' dx ⟨k', hx, dn, dne, hns⟩ => ?_
  · show A.depth + 1 < recursionLimit
    exact hroom
  · have old : ∀ b o, hp.get? b = some o → h'.get? b = some o := fun b o e => k' b o (Nat.ne_of_lt (Nat.lt_succ_of_lt (Heap.lt_size e))) (k b o e)
    have z : hp.objs.size + 1 + 1 ≤ dx := by
      first
        | (simpa only [Heap.size_push] using dn)
        | exact dn
        | (have q := dn; rw [Heap.size_push, Heap.size_push] at q; exact q)
    exact ⟨rfl, hq h' tk' (hp.objs.size + 1) dx ⟨old, Nat.le_succ _, ⟨_, _, hx, rfl, rfl, rfl, rfl⟩, Nat.le_trans (Nat.le_trans (Nat.le_succ _) (Nat.le_succ _)) z, dne, hns⟩⟩
end
end OorX
end PySem
namespace L2
open PySem PySem.Spec PyProof.Rows
theorem relO_low {v : V} {v' : Value} (r : RelV v v') (f : Str) : RelO (List.lookup f [(("what" : Str), v)]) (if f = "what" then some v' else none) := by
  by_cases hw : f = "what"
  · subst hw
    rw [if_pos rfl]
    have q : List.lookup ("what" : Str) [(("what" : Str), v)] = some v := by simp [List.lookup]
    rw [q]
    exact r
  · rw [if_neg hw]
    have qw : (f == ("what" : Str)) = false := by simpa using hw
    have q2 : List.lookup f [(("what" : Str), v)] = none := by simp [List.lookup, qw]
    rw [q2]
    trivial
section
variable {X : Cx} {C fI : Addr}
/-- Low(e) -/
def tMkO (C : Addr) (ta : TA) : St → Hp → XK → Prop := fun σ H Q => ta σ H fun vs H1 => ∃ v, vs = [v] ∧ ∀ d, H1 d = none → Q (.ref C) (some d) (upd H1 d (.xd [(("what" : Str), v)]))
theorem pmk_oor {a : Expr} {ta : TA} {p pos : Pos} {k : Nat} (T : PySem.OorX.OorTxt X.K X.mg C fI) (hr : Room k X.A) (ha : PA X [a] ta) (hg : Gl X "OutOfRange" := by rfl)
    (he : starEach (a :: []) X.env = (false, eval a X.env) :: starEach [] X.env := by rfl) (hpl : (backTo pos (starEach [] X.env)).any (·.1) = false := by rfl) :
    PMk X (.Call (.Name "OutOfRange" p) [a] [] pos) (tMkO C ta) := by
  intro pins s σ H Q I h
  refine wpAny_Call_Name_kw (ld_glob I hg T.gC ?_)
  refine PySem.W.callWith_K (h₀ := X.base) I.ok.mod.kin T.kC (thn (ha.run pos pins s σ H _ I h) fun us s1 hh => ?_) he hpl
  obtain ⟨vs, H1, I1, r1, v, ev, q1⟩ := hh
  subst ev
  refine ⟨I1.kIn, ?_⟩
  cases r1 with
  | cons rv rn =>
    rename_i v' us'
    cases rn
    show wpAny _ _ (call (.ref C) [v']) _ _ _
    have hlim := I1.nolimit
    obtain ⟨hp, g, dr, tk, os⟩ := s1
    refine wpAny_call (PySem.OorX.low_made T I1.kIn hlim (by have := hr.dp; omega) fun h' tk' e d M => ?_)
    show MkP X pins σ Q (.ref e) ⟨h', g, dr, tk', os⟩
    obtain ⟨oe, fv, hoe, hc, hd, hdat, h1⟩ := M.obj
    have hns := M.ns
    obtain ⟨G', g1, g2⟩ := restrict h' fun b => decide (b ≠ e)
    have gk : ∀ b, b ≠ e → G'.get? b = h'.get? b := fun b hb => g1 b (decide_eq_true hb)
    have ge : G'.get? e = none := g2 e (by simp)
    have old : ∀ b o, hp.get? b = some o → G'.get? b = some o := fun b o q => (gk b (Nat.ne_of_lt (Nat.lt_of_lt_of_le (Heap.lt_size q) M.new))).trans (M.keep b o q)
    have ob : ObjOk X.prog X.w (upd H1 d (.xd [(("what" : Str), v)])) G' d (.xd [(("what" : Str), v)]) :=
      ⟨_, hns.at (fun o q => (gk d M.dne).trans q), fun f => relO_low rv f⟩
    have J : Inv X pins σ (upd H1 d (.xd [(("what" : Str), v)])) ⟨G', g, dr, tk', os⟩ := I1.laid (t' := tk') old M.dbig ob
    refine ⟨e, oe, fv, ⟨G', g, dr, tk', os⟩, _, .ref C, some d, rfl, J, fun b o q => ?_, ge, hoe, ⟨hc, hd⟩, hdat, h1, ?_, rfl, I1.bare, raises_own T.exC T.tyC, q1 d (I1.hok.fresh M.dbig)⟩
    · by_cases hb : b = e
      · have q' : G'.get? b = some o := q
        rw [hb, ge] at q'; cases q'
      · exact (gk b hb).symm.trans q
    · rw [upd_ne (Ne.symm M.dne)]
      exact I1.hok.fresh M.new
/-- raise Low(e) -/
def tRaiseO (C : Addr) (W : WX) (ta : TA) : TS := fun _ σ H => tMkO C ta σ H fun cls d H' => W cls d σ H'
theorem ps_raiseO {a : Expr} {ta : TA} {W : WX} {p pos pos2 : Pos} {k : Nat} (hc : X.calm = true) (T : PySem.OorX.OorTxt X.K X.mg C fI) (hr : Room k X.A) (tk : Takes X W) (ha : PA X [a] ta) (hg : Gl X "OutOfRange" := by rfl)
    (he : starEach (a :: []) X.env = (false, eval a X.env) :: starEach [] X.env := by rfl) (hpl : (backTo pos (starEach [] X.env)).any (·.1) = false := by rfl) :
    PS X (.Raise (some (.Call (.Name "OutOfRange" p) [a] [] pos)) none pos2) (tRaiseO C W ta) := ps_raise hc tk (pmk_oor T hr ha hg he hpl)
/-- low.by, low the exception that the suite holds (at a; its class cls, its dict d) -/
def tWhat (C : Addr) (a : Addr) (cls : Value) (d : Option Addr) (te : TE) : TE := fun σ H Q => te σ H fun x H1 => x = .ref a ∧ cls = .ref C ∧ ∃ (dd : Addr) (v : V), d = some dd ∧ H1 dd = some (.xd [(("what" : Str), v)]) ∧ Q v H1
theorem pe_what {a : Addr} {oe : Obj} {cls : Value} {d : Option Addr} {pn : List (Addr × Obj)} {e : Expr} {te : TE} {pos : Pos} (T : PySem.OorX.OorTxt X.K X.mg C fI) (hz : Zc cls d oe) (hf : ∃ vs, oe.data = .fields vs) (he : PE (X.suite a ((a, oe) :: pn)) e te)
    (hb : attributeBase e "what" X.env (eval e X.env) = eval e X.env := by rfl) :
    PE (X.suite a ((a, oe) :: pn)) (.Attribute e "what" pos) (tWhat C a cls d te) := by
  refine ⟨fun pins s σ H Q I h => ?_⟩
  refine attr_of hb (thn (he.run pins s σ H _ I h) fun u s1 hh => ?_)
  obtain ⟨x, H1, I1, rx, ex, ec, dd, v, ed, ea, q⟩ := hh
  subst ex
  obtain rfl : u = Value.ref a := rx
  subst ec
  subst ed
  obtain ⟨ha, _⟩ := I1.pin (a, oe) (List.mem_append_left _ List.mem_cons_self)
  obtain ⟨vs, hd⟩ := hf
  have hx : ObjOk X.prog X.w H1 s1.heap dd (.xd [(("what" : Str), v)]) := I1.hok dd _ ea
  obtain ⟨mA, hns, hr⟩ := hx
  obtain ⟨od, ho, hl⟩ := lookIn_ns hns
  have l : List.lookup ("what" : Str) [(("what" : Str), v)] = some v := by simp [List.lookup]
  obtain ⟨u, hu, ru⟩ := RelO.some_of (v := v) (o := mA "what") (by rw [← l]; exact hr "what")
  have J : PySem.W.InstAt s1.heap a oe C (some od) := ⟨ha, hz.1, by unfold PySem.W.notCls; rw [hd] <;> rfl, by rw [hz.2]; exact ho⟩
  exact HandSPX.exc_get I1.kIn J T.ga T.gg T.exC (PySem.W.findObj_own T.hdC T.noN rfl (by rw [hl, hu])) (handed_of ru) ⟨v, H1, I1.tok _, ru, q⟩
end
end L2

namespace L2
open PySem PySem.Spec PyProof.Rows
theorem exm_self {K : PySem.W.Frag} {S : Addr} (h1 : PySem.W.subIn K (.ref S) (.type "BaseException") = some true) (h2 : PySem.W.isClsIn K S = true) (h3 : PySem.W.typeIn K (.ref S) = some (.type "type")) (h4 : PySem.W.subIn K (.ref S) (.ref S) = some true) :
    PySem.W.exmOne K (.ref S) (.ref S) = some true := by
  have e1 : (PySem.W.subIn K (.ref S) (.type "BaseException") == some true) = true := by rw [h1] <;> rfl
  have e2 : ((PySem.W.clsIn K S).isSome && PySem.W.typeIn K (.ref S) == some (.type "type")) = true := by
    have h2' : (PySem.W.clsIn K S).isSome = true := h2
    rw [h2', h3] <;> rfl
  show (if (PySem.W.subIn K (.ref S) (.type "BaseException") == some true) = true then (if ((PySem.W.clsIn K S).isSome && PySem.W.typeIn K (.ref S) == some (.type "type")) = true then PySem.W.subIn K (.ref S) (.ref S) else none) else none) = some true
  rw [if_pos e1, if_pos e2]
  exact h4
end L2
namespace L2
open PySem PySem.Spec PyProof.Rows
/-- X(), an own class without an __init__ of its own -/
theorem pmk_own0 {X : Cx} {C : Addr} {bmB : List Value} {B newId initId : String} {x : Str} {p pos : Pos} (F : ExcBaseFacts B newId initId bmB) (q : PySem.W.excIn X.K C bmB newId = true) (gC : X.mg x = some (.ref C)) (kC : PySem.W.keepIn X.K (.ref C) = true) (r : Raises X (.ref C)) (hg : Gl X x)
    (hdb : (x == ("__debug__" : Str)) = false := by decide) : PMk X (.Call (.Name x p) [] [] pos) (fun _ H Q => Q (.ref C) none H) := by
  intro pins s σ H Q I h
  refine wpAny_Call_Name_kw (ld_glob I hg gC ?_ hdb)
  refine PySem.W.callWith_K0 I.kIn kC ?_
  show wpAny _ _ (call (.ref C) []) _ _ _
  obtain ⟨bm, N, nm, qn, bs, hdct, sn, sub, ab, col, dd, k0, k1, k2, k3, k5, mN, hC, hN, hni, T⟩ := exc_obj I.kIn q
  refine wpAny_call_exc_subT F T hC hN hni (fun h' e hm => ?_) (Nat.zero_le _)
  exact mk_of I hm r h (I.hok.gone hm.new)
end L2
namespace Own
open PySem PySem.Spec PyProof.Rows L2
/-- an own error class without fields -/
structure OwnErr (K : PySem.W.Frag) (mg : Str → Option Value) (x : Str) (C : Addr) : Prop where
  gC : mg x = some (.ref C)
  xP : PySem.W.excIn K C [.type "ValueError", .type "Exception", .type "BaseException", .type "object"] "ValueError.__new__" = true
  kP : PySem.W.keepIn K (.ref C) = true
  bP : PySem.W.subIn K (.ref C) (.type "BaseException") = some true
  tP : PySem.W.typeIn K (.ref C) = some (.type "type")
  te : PySem.W.exmOne K (.ref C) (.ref C) = some true
/-- an error's own dict: new -/
def NewX (H : Hp) (v : V) (Q : Addr → Hp → Prop) (_ : Fx Q) : Prop := ∀ d, H d = none → Q d (upd H d (.xd [(("what" : Str), v)]))
theorem newx_of {H : Hp} {v : V} {Q : Addr → Hp → Prop} {z : Fx Q} (h : ∀ d H1, Same H H1 → H d = none → H1 d = some (.xd [(("what" : Str), v)]) → Q d H1) : NewX H v Q z := fun d nd => h d _ (same_upd nd) nd upd_same
theorem e_raiseO {C : Addr} {W : WX} {ta : TA} {D : Ends} {σ : L2.St} {H : Hp} : tRaiseO C W ta D σ H = ta σ H fun vs H1 => ∃ v, vs = [v] ∧ NewX H1 v (fun d H' => W (.ref C) (some d) σ H') fx := rfl
theorem e_callS {sp : Sp} {E : L2.St → XK} {t : TA} {σ : L2.St} {H : Hp} {Q : VK} : tCallS sp E t σ H Q = t σ H fun vs H1 => CallTo sp vs H1 Q (E σ) fx := rfl
theorem e_what {C a : Addr} {cls : Value} {d : Option Addr} {te : TE} {σ : L2.St} {H : Hp} {Q : VK} : tWhat C a cls d te σ H Q = te σ H fun x H1 => x = .ref a ∧ cls = .ref C ∧ ∃ (dd : Addr) (v : V), d = some dd ∧ H1 dd = some (.xd [(("what" : Str), v)]) ∧ Q v H1 := rfl
theorem hxd_inj {f : Str} {a b : V} : (HO.xd [(f, a)] = HO.xd [(f, b)]) = (a = b) := propext ⟨fun h => by injection h with h; injection h with h1 h2; injection h1, fun h => by rw [h]⟩
/-- an error that the clause names -/
theorem as_hit {K : PySem.W.Frag} {C : Addr} {i : Nat} {ts : Addr → Value → Option Addr → TS} {Wout : WX} {D : Ends} {d : Option Addr} {σ : L2.St} {H : Hp} (te : PySem.W.exmOne K (.ref C) (.ref C) = some true)
    (h : ∀ a, H a = none → ts a (.ref C) d { nx := fun σ' H' => D.nx (σ'.set i none) H', rt := D.rt, bk := fun σ' H' => D.bk (σ'.set i none) H', ct := fun σ' H' => D.ct (σ'.set i none) H' } (σ.set i (some (.ref a))) H) :
    WE (wAs K (.ref C) i ts Wout D) σ (.ref C) d H := ⟨true, te, fun _ => h, fun z => by cases z⟩
theorem only_hit {K : PySem.W.Frag} {C : Addr} {ts : Addr → Value → Option Addr → TS} {Wout : WX} {D : Ends} {d : Option Addr} {σ : L2.St} {H : Hp} (te : PySem.W.exmOne K (.ref C) (.ref C) = some true)
    (h : ∀ a, H a = none → ts a (.ref C) d D σ H) : WE (wOnly K (.ref C) ts Wout D) σ (.ref C) d H := ⟨true, te, fun _ => h, fun z => by cases z⟩
/-- the call ends in OutOfRange(z); what stood ahead stands -/
abbrev Ref (C : Addr) (z : Str) (H : Hp) (E : XK) : Prop := ∀ d H', Same H H' → H d = none → H' d = some (.xd [(("what" : Str), .str z)]) → E (.ref C) (some d) H'
theorem Ref.up {C : Addr} {z : Str} {H H1 : Hp} {E : XK} (r : Ref C z H E) (sm : Same H H1) : Ref C z H1 E := fun d H' s n e => r d H' (sm.trans s) (sm.free n) e
end Own

namespace Own
open PySem PySem.Spec PyProof.Rows L2
def topS (i : Nat) : Stmt := PySem.Challenge.pw_mobileair_k20_groups_of_digits.main.body.getD i (.Pass ⟨0, 0, 0, 0⟩)
abbrev s_check_range : Stmt := topS 4
abbrev s_group_of : Stmt := topS 6
abbrev s__check_cell : Stmt := topS 7
abbrev s__law_mixed : Stmt := topS 9
abbrev s__law_refused : Stmt := topS 10
abbrev s_law : Stmt := topS 11
theorem sc_check_range : FnScope ["number", "least", "most", "what"] ["number", "least", "most", "what"] (defScope s_check_range) := ⟨rfl, rfl, rfl, by decide +kernel, rfl, by decide +kernel, by decide +kernel⟩
theorem sc_group_of : FnScope ["digits", "blocks", "turns"] ["digits", "blocks", "turns"] (defScope s_group_of) := ⟨rfl, rfl, rfl, by decide +kernel, rfl, by decide +kernel, by decide +kernel⟩
theorem sc__check_cell : FnScope ["blocks", "turns"] ["blocks", "turns"] (defScope s__check_cell) := ⟨rfl, rfl, rfl, by decide +kernel, rfl, by decide +kernel, by decide +kernel⟩
theorem sc__law_mixed : FnScope ["cell", "turn", "value", "first", "second", "third"] ["cell", "turn"] (defScope s__law_mixed) := ⟨rfl, rfl, rfl, by decide +kernel, rfl, by decide +kernel, by decide +kernel⟩
theorem sc__law_refused : FnScope ["blocks", "turns", "found", "digits", "what", "e"] ["blocks", "turns"] (defScope s__law_refused) := ⟨rfl, rfl, rfl, by decide +kernel, rfl, by decide +kernel, by decide +kernel⟩
theorem sc_law : FnScope ["script", "blocks", "due", "turn", "cell", "value", "digits", "left", "spare", "turns", "number", "told"] ["script"] (defScope s_law) := ⟨rfl, rfl, rfl, by decide +kernel, rfl, by decide +kernel, by decide +kernel⟩
structure BI (mg : Str → Option Value) : Prop where
  int_ : mg "int" = none
  len_ : mg "len" = none
  range_ : mg "range" = none
  enumerate_ : mg "enumerate" = none
  isinstance_ : mg "isinstance" = none
  bool_ : mg "bool" = none
/-- a text of digits -/
def dg (l : List Nat) : Str := ⟨(l.map fun d => 48 + d).toArray⟩
theorem dg_app (a b : List Nat) : dg a ++ dg b = dg (a ++ b) := by
  show Str.append _ _ = _
  unfold dg Str.append
  simp
theorem dg_len (l : List Nat) : (dg l).length = l.length := by
  unfold dg Str.length
  simp
theorem dg_list (l : List Nat) : (dg l).cps.toList = l.map fun d => 48 + d := by
  unfold dg
  simp
theorem int3 : ∀ a < 10, ∀ b < 10, ∀ c < 10, intText? (dg [a, b, c]) = some (100 * (a : Int) + 10 * (b : Int) + (c : Int)) := by decide +kernel
theorem int1 : ∀ a < 10, intText? (dg [a]) = some (a : Int) := by decide +kernel
theorem dg_one (a : Nat) : (⟨#[48 + a]⟩ : Str) = dg [a] := rfl
theorem ten_text : (Str.ofString "0123456789").cps.toList = [48, 49, 50, 51, 52, 53, 54, 55, 56, 57] := by decide +kernel
theorem ten_at {x : Int} (h0 : 0 ≤ x) (h1 : x < 10) : atI (Str.ofString "0123456789").cps.toList x = some (48 + x.toNat) := by
  rw [ten_text, atI_at h0]
  have : x.toNat = 0 ∨ x.toNat = 1 ∨ x.toNat = 2 ∨ x.toNat = 3 ∨ x.toNat = 4 ∨ x.toNat = 5 ∨ x.toNat = 6 ∨ x.toNat = 7 ∨ x.toNat = 8 ∨ x.toNat = 9 := by omega
  rcases this with h | h | h | h | h | h | h | h | h | h <;> rw [h] <;> rfl
/-- the last three -/
theorem split3 {l : List Nat} (h : 3 ≤ l.length) : ∃ r a b c, l = r ++ [a, b, c] := by
  refine ⟨l.take (l.length - 3), l[l.length - 3]'(by omega), l[l.length - 2]'(by omega), l[l.length - 1]'(by omega), ?_⟩
  apply List.ext_getElem?
  intro i
  by_cases h1 : i < l.length - 3
  · rw [List.getElem?_append_left (by rw [List.length_take]; omega), List.getElem?_take, if_pos h1]
  · rw [List.getElem?_append_right (by rw [List.length_take]; omega), List.length_take]
    have hm : min (l.length - 3) l.length = l.length - 3 := by omega
    rw [hm]
    by_cases h2 : i = l.length - 3
    · subst h2; simp [show l.length - 3 < l.length by omega]
    · by_cases h3 : i = l.length - 2
      · subst h3
        rw [show l.length - 2 - (l.length - 3) = 1 by omega]
        simp [show l.length - 2 < l.length by omega]
      · by_cases h4 : i = l.length - 1
        · subst h4
          rw [show l.length - 1 - (l.length - 3) = 2 by omega]
          simp [show l.length - 1 < l.length by omega]
        · rw [List.getElem?_eq_none (by omega), List.getElem?_eq_none (by simp; omega)]
theorem cut3 (r : List Nat) (a b c : Nat) : cutS (dg (r ++ [a, b, c])) (some (-3)) none = dg [a, b, c] := by
  unfold cutS
  have hl : (dg (r ++ [a, b, c])).length = r.length + 3 := by rw [dg_len]; simp
  have e1 : HT.sIx (r.length + 3) 0 (some (-3)) = r.length := by
    show HT.sIx _ _ (some (-3)) = _
    unfold HT.sIx
    simp only
    first | (split <;> omega) | omega
  rw [hl, HT.sIx_none, e1, dg_list]
  have e2 : (r ++ [a, b, c]).map (fun d => 48 + d) = r.map (fun d => 48 + d) ++ [48 + a, 48 + b, 48 + c] := by simp
  rw [e2, List.drop_left' (by simp), show r.length + 3 - r.length = 3 by omega]
  rfl
theorem at_m3 (r : List Nat) (a b c : Nat) : atI (dg (r ++ [a, b, c])).cps.toList (-3) = some (48 + a) ∧ atI (dg (r ++ [a, b, c])).cps.toList (-2) = some (48 + b) ∧ atI (dg (r ++ [a, b, c])).cps.toList (-1) = some (48 + c) := by
  rw [dg_list]
  have e2 : (r ++ [a, b, c]).map (fun d => 48 + d) = r.map (fun d => 48 + d) ++ [48 + a, 48 + b, 48 + c] := by simp
  rw [e2]
  generalize hm : r.map (fun d => 48 + d) = m
  have key : ∀ (z : Int) (j : Nat) (x : Nat), z = (j : Int) - 3 → j < 3 → [48 + a, 48 + b, 48 + c][j]? = some x → atI (m ++ [48 + a, 48 + b, 48 + c]) z = some x := by
    intro z j x hz hj hx
    unfold atI ixN
    have hl : (m ++ [48 + a, 48 + b, 48 + c]).length = m.length + 3 := by simp
    rw [hl, if_neg (by omega), if_pos (by omega)]
    show (m ++ [48 + a, 48 + b, 48 + c])[(z + ((m.length + 3 : Nat) : Int)).toNat]? = some x
    rw [show (z + ((m.length + 3 : Nat) : Int)).toNat = m.length + j by omega, List.getElem?_append_right (by omega), Nat.add_sub_cancel_left]
    exact hx
  exact ⟨key (-3) 0 _ rfl (by decide) rfl, key (-2) 1 _ rfl (by decide) rfl, key (-1) 2 _ rfl (by decide) rfl⟩

section
variable {P : Program} {w : World} {K : PySem.W.Frag} {mg : Str → Option Value} {base : Heap} {C_OutOfRange f_OutOfRange : Addr}
def sp_check_range (K : PySem.W.Frag) (C : Addr) : Sp := fun vs H Q E => ∃ (n l m : Int) (z : Str), vs = [.int n, .int l, .int m, .str z] ∧ (¬ (l ≤ n ∧ n ≤ m) → Ref C z H E) ∧ (l ≤ n ∧ n ≤ m → Q .non H)

theorem ok_check_range {f : Addr} {fd : FuncData} (F : Fun K "check_range" "check_range" s_check_range f fd) (B : BI mg) (X_OutOfRange : PySem.OorX.OorTxt K mg C_OutOfRange f_OutOfRange) : FnOk P w K mg base (L2.CX P w) 1 f fd ["number", "least", "most", "what"] (sp_check_range K C_OutOfRange) := by
  refine F.okX sc_check_range (fun vs H Q E h => ?_) (fun cdv A outer s H vs Q E hr h => ?_)
  · obtain ⟨n, l, m, z, rfl, q1, q2⟩ := h
    rfl
  · obtain ⟨n, l, m, z, rfl, q1, q2⟩ := h
    refine ⟨_, (pss_one (ps_if (pt_not (pt_chain op_le op_le (pv 1) (pv 0) (pv 2))) (pss_one (ps_raiseO rfl X_OutOfRange hr (takes_of rfl rfl rfl rfl) (by exact (pa_cons (pv 3) pa_nil)))) pss_nil)), ?_⟩
    (try simp only [Own.e_seq, Own.e_cxK, Own.e_wishK, Own.e_noxK, Own.e_asg, Own.e_gName, Own.e_var, Own.e_C, Own.e_op, Own.e_un, Own.e_rI, Own.e_rI0, Own.e_rU, Own.e_CMul, Own.e_CDiv, Own.e_CPow, Own.e_rEq, Own.e_rNe, Own.e_scal_int, Own.e_scal_str, Own.e_scal_bl, Own.e_ifS, Own.e_test, Own.e_tB, Own.e_ret, Own.e_retN, Own.e_next, Own.e_brk, Own.e_cnt, Own.e_cons, Own.e_nil, Own.e_lst, Own.e_tup, Own.e_drop, Own.e_and, Own.e_or, Own.e_not, Own.e_andV, Own.e_orV, Own.e_notV, Own.e_if, Own.e_chain, Own.e_CB, Own.e_call, Own.e_rIxL, Own.e_rIxT, Own.e_rIxK, Own.e_rIxKT, Own.e_rSlK, Own.e_rLenK, Own.e_rListK, Own.e_rTupleK, Own.e_rSumK, Own.e_rDivK, Own.e_rNeK, Own.e_rEqK, Own.e_rNeKT, Own.e_rEqKT, Own.e_rIsiK, Own.e_rSlS, Own.e_rIxS, Own.tyK_int, Own.tyK_bl, Own.tyK_str, Own.tyK_non, Own.tyK_ref, Own.tyO_lst, Own.tyO_tup, Own.kit1, Own.kit2, Own.kit3, Own.kit4, Own.kit5, Own.kit6, Own.kit7, Own.kit8, Own.kit9, Own.hlst_inj, Own.htup_inj, Own.vty_inj, Own.ivs_inj, Own.bz_inj, Own.ivs_len, Own.bz_len, Own.ivs_app, Own.ivs_set, Own.ivs_bset, Own.bz_app, Own.ivs_snoc, Own.bz_snoc, Own.atI_ints, Own.atI_bz, Own.isLst_some, Own.ty_lst, L2.upd_same, L2.upd_upd, Own.b2_xor, Own.b2_mod2, Own.b2_mod3, Own.b2_mod4, Own.b2_flip, Option.map_some, Option.isSome_some, ne_eq, eq_self, not_false_eq_true, not_true_eq_false, String.reduceEq, Own.e_BM, Own.e_BM0, Own.e_rAppend, Own.e_rCat, Own.e_rRep, Own.e_sl, Own.e_noPart, Own.e_part, Own.e_rSlL, Own.e_gSub, Own.e_rSetL, Own.e_bits, Own.e_yes, Own.e_gTup, Own.e_gNil, Own.e_gCons, Own.e_aug, Own.e_ipI, Own.e_for, Own.e_lc, Own.e_iList, Own.e_iTup, Own.e_iRng1, Own.e_iRng2, Own.e_iEnum, Own.e_iZip, L2.start, L2.wipe, List.map_cons, List.map_nil, List.replicate_succ, List.replicate_zero, List.length_cons, List.length_nil, Nat.reduceAdd, Nat.reduceSub, Nat.zero_add, List.getElem?_cons_zero, List.getElem?_cons_succ, List.set_cons_zero, List.set_cons_succ, Option.some.injEq, L2.V.int.injEq, L2.V.bl.injEq, L2.V.str.injEq, L2.V.ref.injEq, List.cons.injEq, List.cons_append, List.nil_append, List.append_nil, exists_eq_left', exists_eq_left, exists_and_left, exists_and_right, exists_eq, and_true, true_and, reduceCtorEq, false_and, and_false, exists_false, or_false, false_or, true_or, or_true, decide_eq_true_eq, Bool.not_true, Bool.not_false, Bool.not_eq_true', Bool.not_eq_false', decide_eq_false_iff_not, ite_not, if_true, if_false, ite_true, ite_false, Bool.false_eq_true, if_pos trivial, decide_true, decide_false, PySem.sizeLine_eq, eq_self, Int.reduceNeg, Int.reducePow, Int.reduceLT, Int.reduceLE, Int.reduceToNat, Nat.reduceLeDiff, Int.reduceSub, Int.reduceAdd, Int.reduceMul, Int.reduceDiv, Int.reduceMod, Int.reduceEq, Nat.reduceMul, Nat.reduceEqDiff, Own.e_raiseO, Own.e_callS, Own.e_what, Own.hxd_inj])
    refine ite2 (fun h1 => ite2 (fun h2 => q2 ⟨h1, h2⟩) (fun h2 => newx_of fun d H1 sm nd hd => q1 (fun h => h2 h.2) d H1 sm nd hd)) (fun h1 => newx_of fun d H1 sm nd hd => q1 (fun h => h1 h.1) d H1 sm nd hd)
def sp__check_cell (K : PySem.W.Frag) (C : Addr) : Sp := fun vs H Q E => ∃ b t : Int, vs = [.int b, .int t] ∧ (¬ (1 ≤ b ∧ b ≤ 9) → Ref C "blocks" H E) ∧ (1 ≤ b ∧ b ≤ 9 → ¬ (2 ≤ t ∧ t ≤ 9) → Ref C "turns" H E) ∧ (1 ≤ b ∧ b ≤ 9 → 2 ≤ t ∧ t ≤ 9 → Q .non H)

theorem ok__check_cell {f : Addr} {fd : FuncData} {f_check_range : Addr} {fd_check_range : FuncData} (F : Fun K "_check_cell" "_check_cell" s__check_cell f fd) (B : BI mg) (c_check_range : Cal P w K mg base (L2.CX P w) 1 "check_range" f_check_range fd_check_range ["number", "least", "most", "what"] (sp_check_range K C_OutOfRange)) : FnOk P w K mg base (L2.CX P w) 2 f fd ["blocks", "turns"] (sp__check_cell K C_OutOfRange) := by
  refine F.okX sc__check_cell (fun vs H Q E h => ?_) (fun cdv A outer s H vs Q E hr h => ?_)
  · obtain ⟨b, t, rfl, q1, q2, q3⟩ := h
    rfl
  · obtain ⟨b, t, rfl, q1, q2, q3⟩ := h
    refine ⟨_, (pss_cons (ps_expr (pe_call c_check_range.ok (hr.mono (by decide)) (by rfl) c_check_range.g c_check_range.kp c_check_range.b .nil (passes_call (takes_of rfl rfl rfl rfl) (fun _ _ _ _ h => h)) (pa_cons (pv 0) (pa_cons pe_int (pa_cons pe_int (pa_cons pe_str pa_nil))))))
      (pss_one (ps_expr (pe_call c_check_range.ok (hr.mono (by decide)) (by rfl) c_check_range.g c_check_range.kp c_check_range.b .nil (passes_call (takes_of rfl rfl rfl rfl) (fun _ _ _ _ h => h)) (pa_cons (pv 1) (pa_cons pe_int (pa_cons pe_int (pa_cons pe_str pa_nil)))))))), ?_⟩
    (try simp only [Own.e_seq, Own.e_cxK, Own.e_wishK, Own.e_noxK, Own.e_asg, Own.e_gName, Own.e_var, Own.e_C, Own.e_op, Own.e_un, Own.e_rI, Own.e_rI0, Own.e_rU, Own.e_CMul, Own.e_CDiv, Own.e_CPow, Own.e_rEq, Own.e_rNe, Own.e_scal_int, Own.e_scal_str, Own.e_scal_bl, Own.e_ifS, Own.e_test, Own.e_tB, Own.e_ret, Own.e_retN, Own.e_next, Own.e_brk, Own.e_cnt, Own.e_cons, Own.e_nil, Own.e_lst, Own.e_tup, Own.e_drop, Own.e_and, Own.e_or, Own.e_not, Own.e_andV, Own.e_orV, Own.e_notV, Own.e_if, Own.e_chain, Own.e_CB, Own.e_call, Own.e_rIxL, Own.e_rIxT, Own.e_rIxK, Own.e_rIxKT, Own.e_rSlK, Own.e_rLenK, Own.e_rListK, Own.e_rTupleK, Own.e_rSumK, Own.e_rDivK, Own.e_rNeK, Own.e_rEqK, Own.e_rNeKT, Own.e_rEqKT, Own.e_rIsiK, Own.e_rSlS, Own.e_rIxS, Own.tyK_int, Own.tyK_bl, Own.tyK_str, Own.tyK_non, Own.tyK_ref, Own.tyO_lst, Own.tyO_tup, Own.kit1, Own.kit2, Own.kit3, Own.kit4, Own.kit5, Own.kit6, Own.kit7, Own.kit8, Own.kit9, Own.hlst_inj, Own.htup_inj, Own.vty_inj, Own.ivs_inj, Own.bz_inj, Own.ivs_len, Own.bz_len, Own.ivs_app, Own.ivs_set, Own.ivs_bset, Own.bz_app, Own.ivs_snoc, Own.bz_snoc, Own.atI_ints, Own.atI_bz, Own.isLst_some, Own.ty_lst, L2.upd_same, L2.upd_upd, Own.b2_xor, Own.b2_mod2, Own.b2_mod3, Own.b2_mod4, Own.b2_flip, Option.map_some, Option.isSome_some, ne_eq, eq_self, not_false_eq_true, not_true_eq_false, String.reduceEq, Own.e_BM, Own.e_BM0, Own.e_rAppend, Own.e_rCat, Own.e_rRep, Own.e_sl, Own.e_noPart, Own.e_part, Own.e_rSlL, Own.e_gSub, Own.e_rSetL, Own.e_bits, Own.e_yes, Own.e_gTup, Own.e_gNil, Own.e_gCons, Own.e_aug, Own.e_ipI, Own.e_for, Own.e_lc, Own.e_iList, Own.e_iTup, Own.e_iRng1, Own.e_iRng2, Own.e_iEnum, Own.e_iZip, L2.start, L2.wipe, List.map_cons, List.map_nil, List.replicate_succ, List.replicate_zero, List.length_cons, List.length_nil, Nat.reduceAdd, Nat.reduceSub, Nat.zero_add, List.getElem?_cons_zero, List.getElem?_cons_succ, List.set_cons_zero, List.set_cons_succ, Option.some.injEq, L2.V.int.injEq, L2.V.bl.injEq, L2.V.str.injEq, L2.V.ref.injEq, List.cons.injEq, List.cons_append, List.nil_append, List.append_nil, exists_eq_left', exists_eq_left, exists_and_left, exists_and_right, exists_eq, and_true, true_and, reduceCtorEq, false_and, and_false, exists_false, or_false, false_or, true_or, or_true, decide_eq_true_eq, Bool.not_true, Bool.not_false, Bool.not_eq_true', Bool.not_eq_false', decide_eq_false_iff_not, ite_not, if_true, if_false, ite_true, ite_false, Bool.false_eq_true, if_pos trivial, decide_true, decide_false, PySem.sizeLine_eq, eq_self, Int.reduceNeg, Int.reducePow, Int.reduceLT, Int.reduceLE, Int.reduceToNat, Nat.reduceLeDiff, Int.reduceSub, Int.reduceAdd, Int.reduceMul, Int.reduceDiv, Int.reduceMod, Int.reduceEq, Nat.reduceMul, Nat.reduceEqDiff, Own.e_raiseO, Own.e_callS, Own.e_what, Own.hxd_inj])
    refine call_to ⟨_, _, _, _, rfl, q1, fun h1 => ?_⟩
    (try simp only [Own.e_seq, Own.e_cxK, Own.e_wishK, Own.e_noxK, Own.e_asg, Own.e_gName, Own.e_var, Own.e_C, Own.e_op, Own.e_un, Own.e_rI, Own.e_rI0, Own.e_rU, Own.e_CMul, Own.e_CDiv, Own.e_CPow, Own.e_rEq, Own.e_rNe, Own.e_scal_int, Own.e_scal_str, Own.e_scal_bl, Own.e_ifS, Own.e_test, Own.e_tB, Own.e_ret, Own.e_retN, Own.e_next, Own.e_brk, Own.e_cnt, Own.e_cons, Own.e_nil, Own.e_lst, Own.e_tup, Own.e_drop, Own.e_and, Own.e_or, Own.e_not, Own.e_andV, Own.e_orV, Own.e_notV, Own.e_if, Own.e_chain, Own.e_CB, Own.e_call, Own.e_rIxL, Own.e_rIxT, Own.e_rIxK, Own.e_rIxKT, Own.e_rSlK, Own.e_rLenK, Own.e_rListK, Own.e_rTupleK, Own.e_rSumK, Own.e_rDivK, Own.e_rNeK, Own.e_rEqK, Own.e_rNeKT, Own.e_rEqKT, Own.e_rIsiK, Own.e_rSlS, Own.e_rIxS, Own.tyK_int, Own.tyK_bl, Own.tyK_str, Own.tyK_non, Own.tyK_ref, Own.tyO_lst, Own.tyO_tup, Own.kit1, Own.kit2, Own.kit3, Own.kit4, Own.kit5, Own.kit6, Own.kit7, Own.kit8, Own.kit9, Own.hlst_inj, Own.htup_inj, Own.vty_inj, Own.ivs_inj, Own.bz_inj, Own.ivs_len, Own.bz_len, Own.ivs_app, Own.ivs_set, Own.ivs_bset, Own.bz_app, Own.ivs_snoc, Own.bz_snoc, Own.atI_ints, Own.atI_bz, Own.isLst_some, Own.ty_lst, L2.upd_same, L2.upd_upd, Own.b2_xor, Own.b2_mod2, Own.b2_mod3, Own.b2_mod4, Own.b2_flip, Option.map_some, Option.isSome_some, ne_eq, eq_self, not_false_eq_true, not_true_eq_false, String.reduceEq, Own.e_BM, Own.e_BM0, Own.e_rAppend, Own.e_rCat, Own.e_rRep, Own.e_sl, Own.e_noPart, Own.e_part, Own.e_rSlL, Own.e_gSub, Own.e_rSetL, Own.e_bits, Own.e_yes, Own.e_gTup, Own.e_gNil, Own.e_gCons, Own.e_aug, Own.e_ipI, Own.e_for, Own.e_lc, Own.e_iList, Own.e_iTup, Own.e_iRng1, Own.e_iRng2, Own.e_iEnum, Own.e_iZip, L2.start, L2.wipe, List.map_cons, List.map_nil, List.replicate_succ, List.replicate_zero, List.length_cons, List.length_nil, Nat.reduceAdd, Nat.reduceSub, Nat.zero_add, List.getElem?_cons_zero, List.getElem?_cons_succ, List.set_cons_zero, List.set_cons_succ, Option.some.injEq, L2.V.int.injEq, L2.V.bl.injEq, L2.V.str.injEq, L2.V.ref.injEq, List.cons.injEq, List.cons_append, List.nil_append, List.append_nil, exists_eq_left', exists_eq_left, exists_and_left, exists_and_right, exists_eq, and_true, true_and, reduceCtorEq, false_and, and_false, exists_false, or_false, false_or, true_or, or_true, decide_eq_true_eq, Bool.not_true, Bool.not_false, Bool.not_eq_true', Bool.not_eq_false', decide_eq_false_iff_not, ite_not, if_true, if_false, ite_true, ite_false, Bool.false_eq_true, if_pos trivial, decide_true, decide_false, PySem.sizeLine_eq, eq_self, Int.reduceNeg, Int.reducePow, Int.reduceLT, Int.reduceLE, Int.reduceToNat, Nat.reduceLeDiff, Int.reduceSub, Int.reduceAdd, Int.reduceMul, Int.reduceDiv, Int.reduceMod, Int.reduceEq, Nat.reduceMul, Nat.reduceEqDiff, Own.e_raiseO, Own.e_callS, Own.e_what, Own.hxd_inj])
    refine call_to ⟨_, _, _, _, rfl, q2 h1, fun h2 => ?_⟩
    (try simp only [Own.e_seq, Own.e_cxK, Own.e_wishK, Own.e_noxK, Own.e_asg, Own.e_gName, Own.e_var, Own.e_C, Own.e_op, Own.e_un, Own.e_rI, Own.e_rI0, Own.e_rU, Own.e_CMul, Own.e_CDiv, Own.e_CPow, Own.e_rEq, Own.e_rNe, Own.e_scal_int, Own.e_scal_str, Own.e_scal_bl, Own.e_ifS, Own.e_test, Own.e_tB, Own.e_ret, Own.e_retN, Own.e_next, Own.e_brk, Own.e_cnt, Own.e_cons, Own.e_nil, Own.e_lst, Own.e_tup, Own.e_drop, Own.e_and, Own.e_or, Own.e_not, Own.e_andV, Own.e_orV, Own.e_notV, Own.e_if, Own.e_chain, Own.e_CB, Own.e_call, Own.e_rIxL, Own.e_rIxT, Own.e_rIxK, Own.e_rIxKT, Own.e_rSlK, Own.e_rLenK, Own.e_rListK, Own.e_rTupleK, Own.e_rSumK, Own.e_rDivK, Own.e_rNeK, Own.e_rEqK, Own.e_rNeKT, Own.e_rEqKT, Own.e_rIsiK, Own.e_rSlS, Own.e_rIxS, Own.tyK_int, Own.tyK_bl, Own.tyK_str, Own.tyK_non, Own.tyK_ref, Own.tyO_lst, Own.tyO_tup, Own.kit1, Own.kit2, Own.kit3, Own.kit4, Own.kit5, Own.kit6, Own.kit7, Own.kit8, Own.kit9, Own.hlst_inj, Own.htup_inj, Own.vty_inj, Own.ivs_inj, Own.bz_inj, Own.ivs_len, Own.bz_len, Own.ivs_app, Own.ivs_set, Own.ivs_bset, Own.bz_app, Own.ivs_snoc, Own.bz_snoc, Own.atI_ints, Own.atI_bz, Own.isLst_some, Own.ty_lst, L2.upd_same, L2.upd_upd, Own.b2_xor, Own.b2_mod2, Own.b2_mod3, Own.b2_mod4, Own.b2_flip, Option.map_some, Option.isSome_some, ne_eq, eq_self, not_false_eq_true, not_true_eq_false, String.reduceEq, Own.e_BM, Own.e_BM0, Own.e_rAppend, Own.e_rCat, Own.e_rRep, Own.e_sl, Own.e_noPart, Own.e_part, Own.e_rSlL, Own.e_gSub, Own.e_rSetL, Own.e_bits, Own.e_yes, Own.e_gTup, Own.e_gNil, Own.e_gCons, Own.e_aug, Own.e_ipI, Own.e_for, Own.e_lc, Own.e_iList, Own.e_iTup, Own.e_iRng1, Own.e_iRng2, Own.e_iEnum, Own.e_iZip, L2.start, L2.wipe, List.map_cons, List.map_nil, List.replicate_succ, List.replicate_zero, List.length_cons, List.length_nil, Nat.reduceAdd, Nat.reduceSub, Nat.zero_add, List.getElem?_cons_zero, List.getElem?_cons_succ, List.set_cons_zero, List.set_cons_succ, Option.some.injEq, L2.V.int.injEq, L2.V.bl.injEq, L2.V.str.injEq, L2.V.ref.injEq, List.cons.injEq, List.cons_append, List.nil_append, List.append_nil, exists_eq_left', exists_eq_left, exists_and_left, exists_and_right, exists_eq, and_true, true_and, reduceCtorEq, false_and, and_false, exists_false, or_false, false_or, true_or, or_true, decide_eq_true_eq, Bool.not_true, Bool.not_false, Bool.not_eq_true', Bool.not_eq_false', decide_eq_false_iff_not, ite_not, if_true, if_false, ite_true, ite_false, Bool.false_eq_true, if_pos trivial, decide_true, decide_false, PySem.sizeLine_eq, eq_self, Int.reduceNeg, Int.reducePow, Int.reduceLT, Int.reduceLE, Int.reduceToNat, Nat.reduceLeDiff, Int.reduceSub, Int.reduceAdd, Int.reduceMul, Int.reduceDiv, Int.reduceMod, Int.reduceEq, Nat.reduceMul, Nat.reduceEqDiff, Own.e_raiseO, Own.e_callS, Own.e_what, Own.hxd_inj])
    exact q3 h1 h2
def sp_group_of (K : PySem.W.Frag) (C : Addr) : Sp := fun vs H Q E => ∃ (r : List Nat) (a b c : Nat) (p m : Int), vs = [.str (dg (r ++ [a, b, c])), .int p, .int m] ∧ r.length ≤ 1000 ∧ a < 10 ∧ b < 10 ∧ c < 10 ∧
  (¬ (1 ≤ p ∧ p ≤ 9) → Ref C "blocks" H E) ∧ (1 ≤ p ∧ p ≤ 9 → ¬ (2 ≤ m ∧ m ≤ 9) → Ref C "turns" H E) ∧ (1 ≤ p ∧ p ≤ 9 → 2 ≤ m ∧ m ≤ 9 → Q (.int ((100 * (a : Int) + 10 * (b : Int) + (c : Int)) % (p * m))) H)

theorem ok_group_of {f : Addr} {fd : FuncData} {f__check_cell : Addr} {fd__check_cell : FuncData} (F : Fun K "group_of" "group_of" s_group_of f fd) (B : BI mg) (c__check_cell : Cal P w K mg base (L2.CX P w) 2 "_check_cell" f__check_cell fd__check_cell ["blocks", "turns"] (sp__check_cell K C_OutOfRange)) : FnOk P w K mg base (L2.CX P w) 3 f fd ["digits", "blocks", "turns"] (sp_group_of K C_OutOfRange) := by
  refine F.okX sc_group_of (fun vs H Q E h => ?_) (fun cdv A outer s H vs Q E hr h => ?_)
  · obtain ⟨r, a, b, c, p, m, rfl, lr, ha, hb, hc, q1, q2, q3⟩ := h
    rfl
  · obtain ⟨r, a, b, c, p, m, rfl, lr, ha, hb, hc, q1, q2, q3⟩ := h
    refine ⟨_, (pss_cons (ps_expr (pe_call c__check_cell.ok (hr.mono (by decide)) (by rfl) c__check_cell.g c__check_cell.kp c__check_cell.b .nil (passes_call (takes_of rfl rfl rfl rfl) (fun _ _ _ _ h => h)) (pa_cons (pv 1) (pa_cons (pv 2) pa_nil))))
      (pss_one (ps_ret (pe_op op_mod (pe_callTy call_int_str (by rfl) B.int_ boot_int (pa_cons (pe_slice sl_str (pv 0) (po_some (pe_un un_neg pe_int)) po_none) pa_nil)) (pe_op op_mul (pv 1) (pv 2)))))), ?_⟩
    (try simp only [Own.e_seq, Own.e_cxK, Own.e_wishK, Own.e_noxK, Own.e_asg, Own.e_gName, Own.e_var, Own.e_C, Own.e_op, Own.e_un, Own.e_rI, Own.e_rI0, Own.e_rU, Own.e_CMul, Own.e_CDiv, Own.e_CPow, Own.e_rEq, Own.e_rNe, Own.e_scal_int, Own.e_scal_str, Own.e_scal_bl, Own.e_ifS, Own.e_test, Own.e_tB, Own.e_ret, Own.e_retN, Own.e_next, Own.e_brk, Own.e_cnt, Own.e_cons, Own.e_nil, Own.e_lst, Own.e_tup, Own.e_drop, Own.e_and, Own.e_or, Own.e_not, Own.e_andV, Own.e_orV, Own.e_notV, Own.e_if, Own.e_chain, Own.e_CB, Own.e_call, Own.e_rIxL, Own.e_rIxT, Own.e_rIxK, Own.e_rIxKT, Own.e_rSlK, Own.e_rLenK, Own.e_rListK, Own.e_rTupleK, Own.e_rSumK, Own.e_rDivK, Own.e_rNeK, Own.e_rEqK, Own.e_rNeKT, Own.e_rEqKT, Own.e_rIsiK, Own.e_rSlS, Own.e_rIxS, Own.tyK_int, Own.tyK_bl, Own.tyK_str, Own.tyK_non, Own.tyK_ref, Own.tyO_lst, Own.tyO_tup, Own.kit1, Own.kit2, Own.kit3, Own.kit4, Own.kit5, Own.kit6, Own.kit7, Own.kit8, Own.kit9, Own.hlst_inj, Own.htup_inj, Own.vty_inj, Own.ivs_inj, Own.bz_inj, Own.ivs_len, Own.bz_len, Own.ivs_app, Own.ivs_set, Own.ivs_bset, Own.bz_app, Own.ivs_snoc, Own.bz_snoc, Own.atI_ints, Own.atI_bz, Own.isLst_some, Own.ty_lst, L2.upd_same, L2.upd_upd, Own.b2_xor, Own.b2_mod2, Own.b2_mod3, Own.b2_mod4, Own.b2_flip, Option.map_some, Option.isSome_some, ne_eq, eq_self, not_false_eq_true, not_true_eq_false, String.reduceEq, Own.e_BM, Own.e_BM0, Own.e_rAppend, Own.e_rCat, Own.e_rRep, Own.e_sl, Own.e_noPart, Own.e_part, Own.e_rSlL, Own.e_gSub, Own.e_rSetL, Own.e_bits, Own.e_yes, Own.e_gTup, Own.e_gNil, Own.e_gCons, Own.e_aug, Own.e_ipI, Own.e_for, Own.e_lc, Own.e_iList, Own.e_iTup, Own.e_iRng1, Own.e_iRng2, Own.e_iEnum, Own.e_iZip, L2.start, L2.wipe, List.map_cons, List.map_nil, List.replicate_succ, List.replicate_zero, List.length_cons, List.length_nil, Nat.reduceAdd, Nat.reduceSub, Nat.zero_add, List.getElem?_cons_zero, List.getElem?_cons_succ, List.set_cons_zero, List.set_cons_succ, Option.some.injEq, L2.V.int.injEq, L2.V.bl.injEq, L2.V.str.injEq, L2.V.ref.injEq, List.cons.injEq, List.cons_append, List.nil_append, List.append_nil, exists_eq_left', exists_eq_left, exists_and_left, exists_and_right, exists_eq, and_true, true_and, reduceCtorEq, false_and, and_false, exists_false, or_false, false_or, true_or, or_true, decide_eq_true_eq, Bool.not_true, Bool.not_false, Bool.not_eq_true', Bool.not_eq_false', decide_eq_false_iff_not, ite_not, if_true, if_false, ite_true, ite_false, Bool.false_eq_true, if_pos trivial, decide_true, decide_false, PySem.sizeLine_eq, eq_self, Int.reduceNeg, Int.reducePow, Int.reduceLT, Int.reduceLE, Int.reduceToNat, Nat.reduceLeDiff, Int.reduceSub, Int.reduceAdd, Int.reduceMul, Int.reduceDiv, Int.reduceMod, Int.reduceEq, Nat.reduceMul, Nat.reduceEqDiff, Own.e_raiseO, Own.e_callS, Own.e_what, Own.hxd_inj])
    refine call_to ⟨_, _, rfl, q1, q2, fun h1 h2 => ?_⟩
    have l1 : (dg (r ++ [a, b, c])).length ≤ 16777216 := by rw [dg_len, List.length_append]; simp only [List.length_cons, List.length_nil]; omega
    have pm : 0 < p * m := Int.mul_pos (by omega) (by omega)
    (try simp only [Own.e_seq, Own.e_cxK, Own.e_wishK, Own.e_noxK, Own.e_asg, Own.e_gName, Own.e_var, Own.e_C, Own.e_op, Own.e_un, Own.e_rI, Own.e_rI0, Own.e_rU, Own.e_CMul, Own.e_CDiv, Own.e_CPow, Own.e_rEq, Own.e_rNe, Own.e_scal_int, Own.e_scal_str, Own.e_scal_bl, Own.e_ifS, Own.e_test, Own.e_tB, Own.e_ret, Own.e_retN, Own.e_next, Own.e_brk, Own.e_cnt, Own.e_cons, Own.e_nil, Own.e_lst, Own.e_tup, Own.e_drop, Own.e_and, Own.e_or, Own.e_not, Own.e_andV, Own.e_orV, Own.e_notV, Own.e_if, Own.e_chain, Own.e_CB, Own.e_call, Own.e_rIxL, Own.e_rIxT, Own.e_rIxK, Own.e_rIxKT, Own.e_rSlK, Own.e_rLenK, Own.e_rListK, Own.e_rTupleK, Own.e_rSumK, Own.e_rDivK, Own.e_rNeK, Own.e_rEqK, Own.e_rNeKT, Own.e_rEqKT, Own.e_rIsiK, Own.e_rSlS, Own.e_rIxS, Own.tyK_int, Own.tyK_bl, Own.tyK_str, Own.tyK_non, Own.tyK_ref, Own.tyO_lst, Own.tyO_tup, Own.kit1, Own.kit2, Own.kit3, Own.kit4, Own.kit5, Own.kit6, Own.kit7, Own.kit8, Own.kit9, Own.hlst_inj, Own.htup_inj, Own.vty_inj, Own.ivs_inj, Own.bz_inj, Own.ivs_len, Own.bz_len, Own.ivs_app, Own.ivs_set, Own.ivs_bset, Own.bz_app, Own.ivs_snoc, Own.bz_snoc, Own.atI_ints, Own.atI_bz, Own.isLst_some, Own.ty_lst, L2.upd_same, L2.upd_upd, Own.b2_xor, Own.b2_mod2, Own.b2_mod3, Own.b2_mod4, Own.b2_flip, Option.map_some, Option.isSome_some, ne_eq, eq_self, not_false_eq_true, not_true_eq_false, String.reduceEq, Own.e_BM, Own.e_BM0, Own.e_rAppend, Own.e_rCat, Own.e_rRep, Own.e_sl, Own.e_noPart, Own.e_part, Own.e_rSlL, Own.e_gSub, Own.e_rSetL, Own.e_bits, Own.e_yes, Own.e_gTup, Own.e_gNil, Own.e_gCons, Own.e_aug, Own.e_ipI, Own.e_for, Own.e_lc, Own.e_iList, Own.e_iTup, Own.e_iRng1, Own.e_iRng2, Own.e_iEnum, Own.e_iZip, L2.start, L2.wipe, List.map_cons, List.map_nil, List.replicate_succ, List.replicate_zero, List.length_cons, List.length_nil, Nat.reduceAdd, Nat.reduceSub, Nat.zero_add, List.getElem?_cons_zero, List.getElem?_cons_succ, List.set_cons_zero, List.set_cons_succ, Option.some.injEq, L2.V.int.injEq, L2.V.bl.injEq, L2.V.str.injEq, L2.V.ref.injEq, List.cons.injEq, List.cons_append, List.nil_append, List.append_nil, exists_eq_left', exists_eq_left, exists_and_left, exists_and_right, exists_eq, and_true, true_and, reduceCtorEq, false_and, and_false, exists_false, or_false, false_or, true_or, or_true, decide_eq_true_eq, Bool.not_true, Bool.not_false, Bool.not_eq_true', Bool.not_eq_false', decide_eq_false_iff_not, ite_not, if_true, if_false, ite_true, ite_false, Bool.false_eq_true, if_pos trivial, decide_true, decide_false, PySem.sizeLine_eq, eq_self, Int.reduceNeg, Int.reducePow, Int.reduceLT, Int.reduceLE, Int.reduceToNat, Nat.reduceLeDiff, Int.reduceSub, Int.reduceAdd, Int.reduceMul, Int.reduceDiv, Int.reduceMod, Int.reduceEq, Nat.reduceMul, Nat.reduceEqDiff, Own.e_raiseO, Own.e_callS, Own.e_what, Own.hxd_inj, l1, cut3, int3 a ha b hb c hc, dg_len])
    exact ⟨by simp only [List.length_append, List.length_cons, List.length_nil]; omega, by omega, pm, q3 h1 h2⟩
def mixF (c t : Int) : Int := (c % 1000003 * 48271 + 69621 * (t + 1)) % 2147483647
def mixS (c t : Int) : Int := (mixF c t * 48271 + c % 999983) % 2147483647
def mixT (c t : Int) : Int := (mixS c t * 69621 + mixF c t) % 2147483647
/-- what is made of a cell -/
def mixed (c t : Int) : Int := if 1000000000000000000 ≤ c then c else mixF c t + 2147483647 * mixS c t + 4611686014132420609 * mixT c t
theorem mixed_nn (c t : Int) : 0 ≤ mixed c t := by
  unfold mixed mixT mixS mixF
  split <;> omega

def sp__law_mixed (K : PySem.W.Frag) : Sp := fun vs H Q _ => ∃ c t : Int, vs = [.int c, .int t] ∧ Q (.int (mixed c t)) H

theorem ok__law_mixed {f : Addr} {fd : FuncData} (F : Fun K "_law_mixed" "_law_mixed" s__law_mixed f fd) (B : BI mg) : FnOk P w K mg base CX0 1 f fd ["cell", "turn"] (sp__law_mixed K) := by
  refine F.ok sc__law_mixed (fun vs H Q E h => ?_) (fun cdv A outer s H vs Q E hr h => ?_)
  · obtain ⟨c, t, rfl, q⟩ := h
    rfl
  · obtain ⟨c, t, rfl, q⟩ := h
    refine ⟨_, (pss_cons (ps_set (i := 2) sc__law_mixed.nd rfl (Or.inl rfl) (pe_callTy call_int1 (by rfl) B.int_ boot_int (pa_cons (pv 0) pa_nil)))
      (pss_cons (ps_if (pt_cmpR op_ge (pv 2) (pe_op op_pow pe_int pe_int) (nomark _)) (pss_one (ps_ret (pv 2))) pss_nil)
      (pss_cons (ps_set (i := 3) sc__law_mixed.nd rfl (Or.inl rfl) (pe_op op_mod (pe_op op_add (pe_op op_mul (pe_op op_mod (pv 2) pe_int) pe_int) (pe_op op_mul pe_int (pe_op op_add (pv 1) pe_int))) pe_int))
      (pss_cons (ps_set (i := 4) sc__law_mixed.nd rfl (Or.inl rfl) (pe_op op_mod (pe_op op_add (pe_op op_mul (pv 3) pe_int) (pe_op op_mod (pv 2) pe_int)) pe_int))
      (pss_cons (ps_set (i := 5) sc__law_mixed.nd rfl (Or.inl rfl) (pe_op op_mod (pe_op op_add (pe_op op_mul (pv 4) pe_int) (pv 3)) pe_int))
      (pss_one (ps_ret (pe_op op_add (pe_op op_add (pv 3) (pe_op op_mul pe_int (pv 4))) (pe_op op_mul pe_int (pv 5)))))))))), ?_⟩
    (try simp only [Own.e_seq, Own.e_cxK, Own.e_wishK, Own.e_noxK, Own.e_asg, Own.e_gName, Own.e_var, Own.e_C, Own.e_op, Own.e_un, Own.e_rI, Own.e_rI0, Own.e_rU, Own.e_CMul, Own.e_CDiv, Own.e_CPow, Own.e_rEq, Own.e_rNe, Own.e_scal_int, Own.e_scal_str, Own.e_scal_bl, Own.e_ifS, Own.e_test, Own.e_tB, Own.e_ret, Own.e_retN, Own.e_next, Own.e_brk, Own.e_cnt, Own.e_cons, Own.e_nil, Own.e_lst, Own.e_tup, Own.e_drop, Own.e_and, Own.e_or, Own.e_not, Own.e_andV, Own.e_orV, Own.e_notV, Own.e_if, Own.e_chain, Own.e_CB, Own.e_call, Own.e_rIxL, Own.e_rIxT, Own.e_rIxK, Own.e_rIxKT, Own.e_rSlK, Own.e_rLenK, Own.e_rListK, Own.e_rTupleK, Own.e_rSumK, Own.e_rDivK, Own.e_rNeK, Own.e_rEqK, Own.e_rNeKT, Own.e_rEqKT, Own.e_rIsiK, Own.e_rSlS, Own.e_rIxS, Own.tyK_int, Own.tyK_bl, Own.tyK_str, Own.tyK_non, Own.tyK_ref, Own.tyO_lst, Own.tyO_tup, Own.kit1, Own.kit2, Own.kit3, Own.kit4, Own.kit5, Own.kit6, Own.kit7, Own.kit8, Own.kit9, Own.hlst_inj, Own.htup_inj, Own.vty_inj, Own.ivs_inj, Own.bz_inj, Own.ivs_len, Own.bz_len, Own.ivs_app, Own.ivs_set, Own.ivs_bset, Own.bz_app, Own.ivs_snoc, Own.bz_snoc, Own.atI_ints, Own.atI_bz, Own.isLst_some, Own.ty_lst, L2.upd_same, L2.upd_upd, Own.b2_xor, Own.b2_mod2, Own.b2_mod3, Own.b2_mod4, Own.b2_flip, Option.map_some, Option.isSome_some, ne_eq, eq_self, not_false_eq_true, not_true_eq_false, String.reduceEq, Own.e_BM, Own.e_BM0, Own.e_rAppend, Own.e_rCat, Own.e_rRep, Own.e_sl, Own.e_noPart, Own.e_part, Own.e_rSlL, Own.e_gSub, Own.e_rSetL, Own.e_bits, Own.e_yes, Own.e_gTup, Own.e_gNil, Own.e_gCons, Own.e_aug, Own.e_ipI, Own.e_for, Own.e_lc, Own.e_iList, Own.e_iTup, Own.e_iRng1, Own.e_iRng2, Own.e_iEnum, Own.e_iZip, L2.start, L2.wipe, List.map_cons, List.map_nil, List.replicate_succ, List.replicate_zero, List.length_cons, List.length_nil, Nat.reduceAdd, Nat.reduceSub, Nat.zero_add, List.getElem?_cons_zero, List.getElem?_cons_succ, List.set_cons_zero, List.set_cons_succ, Option.some.injEq, L2.V.int.injEq, L2.V.bl.injEq, L2.V.str.injEq, L2.V.ref.injEq, List.cons.injEq, List.cons_append, List.nil_append, List.append_nil, exists_eq_left', exists_eq_left, exists_and_left, exists_and_right, exists_eq, and_true, true_and, reduceCtorEq, false_and, and_false, exists_false, or_false, false_or, true_or, or_true, decide_eq_true_eq, Bool.not_true, Bool.not_false, Bool.not_eq_true', Bool.not_eq_false', decide_eq_false_iff_not, ite_not, if_true, if_false, ite_true, ite_false, Bool.false_eq_true, if_pos trivial, decide_true, decide_false, PySem.sizeLine_eq, eq_self, Int.reduceNeg, Int.reducePow, Int.reduceLT, Int.reduceLE, Int.reduceToNat, Nat.reduceLeDiff, Int.reduceSub, Int.reduceAdd, Int.reduceMul, Int.reduceDiv, Int.reduceMod, Int.reduceEq, Nat.reduceMul, Nat.reduceEqDiff, Own.e_raiseO, Own.e_callS, Own.e_what, Own.hxd_inj])
    refine ⟨by decide, ?_⟩
    have e := q
    unfold mixed mixT mixS mixF at e
    split
    · rename_i h1; rw [if_pos h1] at e; exact e
    · rename_i h1; rw [if_neg h1] at e; exact e
def refW (p m : Int) : Str := if 1 ≤ p ∧ p ≤ 9 then (if 2 ≤ m ∧ m ≤ 9 then "" else "turns") else "blocks"
theorem w1 : (Str.ofString "123") = dg ([] ++ [1, 2, 3]) := by decide +kernel
theorem w2 : (Str.ofString "123456") = dg ([1, 2, 3] ++ [4, 5, 6]) := by decide +kernel
theorem w3 : (Str.ofString "123456789012345") = dg ([1, 2, 3, 4, 5, 6, 7, 8, 9, 0, 1, 2] ++ [3, 4, 5]) := by decide +kernel

def sp__law_refused (K : PySem.W.Frag) (C : Addr) : Sp := fun vs H Q _ => ∃ p m : Int, vs = [.int p, .int m] ∧ ∀ H', Same H H' → Q (.str (refW p m)) H'

theorem ok__law_refused {f : Addr} {fd : FuncData} {f_group_of : Addr} {fd_group_of : FuncData} (F : Fun K "_law_refused" "_law_refused" s__law_refused f fd) (B : BI mg) (X_OutOfRange : PySem.OorX.OorTxt K mg C_OutOfRange f_OutOfRange) (c_group_of : Cal P w K mg base (L2.CX P w) 3 "group_of" f_group_of fd_group_of ["digits", "blocks", "turns"] (sp_group_of K C_OutOfRange)) : FnOk P w K mg base CX0 4 f fd ["blocks", "turns"] (sp__law_refused K C_OutOfRange) := by
  refine F.ok sc__law_refused (fun vs H Q E h => ?_) (fun cdv A outer s H vs Q E hr h => ?_)
  · obtain ⟨p, m, rfl, q⟩ := h
    rfl
  · obtain ⟨p, m, rfl, q⟩ := h
    refine ⟨_, (pss_cons (ps_set (i := 2) sc__law_refused.nd rfl (Or.inl rfl) (pe_lst pa_nil))
      (pss_cons (ps_for PassesOwn.never rfl (pi_list (pe_lst (pa_cons pe_str (pa_cons pe_str (pa_cons pe_str pa_nil))))) (pg_name (i := 3) sc__law_refused.nd rfl (Or.inl rfl))
      (pss_cons (ps_set (i := 4) sc__law_refused.nd rfl (Or.inl rfl) pe_str)
      (pss_cons (ps_try_as (i := 5) (Wout := fun _ _ _ _ => False) rfl rfl sc__law_refused.nd rfl rfl ⟨rfl, by decide, Or.inl X_OutOfRange.gC⟩ takes0 (fun W pn xe tk _ => (pss_one (ps_expr (pe_callS c_group_of.ok (hr.mono (by decide)) (by rfl) c_group_of.g c_group_of.kp c_group_of.b (fun σ => passAt tk σ) (by exact (pa_cons (pv 3) (pa_cons (pv 0) (pa_cons (pv 1) pa_nil)))))))) (fun a oe cls d pn hz hf => (pss_one (ps_set (i := 4) sc__law_refused.nd rfl (Or.inl rfl) (pe_what X_OutOfRange hz hf (pv 5))))))
      (pss_one (ps_if (pt_cmpR op_notIn_seq (pv 4) (pv 2) (by rfl)) (pss_one (ps_expr (pe_bm PySem.F.plainAttrs_list PySem.F.slot_list_append PySem.F.type_list_append mt_append (pv 2) (pa_cons (pv 4) pa_nil)))) pss_nil)))))
      (pss_one (ps_ret (pe_ifExp (pt_cmpR op_eq (pe_callB callk_len (by rfl) B.len_ (by decide +kernel) (pa_cons (pv 2) pa_nil)) pe_int (nomark _)) (pe_ix ixk_list (pv 2) pe_int (fun _ _ => rfl)) pe_str))))), ?_⟩
    (try simp only [Own.e_seq, Own.e_cxK, Own.e_wishK, Own.e_noxK, Own.e_asg, Own.e_gName, Own.e_var, Own.e_C, Own.e_op, Own.e_un, Own.e_rI, Own.e_rI0, Own.e_rU, Own.e_CMul, Own.e_CDiv, Own.e_CPow, Own.e_rEq, Own.e_rNe, Own.e_scal_int, Own.e_scal_str, Own.e_scal_bl, Own.e_ifS, Own.e_test, Own.e_tB, Own.e_ret, Own.e_retN, Own.e_next, Own.e_brk, Own.e_cnt, Own.e_cons, Own.e_nil, Own.e_lst, Own.e_tup, Own.e_drop, Own.e_and, Own.e_or, Own.e_not, Own.e_andV, Own.e_orV, Own.e_notV, Own.e_if, Own.e_chain, Own.e_CB, Own.e_call, Own.e_rIxL, Own.e_rIxT, Own.e_rIxK, Own.e_rIxKT, Own.e_rSlK, Own.e_rLenK, Own.e_rListK, Own.e_rTupleK, Own.e_rSumK, Own.e_rDivK, Own.e_rNeK, Own.e_rEqK, Own.e_rNeKT, Own.e_rEqKT, Own.e_rIsiK, Own.e_rSlS, Own.e_rIxS, Own.tyK_int, Own.tyK_bl, Own.tyK_str, Own.tyK_non, Own.tyK_ref, Own.tyO_lst, Own.tyO_tup, Own.kit1, Own.kit2, Own.kit3, Own.kit4, Own.kit5, Own.kit6, Own.kit7, Own.kit8, Own.kit9, Own.hlst_inj, Own.htup_inj, Own.vty_inj, Own.ivs_inj, Own.bz_inj, Own.ivs_len, Own.bz_len, Own.ivs_app, Own.ivs_set, Own.ivs_bset, Own.bz_app, Own.ivs_snoc, Own.bz_snoc, Own.atI_ints, Own.atI_bz, Own.isLst_some, Own.ty_lst, L2.upd_same, L2.upd_upd, Own.b2_xor, Own.b2_mod2, Own.b2_mod3, Own.b2_mod4, Own.b2_flip, Option.map_some, Option.isSome_some, ne_eq, eq_self, not_false_eq_true, not_true_eq_false, String.reduceEq, Own.e_BM, Own.e_BM0, Own.e_rAppend, Own.e_rCat, Own.e_rRep, Own.e_sl, Own.e_noPart, Own.e_part, Own.e_rSlL, Own.e_gSub, Own.e_rSetL, Own.e_bits, Own.e_yes, Own.e_gTup, Own.e_gNil, Own.e_gCons, Own.e_aug, Own.e_ipI, Own.e_for, Own.e_lc, Own.e_iList, Own.e_iTup, Own.e_iRng1, Own.e_iRng2, Own.e_iEnum, Own.e_iZip, L2.start, L2.wipe, List.map_cons, List.map_nil, List.replicate_succ, List.replicate_zero, List.length_cons, List.length_nil, Nat.reduceAdd, Nat.reduceSub, Nat.zero_add, List.getElem?_cons_zero, List.getElem?_cons_succ, List.set_cons_zero, List.set_cons_succ, Option.some.injEq, L2.V.int.injEq, L2.V.bl.injEq, L2.V.str.injEq, L2.V.ref.injEq, List.cons.injEq, List.cons_append, List.nil_append, List.append_nil, exists_eq_left', exists_eq_left, exists_and_left, exists_and_right, exists_eq, and_true, true_and, reduceCtorEq, false_and, and_false, exists_false, or_false, false_or, true_or, or_true, decide_eq_true_eq, Bool.not_true, Bool.not_false, Bool.not_eq_true', Bool.not_eq_false', decide_eq_false_iff_not, ite_not, if_true, if_false, ite_true, ite_false, Bool.false_eq_true, if_pos trivial, decide_true, decide_false, PySem.sizeLine_eq, eq_self, Int.reduceNeg, Int.reducePow, Int.reduceLT, Int.reduceLE, Int.reduceToNat, Nat.reduceLeDiff, Int.reduceSub, Int.reduceAdd, Int.reduceMul, Int.reduceDiv, Int.reduceMod, Int.reduceEq, Nat.reduceMul, Nat.reduceEqDiff, Own.e_raiseO, Own.e_callS, Own.e_what, Own.hxd_inj])
    refine new_of fun pf H1 npf sm1 hpf => ?_
    (try simp only [Own.e_seq, Own.e_cxK, Own.e_wishK, Own.e_noxK, Own.e_asg, Own.e_gName, Own.e_var, Own.e_C, Own.e_op, Own.e_un, Own.e_rI, Own.e_rI0, Own.e_rU, Own.e_CMul, Own.e_CDiv, Own.e_CPow, Own.e_rEq, Own.e_rNe, Own.e_scal_int, Own.e_scal_str, Own.e_scal_bl, Own.e_ifS, Own.e_test, Own.e_tB, Own.e_ret, Own.e_retN, Own.e_next, Own.e_brk, Own.e_cnt, Own.e_cons, Own.e_nil, Own.e_lst, Own.e_tup, Own.e_drop, Own.e_and, Own.e_or, Own.e_not, Own.e_andV, Own.e_orV, Own.e_notV, Own.e_if, Own.e_chain, Own.e_CB, Own.e_call, Own.e_rIxL, Own.e_rIxT, Own.e_rIxK, Own.e_rIxKT, Own.e_rSlK, Own.e_rLenK, Own.e_rListK, Own.e_rTupleK, Own.e_rSumK, Own.e_rDivK, Own.e_rNeK, Own.e_rEqK, Own.e_rNeKT, Own.e_rEqKT, Own.e_rIsiK, Own.e_rSlS, Own.e_rIxS, Own.tyK_int, Own.tyK_bl, Own.tyK_str, Own.tyK_non, Own.tyK_ref, Own.tyO_lst, Own.tyO_tup, Own.kit1, Own.kit2, Own.kit3, Own.kit4, Own.kit5, Own.kit6, Own.kit7, Own.kit8, Own.kit9, Own.hlst_inj, Own.htup_inj, Own.vty_inj, Own.ivs_inj, Own.bz_inj, Own.ivs_len, Own.bz_len, Own.ivs_app, Own.ivs_set, Own.ivs_bset, Own.bz_app, Own.ivs_snoc, Own.bz_snoc, Own.atI_ints, Own.atI_bz, Own.isLst_some, Own.ty_lst, L2.upd_same, L2.upd_upd, Own.b2_xor, Own.b2_mod2, Own.b2_mod3, Own.b2_mod4, Own.b2_flip, Option.map_some, Option.isSome_some, ne_eq, eq_self, not_false_eq_true, not_true_eq_false, String.reduceEq, Own.e_BM, Own.e_BM0, Own.e_rAppend, Own.e_rCat, Own.e_rRep, Own.e_sl, Own.e_noPart, Own.e_part, Own.e_rSlL, Own.e_gSub, Own.e_rSetL, Own.e_bits, Own.e_yes, Own.e_gTup, Own.e_gNil, Own.e_gCons, Own.e_aug, Own.e_ipI, Own.e_for, Own.e_lc, Own.e_iList, Own.e_iTup, Own.e_iRng1, Own.e_iRng2, Own.e_iEnum, Own.e_iZip, L2.start, L2.wipe, List.map_cons, List.map_nil, List.replicate_succ, List.replicate_zero, List.length_cons, List.length_nil, Nat.reduceAdd, Nat.reduceSub, Nat.zero_add, List.getElem?_cons_zero, List.getElem?_cons_succ, List.set_cons_zero, List.set_cons_succ, Option.some.injEq, L2.V.int.injEq, L2.V.bl.injEq, L2.V.str.injEq, L2.V.ref.injEq, List.cons.injEq, List.cons_append, List.nil_append, List.append_nil, exists_eq_left', exists_eq_left, exists_and_left, exists_and_right, exists_eq, and_true, true_and, reduceCtorEq, false_and, and_false, exists_false, or_false, false_or, true_or, or_true, decide_eq_true_eq, Bool.not_true, Bool.not_false, Bool.not_eq_true', Bool.not_eq_false', decide_eq_false_iff_not, ite_not, if_true, if_false, ite_true, ite_false, Bool.false_eq_true, if_pos trivial, decide_true, decide_false, PySem.sizeLine_eq, eq_self, Int.reduceNeg, Int.reducePow, Int.reduceLT, Int.reduceLE, Int.reduceToNat, Nat.reduceLeDiff, Int.reduceSub, Int.reduceAdd, Int.reduceMul, Int.reduceDiv, Int.reduceMod, Int.reduceEq, Nat.reduceMul, Nat.reduceEqDiff, Own.e_raiseO, Own.e_callS, Own.e_what, Own.hxd_inj])
    refine new_of fun pl H2 npl sm2 hpl => ?_
    (try simp only [Own.e_seq, Own.e_cxK, Own.e_wishK, Own.e_noxK, Own.e_asg, Own.e_gName, Own.e_var, Own.e_C, Own.e_op, Own.e_un, Own.e_rI, Own.e_rI0, Own.e_rU, Own.e_CMul, Own.e_CDiv, Own.e_CPow, Own.e_rEq, Own.e_rNe, Own.e_scal_int, Own.e_scal_str, Own.e_scal_bl, Own.e_ifS, Own.e_test, Own.e_tB, Own.e_ret, Own.e_retN, Own.e_next, Own.e_brk, Own.e_cnt, Own.e_cons, Own.e_nil, Own.e_lst, Own.e_tup, Own.e_drop, Own.e_and, Own.e_or, Own.e_not, Own.e_andV, Own.e_orV, Own.e_notV, Own.e_if, Own.e_chain, Own.e_CB, Own.e_call, Own.e_rIxL, Own.e_rIxT, Own.e_rIxK, Own.e_rIxKT, Own.e_rSlK, Own.e_rLenK, Own.e_rListK, Own.e_rTupleK, Own.e_rSumK, Own.e_rDivK, Own.e_rNeK, Own.e_rEqK, Own.e_rNeKT, Own.e_rEqKT, Own.e_rIsiK, Own.e_rSlS, Own.e_rIxS, Own.tyK_int, Own.tyK_bl, Own.tyK_str, Own.tyK_non, Own.tyK_ref, Own.tyO_lst, Own.tyO_tup, Own.kit1, Own.kit2, Own.kit3, Own.kit4, Own.kit5, Own.kit6, Own.kit7, Own.kit8, Own.kit9, Own.hlst_inj, Own.htup_inj, Own.vty_inj, Own.ivs_inj, Own.bz_inj, Own.ivs_len, Own.bz_len, Own.ivs_app, Own.ivs_set, Own.ivs_bset, Own.bz_app, Own.ivs_snoc, Own.bz_snoc, Own.atI_ints, Own.atI_bz, Own.isLst_some, Own.ty_lst, L2.upd_same, L2.upd_upd, Own.b2_xor, Own.b2_mod2, Own.b2_mod3, Own.b2_mod4, Own.b2_flip, Option.map_some, Option.isSome_some, ne_eq, eq_self, not_false_eq_true, not_true_eq_false, String.reduceEq, Own.e_BM, Own.e_BM0, Own.e_rAppend, Own.e_rCat, Own.e_rRep, Own.e_sl, Own.e_noPart, Own.e_part, Own.e_rSlL, Own.e_gSub, Own.e_rSetL, Own.e_bits, Own.e_yes, Own.e_gTup, Own.e_gNil, Own.e_gCons, Own.e_aug, Own.e_ipI, Own.e_for, Own.e_lc, Own.e_iList, Own.e_iTup, Own.e_iRng1, Own.e_iRng2, Own.e_iEnum, Own.e_iZip, L2.start, L2.wipe, List.map_cons, List.map_nil, List.replicate_succ, List.replicate_zero, List.length_cons, List.length_nil, Nat.reduceAdd, Nat.reduceSub, Nat.zero_add, List.getElem?_cons_zero, List.getElem?_cons_succ, List.set_cons_zero, List.set_cons_succ, Option.some.injEq, L2.V.int.injEq, L2.V.bl.injEq, L2.V.str.injEq, L2.V.ref.injEq, List.cons.injEq, List.cons_append, List.nil_append, List.append_nil, exists_eq_left', exists_eq_left, exists_and_left, exists_and_right, exists_eq, and_true, true_and, reduceCtorEq, false_and, and_false, exists_false, or_false, false_or, true_or, or_true, decide_eq_true_eq, Bool.not_true, Bool.not_false, Bool.not_eq_true', Bool.not_eq_false', decide_eq_false_iff_not, ite_not, if_true, if_false, ite_true, ite_false, Bool.false_eq_true, if_pos trivial, decide_true, decide_false, PySem.sizeLine_eq, eq_self, Int.reduceNeg, Int.reducePow, Int.reduceLT, Int.reduceLE, Int.reduceToNat, Nat.reduceLeDiff, Int.reduceSub, Int.reduceAdd, Int.reduceMul, Int.reduceDiv, Int.reduceMod, Int.reduceEq, Nat.reduceMul, Nat.reduceEqDiff, Own.e_raiseO, Own.e_callS, Own.e_what, Own.hxd_inj])
    refine ⟨⟨_, .of hpl⟩, loop_it walk_list (fun i σ H' => ∃ y3 y4 y5 : Option V, σ = [some (.int p), some (.int m), some (.ref pf), y3, y4, y5] ∧ Same H H' ∧ H' pf = some (.lst (if i = 0 then [] else [.str (refW p m)])) ∧ H' pl = some (.lst [V.str "123", V.str "123456", V.str "123456789012345"])) ⟨_, _, _, rfl, sm1.trans sm2, sm2 _ _ hpf, hpl⟩ (fun i σ H' _ ⟨_, _, _, _, _, _, h⟩ => .of h) ?_ ?_⟩
    · rintro i x σ H' Hx hi ⟨y3, y4, y5, rfl, smx, hfx, hlx⟩ ⟨rfl, hx⟩
      have npl' : pl ≠ pf := (ne_of_none hpf npl).symm
      have hd3 : ∃ (r : List Nat) (a b c : Nat), x = .str (dg (r ++ [a, b, c])) ∧ r.length ≤ 1000 ∧ a < 10 ∧ b < 10 ∧ c < 10 := by
        have hi3 : i = 0 ∨ i = 1 ∨ i = 2 := by simp only [List.length_cons, List.length_nil] at hi; omega
        rcases hi3 with rfl | rfl | rfl
        · exact ⟨[], 1, 2, 3, by rw [← w1]; exact (Option.some.inj hx).symm, by decide, by decide, by decide, by decide⟩
        · exact ⟨[1, 2, 3], 4, 5, 6, by rw [← w2]; exact (Option.some.inj hx).symm, by decide, by decide, by decide, by decide⟩
        · exact ⟨[1, 2, 3, 4, 5, 6, 7, 8, 9, 0, 1, 2], 3, 4, 5, by rw [← w3]; exact (Option.some.inj hx).symm, by decide, by decide, by decide, by decide⟩
      obtain ⟨r, a, b, c, rfl, lr, ha, hb, hc⟩ := hd3
      (try simp only [Own.e_seq, Own.e_cxK, Own.e_wishK, Own.e_noxK, Own.e_asg, Own.e_gName, Own.e_var, Own.e_C, Own.e_op, Own.e_un, Own.e_rI, Own.e_rI0, Own.e_rU, Own.e_CMul, Own.e_CDiv, Own.e_CPow, Own.e_rEq, Own.e_rNe, Own.e_scal_int, Own.e_scal_str, Own.e_scal_bl, Own.e_ifS, Own.e_test, Own.e_tB, Own.e_ret, Own.e_retN, Own.e_next, Own.e_brk, Own.e_cnt, Own.e_cons, Own.e_nil, Own.e_lst, Own.e_tup, Own.e_drop, Own.e_and, Own.e_or, Own.e_not, Own.e_andV, Own.e_orV, Own.e_notV, Own.e_if, Own.e_chain, Own.e_CB, Own.e_call, Own.e_rIxL, Own.e_rIxT, Own.e_rIxK, Own.e_rIxKT, Own.e_rSlK, Own.e_rLenK, Own.e_rListK, Own.e_rTupleK, Own.e_rSumK, Own.e_rDivK, Own.e_rNeK, Own.e_rEqK, Own.e_rNeKT, Own.e_rEqKT, Own.e_rIsiK, Own.e_rSlS, Own.e_rIxS, Own.tyK_int, Own.tyK_bl, Own.tyK_str, Own.tyK_non, Own.tyK_ref, Own.tyO_lst, Own.tyO_tup, Own.kit1, Own.kit2, Own.kit3, Own.kit4, Own.kit5, Own.kit6, Own.kit7, Own.kit8, Own.kit9, Own.hlst_inj, Own.htup_inj, Own.vty_inj, Own.ivs_inj, Own.bz_inj, Own.ivs_len, Own.bz_len, Own.ivs_app, Own.ivs_set, Own.ivs_bset, Own.bz_app, Own.ivs_snoc, Own.bz_snoc, Own.atI_ints, Own.atI_bz, Own.isLst_some, Own.ty_lst, L2.upd_same, L2.upd_upd, Own.b2_xor, Own.b2_mod2, Own.b2_mod3, Own.b2_mod4, Own.b2_flip, Option.map_some, Option.isSome_some, ne_eq, eq_self, not_false_eq_true, not_true_eq_false, String.reduceEq, Own.e_BM, Own.e_BM0, Own.e_rAppend, Own.e_rCat, Own.e_rRep, Own.e_sl, Own.e_noPart, Own.e_part, Own.e_rSlL, Own.e_gSub, Own.e_rSetL, Own.e_bits, Own.e_yes, Own.e_gTup, Own.e_gNil, Own.e_gCons, Own.e_aug, Own.e_ipI, Own.e_for, Own.e_lc, Own.e_iList, Own.e_iTup, Own.e_iRng1, Own.e_iRng2, Own.e_iEnum, Own.e_iZip, L2.start, L2.wipe, List.map_cons, List.map_nil, List.replicate_succ, List.replicate_zero, List.length_cons, List.length_nil, Nat.reduceAdd, Nat.reduceSub, Nat.zero_add, List.getElem?_cons_zero, List.getElem?_cons_succ, List.set_cons_zero, List.set_cons_succ, Option.some.injEq, L2.V.int.injEq, L2.V.bl.injEq, L2.V.str.injEq, L2.V.ref.injEq, List.cons.injEq, List.cons_append, List.nil_append, List.append_nil, exists_eq_left', exists_eq_left, exists_and_left, exists_and_right, exists_eq, and_true, true_and, reduceCtorEq, false_and, and_false, exists_false, or_false, false_or, true_or, or_true, decide_eq_true_eq, Bool.not_true, Bool.not_false, Bool.not_eq_true', Bool.not_eq_false', decide_eq_false_iff_not, ite_not, if_true, if_false, ite_true, ite_false, Bool.false_eq_true, if_pos trivial, decide_true, decide_false, PySem.sizeLine_eq, eq_self, Int.reduceNeg, Int.reducePow, Int.reduceLT, Int.reduceLE, Int.reduceToNat, Nat.reduceLeDiff, Int.reduceSub, Int.reduceAdd, Int.reduceMul, Int.reduceDiv, Int.reduceMod, Int.reduceEq, Nat.reduceMul, Nat.reduceEqDiff, Own.e_raiseO, Own.e_callS, Own.e_what, Own.hxd_inj])
      refine call_to ⟨r, a, b, c, p, m, rfl, lr, ha, hb, hc, fun h d H' sm nd hd => as_hit X_OutOfRange.te fun aa na => ?_, fun h1 h d H' sm nd hd => as_hit X_OutOfRange.te fun aa na => ?_, fun h1 h2 => ?_⟩
      · have hw : refW p m = "blocks" := by unfold refW; rw [if_neg h]
        (try simp only [Own.e_seq, Own.e_cxK, Own.e_wishK, Own.e_noxK, Own.e_asg, Own.e_gName, Own.e_var, Own.e_C, Own.e_op, Own.e_un, Own.e_rI, Own.e_rI0, Own.e_rU, Own.e_CMul, Own.e_CDiv, Own.e_CPow, Own.e_rEq, Own.e_rNe, Own.e_scal_int, Own.e_scal_str, Own.e_scal_bl, Own.e_ifS, Own.e_test, Own.e_tB, Own.e_ret, Own.e_retN, Own.e_next, Own.e_brk, Own.e_cnt, Own.e_cons, Own.e_nil, Own.e_lst, Own.e_tup, Own.e_drop, Own.e_and, Own.e_or, Own.e_not, Own.e_andV, Own.e_orV, Own.e_notV, Own.e_if, Own.e_chain, Own.e_CB, Own.e_call, Own.e_rIxL, Own.e_rIxT, Own.e_rIxK, Own.e_rIxKT, Own.e_rSlK, Own.e_rLenK, Own.e_rListK, Own.e_rTupleK, Own.e_rSumK, Own.e_rDivK, Own.e_rNeK, Own.e_rEqK, Own.e_rNeKT, Own.e_rEqKT, Own.e_rIsiK, Own.e_rSlS, Own.e_rIxS, Own.tyK_int, Own.tyK_bl, Own.tyK_str, Own.tyK_non, Own.tyK_ref, Own.tyO_lst, Own.tyO_tup, Own.kit1, Own.kit2, Own.kit3, Own.kit4, Own.kit5, Own.kit6, Own.kit7, Own.kit8, Own.kit9, Own.hlst_inj, Own.htup_inj, Own.vty_inj, Own.ivs_inj, Own.bz_inj, Own.ivs_len, Own.bz_len, Own.ivs_app, Own.ivs_set, Own.ivs_bset, Own.bz_app, Own.ivs_snoc, Own.bz_snoc, Own.atI_ints, Own.atI_bz, Own.isLst_some, Own.ty_lst, L2.upd_same, L2.upd_upd, Own.b2_xor, Own.b2_mod2, Own.b2_mod3, Own.b2_mod4, Own.b2_flip, Option.map_some, Option.isSome_some, ne_eq, eq_self, not_false_eq_true, not_true_eq_false, String.reduceEq, Own.e_BM, Own.e_BM0, Own.e_rAppend, Own.e_rCat, Own.e_rRep, Own.e_sl, Own.e_noPart, Own.e_part, Own.e_rSlL, Own.e_gSub, Own.e_rSetL, Own.e_bits, Own.e_yes, Own.e_gTup, Own.e_gNil, Own.e_gCons, Own.e_aug, Own.e_ipI, Own.e_for, Own.e_lc, Own.e_iList, Own.e_iTup, Own.e_iRng1, Own.e_iRng2, Own.e_iEnum, Own.e_iZip, L2.start, L2.wipe, List.map_cons, List.map_nil, List.replicate_succ, List.replicate_zero, List.length_cons, List.length_nil, Nat.reduceAdd, Nat.reduceSub, Nat.zero_add, List.getElem?_cons_zero, List.getElem?_cons_succ, List.set_cons_zero, List.set_cons_succ, Option.some.injEq, L2.V.int.injEq, L2.V.bl.injEq, L2.V.str.injEq, L2.V.ref.injEq, List.cons.injEq, List.cons_append, List.nil_append, List.append_nil, exists_eq_left', exists_eq_left, exists_and_left, exists_and_right, exists_eq, and_true, true_and, reduceCtorEq, false_and, and_false, exists_false, or_false, false_or, true_or, or_true, decide_eq_true_eq, Bool.not_true, Bool.not_false, Bool.not_eq_true', Bool.not_eq_false', decide_eq_false_iff_not, ite_not, if_true, if_false, ite_true, ite_false, Bool.false_eq_true, if_pos trivial, decide_true, decide_false, PySem.sizeLine_eq, eq_self, Int.reduceNeg, Int.reducePow, Int.reduceLT, Int.reduceLE, Int.reduceToNat, Nat.reduceLeDiff, Int.reduceSub, Int.reduceAdd, Int.reduceMul, Int.reduceDiv, Int.reduceMod, Int.reduceEq, Nat.reduceMul, Nat.reduceEqDiff, Own.e_raiseO, Own.e_callS, Own.e_what, Own.hxd_inj, hd])
        rw [← hw]
        by_cases hi0 : i = 0
        · subst hi0
          have hf2 : H' pf = some (.lst []) := sm _ _ hfx
          refine ⟨pf, [], rfl, .inl (.of hf2), rfl, rfl, ?_⟩
          have iv0 : inV (V.str (refW p m)) [] = false := rfl
          (try simp only [Own.e_seq, Own.e_cxK, Own.e_wishK, Own.e_noxK, Own.e_asg, Own.e_gName, Own.e_var, Own.e_C, Own.e_op, Own.e_un, Own.e_rI, Own.e_rI0, Own.e_rU, Own.e_CMul, Own.e_CDiv, Own.e_CPow, Own.e_rEq, Own.e_rNe, Own.e_scal_int, Own.e_scal_str, Own.e_scal_bl, Own.e_ifS, Own.e_test, Own.e_tB, Own.e_ret, Own.e_retN, Own.e_next, Own.e_brk, Own.e_cnt, Own.e_cons, Own.e_nil, Own.e_lst, Own.e_tup, Own.e_drop, Own.e_and, Own.e_or, Own.e_not, Own.e_andV, Own.e_orV, Own.e_notV, Own.e_if, Own.e_chain, Own.e_CB, Own.e_call, Own.e_rIxL, Own.e_rIxT, Own.e_rIxK, Own.e_rIxKT, Own.e_rSlK, Own.e_rLenK, Own.e_rListK, Own.e_rTupleK, Own.e_rSumK, Own.e_rDivK, Own.e_rNeK, Own.e_rEqK, Own.e_rNeKT, Own.e_rEqKT, Own.e_rIsiK, Own.e_rSlS, Own.e_rIxS, Own.tyK_int, Own.tyK_bl, Own.tyK_str, Own.tyK_non, Own.tyK_ref, Own.tyO_lst, Own.tyO_tup, Own.kit1, Own.kit2, Own.kit3, Own.kit4, Own.kit5, Own.kit6, Own.kit7, Own.kit8, Own.kit9, Own.hlst_inj, Own.htup_inj, Own.vty_inj, Own.ivs_inj, Own.bz_inj, Own.ivs_len, Own.bz_len, Own.ivs_app, Own.ivs_set, Own.ivs_bset, Own.bz_app, Own.ivs_snoc, Own.bz_snoc, Own.atI_ints, Own.atI_bz, Own.isLst_some, Own.ty_lst, L2.upd_same, L2.upd_upd, Own.b2_xor, Own.b2_mod2, Own.b2_mod3, Own.b2_mod4, Own.b2_flip, Option.map_some, Option.isSome_some, ne_eq, eq_self, not_false_eq_true, not_true_eq_false, String.reduceEq, Own.e_BM, Own.e_BM0, Own.e_rAppend, Own.e_rCat, Own.e_rRep, Own.e_sl, Own.e_noPart, Own.e_part, Own.e_rSlL, Own.e_gSub, Own.e_rSetL, Own.e_bits, Own.e_yes, Own.e_gTup, Own.e_gNil, Own.e_gCons, Own.e_aug, Own.e_ipI, Own.e_for, Own.e_lc, Own.e_iList, Own.e_iTup, Own.e_iRng1, Own.e_iRng2, Own.e_iEnum, Own.e_iZip, L2.start, L2.wipe, List.map_cons, List.map_nil, List.replicate_succ, List.replicate_zero, List.length_cons, List.length_nil, Nat.reduceAdd, Nat.reduceSub, Nat.zero_add, List.getElem?_cons_zero, List.getElem?_cons_succ, List.set_cons_zero, List.set_cons_succ, Option.some.injEq, L2.V.int.injEq, L2.V.bl.injEq, L2.V.str.injEq, L2.V.ref.injEq, List.cons.injEq, List.cons_append, List.nil_append, List.append_nil, exists_eq_left', exists_eq_left, exists_and_left, exists_and_right, exists_eq, and_true, true_and, reduceCtorEq, false_and, and_false, exists_false, or_false, false_or, true_or, or_true, decide_eq_true_eq, Bool.not_true, Bool.not_false, Bool.not_eq_true', Bool.not_eq_false', decide_eq_false_iff_not, ite_not, if_true, if_false, ite_true, ite_false, Bool.false_eq_true, if_pos trivial, decide_true, decide_false, PySem.sizeLine_eq, eq_self, Int.reduceNeg, Int.reducePow, Int.reduceLT, Int.reduceLE, Int.reduceToNat, Nat.reduceLeDiff, Int.reduceSub, Int.reduceAdd, Int.reduceMul, Int.reduceDiv, Int.reduceMod, Int.reduceEq, Nat.reduceMul, Nat.reduceEqDiff, Own.e_raiseO, Own.e_callS, Own.e_what, Own.hxd_inj, hf2, iv0])
          exact ⟨by decide, at_is ⟨_, _, _, rfl, same_upd_of (smx.trans sm) npf, by rw [upd_same]; rfl, by rw [upd_ne npl']; exact (sm _ _ hlx)⟩⟩
        · have hf2 : H' pf = some (.lst [.str (refW p m)]) := by have z := sm _ _ hfx; rw [if_neg hi0] at z; exact z
          refine ⟨pf, [.str (refW p m)], rfl, .inl (.of hf2), rfl, rfl, ?_⟩
          have iv1 : inV (V.str (refW p m)) [.str (refW p m)] = true := by simp [inV, eqV]
          (try simp only [Own.e_seq, Own.e_cxK, Own.e_wishK, Own.e_noxK, Own.e_asg, Own.e_gName, Own.e_var, Own.e_C, Own.e_op, Own.e_un, Own.e_rI, Own.e_rI0, Own.e_rU, Own.e_CMul, Own.e_CDiv, Own.e_CPow, Own.e_rEq, Own.e_rNe, Own.e_scal_int, Own.e_scal_str, Own.e_scal_bl, Own.e_ifS, Own.e_test, Own.e_tB, Own.e_ret, Own.e_retN, Own.e_next, Own.e_brk, Own.e_cnt, Own.e_cons, Own.e_nil, Own.e_lst, Own.e_tup, Own.e_drop, Own.e_and, Own.e_or, Own.e_not, Own.e_andV, Own.e_orV, Own.e_notV, Own.e_if, Own.e_chain, Own.e_CB, Own.e_call, Own.e_rIxL, Own.e_rIxT, Own.e_rIxK, Own.e_rIxKT, Own.e_rSlK, Own.e_rLenK, Own.e_rListK, Own.e_rTupleK, Own.e_rSumK, Own.e_rDivK, Own.e_rNeK, Own.e_rEqK, Own.e_rNeKT, Own.e_rEqKT, Own.e_rIsiK, Own.e_rSlS, Own.e_rIxS, Own.tyK_int, Own.tyK_bl, Own.tyK_str, Own.tyK_non, Own.tyK_ref, Own.tyO_lst, Own.tyO_tup, Own.kit1, Own.kit2, Own.kit3, Own.kit4, Own.kit5, Own.kit6, Own.kit7, Own.kit8, Own.kit9, Own.hlst_inj, Own.htup_inj, Own.vty_inj, Own.ivs_inj, Own.bz_inj, Own.ivs_len, Own.bz_len, Own.ivs_app, Own.ivs_set, Own.ivs_bset, Own.bz_app, Own.ivs_snoc, Own.bz_snoc, Own.atI_ints, Own.atI_bz, Own.isLst_some, Own.ty_lst, L2.upd_same, L2.upd_upd, Own.b2_xor, Own.b2_mod2, Own.b2_mod3, Own.b2_mod4, Own.b2_flip, Option.map_some, Option.isSome_some, ne_eq, eq_self, not_false_eq_true, not_true_eq_false, String.reduceEq, Own.e_BM, Own.e_BM0, Own.e_rAppend, Own.e_rCat, Own.e_rRep, Own.e_sl, Own.e_noPart, Own.e_part, Own.e_rSlL, Own.e_gSub, Own.e_rSetL, Own.e_bits, Own.e_yes, Own.e_gTup, Own.e_gNil, Own.e_gCons, Own.e_aug, Own.e_ipI, Own.e_for, Own.e_lc, Own.e_iList, Own.e_iTup, Own.e_iRng1, Own.e_iRng2, Own.e_iEnum, Own.e_iZip, L2.start, L2.wipe, List.map_cons, List.map_nil, List.replicate_succ, List.replicate_zero, List.length_cons, List.length_nil, Nat.reduceAdd, Nat.reduceSub, Nat.zero_add, List.getElem?_cons_zero, List.getElem?_cons_succ, List.set_cons_zero, List.set_cons_succ, Option.some.injEq, L2.V.int.injEq, L2.V.bl.injEq, L2.V.str.injEq, L2.V.ref.injEq, List.cons.injEq, List.cons_append, List.nil_append, List.append_nil, exists_eq_left', exists_eq_left, exists_and_left, exists_and_right, exists_eq, and_true, true_and, reduceCtorEq, false_and, and_false, exists_false, or_false, false_or, true_or, or_true, decide_eq_true_eq, Bool.not_true, Bool.not_false, Bool.not_eq_true', Bool.not_eq_false', decide_eq_false_iff_not, ite_not, if_true, if_false, ite_true, ite_false, Bool.false_eq_true, if_pos trivial, decide_true, decide_false, PySem.sizeLine_eq, eq_self, Int.reduceNeg, Int.reducePow, Int.reduceLT, Int.reduceLE, Int.reduceToNat, Nat.reduceLeDiff, Int.reduceSub, Int.reduceAdd, Int.reduceMul, Int.reduceDiv, Int.reduceMod, Int.reduceEq, Nat.reduceMul, Nat.reduceEqDiff, Own.e_raiseO, Own.e_callS, Own.e_what, Own.hxd_inj, hf2, iv1])
          exact at_is ⟨_, _, _, rfl, (smx.trans sm), by rw [hf2, if_neg (by omega)], (sm _ _ hlx)⟩
      · have hw : refW p m = "turns" := by unfold refW; rw [if_pos h1, if_neg h]
        (try simp only [Own.e_seq, Own.e_cxK, Own.e_wishK, Own.e_noxK, Own.e_asg, Own.e_gName, Own.e_var, Own.e_C, Own.e_op, Own.e_un, Own.e_rI, Own.e_rI0, Own.e_rU, Own.e_CMul, Own.e_CDiv, Own.e_CPow, Own.e_rEq, Own.e_rNe, Own.e_scal_int, Own.e_scal_str, Own.e_scal_bl, Own.e_ifS, Own.e_test, Own.e_tB, Own.e_ret, Own.e_retN, Own.e_next, Own.e_brk, Own.e_cnt, Own.e_cons, Own.e_nil, Own.e_lst, Own.e_tup, Own.e_drop, Own.e_and, Own.e_or, Own.e_not, Own.e_andV, Own.e_orV, Own.e_notV, Own.e_if, Own.e_chain, Own.e_CB, Own.e_call, Own.e_rIxL, Own.e_rIxT, Own.e_rIxK, Own.e_rIxKT, Own.e_rSlK, Own.e_rLenK, Own.e_rListK, Own.e_rTupleK, Own.e_rSumK, Own.e_rDivK, Own.e_rNeK, Own.e_rEqK, Own.e_rNeKT, Own.e_rEqKT, Own.e_rIsiK, Own.e_rSlS, Own.e_rIxS, Own.tyK_int, Own.tyK_bl, Own.tyK_str, Own.tyK_non, Own.tyK_ref, Own.tyO_lst, Own.tyO_tup, Own.kit1, Own.kit2, Own.kit3, Own.kit4, Own.kit5, Own.kit6, Own.kit7, Own.kit8, Own.kit9, Own.hlst_inj, Own.htup_inj, Own.vty_inj, Own.ivs_inj, Own.bz_inj, Own.ivs_len, Own.bz_len, Own.ivs_app, Own.ivs_set, Own.ivs_bset, Own.bz_app, Own.ivs_snoc, Own.bz_snoc, Own.atI_ints, Own.atI_bz, Own.isLst_some, Own.ty_lst, L2.upd_same, L2.upd_upd, Own.b2_xor, Own.b2_mod2, Own.b2_mod3, Own.b2_mod4, Own.b2_flip, Option.map_some, Option.isSome_some, ne_eq, eq_self, not_false_eq_true, not_true_eq_false, String.reduceEq, Own.e_BM, Own.e_BM0, Own.e_rAppend, Own.e_rCat, Own.e_rRep, Own.e_sl, Own.e_noPart, Own.e_part, Own.e_rSlL, Own.e_gSub, Own.e_rSetL, Own.e_bits, Own.e_yes, Own.e_gTup, Own.e_gNil, Own.e_gCons, Own.e_aug, Own.e_ipI, Own.e_for, Own.e_lc, Own.e_iList, Own.e_iTup, Own.e_iRng1, Own.e_iRng2, Own.e_iEnum, Own.e_iZip, L2.start, L2.wipe, List.map_cons, List.map_nil, List.replicate_succ, List.replicate_zero, List.length_cons, List.length_nil, Nat.reduceAdd, Nat.reduceSub, Nat.zero_add, List.getElem?_cons_zero, List.getElem?_cons_succ, List.set_cons_zero, List.set_cons_succ, Option.some.injEq, L2.V.int.injEq, L2.V.bl.injEq, L2.V.str.injEq, L2.V.ref.injEq, List.cons.injEq, List.cons_append, List.nil_append, List.append_nil, exists_eq_left', exists_eq_left, exists_and_left, exists_and_right, exists_eq, and_true, true_and, reduceCtorEq, false_and, and_false, exists_false, or_false, false_or, true_or, or_true, decide_eq_true_eq, Bool.not_true, Bool.not_false, Bool.not_eq_true', Bool.not_eq_false', decide_eq_false_iff_not, ite_not, if_true, if_false, ite_true, ite_false, Bool.false_eq_true, if_pos trivial, decide_true, decide_false, PySem.sizeLine_eq, eq_self, Int.reduceNeg, Int.reducePow, Int.reduceLT, Int.reduceLE, Int.reduceToNat, Nat.reduceLeDiff, Int.reduceSub, Int.reduceAdd, Int.reduceMul, Int.reduceDiv, Int.reduceMod, Int.reduceEq, Nat.reduceMul, Nat.reduceEqDiff, Own.e_raiseO, Own.e_callS, Own.e_what, Own.hxd_inj, hd])
        rw [← hw]
        by_cases hi0 : i = 0
        · subst hi0
          have hf2 : H' pf = some (.lst []) := sm _ _ hfx
          refine ⟨pf, [], rfl, .inl (.of hf2), rfl, rfl, ?_⟩
          have iv0 : inV (V.str (refW p m)) [] = false := rfl
          (try simp only [Own.e_seq, Own.e_cxK, Own.e_wishK, Own.e_noxK, Own.e_asg, Own.e_gName, Own.e_var, Own.e_C, Own.e_op, Own.e_un, Own.e_rI, Own.e_rI0, Own.e_rU, Own.e_CMul, Own.e_CDiv, Own.e_CPow, Own.e_rEq, Own.e_rNe, Own.e_scal_int, Own.e_scal_str, Own.e_scal_bl, Own.e_ifS, Own.e_test, Own.e_tB, Own.e_ret, Own.e_retN, Own.e_next, Own.e_brk, Own.e_cnt, Own.e_cons, Own.e_nil, Own.e_lst, Own.e_tup, Own.e_drop, Own.e_and, Own.e_or, Own.e_not, Own.e_andV, Own.e_orV, Own.e_notV, Own.e_if, Own.e_chain, Own.e_CB, Own.e_call, Own.e_rIxL, Own.e_rIxT, Own.e_rIxK, Own.e_rIxKT, Own.e_rSlK, Own.e_rLenK, Own.e_rListK, Own.e_rTupleK, Own.e_rSumK, Own.e_rDivK, Own.e_rNeK, Own.e_rEqK, Own.e_rNeKT, Own.e_rEqKT, Own.e_rIsiK, Own.e_rSlS, Own.e_rIxS, Own.tyK_int, Own.tyK_bl, Own.tyK_str, Own.tyK_non, Own.tyK_ref, Own.tyO_lst, Own.tyO_tup, Own.kit1, Own.kit2, Own.kit3, Own.kit4, Own.kit5, Own.kit6, Own.kit7, Own.kit8, Own.kit9, Own.hlst_inj, Own.htup_inj, Own.vty_inj, Own.ivs_inj, Own.bz_inj, Own.ivs_len, Own.bz_len, Own.ivs_app, Own.ivs_set, Own.ivs_bset, Own.bz_app, Own.ivs_snoc, Own.bz_snoc, Own.atI_ints, Own.atI_bz, Own.isLst_some, Own.ty_lst, L2.upd_same, L2.upd_upd, Own.b2_xor, Own.b2_mod2, Own.b2_mod3, Own.b2_mod4, Own.b2_flip, Option.map_some, Option.isSome_some, ne_eq, eq_self, not_false_eq_true, not_true_eq_false, String.reduceEq, Own.e_BM, Own.e_BM0, Own.e_rAppend, Own.e_rCat, Own.e_rRep, Own.e_sl, Own.e_noPart, Own.e_part, Own.e_rSlL, Own.e_gSub, Own.e_rSetL, Own.e_bits, Own.e_yes, Own.e_gTup, Own.e_gNil, Own.e_gCons, Own.e_aug, Own.e_ipI, Own.e_for, Own.e_lc, Own.e_iList, Own.e_iTup, Own.e_iRng1, Own.e_iRng2, Own.e_iEnum, Own.e_iZip, L2.start, L2.wipe, List.map_cons, List.map_nil, List.replicate_succ, List.replicate_zero, List.length_cons, List.length_nil, Nat.reduceAdd, Nat.reduceSub, Nat.zero_add, List.getElem?_cons_zero, List.getElem?_cons_succ, List.set_cons_zero, List.set_cons_succ, Option.some.injEq, L2.V.int.injEq, L2.V.bl.injEq, L2.V.str.injEq, L2.V.ref.injEq, List.cons.injEq, List.cons_append, List.nil_append, List.append_nil, exists_eq_left', exists_eq_left, exists_and_left, exists_and_right, exists_eq, and_true, true_and, reduceCtorEq, false_and, and_false, exists_false, or_false, false_or, true_or, or_true, decide_eq_true_eq, Bool.not_true, Bool.not_false, Bool.not_eq_true', Bool.not_eq_false', decide_eq_false_iff_not, ite_not, if_true, if_false, ite_true, ite_false, Bool.false_eq_true, if_pos trivial, decide_true, decide_false, PySem.sizeLine_eq, eq_self, Int.reduceNeg, Int.reducePow, Int.reduceLT, Int.reduceLE, Int.reduceToNat, Nat.reduceLeDiff, Int.reduceSub, Int.reduceAdd, Int.reduceMul, Int.reduceDiv, Int.reduceMod, Int.reduceEq, Nat.reduceMul, Nat.reduceEqDiff, Own.e_raiseO, Own.e_callS, Own.e_what, Own.hxd_inj, hf2, iv0])
          exact ⟨by decide, at_is ⟨_, _, _, rfl, same_upd_of (smx.trans sm) npf, by rw [upd_same]; rfl, by rw [upd_ne npl']; exact (sm _ _ hlx)⟩⟩
        · have hf2 : H' pf = some (.lst [.str (refW p m)]) := by have z := sm _ _ hfx; rw [if_neg hi0] at z; exact z
          refine ⟨pf, [.str (refW p m)], rfl, .inl (.of hf2), rfl, rfl, ?_⟩
          have iv1 : inV (V.str (refW p m)) [.str (refW p m)] = true := by simp [inV, eqV]
          (try simp only [Own.e_seq, Own.e_cxK, Own.e_wishK, Own.e_noxK, Own.e_asg, Own.e_gName, Own.e_var, Own.e_C, Own.e_op, Own.e_un, Own.e_rI, Own.e_rI0, Own.e_rU, Own.e_CMul, Own.e_CDiv, Own.e_CPow, Own.e_rEq, Own.e_rNe, Own.e_scal_int, Own.e_scal_str, Own.e_scal_bl, Own.e_ifS, Own.e_test, Own.e_tB, Own.e_ret, Own.e_retN, Own.e_next, Own.e_brk, Own.e_cnt, Own.e_cons, Own.e_nil, Own.e_lst, Own.e_tup, Own.e_drop, Own.e_and, Own.e_or, Own.e_not, Own.e_andV, Own.e_orV, Own.e_notV, Own.e_if, Own.e_chain, Own.e_CB, Own.e_call, Own.e_rIxL, Own.e_rIxT, Own.e_rIxK, Own.e_rIxKT, Own.e_rSlK, Own.e_rLenK, Own.e_rListK, Own.e_rTupleK, Own.e_rSumK, Own.e_rDivK, Own.e_rNeK, Own.e_rEqK, Own.e_rNeKT, Own.e_rEqKT, Own.e_rIsiK, Own.e_rSlS, Own.e_rIxS, Own.tyK_int, Own.tyK_bl, Own.tyK_str, Own.tyK_non, Own.tyK_ref, Own.tyO_lst, Own.tyO_tup, Own.kit1, Own.kit2, Own.kit3, Own.kit4, Own.kit5, Own.kit6, Own.kit7, Own.kit8, Own.kit9, Own.hlst_inj, Own.htup_inj, Own.vty_inj, Own.ivs_inj, Own.bz_inj, Own.ivs_len, Own.bz_len, Own.ivs_app, Own.ivs_set, Own.ivs_bset, Own.bz_app, Own.ivs_snoc, Own.bz_snoc, Own.atI_ints, Own.atI_bz, Own.isLst_some, Own.ty_lst, L2.upd_same, L2.upd_upd, Own.b2_xor, Own.b2_mod2, Own.b2_mod3, Own.b2_mod4, Own.b2_flip, Option.map_some, Option.isSome_some, ne_eq, eq_self, not_false_eq_true, not_true_eq_false, String.reduceEq, Own.e_BM, Own.e_BM0, Own.e_rAppend, Own.e_rCat, Own.e_rRep, Own.e_sl, Own.e_noPart, Own.e_part, Own.e_rSlL, Own.e_gSub, Own.e_rSetL, Own.e_bits, Own.e_yes, Own.e_gTup, Own.e_gNil, Own.e_gCons, Own.e_aug, Own.e_ipI, Own.e_for, Own.e_lc, Own.e_iList, Own.e_iTup, Own.e_iRng1, Own.e_iRng2, Own.e_iEnum, Own.e_iZip, L2.start, L2.wipe, List.map_cons, List.map_nil, List.replicate_succ, List.replicate_zero, List.length_cons, List.length_nil, Nat.reduceAdd, Nat.reduceSub, Nat.zero_add, List.getElem?_cons_zero, List.getElem?_cons_succ, List.set_cons_zero, List.set_cons_succ, Option.some.injEq, L2.V.int.injEq, L2.V.bl.injEq, L2.V.str.injEq, L2.V.ref.injEq, List.cons.injEq, List.cons_append, List.nil_append, List.append_nil, exists_eq_left', exists_eq_left, exists_and_left, exists_and_right, exists_eq, and_true, true_and, reduceCtorEq, false_and, and_false, exists_false, or_false, false_or, true_or, or_true, decide_eq_true_eq, Bool.not_true, Bool.not_false, Bool.not_eq_true', Bool.not_eq_false', decide_eq_false_iff_not, ite_not, if_true, if_false, ite_true, ite_false, Bool.false_eq_true, if_pos trivial, decide_true, decide_false, PySem.sizeLine_eq, eq_self, Int.reduceNeg, Int.reducePow, Int.reduceLT, Int.reduceLE, Int.reduceToNat, Nat.reduceLeDiff, Int.reduceSub, Int.reduceAdd, Int.reduceMul, Int.reduceDiv, Int.reduceMod, Int.reduceEq, Nat.reduceMul, Nat.reduceEqDiff, Own.e_raiseO, Own.e_callS, Own.e_what, Own.hxd_inj, hf2, iv1])
          exact at_is ⟨_, _, _, rfl, (smx.trans sm), by rw [hf2, if_neg (by omega)], (sm _ _ hlx)⟩
      · have hw : refW p m = "" := by unfold refW; rw [if_pos h1, if_pos h2]
        (try simp only [Own.e_seq, Own.e_cxK, Own.e_wishK, Own.e_noxK, Own.e_asg, Own.e_gName, Own.e_var, Own.e_C, Own.e_op, Own.e_un, Own.e_rI, Own.e_rI0, Own.e_rU, Own.e_CMul, Own.e_CDiv, Own.e_CPow, Own.e_rEq, Own.e_rNe, Own.e_scal_int, Own.e_scal_str, Own.e_scal_bl, Own.e_ifS, Own.e_test, Own.e_tB, Own.e_ret, Own.e_retN, Own.e_next, Own.e_brk, Own.e_cnt, Own.e_cons, Own.e_nil, Own.e_lst, Own.e_tup, Own.e_drop, Own.e_and, Own.e_or, Own.e_not, Own.e_andV, Own.e_orV, Own.e_notV, Own.e_if, Own.e_chain, Own.e_CB, Own.e_call, Own.e_rIxL, Own.e_rIxT, Own.e_rIxK, Own.e_rIxKT, Own.e_rSlK, Own.e_rLenK, Own.e_rListK, Own.e_rTupleK, Own.e_rSumK, Own.e_rDivK, Own.e_rNeK, Own.e_rEqK, Own.e_rNeKT, Own.e_rEqKT, Own.e_rIsiK, Own.e_rSlS, Own.e_rIxS, Own.tyK_int, Own.tyK_bl, Own.tyK_str, Own.tyK_non, Own.tyK_ref, Own.tyO_lst, Own.tyO_tup, Own.kit1, Own.kit2, Own.kit3, Own.kit4, Own.kit5, Own.kit6, Own.kit7, Own.kit8, Own.kit9, Own.hlst_inj, Own.htup_inj, Own.vty_inj, Own.ivs_inj, Own.bz_inj, Own.ivs_len, Own.bz_len, Own.ivs_app, Own.ivs_set, Own.ivs_bset, Own.bz_app, Own.ivs_snoc, Own.bz_snoc, Own.atI_ints, Own.atI_bz, Own.isLst_some, Own.ty_lst, L2.upd_same, L2.upd_upd, Own.b2_xor, Own.b2_mod2, Own.b2_mod3, Own.b2_mod4, Own.b2_flip, Option.map_some, Option.isSome_some, ne_eq, eq_self, not_false_eq_true, not_true_eq_false, String.reduceEq, Own.e_BM, Own.e_BM0, Own.e_rAppend, Own.e_rCat, Own.e_rRep, Own.e_sl, Own.e_noPart, Own.e_part, Own.e_rSlL, Own.e_gSub, Own.e_rSetL, Own.e_bits, Own.e_yes, Own.e_gTup, Own.e_gNil, Own.e_gCons, Own.e_aug, Own.e_ipI, Own.e_for, Own.e_lc, Own.e_iList, Own.e_iTup, Own.e_iRng1, Own.e_iRng2, Own.e_iEnum, Own.e_iZip, L2.start, L2.wipe, List.map_cons, List.map_nil, List.replicate_succ, List.replicate_zero, List.length_cons, List.length_nil, Nat.reduceAdd, Nat.reduceSub, Nat.zero_add, List.getElem?_cons_zero, List.getElem?_cons_succ, List.set_cons_zero, List.set_cons_succ, Option.some.injEq, L2.V.int.injEq, L2.V.bl.injEq, L2.V.str.injEq, L2.V.ref.injEq, List.cons.injEq, List.cons_append, List.nil_append, List.append_nil, exists_eq_left', exists_eq_left, exists_and_left, exists_and_right, exists_eq, and_true, true_and, reduceCtorEq, false_and, and_false, exists_false, or_false, false_or, true_or, or_true, decide_eq_true_eq, Bool.not_true, Bool.not_false, Bool.not_eq_true', Bool.not_eq_false', decide_eq_false_iff_not, ite_not, if_true, if_false, ite_true, ite_false, Bool.false_eq_true, if_pos trivial, decide_true, decide_false, PySem.sizeLine_eq, eq_self, Int.reduceNeg, Int.reducePow, Int.reduceLT, Int.reduceLE, Int.reduceToNat, Nat.reduceLeDiff, Int.reduceSub, Int.reduceAdd, Int.reduceMul, Int.reduceDiv, Int.reduceMod, Int.reduceEq, Nat.reduceMul, Nat.reduceEqDiff, Own.e_raiseO, Own.e_callS, Own.e_what, Own.hxd_inj])
        rw [← hw]
        by_cases hi0 : i = 0
        · subst hi0
          have hf2 : Hx pf = some (.lst []) := hfx
          refine ⟨pf, [], rfl, .inl (.of hf2), rfl, rfl, ?_⟩
          have iv0 : inV (V.str (refW p m)) [] = false := rfl
          (try simp only [Own.e_seq, Own.e_cxK, Own.e_wishK, Own.e_noxK, Own.e_asg, Own.e_gName, Own.e_var, Own.e_C, Own.e_op, Own.e_un, Own.e_rI, Own.e_rI0, Own.e_rU, Own.e_CMul, Own.e_CDiv, Own.e_CPow, Own.e_rEq, Own.e_rNe, Own.e_scal_int, Own.e_scal_str, Own.e_scal_bl, Own.e_ifS, Own.e_test, Own.e_tB, Own.e_ret, Own.e_retN, Own.e_next, Own.e_brk, Own.e_cnt, Own.e_cons, Own.e_nil, Own.e_lst, Own.e_tup, Own.e_drop, Own.e_and, Own.e_or, Own.e_not, Own.e_andV, Own.e_orV, Own.e_notV, Own.e_if, Own.e_chain, Own.e_CB, Own.e_call, Own.e_rIxL, Own.e_rIxT, Own.e_rIxK, Own.e_rIxKT, Own.e_rSlK, Own.e_rLenK, Own.e_rListK, Own.e_rTupleK, Own.e_rSumK, Own.e_rDivK, Own.e_rNeK, Own.e_rEqK, Own.e_rNeKT, Own.e_rEqKT, Own.e_rIsiK, Own.e_rSlS, Own.e_rIxS, Own.tyK_int, Own.tyK_bl, Own.tyK_str, Own.tyK_non, Own.tyK_ref, Own.tyO_lst, Own.tyO_tup, Own.kit1, Own.kit2, Own.kit3, Own.kit4, Own.kit5, Own.kit6, Own.kit7, Own.kit8, Own.kit9, Own.hlst_inj, Own.htup_inj, Own.vty_inj, Own.ivs_inj, Own.bz_inj, Own.ivs_len, Own.bz_len, Own.ivs_app, Own.ivs_set, Own.ivs_bset, Own.bz_app, Own.ivs_snoc, Own.bz_snoc, Own.atI_ints, Own.atI_bz, Own.isLst_some, Own.ty_lst, L2.upd_same, L2.upd_upd, Own.b2_xor, Own.b2_mod2, Own.b2_mod3, Own.b2_mod4, Own.b2_flip, Option.map_some, Option.isSome_some, ne_eq, eq_self, not_false_eq_true, not_true_eq_false, String.reduceEq, Own.e_BM, Own.e_BM0, Own.e_rAppend, Own.e_rCat, Own.e_rRep, Own.e_sl, Own.e_noPart, Own.e_part, Own.e_rSlL, Own.e_gSub, Own.e_rSetL, Own.e_bits, Own.e_yes, Own.e_gTup, Own.e_gNil, Own.e_gCons, Own.e_aug, Own.e_ipI, Own.e_for, Own.e_lc, Own.e_iList, Own.e_iTup, Own.e_iRng1, Own.e_iRng2, Own.e_iEnum, Own.e_iZip, L2.start, L2.wipe, List.map_cons, List.map_nil, List.replicate_succ, List.replicate_zero, List.length_cons, List.length_nil, Nat.reduceAdd, Nat.reduceSub, Nat.zero_add, List.getElem?_cons_zero, List.getElem?_cons_succ, List.set_cons_zero, List.set_cons_succ, Option.some.injEq, L2.V.int.injEq, L2.V.bl.injEq, L2.V.str.injEq, L2.V.ref.injEq, List.cons.injEq, List.cons_append, List.nil_append, List.append_nil, exists_eq_left', exists_eq_left, exists_and_left, exists_and_right, exists_eq, and_true, true_and, reduceCtorEq, false_and, and_false, exists_false, or_false, false_or, true_or, or_true, decide_eq_true_eq, Bool.not_true, Bool.not_false, Bool.not_eq_true', Bool.not_eq_false', decide_eq_false_iff_not, ite_not, if_true, if_false, ite_true, ite_false, Bool.false_eq_true, if_pos trivial, decide_true, decide_false, PySem.sizeLine_eq, eq_self, Int.reduceNeg, Int.reducePow, Int.reduceLT, Int.reduceLE, Int.reduceToNat, Nat.reduceLeDiff, Int.reduceSub, Int.reduceAdd, Int.reduceMul, Int.reduceDiv, Int.reduceMod, Int.reduceEq, Nat.reduceMul, Nat.reduceEqDiff, Own.e_raiseO, Own.e_callS, Own.e_what, Own.hxd_inj, hf2, iv0])
          exact ⟨by decide, at_is ⟨_, _, _, rfl, same_upd_of smx npf, by rw [upd_same]; rfl, by rw [upd_ne npl']; exact hlx⟩⟩
        · have hf2 : Hx pf = some (.lst [.str (refW p m)]) := by have z := hfx; rw [if_neg hi0] at z; exact z
          refine ⟨pf, [.str (refW p m)], rfl, .inl (.of hf2), rfl, rfl, ?_⟩
          have iv1 : inV (V.str (refW p m)) [.str (refW p m)] = true := by simp [inV, eqV]
          (try simp only [Own.e_seq, Own.e_cxK, Own.e_wishK, Own.e_noxK, Own.e_asg, Own.e_gName, Own.e_var, Own.e_C, Own.e_op, Own.e_un, Own.e_rI, Own.e_rI0, Own.e_rU, Own.e_CMul, Own.e_CDiv, Own.e_CPow, Own.e_rEq, Own.e_rNe, Own.e_scal_int, Own.e_scal_str, Own.e_scal_bl, Own.e_ifS, Own.e_test, Own.e_tB, Own.e_ret, Own.e_retN, Own.e_next, Own.e_brk, Own.e_cnt, Own.e_cons, Own.e_nil, Own.e_lst, Own.e_tup, Own.e_drop, Own.e_and, Own.e_or, Own.e_not, Own.e_andV, Own.e_orV, Own.e_notV, Own.e_if, Own.e_chain, Own.e_CB, Own.e_call, Own.e_rIxL, Own.e_rIxT, Own.e_rIxK, Own.e_rIxKT, Own.e_rSlK, Own.e_rLenK, Own.e_rListK, Own.e_rTupleK, Own.e_rSumK, Own.e_rDivK, Own.e_rNeK, Own.e_rEqK, Own.e_rNeKT, Own.e_rEqKT, Own.e_rIsiK, Own.e_rSlS, Own.e_rIxS, Own.tyK_int, Own.tyK_bl, Own.tyK_str, Own.tyK_non, Own.tyK_ref, Own.tyO_lst, Own.tyO_tup, Own.kit1, Own.kit2, Own.kit3, Own.kit4, Own.kit5, Own.kit6, Own.kit7, Own.kit8, Own.kit9, Own.hlst_inj, Own.htup_inj, Own.vty_inj, Own.ivs_inj, Own.bz_inj, Own.ivs_len, Own.bz_len, Own.ivs_app, Own.ivs_set, Own.ivs_bset, Own.bz_app, Own.ivs_snoc, Own.bz_snoc, Own.atI_ints, Own.atI_bz, Own.isLst_some, Own.ty_lst, L2.upd_same, L2.upd_upd, Own.b2_xor, Own.b2_mod2, Own.b2_mod3, Own.b2_mod4, Own.b2_flip, Option.map_some, Option.isSome_some, ne_eq, eq_self, not_false_eq_true, not_true_eq_false, String.reduceEq, Own.e_BM, Own.e_BM0, Own.e_rAppend, Own.e_rCat, Own.e_rRep, Own.e_sl, Own.e_noPart, Own.e_part, Own.e_rSlL, Own.e_gSub, Own.e_rSetL, Own.e_bits, Own.e_yes, Own.e_gTup, Own.e_gNil, Own.e_gCons, Own.e_aug, Own.e_ipI, Own.e_for, Own.e_lc, Own.e_iList, Own.e_iTup, Own.e_iRng1, Own.e_iRng2, Own.e_iEnum, Own.e_iZip, L2.start, L2.wipe, List.map_cons, List.map_nil, List.replicate_succ, List.replicate_zero, List.length_cons, List.length_nil, Nat.reduceAdd, Nat.reduceSub, Nat.zero_add, List.getElem?_cons_zero, List.getElem?_cons_succ, List.set_cons_zero, List.set_cons_succ, Option.some.injEq, L2.V.int.injEq, L2.V.bl.injEq, L2.V.str.injEq, L2.V.ref.injEq, List.cons.injEq, List.cons_append, List.nil_append, List.append_nil, exists_eq_left', exists_eq_left, exists_and_left, exists_and_right, exists_eq, and_true, true_and, reduceCtorEq, false_and, and_false, exists_false, or_false, false_or, true_or, or_true, decide_eq_true_eq, Bool.not_true, Bool.not_false, Bool.not_eq_true', Bool.not_eq_false', decide_eq_false_iff_not, ite_not, if_true, if_false, ite_true, ite_false, Bool.false_eq_true, if_pos trivial, decide_true, decide_false, PySem.sizeLine_eq, eq_self, Int.reduceNeg, Int.reducePow, Int.reduceLT, Int.reduceLE, Int.reduceToNat, Nat.reduceLeDiff, Int.reduceSub, Int.reduceAdd, Int.reduceMul, Int.reduceDiv, Int.reduceMod, Int.reduceEq, Nat.reduceMul, Nat.reduceEqDiff, Own.e_raiseO, Own.e_callS, Own.e_what, Own.hxd_inj, hf2, iv1])
          exact at_is ⟨_, _, _, rfl, smx, by rw [hf2, if_neg (by omega)], hlx⟩
    · rintro σ H' ⟨y3, y4, y5, rfl, smx, hfx, hlx⟩
      have hf2 : H' pf = some (.lst [.str (refW p m)]) := hfx
      have i0 : atI [V.str (refW p m)] 0 = some (.str (refW p m)) := rfl
      (try simp only [Own.e_seq, Own.e_cxK, Own.e_wishK, Own.e_noxK, Own.e_asg, Own.e_gName, Own.e_var, Own.e_C, Own.e_op, Own.e_un, Own.e_rI, Own.e_rI0, Own.e_rU, Own.e_CMul, Own.e_CDiv, Own.e_CPow, Own.e_rEq, Own.e_rNe, Own.e_scal_int, Own.e_scal_str, Own.e_scal_bl, Own.e_ifS, Own.e_test, Own.e_tB, Own.e_ret, Own.e_retN, Own.e_next, Own.e_brk, Own.e_cnt, Own.e_cons, Own.e_nil, Own.e_lst, Own.e_tup, Own.e_drop, Own.e_and, Own.e_or, Own.e_not, Own.e_andV, Own.e_orV, Own.e_notV, Own.e_if, Own.e_chain, Own.e_CB, Own.e_call, Own.e_rIxL, Own.e_rIxT, Own.e_rIxK, Own.e_rIxKT, Own.e_rSlK, Own.e_rLenK, Own.e_rListK, Own.e_rTupleK, Own.e_rSumK, Own.e_rDivK, Own.e_rNeK, Own.e_rEqK, Own.e_rNeKT, Own.e_rEqKT, Own.e_rIsiK, Own.e_rSlS, Own.e_rIxS, Own.tyK_int, Own.tyK_bl, Own.tyK_str, Own.tyK_non, Own.tyK_ref, Own.tyO_lst, Own.tyO_tup, Own.kit1, Own.kit2, Own.kit3, Own.kit4, Own.kit5, Own.kit6, Own.kit7, Own.kit8, Own.kit9, Own.hlst_inj, Own.htup_inj, Own.vty_inj, Own.ivs_inj, Own.bz_inj, Own.ivs_len, Own.bz_len, Own.ivs_app, Own.ivs_set, Own.ivs_bset, Own.bz_app, Own.ivs_snoc, Own.bz_snoc, Own.atI_ints, Own.atI_bz, Own.isLst_some, Own.ty_lst, L2.upd_same, L2.upd_upd, Own.b2_xor, Own.b2_mod2, Own.b2_mod3, Own.b2_mod4, Own.b2_flip, Option.map_some, Option.isSome_some, ne_eq, eq_self, not_false_eq_true, not_true_eq_false, String.reduceEq, Own.e_BM, Own.e_BM0, Own.e_rAppend, Own.e_rCat, Own.e_rRep, Own.e_sl, Own.e_noPart, Own.e_part, Own.e_rSlL, Own.e_gSub, Own.e_rSetL, Own.e_bits, Own.e_yes, Own.e_gTup, Own.e_gNil, Own.e_gCons, Own.e_aug, Own.e_ipI, Own.e_for, Own.e_lc, Own.e_iList, Own.e_iTup, Own.e_iRng1, Own.e_iRng2, Own.e_iEnum, Own.e_iZip, L2.start, L2.wipe, List.map_cons, List.map_nil, List.replicate_succ, List.replicate_zero, List.length_cons, List.length_nil, Nat.reduceAdd, Nat.reduceSub, Nat.zero_add, List.getElem?_cons_zero, List.getElem?_cons_succ, List.set_cons_zero, List.set_cons_succ, Option.some.injEq, L2.V.int.injEq, L2.V.bl.injEq, L2.V.str.injEq, L2.V.ref.injEq, List.cons.injEq, List.cons_append, List.nil_append, List.append_nil, exists_eq_left', exists_eq_left, exists_and_left, exists_and_right, exists_eq, and_true, true_and, reduceCtorEq, false_and, and_false, exists_false, or_false, false_or, true_or, or_true, decide_eq_true_eq, Bool.not_true, Bool.not_false, Bool.not_eq_true', Bool.not_eq_false', decide_eq_false_iff_not, ite_not, if_true, if_false, ite_true, ite_false, Bool.false_eq_true, if_pos trivial, decide_true, decide_false, PySem.sizeLine_eq, eq_self, Int.reduceNeg, Int.reducePow, Int.reduceLT, Int.reduceLE, Int.reduceToNat, Nat.reduceLeDiff, Int.reduceSub, Int.reduceAdd, Int.reduceMul, Int.reduceDiv, Int.reduceMod, Int.reduceEq, Nat.reduceMul, Nat.reduceEqDiff, Own.e_raiseO, Own.e_callS, Own.e_what, Own.hxd_inj, hf2, i0])
      exact q H' smx
def sp_law (K : PySem.W.Frag) : Sp := fun vs H Q _ => ∃ (a : Addr) (ns : List Int), vs = [.ref a] ∧ SqL K H a (ns.map V.int) ∧ ns.length ≤ 63 ∧ ∀ H', Q (.bl true) H'

theorem ok_law {f : Addr} {fd : FuncData} {f__law_refused : Addr} {fd__law_refused : FuncData} {f__law_mixed : Addr} {fd__law_mixed : FuncData} {f_group_of : Addr} {fd_group_of : FuncData} (F : Fun K "law" "law" s_law f fd) (B : BI mg) (c__law_refused : Cal P w K mg base CX0 4 "_law_refused" f__law_refused fd__law_refused ["blocks", "turns"] (sp__law_refused K C_OutOfRange)) (c__law_mixed : Cal P w K mg base CX0 1 "_law_mixed" f__law_mixed fd__law_mixed ["cell", "turn"] (sp__law_mixed K)) (c_group_of : Cal P w K mg base (L2.CX P w) 3 "group_of" f_group_of fd_group_of ["digits", "blocks", "turns"] (sp_group_of K C_OutOfRange)) : FnOk P w K mg base CX0 5 f fd ["script"] (sp_law K) := by
  refine F.ok sc_law (fun vs H Q E h => ?_) (fun cdv A outer s H vs Q E hr h => ?_)
  · obtain ⟨a, ns, rfl, hS, hlen, q⟩ := h
    rfl
  · obtain ⟨a, ns, rfl, hS, hlen, q⟩ := h
    refine ⟨_, (pss_cons (ps_for PassesOwn.never rfl (pi_range2 (by rfl) B.range_ (pa_cons (pe_un un_neg pe_int) (pa_cons pe_int pa_nil))) (pg_name (i := 1) sc_law.nd rfl (Or.inl rfl))
      (pss_cons (ps_set (i := 2) sc_law.nd rfl (Or.inl rfl) pe_str)
      (pss_cons (ps_if (PW.pt (pw_or (pt_cmpR op_lt (pv 1) pe_int (nomark _)) (pw_or1 (pt_cmpR op_gt (pv 1) pe_int (nomark _))))) (pss_one (ps_set (i := 2) sc_law.nd rfl (Or.inl rfl) pe_str)) pss_nil)
      (pss_cons (ps_if (pt_cmpR op_ne (pe_call c__law_refused.ok (hr.mono (by decide)) (by rfl) c__law_refused.g c__law_refused.kp c__law_refused.b .nil pass0 (pa_cons (pe_op op_sub pe_int (pe_op op_mod (pv 1) pe_int)) (pa_cons (pv 1) pa_nil))) (pv 2) (nomark _)) (pss_one (ps_ret pe_bl)) pss_nil)
      (pss_cons (ps_set (i := 2) sc_law.nd rfl (Or.inl rfl) pe_str)
      (pss_cons (ps_if (PW.pt (pw_or (pt_cmpR op_lt (pv 1) pe_int (nomark _)) (pw_or1 (pt_cmpR op_gt (pv 1) pe_int (nomark _))))) (pss_one (ps_set (i := 2) sc_law.nd rfl (Or.inl rfl) pe_str)) pss_nil)
      (pss_one (ps_if (pt_cmpR op_ne (pe_call c__law_refused.ok (hr.mono (by decide)) (by rfl) c__law_refused.g c__law_refused.kp c__law_refused.b .nil pass0 (pa_cons (pv 1) (pa_cons (pe_op op_add pe_int (pe_op op_mod (pv 1) pe_int)) pa_nil))) (pv 2) (nomark _)) (pss_one (ps_ret pe_bl)) pss_nil))))))))
      (pss_cons (ps_if (PW.pt (pw_or (pt_cmpR op_ne (pe_call c__law_refused.ok (hr.mono (by decide)) (by rfl) c__law_refused.g c__law_refused.kp c__law_refused.b .nil pass0 (pa_cons pe_int (pa_cons pe_int pa_nil))) pe_str (nomark _)) (pw_or1 (pt_cmpR op_ne (pe_call c__law_refused.ok (hr.mono (by decide)) (by rfl) c__law_refused.g c__law_refused.kp c__law_refused.b .nil pass0 (pa_cons (pe_op op_add pe_int (pe_callB call_len_seq (by rfl) B.len_ (by decide +kernel) (pa_cons (pv 0) pa_nil))) (pa_cons pe_int pa_nil))) pe_str (nomark _))))) (pss_one (ps_ret pe_bl)) pss_nil)
      (pss_cons (ps_if (PW.pt (pw_or (pt_cmpR op_ne (pe_call c__law_refused.ok (hr.mono (by decide)) (by rfl) c__law_refused.g c__law_refused.kp c__law_refused.b .nil pass0 (pa_cons (pe_un un_neg (pe_callB call_len_seq (by rfl) B.len_ (by decide +kernel) (pa_cons (pv 0) pa_nil))) (pa_cons pe_int pa_nil))) pe_str (nomark _)) (pw_or1 (pt_cmpR op_ne (pe_call c__law_refused.ok (hr.mono (by decide)) (by rfl) c__law_refused.g c__law_refused.kp c__law_refused.b .nil pass0 (pa_cons pe_int (pa_cons (pe_op op_sub pe_int (pe_callB call_len_seq (by rfl) B.len_ (by decide +kernel) (pa_cons (pv 0) pa_nil))) pa_nil))) pe_str (nomark _))))) (pss_one (ps_ret pe_bl)) pss_nil)
      (pss_cons (ps_for PassesOwn.never rfl (pi_enum (by rfl) B.enumerate_ (pa_cons (pe_slice sl_list (pv 0) po_none (po_some pe_int)) pa_nil)) (pg_tup rfl (pgs_cons (pg_name (i := 3) sc_law.nd rfl (Or.inl rfl)) (pgs_cons (pg_name (i := 4) sc_law.nd rfl (Or.inl rfl)) pgs_nil)))
      (pss_cons (ps_set (i := 5) sc_law.nd rfl (Or.inl rfl) (pe_call c__law_mixed.ok (hr.mono (by decide)) (by rfl) c__law_mixed.g c__law_mixed.kp c__law_mixed.b .nil pass0 (pa_cons (pv 4) (pa_cons (pv 3) pa_nil))))
      (pss_cons (ps_set (i := 6) sc_law.nd rfl (Or.inl rfl) pe_str)
      (pss_cons (ps_set (i := 7) sc_law.nd rfl (Or.inl rfl) (pe_op op_fdiv (pv 5) pe_int))
      (pss_cons (ps_for PassesOwn.never rfl (pi_range1 (by rfl) B.range_ (pa_cons (pe_op op_add pe_int (pe_op op_mod (pv 5) pe_int)) pa_nil)) (pg_name (i := 8) sc_law.nd rfl (Or.inl rfl))
      (pss_cons (ps_set (i := 6) sc_law.nd rfl (Or.inl rfl) (pe_op op_add_str (pv 6) (pe_ix ix_str pe_str (pe_op op_mod (pv 7) pe_int) (fun _ _ => rfl))))
      (pss_one (ps_set (i := 7) sc_law.nd rfl (Or.inl rfl) (pe_op op_add (pe_op op_fdiv (pv 7) pe_int) (pe_op op_mod (pv 5) pe_int))))))
      (pss_cons (ps_set (i := 1) sc_law.nd rfl (Or.inl rfl) (pe_op op_add pe_int (pe_op op_mod (pe_op op_fdiv (pv 5) pe_int) pe_int)))
      (pss_cons (ps_set (i := 9) sc_law.nd rfl (Or.inl rfl) (pe_op op_add pe_int (pe_op op_mod (pe_op op_fdiv (pv 5) pe_int) pe_int)))
      (pss_cons (ps_set (i := 10) sc_law.nd rfl (Or.inl rfl) (pe_op op_add (pe_op op_add (pe_op op_mul pe_int (pe_callTy call_int_str (by rfl) B.int_ boot_int (pa_cons (pe_ix ix_str (pv 6) (pe_un un_neg pe_int) (fun _ _ => rfl)) pa_nil))) (pe_op op_mul pe_int (pe_callTy call_int_str (by rfl) B.int_ boot_int (pa_cons (pe_ix ix_str (pv 6) (pe_un un_neg pe_int) (fun _ _ => rfl)) pa_nil)))) (pe_callTy call_int_str (by rfl) B.int_ boot_int (pa_cons (pe_ix ix_str (pv 6) (pe_un un_neg pe_int) (fun _ _ => rfl)) pa_nil))))
      (pss_cons (ps_set (i := 11) sc_law.nd rfl (Or.inl rfl) (pe_call c_group_of.ok (hr.mono (by decide)) (by rfl) c_group_of.g c_group_of.kp c_group_of.b .nil passL (pa_cons (pv 6) (pa_cons (pv 1) (pa_cons (pv 9) pa_nil)))))
      (pss_one (ps_if (PW.pt (pw_or (pt_val (pe_callB callk_isi (by rfl) B.isinstance_ (by decide +kernel) (pa_cons (pv 11) (pa_cons (pe_bltn (v := .ty "bool") (by rfl) B.bool_ boot_bool rfl) pa_nil)))) (pw_or1 (pt_cmpR op_ne (pv 11) (pe_op op_mod (pv 10) (pe_op op_mul (pv 1) (pv 9))) (nomark _))))) (pss_one (ps_ret pe_bl)) pss_nil)))))))))))
      (pss_one (ps_ret pe_bl)))))), ?_⟩
    (try simp only [Own.e_seq, Own.e_cxK, Own.e_wishK, Own.e_noxK, Own.e_asg, Own.e_gName, Own.e_var, Own.e_C, Own.e_op, Own.e_un, Own.e_rI, Own.e_rI0, Own.e_rU, Own.e_CMul, Own.e_CDiv, Own.e_CPow, Own.e_rEq, Own.e_rNe, Own.e_scal_int, Own.e_scal_str, Own.e_scal_bl, Own.e_ifS, Own.e_test, Own.e_tB, Own.e_ret, Own.e_retN, Own.e_next, Own.e_brk, Own.e_cnt, Own.e_cons, Own.e_nil, Own.e_lst, Own.e_tup, Own.e_drop, Own.e_and, Own.e_or, Own.e_not, Own.e_andV, Own.e_orV, Own.e_notV, Own.e_if, Own.e_chain, Own.e_CB, Own.e_call, Own.e_rIxL, Own.e_rIxT, Own.e_rIxK, Own.e_rIxKT, Own.e_rSlK, Own.e_rLenK, Own.e_rListK, Own.e_rTupleK, Own.e_rSumK, Own.e_rDivK, Own.e_rNeK, Own.e_rEqK, Own.e_rNeKT, Own.e_rEqKT, Own.e_rIsiK, Own.e_rSlS, Own.e_rIxS, Own.tyK_int, Own.tyK_bl, Own.tyK_str, Own.tyK_non, Own.tyK_ref, Own.tyO_lst, Own.tyO_tup, Own.kit1, Own.kit2, Own.kit3, Own.kit4, Own.kit5, Own.kit6, Own.kit7, Own.kit8, Own.kit9, Own.hlst_inj, Own.htup_inj, Own.vty_inj, Own.ivs_inj, Own.bz_inj, Own.ivs_len, Own.bz_len, Own.ivs_app, Own.ivs_set, Own.ivs_bset, Own.bz_app, Own.ivs_snoc, Own.bz_snoc, Own.atI_ints, Own.atI_bz, Own.isLst_some, Own.ty_lst, L2.upd_same, L2.upd_upd, Own.b2_xor, Own.b2_mod2, Own.b2_mod3, Own.b2_mod4, Own.b2_flip, Option.map_some, Option.isSome_some, ne_eq, eq_self, not_false_eq_true, not_true_eq_false, String.reduceEq, Own.e_BM, Own.e_BM0, Own.e_rAppend, Own.e_rCat, Own.e_rRep, Own.e_sl, Own.e_noPart, Own.e_part, Own.e_rSlL, Own.e_gSub, Own.e_rSetL, Own.e_bits, Own.e_yes, Own.e_gTup, Own.e_gNil, Own.e_gCons, Own.e_aug, Own.e_ipI, Own.e_for, Own.e_lc, Own.e_iList, Own.e_iTup, Own.e_iRng1, Own.e_iRng2, Own.e_iEnum, Own.e_iZip, L2.start, L2.wipe, List.map_cons, List.map_nil, List.replicate_succ, List.replicate_zero, List.length_cons, List.length_nil, Nat.reduceAdd, Nat.reduceSub, Nat.zero_add, List.getElem?_cons_zero, List.getElem?_cons_succ, List.set_cons_zero, List.set_cons_succ, Option.some.injEq, L2.V.int.injEq, L2.V.bl.injEq, L2.V.str.injEq, L2.V.ref.injEq, List.cons.injEq, List.cons_append, List.nil_append, List.append_nil, exists_eq_left', exists_eq_left, exists_and_left, exists_and_right, exists_eq, and_true, true_and, reduceCtorEq, false_and, and_false, exists_false, or_false, false_or, true_or, or_true, decide_eq_true_eq, Bool.not_true, Bool.not_false, Bool.not_eq_true', Bool.not_eq_false', decide_eq_false_iff_not, ite_not, if_true, if_false, ite_true, ite_false, Bool.false_eq_true, if_pos trivial, decide_true, decide_false, PySem.sizeLine_eq, eq_self, Int.reduceNeg, Int.reducePow, Int.reduceLT, Int.reduceLE, Int.reduceToNat, Nat.reduceLeDiff, Int.reduceSub, Int.reduceAdd, Int.reduceMul, Int.reduceDiv, Int.reduceMod, Int.reduceEq, Nat.reduceMul, Nat.reduceEqDiff, Own.e_raiseO, Own.e_callS, Own.e_what, Own.hxd_inj])
    refine ⟨-1, 12, ⟨rfl, rfl⟩, by omega, loop_it walk_range (fun i σ H' => ∃ y1 y2 y3 y4 y5 y6 y7 y8 y9 y10 y11 : Option V, σ = [some (.ref a), y1, y2, y3, y4, y5, y6, y7, y8, y9, y10, y11] ∧ Same H H') ⟨none, none, none, none, none, none, none, none, none, none, none, rfl, Same.refl _⟩ (fun _ _ _ _ _ => trivial) ?_ ?_⟩
    · rintro i x σ H' H0 hi ⟨y1, y2, y3, y4, y5, y6, y7, y8, y9, y10, y11, rfl, t0⟩ ⟨rfl, rfl⟩
      (try simp only [Own.e_seq, Own.e_cxK, Own.e_wishK, Own.e_noxK, Own.e_asg, Own.e_gName, Own.e_var, Own.e_C, Own.e_op, Own.e_un, Own.e_rI, Own.e_rI0, Own.e_rU, Own.e_CMul, Own.e_CDiv, Own.e_CPow, Own.e_rEq, Own.e_rNe, Own.e_scal_int, Own.e_scal_str, Own.e_scal_bl, Own.e_ifS, Own.e_test, Own.e_tB, Own.e_ret, Own.e_retN, Own.e_next, Own.e_brk, Own.e_cnt, Own.e_cons, Own.e_nil, Own.e_lst, Own.e_tup, Own.e_drop, Own.e_and, Own.e_or, Own.e_not, Own.e_andV, Own.e_orV, Own.e_notV, Own.e_if, Own.e_chain, Own.e_CB, Own.e_call, Own.e_rIxL, Own.e_rIxT, Own.e_rIxK, Own.e_rIxKT, Own.e_rSlK, Own.e_rLenK, Own.e_rListK, Own.e_rTupleK, Own.e_rSumK, Own.e_rDivK, Own.e_rNeK, Own.e_rEqK, Own.e_rNeKT, Own.e_rEqKT, Own.e_rIsiK, Own.e_rSlS, Own.e_rIxS, Own.tyK_int, Own.tyK_bl, Own.tyK_str, Own.tyK_non, Own.tyK_ref, Own.tyO_lst, Own.tyO_tup, Own.kit1, Own.kit2, Own.kit3, Own.kit4, Own.kit5, Own.kit6, Own.kit7, Own.kit8, Own.kit9, Own.hlst_inj, Own.htup_inj, Own.vty_inj, Own.ivs_inj, Own.bz_inj, Own.ivs_len, Own.bz_len, Own.ivs_app, Own.ivs_set, Own.ivs_bset, Own.bz_app, Own.ivs_snoc, Own.bz_snoc, Own.atI_ints, Own.atI_bz, Own.isLst_some, Own.ty_lst, L2.upd_same, L2.upd_upd, Own.b2_xor, Own.b2_mod2, Own.b2_mod3, Own.b2_mod4, Own.b2_flip, Option.map_some, Option.isSome_some, ne_eq, eq_self, not_false_eq_true, not_true_eq_false, String.reduceEq, Own.e_BM, Own.e_BM0, Own.e_rAppend, Own.e_rCat, Own.e_rRep, Own.e_sl, Own.e_noPart, Own.e_part, Own.e_rSlL, Own.e_gSub, Own.e_rSetL, Own.e_bits, Own.e_yes, Own.e_gTup, Own.e_gNil, Own.e_gCons, Own.e_aug, Own.e_ipI, Own.e_for, Own.e_lc, Own.e_iList, Own.e_iTup, Own.e_iRng1, Own.e_iRng2, Own.e_iEnum, Own.e_iZip, L2.start, L2.wipe, List.map_cons, List.map_nil, List.replicate_succ, List.replicate_zero, List.length_cons, List.length_nil, Nat.reduceAdd, Nat.reduceSub, Nat.zero_add, List.getElem?_cons_zero, List.getElem?_cons_succ, List.set_cons_zero, List.set_cons_succ, Option.some.injEq, L2.V.int.injEq, L2.V.bl.injEq, L2.V.str.injEq, L2.V.ref.injEq, List.cons.injEq, List.cons_append, List.nil_append, List.append_nil, exists_eq_left', exists_eq_left, exists_and_left, exists_and_right, exists_eq, and_true, true_and, reduceCtorEq, false_and, and_false, exists_false, or_false, false_or, true_or, or_true, decide_eq_true_eq, Bool.not_true, Bool.not_false, Bool.not_eq_true', Bool.not_eq_false', decide_eq_false_iff_not, ite_not, if_true, if_false, ite_true, ite_false, Bool.false_eq_true, if_pos trivial, decide_true, decide_false, PySem.sizeLine_eq, eq_self, Int.reduceNeg, Int.reducePow, Int.reduceLT, Int.reduceLE, Int.reduceToNat, Nat.reduceLeDiff, Int.reduceSub, Int.reduceAdd, Int.reduceMul, Int.reduceDiv, Int.reduceMod, Int.reduceEq, Nat.reduceMul, Nat.reduceEqDiff, Own.e_raiseO, Own.e_callS, Own.e_what, Own.hxd_inj])
      have hB : -1 ≤ -1 + (i : Int) ∧ -1 + (i : Int) < 12 := by omega
      generalize -1 + (i : Int) = B' at hB ⊢
      refine ite2 (fun h1 => ?_) (fun h1 => ite2 (fun h2 => ?_) (fun h2 => ?_))
      · refine call_to ⟨_, _, rfl, fun H1 s1 => ?_⟩
        have w1 : refW (9 - B' % 9) B' = "turns" := by unfold refW; rw [if_pos (by omega), if_neg (by omega)]
        (try simp only [Own.e_seq, Own.e_cxK, Own.e_wishK, Own.e_noxK, Own.e_asg, Own.e_gName, Own.e_var, Own.e_C, Own.e_op, Own.e_un, Own.e_rI, Own.e_rI0, Own.e_rU, Own.e_CMul, Own.e_CDiv, Own.e_CPow, Own.e_rEq, Own.e_rNe, Own.e_scal_int, Own.e_scal_str, Own.e_scal_bl, Own.e_ifS, Own.e_test, Own.e_tB, Own.e_ret, Own.e_retN, Own.e_next, Own.e_brk, Own.e_cnt, Own.e_cons, Own.e_nil, Own.e_lst, Own.e_tup, Own.e_drop, Own.e_and, Own.e_or, Own.e_not, Own.e_andV, Own.e_orV, Own.e_notV, Own.e_if, Own.e_chain, Own.e_CB, Own.e_call, Own.e_rIxL, Own.e_rIxT, Own.e_rIxK, Own.e_rIxKT, Own.e_rSlK, Own.e_rLenK, Own.e_rListK, Own.e_rTupleK, Own.e_rSumK, Own.e_rDivK, Own.e_rNeK, Own.e_rEqK, Own.e_rNeKT, Own.e_rEqKT, Own.e_rIsiK, Own.e_rSlS, Own.e_rIxS, Own.tyK_int, Own.tyK_bl, Own.tyK_str, Own.tyK_non, Own.tyK_ref, Own.tyO_lst, Own.tyO_tup, Own.kit1, Own.kit2, Own.kit3, Own.kit4, Own.kit5, Own.kit6, Own.kit7, Own.kit8, Own.kit9, Own.hlst_inj, Own.htup_inj, Own.vty_inj, Own.ivs_inj, Own.bz_inj, Own.ivs_len, Own.bz_len, Own.ivs_app, Own.ivs_set, Own.ivs_bset, Own.bz_app, Own.ivs_snoc, Own.bz_snoc, Own.atI_ints, Own.atI_bz, Own.isLst_some, Own.ty_lst, L2.upd_same, L2.upd_upd, Own.b2_xor, Own.b2_mod2, Own.b2_mod3, Own.b2_mod4, Own.b2_flip, Option.map_some, Option.isSome_some, ne_eq, eq_self, not_false_eq_true, not_true_eq_false, String.reduceEq, Own.e_BM, Own.e_BM0, Own.e_rAppend, Own.e_rCat, Own.e_rRep, Own.e_sl, Own.e_noPart, Own.e_part, Own.e_rSlL, Own.e_gSub, Own.e_rSetL, Own.e_bits, Own.e_yes, Own.e_gTup, Own.e_gNil, Own.e_gCons, Own.e_aug, Own.e_ipI, Own.e_for, Own.e_lc, Own.e_iList, Own.e_iTup, Own.e_iRng1, Own.e_iRng2, Own.e_iEnum, Own.e_iZip, L2.start, L2.wipe, List.map_cons, List.map_nil, List.replicate_succ, List.replicate_zero, List.length_cons, List.length_nil, Nat.reduceAdd, Nat.reduceSub, Nat.zero_add, List.getElem?_cons_zero, List.getElem?_cons_succ, List.set_cons_zero, List.set_cons_succ, Option.some.injEq, L2.V.int.injEq, L2.V.bl.injEq, L2.V.str.injEq, L2.V.ref.injEq, List.cons.injEq, List.cons_append, List.nil_append, List.append_nil, exists_eq_left', exists_eq_left, exists_and_left, exists_and_right, exists_eq, and_true, true_and, reduceCtorEq, false_and, and_false, exists_false, or_false, false_or, true_or, or_true, decide_eq_true_eq, Bool.not_true, Bool.not_false, Bool.not_eq_true', Bool.not_eq_false', decide_eq_false_iff_not, ite_not, if_true, if_false, ite_true, ite_false, Bool.false_eq_true, if_pos trivial, decide_true, decide_false, PySem.sizeLine_eq, eq_self, Int.reduceNeg, Int.reducePow, Int.reduceLT, Int.reduceLE, Int.reduceToNat, Nat.reduceLeDiff, Int.reduceSub, Int.reduceAdd, Int.reduceMul, Int.reduceDiv, Int.reduceMod, Int.reduceEq, Nat.reduceMul, Nat.reduceEqDiff, Own.e_raiseO, Own.e_callS, Own.e_what, Own.hxd_inj, w1])
        refine ite2 (fun h3 => ?_) (fun h3 => ite2 (fun h4 => ?_) (fun h4 => ?_))
        · refine call_to ⟨_, _, rfl, fun H2 s2 => ?_⟩
          have w2 : refW B' (2 + B' % 8) = "blocks" := by unfold refW; rw [if_neg (by omega)]
          (try simp only [Own.e_seq, Own.e_cxK, Own.e_wishK, Own.e_noxK, Own.e_asg, Own.e_gName, Own.e_var, Own.e_C, Own.e_op, Own.e_un, Own.e_rI, Own.e_rI0, Own.e_rU, Own.e_CMul, Own.e_CDiv, Own.e_CPow, Own.e_rEq, Own.e_rNe, Own.e_scal_int, Own.e_scal_str, Own.e_scal_bl, Own.e_ifS, Own.e_test, Own.e_tB, Own.e_ret, Own.e_retN, Own.e_next, Own.e_brk, Own.e_cnt, Own.e_cons, Own.e_nil, Own.e_lst, Own.e_tup, Own.e_drop, Own.e_and, Own.e_or, Own.e_not, Own.e_andV, Own.e_orV, Own.e_notV, Own.e_if, Own.e_chain, Own.e_CB, Own.e_call, Own.e_rIxL, Own.e_rIxT, Own.e_rIxK, Own.e_rIxKT, Own.e_rSlK, Own.e_rLenK, Own.e_rListK, Own.e_rTupleK, Own.e_rSumK, Own.e_rDivK, Own.e_rNeK, Own.e_rEqK, Own.e_rNeKT, Own.e_rEqKT, Own.e_rIsiK, Own.e_rSlS, Own.e_rIxS, Own.tyK_int, Own.tyK_bl, Own.tyK_str, Own.tyK_non, Own.tyK_ref, Own.tyO_lst, Own.tyO_tup, Own.kit1, Own.kit2, Own.kit3, Own.kit4, Own.kit5, Own.kit6, Own.kit7, Own.kit8, Own.kit9, Own.hlst_inj, Own.htup_inj, Own.vty_inj, Own.ivs_inj, Own.bz_inj, Own.ivs_len, Own.bz_len, Own.ivs_app, Own.ivs_set, Own.ivs_bset, Own.bz_app, Own.ivs_snoc, Own.bz_snoc, Own.atI_ints, Own.atI_bz, Own.isLst_some, Own.ty_lst, L2.upd_same, L2.upd_upd, Own.b2_xor, Own.b2_mod2, Own.b2_mod3, Own.b2_mod4, Own.b2_flip, Option.map_some, Option.isSome_some, ne_eq, eq_self, not_false_eq_true, not_true_eq_false, String.reduceEq, Own.e_BM, Own.e_BM0, Own.e_rAppend, Own.e_rCat, Own.e_rRep, Own.e_sl, Own.e_noPart, Own.e_part, Own.e_rSlL, Own.e_gSub, Own.e_rSetL, Own.e_bits, Own.e_yes, Own.e_gTup, Own.e_gNil, Own.e_gCons, Own.e_aug, Own.e_ipI, Own.e_for, Own.e_lc, Own.e_iList, Own.e_iTup, Own.e_iRng1, Own.e_iRng2, Own.e_iEnum, Own.e_iZip, L2.start, L2.wipe, List.map_cons, List.map_nil, List.replicate_succ, List.replicate_zero, List.length_cons, List.length_nil, Nat.reduceAdd, Nat.reduceSub, Nat.zero_add, List.getElem?_cons_zero, List.getElem?_cons_succ, List.set_cons_zero, List.set_cons_succ, Option.some.injEq, L2.V.int.injEq, L2.V.bl.injEq, L2.V.str.injEq, L2.V.ref.injEq, List.cons.injEq, List.cons_append, List.nil_append, List.append_nil, exists_eq_left', exists_eq_left, exists_and_left, exists_and_right, exists_eq, and_true, true_and, reduceCtorEq, false_and, and_false, exists_false, or_false, false_or, true_or, or_true, decide_eq_true_eq, Bool.not_true, Bool.not_false, Bool.not_eq_true', Bool.not_eq_false', decide_eq_false_iff_not, ite_not, if_true, if_false, ite_true, ite_false, Bool.false_eq_true, if_pos trivial, decide_true, decide_false, PySem.sizeLine_eq, eq_self, Int.reduceNeg, Int.reducePow, Int.reduceLT, Int.reduceLE, Int.reduceToNat, Nat.reduceLeDiff, Int.reduceSub, Int.reduceAdd, Int.reduceMul, Int.reduceDiv, Int.reduceMod, Int.reduceEq, Nat.reduceMul, Nat.reduceEqDiff, Own.e_raiseO, Own.e_callS, Own.e_what, Own.hxd_inj, w2])
          exact at_is ⟨_, _, _, _, _, _, _, _, _, _, _, rfl, (t0.trans s1).trans s2⟩
        · refine call_to ⟨_, _, rfl, fun H2 s2 => ?_⟩
          have w2 : refW B' (2 + B' % 8) = "blocks" := by unfold refW; rw [if_neg (by omega)]
          (try simp only [Own.e_seq, Own.e_cxK, Own.e_wishK, Own.e_noxK, Own.e_asg, Own.e_gName, Own.e_var, Own.e_C, Own.e_op, Own.e_un, Own.e_rI, Own.e_rI0, Own.e_rU, Own.e_CMul, Own.e_CDiv, Own.e_CPow, Own.e_rEq, Own.e_rNe, Own.e_scal_int, Own.e_scal_str, Own.e_scal_bl, Own.e_ifS, Own.e_test, Own.e_tB, Own.e_ret, Own.e_retN, Own.e_next, Own.e_brk, Own.e_cnt, Own.e_cons, Own.e_nil, Own.e_lst, Own.e_tup, Own.e_drop, Own.e_and, Own.e_or, Own.e_not, Own.e_andV, Own.e_orV, Own.e_notV, Own.e_if, Own.e_chain, Own.e_CB, Own.e_call, Own.e_rIxL, Own.e_rIxT, Own.e_rIxK, Own.e_rIxKT, Own.e_rSlK, Own.e_rLenK, Own.e_rListK, Own.e_rTupleK, Own.e_rSumK, Own.e_rDivK, Own.e_rNeK, Own.e_rEqK, Own.e_rNeKT, Own.e_rEqKT, Own.e_rIsiK, Own.e_rSlS, Own.e_rIxS, Own.tyK_int, Own.tyK_bl, Own.tyK_str, Own.tyK_non, Own.tyK_ref, Own.tyO_lst, Own.tyO_tup, Own.kit1, Own.kit2, Own.kit3, Own.kit4, Own.kit5, Own.kit6, Own.kit7, Own.kit8, Own.kit9, Own.hlst_inj, Own.htup_inj, Own.vty_inj, Own.ivs_inj, Own.bz_inj, Own.ivs_len, Own.bz_len, Own.ivs_app, Own.ivs_set, Own.ivs_bset, Own.bz_app, Own.ivs_snoc, Own.bz_snoc, Own.atI_ints, Own.atI_bz, Own.isLst_some, Own.ty_lst, L2.upd_same, L2.upd_upd, Own.b2_xor, Own.b2_mod2, Own.b2_mod3, Own.b2_mod4, Own.b2_flip, Option.map_some, Option.isSome_some, ne_eq, eq_self, not_false_eq_true, not_true_eq_false, String.reduceEq, Own.e_BM, Own.e_BM0, Own.e_rAppend, Own.e_rCat, Own.e_rRep, Own.e_sl, Own.e_noPart, Own.e_part, Own.e_rSlL, Own.e_gSub, Own.e_rSetL, Own.e_bits, Own.e_yes, Own.e_gTup, Own.e_gNil, Own.e_gCons, Own.e_aug, Own.e_ipI, Own.e_for, Own.e_lc, Own.e_iList, Own.e_iTup, Own.e_iRng1, Own.e_iRng2, Own.e_iEnum, Own.e_iZip, L2.start, L2.wipe, List.map_cons, List.map_nil, List.replicate_succ, List.replicate_zero, List.length_cons, List.length_nil, Nat.reduceAdd, Nat.reduceSub, Nat.zero_add, List.getElem?_cons_zero, List.getElem?_cons_succ, List.set_cons_zero, List.set_cons_succ, Option.some.injEq, L2.V.int.injEq, L2.V.bl.injEq, L2.V.str.injEq, L2.V.ref.injEq, List.cons.injEq, List.cons_append, List.nil_append, List.append_nil, exists_eq_left', exists_eq_left, exists_and_left, exists_and_right, exists_eq, and_true, true_and, reduceCtorEq, false_and, and_false, exists_false, or_false, false_or, true_or, or_true, decide_eq_true_eq, Bool.not_true, Bool.not_false, Bool.not_eq_true', Bool.not_eq_false', decide_eq_false_iff_not, ite_not, if_true, if_false, ite_true, ite_false, Bool.false_eq_true, if_pos trivial, decide_true, decide_false, PySem.sizeLine_eq, eq_self, Int.reduceNeg, Int.reducePow, Int.reduceLT, Int.reduceLE, Int.reduceToNat, Nat.reduceLeDiff, Int.reduceSub, Int.reduceAdd, Int.reduceMul, Int.reduceDiv, Int.reduceMod, Int.reduceEq, Nat.reduceMul, Nat.reduceEqDiff, Own.e_raiseO, Own.e_callS, Own.e_what, Own.hxd_inj, w2])
          exact at_is ⟨_, _, _, _, _, _, _, _, _, _, _, rfl, (t0.trans s1).trans s2⟩
        · refine call_to ⟨_, _, rfl, fun H2 s2 => ?_⟩
          have w2 : refW B' (2 + B' % 8) = "" := by unfold refW; rw [if_pos (by omega), if_pos (by omega)]
          (try simp only [Own.e_seq, Own.e_cxK, Own.e_wishK, Own.e_noxK, Own.e_asg, Own.e_gName, Own.e_var, Own.e_C, Own.e_op, Own.e_un, Own.e_rI, Own.e_rI0, Own.e_rU, Own.e_CMul, Own.e_CDiv, Own.e_CPow, Own.e_rEq, Own.e_rNe, Own.e_scal_int, Own.e_scal_str, Own.e_scal_bl, Own.e_ifS, Own.e_test, Own.e_tB, Own.e_ret, Own.e_retN, Own.e_next, Own.e_brk, Own.e_cnt, Own.e_cons, Own.e_nil, Own.e_lst, Own.e_tup, Own.e_drop, Own.e_and, Own.e_or, Own.e_not, Own.e_andV, Own.e_orV, Own.e_notV, Own.e_if, Own.e_chain, Own.e_CB, Own.e_call, Own.e_rIxL, Own.e_rIxT, Own.e_rIxK, Own.e_rIxKT, Own.e_rSlK, Own.e_rLenK, Own.e_rListK, Own.e_rTupleK, Own.e_rSumK, Own.e_rDivK, Own.e_rNeK, Own.e_rEqK, Own.e_rNeKT, Own.e_rEqKT, Own.e_rIsiK, Own.e_rSlS, Own.e_rIxS, Own.tyK_int, Own.tyK_bl, Own.tyK_str, Own.tyK_non, Own.tyK_ref, Own.tyO_lst, Own.tyO_tup, Own.kit1, Own.kit2, Own.kit3, Own.kit4, Own.kit5, Own.kit6, Own.kit7, Own.kit8, Own.kit9, Own.hlst_inj, Own.htup_inj, Own.vty_inj, Own.ivs_inj, Own.bz_inj, Own.ivs_len, Own.bz_len, Own.ivs_app, Own.ivs_set, Own.ivs_bset, Own.bz_app, Own.ivs_snoc, Own.bz_snoc, Own.atI_ints, Own.atI_bz, Own.isLst_some, Own.ty_lst, L2.upd_same, L2.upd_upd, Own.b2_xor, Own.b2_mod2, Own.b2_mod3, Own.b2_mod4, Own.b2_flip, Option.map_some, Option.isSome_some, ne_eq, eq_self, not_false_eq_true, not_true_eq_false, String.reduceEq, Own.e_BM, Own.e_BM0, Own.e_rAppend, Own.e_rCat, Own.e_rRep, Own.e_sl, Own.e_noPart, Own.e_part, Own.e_rSlL, Own.e_gSub, Own.e_rSetL, Own.e_bits, Own.e_yes, Own.e_gTup, Own.e_gNil, Own.e_gCons, Own.e_aug, Own.e_ipI, Own.e_for, Own.e_lc, Own.e_iList, Own.e_iTup, Own.e_iRng1, Own.e_iRng2, Own.e_iEnum, Own.e_iZip, L2.start, L2.wipe, List.map_cons, List.map_nil, List.replicate_succ, List.replicate_zero, List.length_cons, List.length_nil, Nat.reduceAdd, Nat.reduceSub, Nat.zero_add, List.getElem?_cons_zero, List.getElem?_cons_succ, List.set_cons_zero, List.set_cons_succ, Option.some.injEq, L2.V.int.injEq, L2.V.bl.injEq, L2.V.str.injEq, L2.V.ref.injEq, List.cons.injEq, List.cons_append, List.nil_append, List.append_nil, exists_eq_left', exists_eq_left, exists_and_left, exists_and_right, exists_eq, and_true, true_and, reduceCtorEq, false_and, and_false, exists_false, or_false, false_or, true_or, or_true, decide_eq_true_eq, Bool.not_true, Bool.not_false, Bool.not_eq_true', Bool.not_eq_false', decide_eq_false_iff_not, ite_not, if_true, if_false, ite_true, ite_false, Bool.false_eq_true, if_pos trivial, decide_true, decide_false, PySem.sizeLine_eq, eq_self, Int.reduceNeg, Int.reducePow, Int.reduceLT, Int.reduceLE, Int.reduceToNat, Nat.reduceLeDiff, Int.reduceSub, Int.reduceAdd, Int.reduceMul, Int.reduceDiv, Int.reduceMod, Int.reduceEq, Nat.reduceMul, Nat.reduceEqDiff, Own.e_raiseO, Own.e_callS, Own.e_what, Own.hxd_inj, w2])
          exact at_is ⟨_, _, _, _, _, _, _, _, _, _, _, rfl, (t0.trans s1).trans s2⟩
      · refine call_to ⟨_, _, rfl, fun H1 s1 => ?_⟩
        have w1 : refW (9 - B' % 9) B' = "turns" := by unfold refW; rw [if_pos (by omega), if_neg (by omega)]
        (try simp only [Own.e_seq, Own.e_cxK, Own.e_wishK, Own.e_noxK, Own.e_asg, Own.e_gName, Own.e_var, Own.e_C, Own.e_op, Own.e_un, Own.e_rI, Own.e_rI0, Own.e_rU, Own.e_CMul, Own.e_CDiv, Own.e_CPow, Own.e_rEq, Own.e_rNe, Own.e_scal_int, Own.e_scal_str, Own.e_scal_bl, Own.e_ifS, Own.e_test, Own.e_tB, Own.e_ret, Own.e_retN, Own.e_next, Own.e_brk, Own.e_cnt, Own.e_cons, Own.e_nil, Own.e_lst, Own.e_tup, Own.e_drop, Own.e_and, Own.e_or, Own.e_not, Own.e_andV, Own.e_orV, Own.e_notV, Own.e_if, Own.e_chain, Own.e_CB, Own.e_call, Own.e_rIxL, Own.e_rIxT, Own.e_rIxK, Own.e_rIxKT, Own.e_rSlK, Own.e_rLenK, Own.e_rListK, Own.e_rTupleK, Own.e_rSumK, Own.e_rDivK, Own.e_rNeK, Own.e_rEqK, Own.e_rNeKT, Own.e_rEqKT, Own.e_rIsiK, Own.e_rSlS, Own.e_rIxS, Own.tyK_int, Own.tyK_bl, Own.tyK_str, Own.tyK_non, Own.tyK_ref, Own.tyO_lst, Own.tyO_tup, Own.kit1, Own.kit2, Own.kit3, Own.kit4, Own.kit5, Own.kit6, Own.kit7, Own.kit8, Own.kit9, Own.hlst_inj, Own.htup_inj, Own.vty_inj, Own.ivs_inj, Own.bz_inj, Own.ivs_len, Own.bz_len, Own.ivs_app, Own.ivs_set, Own.ivs_bset, Own.bz_app, Own.ivs_snoc, Own.bz_snoc, Own.atI_ints, Own.atI_bz, Own.isLst_some, Own.ty_lst, L2.upd_same, L2.upd_upd, Own.b2_xor, Own.b2_mod2, Own.b2_mod3, Own.b2_mod4, Own.b2_flip, Option.map_some, Option.isSome_some, ne_eq, eq_self, not_false_eq_true, not_true_eq_false, String.reduceEq, Own.e_BM, Own.e_BM0, Own.e_rAppend, Own.e_rCat, Own.e_rRep, Own.e_sl, Own.e_noPart, Own.e_part, Own.e_rSlL, Own.e_gSub, Own.e_rSetL, Own.e_bits, Own.e_yes, Own.e_gTup, Own.e_gNil, Own.e_gCons, Own.e_aug, Own.e_ipI, Own.e_for, Own.e_lc, Own.e_iList, Own.e_iTup, Own.e_iRng1, Own.e_iRng2, Own.e_iEnum, Own.e_iZip, L2.start, L2.wipe, List.map_cons, List.map_nil, List.replicate_succ, List.replicate_zero, List.length_cons, List.length_nil, Nat.reduceAdd, Nat.reduceSub, Nat.zero_add, List.getElem?_cons_zero, List.getElem?_cons_succ, List.set_cons_zero, List.set_cons_succ, Option.some.injEq, L2.V.int.injEq, L2.V.bl.injEq, L2.V.str.injEq, L2.V.ref.injEq, List.cons.injEq, List.cons_append, List.nil_append, List.append_nil, exists_eq_left', exists_eq_left, exists_and_left, exists_and_right, exists_eq, and_true, true_and, reduceCtorEq, false_and, and_false, exists_false, or_false, false_or, true_or, or_true, decide_eq_true_eq, Bool.not_true, Bool.not_false, Bool.not_eq_true', Bool.not_eq_false', decide_eq_false_iff_not, ite_not, if_true, if_false, ite_true, ite_false, Bool.false_eq_true, if_pos trivial, decide_true, decide_false, PySem.sizeLine_eq, eq_self, Int.reduceNeg, Int.reducePow, Int.reduceLT, Int.reduceLE, Int.reduceToNat, Nat.reduceLeDiff, Int.reduceSub, Int.reduceAdd, Int.reduceMul, Int.reduceDiv, Int.reduceMod, Int.reduceEq, Nat.reduceMul, Nat.reduceEqDiff, Own.e_raiseO, Own.e_callS, Own.e_what, Own.hxd_inj, w1])
        refine ite2 (fun h3 => ?_) (fun h3 => ite2 (fun h4 => ?_) (fun h4 => ?_))
        · refine call_to ⟨_, _, rfl, fun H2 s2 => ?_⟩
          have w2 : refW B' (2 + B' % 8) = "blocks" := by unfold refW; rw [if_neg (by omega)]
          (try simp only [Own.e_seq, Own.e_cxK, Own.e_wishK, Own.e_noxK, Own.e_asg, Own.e_gName, Own.e_var, Own.e_C, Own.e_op, Own.e_un, Own.e_rI, Own.e_rI0, Own.e_rU, Own.e_CMul, Own.e_CDiv, Own.e_CPow, Own.e_rEq, Own.e_rNe, Own.e_scal_int, Own.e_scal_str, Own.e_scal_bl, Own.e_ifS, Own.e_test, Own.e_tB, Own.e_ret, Own.e_retN, Own.e_next, Own.e_brk, Own.e_cnt, Own.e_cons, Own.e_nil, Own.e_lst, Own.e_tup, Own.e_drop, Own.e_and, Own.e_or, Own.e_not, Own.e_andV, Own.e_orV, Own.e_notV, Own.e_if, Own.e_chain, Own.e_CB, Own.e_call, Own.e_rIxL, Own.e_rIxT, Own.e_rIxK, Own.e_rIxKT, Own.e_rSlK, Own.e_rLenK, Own.e_rListK, Own.e_rTupleK, Own.e_rSumK, Own.e_rDivK, Own.e_rNeK, Own.e_rEqK, Own.e_rNeKT, Own.e_rEqKT, Own.e_rIsiK, Own.e_rSlS, Own.e_rIxS, Own.tyK_int, Own.tyK_bl, Own.tyK_str, Own.tyK_non, Own.tyK_ref, Own.tyO_lst, Own.tyO_tup, Own.kit1, Own.kit2, Own.kit3, Own.kit4, Own.kit5, Own.kit6, Own.kit7, Own.kit8, Own.kit9, Own.hlst_inj, Own.htup_inj, Own.vty_inj, Own.ivs_inj, Own.bz_inj, Own.ivs_len, Own.bz_len, Own.ivs_app, Own.ivs_set, Own.ivs_bset, Own.bz_app, Own.ivs_snoc, Own.bz_snoc, Own.atI_ints, Own.atI_bz, Own.isLst_some, Own.ty_lst, L2.upd_same, L2.upd_upd, Own.b2_xor, Own.b2_mod2, Own.b2_mod3, Own.b2_mod4, Own.b2_flip, Option.map_some, Option.isSome_some, ne_eq, eq_self, not_false_eq_true, not_true_eq_false, String.reduceEq, Own.e_BM, Own.e_BM0, Own.e_rAppend, Own.e_rCat, Own.e_rRep, Own.e_sl, Own.e_noPart, Own.e_part, Own.e_rSlL, Own.e_gSub, Own.e_rSetL, Own.e_bits, Own.e_yes, Own.e_gTup, Own.e_gNil, Own.e_gCons, Own.e_aug, Own.e_ipI, Own.e_for, Own.e_lc, Own.e_iList, Own.e_iTup, Own.e_iRng1, Own.e_iRng2, Own.e_iEnum, Own.e_iZip, L2.start, L2.wipe, List.map_cons, List.map_nil, List.replicate_succ, List.replicate_zero, List.length_cons, List.length_nil, Nat.reduceAdd, Nat.reduceSub, Nat.zero_add, List.getElem?_cons_zero, List.getElem?_cons_succ, List.set_cons_zero, List.set_cons_succ, Option.some.injEq, L2.V.int.injEq, L2.V.bl.injEq, L2.V.str.injEq, L2.V.ref.injEq, List.cons.injEq, List.cons_append, List.nil_append, List.append_nil, exists_eq_left', exists_eq_left, exists_and_left, exists_and_right, exists_eq, and_true, true_and, reduceCtorEq, false_and, and_false, exists_false, or_false, false_or, true_or, or_true, decide_eq_true_eq, Bool.not_true, Bool.not_false, Bool.not_eq_true', Bool.not_eq_false', decide_eq_false_iff_not, ite_not, if_true, if_false, ite_true, ite_false, Bool.false_eq_true, if_pos trivial, decide_true, decide_false, PySem.sizeLine_eq, eq_self, Int.reduceNeg, Int.reducePow, Int.reduceLT, Int.reduceLE, Int.reduceToNat, Nat.reduceLeDiff, Int.reduceSub, Int.reduceAdd, Int.reduceMul, Int.reduceDiv, Int.reduceMod, Int.reduceEq, Nat.reduceMul, Nat.reduceEqDiff, Own.e_raiseO, Own.e_callS, Own.e_what, Own.hxd_inj, w2])
          exact at_is ⟨_, _, _, _, _, _, _, _, _, _, _, rfl, (t0.trans s1).trans s2⟩
        · refine call_to ⟨_, _, rfl, fun H2 s2 => ?_⟩
          have w2 : refW B' (2 + B' % 8) = "blocks" := by unfold refW; rw [if_neg (by omega)]
          (try simp only [Own.e_seq, Own.e_cxK, Own.e_wishK, Own.e_noxK, Own.e_asg, Own.e_gName, Own.e_var, Own.e_C, Own.e_op, Own.e_un, Own.e_rI, Own.e_rI0, Own.e_rU, Own.e_CMul, Own.e_CDiv, Own.e_CPow, Own.e_rEq, Own.e_rNe, Own.e_scal_int, Own.e_scal_str, Own.e_scal_bl, Own.e_ifS, Own.e_test, Own.e_tB, Own.e_ret, Own.e_retN, Own.e_next, Own.e_brk, Own.e_cnt, Own.e_cons, Own.e_nil, Own.e_lst, Own.e_tup, Own.e_drop, Own.e_and, Own.e_or, Own.e_not, Own.e_andV, Own.e_orV, Own.e_notV, Own.e_if, Own.e_chain, Own.e_CB, Own.e_call, Own.e_rIxL, Own.e_rIxT, Own.e_rIxK, Own.e_rIxKT, Own.e_rSlK, Own.e_rLenK, Own.e_rListK, Own.e_rTupleK, Own.e_rSumK, Own.e_rDivK, Own.e_rNeK, Own.e_rEqK, Own.e_rNeKT, Own.e_rEqKT, Own.e_rIsiK, Own.e_rSlS, Own.e_rIxS, Own.tyK_int, Own.tyK_bl, Own.tyK_str, Own.tyK_non, Own.tyK_ref, Own.tyO_lst, Own.tyO_tup, Own.kit1, Own.kit2, Own.kit3, Own.kit4, Own.kit5, Own.kit6, Own.kit7, Own.kit8, Own.kit9, Own.hlst_inj, Own.htup_inj, Own.vty_inj, Own.ivs_inj, Own.bz_inj, Own.ivs_len, Own.bz_len, Own.ivs_app, Own.ivs_set, Own.ivs_bset, Own.bz_app, Own.ivs_snoc, Own.bz_snoc, Own.atI_ints, Own.atI_bz, Own.isLst_some, Own.ty_lst, L2.upd_same, L2.upd_upd, Own.b2_xor, Own.b2_mod2, Own.b2_mod3, Own.b2_mod4, Own.b2_flip, Option.map_some, Option.isSome_some, ne_eq, eq_self, not_false_eq_true, not_true_eq_false, String.reduceEq, Own.e_BM, Own.e_BM0, Own.e_rAppend, Own.e_rCat, Own.e_rRep, Own.e_sl, Own.e_noPart, Own.e_part, Own.e_rSlL, Own.e_gSub, Own.e_rSetL, Own.e_bits, Own.e_yes, Own.e_gTup, Own.e_gNil, Own.e_gCons, Own.e_aug, Own.e_ipI, Own.e_for, Own.e_lc, Own.e_iList, Own.e_iTup, Own.e_iRng1, Own.e_iRng2, Own.e_iEnum, Own.e_iZip, L2.start, L2.wipe, List.map_cons, List.map_nil, List.replicate_succ, List.replicate_zero, List.length_cons, List.length_nil, Nat.reduceAdd, Nat.reduceSub, Nat.zero_add, List.getElem?_cons_zero, List.getElem?_cons_succ, List.set_cons_zero, List.set_cons_succ, Option.some.injEq, L2.V.int.injEq, L2.V.bl.injEq, L2.V.str.injEq, L2.V.ref.injEq, List.cons.injEq, List.cons_append, List.nil_append, List.append_nil, exists_eq_left', exists_eq_left, exists_and_left, exists_and_right, exists_eq, and_true, true_and, reduceCtorEq, false_and, and_false, exists_false, or_false, false_or, true_or, or_true, decide_eq_true_eq, Bool.not_true, Bool.not_false, Bool.not_eq_true', Bool.not_eq_false', decide_eq_false_iff_not, ite_not, if_true, if_false, ite_true, ite_false, Bool.false_eq_true, if_pos trivial, decide_true, decide_false, PySem.sizeLine_eq, eq_self, Int.reduceNeg, Int.reducePow, Int.reduceLT, Int.reduceLE, Int.reduceToNat, Nat.reduceLeDiff, Int.reduceSub, Int.reduceAdd, Int.reduceMul, Int.reduceDiv, Int.reduceMod, Int.reduceEq, Nat.reduceMul, Nat.reduceEqDiff, Own.e_raiseO, Own.e_callS, Own.e_what, Own.hxd_inj, w2])
          exact at_is ⟨_, _, _, _, _, _, _, _, _, _, _, rfl, (t0.trans s1).trans s2⟩
        · refine call_to ⟨_, _, rfl, fun H2 s2 => ?_⟩
          have w2 : refW B' (2 + B' % 8) = "" := by unfold refW; rw [if_pos (by omega), if_pos (by omega)]
          (try simp only [Own.e_seq, Own.e_cxK, Own.e_wishK, Own.e_noxK, Own.e_asg, Own.e_gName, Own.e_var, Own.e_C, Own.e_op, Own.e_un, Own.e_rI, Own.e_rI0, Own.e_rU, Own.e_CMul, Own.e_CDiv, Own.e_CPow, Own.e_rEq, Own.e_rNe, Own.e_scal_int, Own.e_scal_str, Own.e_scal_bl, Own.e_ifS, Own.e_test, Own.e_tB, Own.e_ret, Own.e_retN, Own.e_next, Own.e_brk, Own.e_cnt, Own.e_cons, Own.e_nil, Own.e_lst, Own.e_tup, Own.e_drop, Own.e_and, Own.e_or, Own.e_not, Own.e_andV, Own.e_orV, Own.e_notV, Own.e_if, Own.e_chain, Own.e_CB, Own.e_call, Own.e_rIxL, Own.e_rIxT, Own.e_rIxK, Own.e_rIxKT, Own.e_rSlK, Own.e_rLenK, Own.e_rListK, Own.e_rTupleK, Own.e_rSumK, Own.e_rDivK, Own.e_rNeK, Own.e_rEqK, Own.e_rNeKT, Own.e_rEqKT, Own.e_rIsiK, Own.e_rSlS, Own.e_rIxS, Own.tyK_int, Own.tyK_bl, Own.tyK_str, Own.tyK_non, Own.tyK_ref, Own.tyO_lst, Own.tyO_tup, Own.kit1, Own.kit2, Own.kit3, Own.kit4, Own.kit5, Own.kit6, Own.kit7, Own.kit8, Own.kit9, Own.hlst_inj, Own.htup_inj, Own.vty_inj, Own.ivs_inj, Own.bz_inj, Own.ivs_len, Own.bz_len, Own.ivs_app, Own.ivs_set, Own.ivs_bset, Own.bz_app, Own.ivs_snoc, Own.bz_snoc, Own.atI_ints, Own.atI_bz, Own.isLst_some, Own.ty_lst, L2.upd_same, L2.upd_upd, Own.b2_xor, Own.b2_mod2, Own.b2_mod3, Own.b2_mod4, Own.b2_flip, Option.map_some, Option.isSome_some, ne_eq, eq_self, not_false_eq_true, not_true_eq_false, String.reduceEq, Own.e_BM, Own.e_BM0, Own.e_rAppend, Own.e_rCat, Own.e_rRep, Own.e_sl, Own.e_noPart, Own.e_part, Own.e_rSlL, Own.e_gSub, Own.e_rSetL, Own.e_bits, Own.e_yes, Own.e_gTup, Own.e_gNil, Own.e_gCons, Own.e_aug, Own.e_ipI, Own.e_for, Own.e_lc, Own.e_iList, Own.e_iTup, Own.e_iRng1, Own.e_iRng2, Own.e_iEnum, Own.e_iZip, L2.start, L2.wipe, List.map_cons, List.map_nil, List.replicate_succ, List.replicate_zero, List.length_cons, List.length_nil, Nat.reduceAdd, Nat.reduceSub, Nat.zero_add, List.getElem?_cons_zero, List.getElem?_cons_succ, List.set_cons_zero, List.set_cons_succ, Option.some.injEq, L2.V.int.injEq, L2.V.bl.injEq, L2.V.str.injEq, L2.V.ref.injEq, List.cons.injEq, List.cons_append, List.nil_append, List.append_nil, exists_eq_left', exists_eq_left, exists_and_left, exists_and_right, exists_eq, and_true, true_and, reduceCtorEq, false_and, and_false, exists_false, or_false, false_or, true_or, or_true, decide_eq_true_eq, Bool.not_true, Bool.not_false, Bool.not_eq_true', Bool.not_eq_false', decide_eq_false_iff_not, ite_not, if_true, if_false, ite_true, ite_false, Bool.false_eq_true, if_pos trivial, decide_true, decide_false, PySem.sizeLine_eq, eq_self, Int.reduceNeg, Int.reducePow, Int.reduceLT, Int.reduceLE, Int.reduceToNat, Nat.reduceLeDiff, Int.reduceSub, Int.reduceAdd, Int.reduceMul, Int.reduceDiv, Int.reduceMod, Int.reduceEq, Nat.reduceMul, Nat.reduceEqDiff, Own.e_raiseO, Own.e_callS, Own.e_what, Own.hxd_inj, w2])
          exact at_is ⟨_, _, _, _, _, _, _, _, _, _, _, rfl, (t0.trans s1).trans s2⟩
      · refine call_to ⟨_, _, rfl, fun H1 s1 => ?_⟩
        have w1 : refW (9 - B' % 9) B' = "" := by unfold refW; rw [if_pos (by omega), if_pos (by omega)]
        (try simp only [Own.e_seq, Own.e_cxK, Own.e_wishK, Own.e_noxK, Own.e_asg, Own.e_gName, Own.e_var, Own.e_C, Own.e_op, Own.e_un, Own.e_rI, Own.e_rI0, Own.e_rU, Own.e_CMul, Own.e_CDiv, Own.e_CPow, Own.e_rEq, Own.e_rNe, Own.e_scal_int, Own.e_scal_str, Own.e_scal_bl, Own.e_ifS, Own.e_test, Own.e_tB, Own.e_ret, Own.e_retN, Own.e_next, Own.e_brk, Own.e_cnt, Own.e_cons, Own.e_nil, Own.e_lst, Own.e_tup, Own.e_drop, Own.e_and, Own.e_or, Own.e_not, Own.e_andV, Own.e_orV, Own.e_notV, Own.e_if, Own.e_chain, Own.e_CB, Own.e_call, Own.e_rIxL, Own.e_rIxT, Own.e_rIxK, Own.e_rIxKT, Own.e_rSlK, Own.e_rLenK, Own.e_rListK, Own.e_rTupleK, Own.e_rSumK, Own.e_rDivK, Own.e_rNeK, Own.e_rEqK, Own.e_rNeKT, Own.e_rEqKT, Own.e_rIsiK, Own.e_rSlS, Own.e_rIxS, Own.tyK_int, Own.tyK_bl, Own.tyK_str, Own.tyK_non, Own.tyK_ref, Own.tyO_lst, Own.tyO_tup, Own.kit1, Own.kit2, Own.kit3, Own.kit4, Own.kit5, Own.kit6, Own.kit7, Own.kit8, Own.kit9, Own.hlst_inj, Own.htup_inj, Own.vty_inj, Own.ivs_inj, Own.bz_inj, Own.ivs_len, Own.bz_len, Own.ivs_app, Own.ivs_set, Own.ivs_bset, Own.bz_app, Own.ivs_snoc, Own.bz_snoc, Own.atI_ints, Own.atI_bz, Own.isLst_some, Own.ty_lst, L2.upd_same, L2.upd_upd, Own.b2_xor, Own.b2_mod2, Own.b2_mod3, Own.b2_mod4, Own.b2_flip, Option.map_some, Option.isSome_some, ne_eq, eq_self, not_false_eq_true, not_true_eq_false, String.reduceEq, Own.e_BM, Own.e_BM0, Own.e_rAppend, Own.e_rCat, Own.e_rRep, Own.e_sl, Own.e_noPart, Own.e_part, Own.e_rSlL, Own.e_gSub, Own.e_rSetL, Own.e_bits, Own.e_yes, Own.e_gTup, Own.e_gNil, Own.e_gCons, Own.e_aug, Own.e_ipI, Own.e_for, Own.e_lc, Own.e_iList, Own.e_iTup, Own.e_iRng1, Own.e_iRng2, Own.e_iEnum, Own.e_iZip, L2.start, L2.wipe, List.map_cons, List.map_nil, List.replicate_succ, List.replicate_zero, List.length_cons, List.length_nil, Nat.reduceAdd, Nat.reduceSub, Nat.zero_add, List.getElem?_cons_zero, List.getElem?_cons_succ, List.set_cons_zero, List.set_cons_succ, Option.some.injEq, L2.V.int.injEq, L2.V.bl.injEq, L2.V.str.injEq, L2.V.ref.injEq, List.cons.injEq, List.cons_append, List.nil_append, List.append_nil, exists_eq_left', exists_eq_left, exists_and_left, exists_and_right, exists_eq, and_true, true_and, reduceCtorEq, false_and, and_false, exists_false, or_false, false_or, true_or, or_true, decide_eq_true_eq, Bool.not_true, Bool.not_false, Bool.not_eq_true', Bool.not_eq_false', decide_eq_false_iff_not, ite_not, if_true, if_false, ite_true, ite_false, Bool.false_eq_true, if_pos trivial, decide_true, decide_false, PySem.sizeLine_eq, eq_self, Int.reduceNeg, Int.reducePow, Int.reduceLT, Int.reduceLE, Int.reduceToNat, Nat.reduceLeDiff, Int.reduceSub, Int.reduceAdd, Int.reduceMul, Int.reduceDiv, Int.reduceMod, Int.reduceEq, Nat.reduceMul, Nat.reduceEqDiff, Own.e_raiseO, Own.e_callS, Own.e_what, Own.hxd_inj, w1])
        refine ite2 (fun h3 => ?_) (fun h3 => ite2 (fun h4 => ?_) (fun h4 => ?_))
        · refine call_to ⟨_, _, rfl, fun H2 s2 => ?_⟩
          have w2 : refW B' (2 + B' % 8) = "blocks" := by unfold refW; rw [if_neg (by omega)]
          (try simp only [Own.e_seq, Own.e_cxK, Own.e_wishK, Own.e_noxK, Own.e_asg, Own.e_gName, Own.e_var, Own.e_C, Own.e_op, Own.e_un, Own.e_rI, Own.e_rI0, Own.e_rU, Own.e_CMul, Own.e_CDiv, Own.e_CPow, Own.e_rEq, Own.e_rNe, Own.e_scal_int, Own.e_scal_str, Own.e_scal_bl, Own.e_ifS, Own.e_test, Own.e_tB, Own.e_ret, Own.e_retN, Own.e_next, Own.e_brk, Own.e_cnt, Own.e_cons, Own.e_nil, Own.e_lst, Own.e_tup, Own.e_drop, Own.e_and, Own.e_or, Own.e_not, Own.e_andV, Own.e_orV, Own.e_notV, Own.e_if, Own.e_chain, Own.e_CB, Own.e_call, Own.e_rIxL, Own.e_rIxT, Own.e_rIxK, Own.e_rIxKT, Own.e_rSlK, Own.e_rLenK, Own.e_rListK, Own.e_rTupleK, Own.e_rSumK, Own.e_rDivK, Own.e_rNeK, Own.e_rEqK, Own.e_rNeKT, Own.e_rEqKT, Own.e_rIsiK, Own.e_rSlS, Own.e_rIxS, Own.tyK_int, Own.tyK_bl, Own.tyK_str, Own.tyK_non, Own.tyK_ref, Own.tyO_lst, Own.tyO_tup, Own.kit1, Own.kit2, Own.kit3, Own.kit4, Own.kit5, Own.kit6, Own.kit7, Own.kit8, Own.kit9, Own.hlst_inj, Own.htup_inj, Own.vty_inj, Own.ivs_inj, Own.bz_inj, Own.ivs_len, Own.bz_len, Own.ivs_app, Own.ivs_set, Own.ivs_bset, Own.bz_app, Own.ivs_snoc, Own.bz_snoc, Own.atI_ints, Own.atI_bz, Own.isLst_some, Own.ty_lst, L2.upd_same, L2.upd_upd, Own.b2_xor, Own.b2_mod2, Own.b2_mod3, Own.b2_mod4, Own.b2_flip, Option.map_some, Option.isSome_some, ne_eq, eq_self, not_false_eq_true, not_true_eq_false, String.reduceEq, Own.e_BM, Own.e_BM0, Own.e_rAppend, Own.e_rCat, Own.e_rRep, Own.e_sl, Own.e_noPart, Own.e_part, Own.e_rSlL, Own.e_gSub, Own.e_rSetL, Own.e_bits, Own.e_yes, Own.e_gTup, Own.e_gNil, Own.e_gCons, Own.e_aug, Own.e_ipI, Own.e_for, Own.e_lc, Own.e_iList, Own.e_iTup, Own.e_iRng1, Own.e_iRng2, Own.e_iEnum, Own.e_iZip, L2.start, L2.wipe, List.map_cons, List.map_nil, List.replicate_succ, List.replicate_zero, List.length_cons, List.length_nil, Nat.reduceAdd, Nat.reduceSub, Nat.zero_add, List.getElem?_cons_zero, List.getElem?_cons_succ, List.set_cons_zero, List.set_cons_succ, Option.some.injEq, L2.V.int.injEq, L2.V.bl.injEq, L2.V.str.injEq, L2.V.ref.injEq, List.cons.injEq, List.cons_append, List.nil_append, List.append_nil, exists_eq_left', exists_eq_left, exists_and_left, exists_and_right, exists_eq, and_true, true_and, reduceCtorEq, false_and, and_false, exists_false, or_false, false_or, true_or, or_true, decide_eq_true_eq, Bool.not_true, Bool.not_false, Bool.not_eq_true', Bool.not_eq_false', decide_eq_false_iff_not, ite_not, if_true, if_false, ite_true, ite_false, Bool.false_eq_true, if_pos trivial, decide_true, decide_false, PySem.sizeLine_eq, eq_self, Int.reduceNeg, Int.reducePow, Int.reduceLT, Int.reduceLE, Int.reduceToNat, Nat.reduceLeDiff, Int.reduceSub, Int.reduceAdd, Int.reduceMul, Int.reduceDiv, Int.reduceMod, Int.reduceEq, Nat.reduceMul, Nat.reduceEqDiff, Own.e_raiseO, Own.e_callS, Own.e_what, Own.hxd_inj, w2])
          exact at_is ⟨_, _, _, _, _, _, _, _, _, _, _, rfl, (t0.trans s1).trans s2⟩
        · refine call_to ⟨_, _, rfl, fun H2 s2 => ?_⟩
          have w2 : refW B' (2 + B' % 8) = "blocks" := by unfold refW; rw [if_neg (by omega)]
          (try simp only [Own.e_seq, Own.e_cxK, Own.e_wishK, Own.e_noxK, Own.e_asg, Own.e_gName, Own.e_var, Own.e_C, Own.e_op, Own.e_un, Own.e_rI, Own.e_rI0, Own.e_rU, Own.e_CMul, Own.e_CDiv, Own.e_CPow, Own.e_rEq, Own.e_rNe, Own.e_scal_int, Own.e_scal_str, Own.e_scal_bl, Own.e_ifS, Own.e_test, Own.e_tB, Own.e_ret, Own.e_retN, Own.e_next, Own.e_brk, Own.e_cnt, Own.e_cons, Own.e_nil, Own.e_lst, Own.e_tup, Own.e_drop, Own.e_and, Own.e_or, Own.e_not, Own.e_andV, Own.e_orV, Own.e_notV, Own.e_if, Own.e_chain, Own.e_CB, Own.e_call, Own.e_rIxL, Own.e_rIxT, Own.e_rIxK, Own.e_rIxKT, Own.e_rSlK, Own.e_rLenK, Own.e_rListK, Own.e_rTupleK, Own.e_rSumK, Own.e_rDivK, Own.e_rNeK, Own.e_rEqK, Own.e_rNeKT, Own.e_rEqKT, Own.e_rIsiK, Own.e_rSlS, Own.e_rIxS, Own.tyK_int, Own.tyK_bl, Own.tyK_str, Own.tyK_non, Own.tyK_ref, Own.tyO_lst, Own.tyO_tup, Own.kit1, Own.kit2, Own.kit3, Own.kit4, Own.kit5, Own.kit6, Own.kit7, Own.kit8, Own.kit9, Own.hlst_inj, Own.htup_inj, Own.vty_inj, Own.ivs_inj, Own.bz_inj, Own.ivs_len, Own.bz_len, Own.ivs_app, Own.ivs_set, Own.ivs_bset, Own.bz_app, Own.ivs_snoc, Own.bz_snoc, Own.atI_ints, Own.atI_bz, Own.isLst_some, Own.ty_lst, L2.upd_same, L2.upd_upd, Own.b2_xor, Own.b2_mod2, Own.b2_mod3, Own.b2_mod4, Own.b2_flip, Option.map_some, Option.isSome_some, ne_eq, eq_self, not_false_eq_true, not_true_eq_false, String.reduceEq, Own.e_BM, Own.e_BM0, Own.e_rAppend, Own.e_rCat, Own.e_rRep, Own.e_sl, Own.e_noPart, Own.e_part, Own.e_rSlL, Own.e_gSub, Own.e_rSetL, Own.e_bits, Own.e_yes, Own.e_gTup, Own.e_gNil, Own.e_gCons, Own.e_aug, Own.e_ipI, Own.e_for, Own.e_lc, Own.e_iList, Own.e_iTup, Own.e_iRng1, Own.e_iRng2, Own.e_iEnum, Own.e_iZip, L2.start, L2.wipe, List.map_cons, List.map_nil, List.replicate_succ, List.replicate_zero, List.length_cons, List.length_nil, Nat.reduceAdd, Nat.reduceSub, Nat.zero_add, List.getElem?_cons_zero, List.getElem?_cons_succ, List.set_cons_zero, List.set_cons_succ, Option.some.injEq, L2.V.int.injEq, L2.V.bl.injEq, L2.V.str.injEq, L2.V.ref.injEq, List.cons.injEq, List.cons_append, List.nil_append, List.append_nil, exists_eq_left', exists_eq_left, exists_and_left, exists_and_right, exists_eq, and_true, true_and, reduceCtorEq, false_and, and_false, exists_false, or_false, false_or, true_or, or_true, decide_eq_true_eq, Bool.not_true, Bool.not_false, Bool.not_eq_true', Bool.not_eq_false', decide_eq_false_iff_not, ite_not, if_true, if_false, ite_true, ite_false, Bool.false_eq_true, if_pos trivial, decide_true, decide_false, PySem.sizeLine_eq, eq_self, Int.reduceNeg, Int.reducePow, Int.reduceLT, Int.reduceLE, Int.reduceToNat, Nat.reduceLeDiff, Int.reduceSub, Int.reduceAdd, Int.reduceMul, Int.reduceDiv, Int.reduceMod, Int.reduceEq, Nat.reduceMul, Nat.reduceEqDiff, Own.e_raiseO, Own.e_callS, Own.e_what, Own.hxd_inj, w2])
          exact at_is ⟨_, _, _, _, _, _, _, _, _, _, _, rfl, (t0.trans s1).trans s2⟩
        · refine call_to ⟨_, _, rfl, fun H2 s2 => ?_⟩
          have w2 : refW B' (2 + B' % 8) = "" := by unfold refW; rw [if_pos (by omega), if_pos (by omega)]
          (try simp only [Own.e_seq, Own.e_cxK, Own.e_wishK, Own.e_noxK, Own.e_asg, Own.e_gName, Own.e_var, Own.e_C, Own.e_op, Own.e_un, Own.e_rI, Own.e_rI0, Own.e_rU, Own.e_CMul, Own.e_CDiv, Own.e_CPow, Own.e_rEq, Own.e_rNe, Own.e_scal_int, Own.e_scal_str, Own.e_scal_bl, Own.e_ifS, Own.e_test, Own.e_tB, Own.e_ret, Own.e_retN, Own.e_next, Own.e_brk, Own.e_cnt, Own.e_cons, Own.e_nil, Own.e_lst, Own.e_tup, Own.e_drop, Own.e_and, Own.e_or, Own.e_not, Own.e_andV, Own.e_orV, Own.e_notV, Own.e_if, Own.e_chain, Own.e_CB, Own.e_call, Own.e_rIxL, Own.e_rIxT, Own.e_rIxK, Own.e_rIxKT, Own.e_rSlK, Own.e_rLenK, Own.e_rListK, Own.e_rTupleK, Own.e_rSumK, Own.e_rDivK, Own.e_rNeK, Own.e_rEqK, Own.e_rNeKT, Own.e_rEqKT, Own.e_rIsiK, Own.e_rSlS, Own.e_rIxS, Own.tyK_int, Own.tyK_bl, Own.tyK_str, Own.tyK_non, Own.tyK_ref, Own.tyO_lst, Own.tyO_tup, Own.kit1, Own.kit2, Own.kit3, Own.kit4, Own.kit5, Own.kit6, Own.kit7, Own.kit8, Own.kit9, Own.hlst_inj, Own.htup_inj, Own.vty_inj, Own.ivs_inj, Own.bz_inj, Own.ivs_len, Own.bz_len, Own.ivs_app, Own.ivs_set, Own.ivs_bset, Own.bz_app, Own.ivs_snoc, Own.bz_snoc, Own.atI_ints, Own.atI_bz, Own.isLst_some, Own.ty_lst, L2.upd_same, L2.upd_upd, Own.b2_xor, Own.b2_mod2, Own.b2_mod3, Own.b2_mod4, Own.b2_flip, Option.map_some, Option.isSome_some, ne_eq, eq_self, not_false_eq_true, not_true_eq_false, String.reduceEq, Own.e_BM, Own.e_BM0, Own.e_rAppend, Own.e_rCat, Own.e_rRep, Own.e_sl, Own.e_noPart, Own.e_part, Own.e_rSlL, Own.e_gSub, Own.e_rSetL, Own.e_bits, Own.e_yes, Own.e_gTup, Own.e_gNil, Own.e_gCons, Own.e_aug, Own.e_ipI, Own.e_for, Own.e_lc, Own.e_iList, Own.e_iTup, Own.e_iRng1, Own.e_iRng2, Own.e_iEnum, Own.e_iZip, L2.start, L2.wipe, List.map_cons, List.map_nil, List.replicate_succ, List.replicate_zero, List.length_cons, List.length_nil, Nat.reduceAdd, Nat.reduceSub, Nat.zero_add, List.getElem?_cons_zero, List.getElem?_cons_succ, List.set_cons_zero, List.set_cons_succ, Option.some.injEq, L2.V.int.injEq, L2.V.bl.injEq, L2.V.str.injEq, L2.V.ref.injEq, List.cons.injEq, List.cons_append, List.nil_append, List.append_nil, exists_eq_left', exists_eq_left, exists_and_left, exists_and_right, exists_eq, and_true, true_and, reduceCtorEq, false_and, and_false, exists_false, or_false, false_or, true_or, or_true, decide_eq_true_eq, Bool.not_true, Bool.not_false, Bool.not_eq_true', Bool.not_eq_false', decide_eq_false_iff_not, ite_not, if_true, if_false, ite_true, ite_false, Bool.false_eq_true, if_pos trivial, decide_true, decide_false, PySem.sizeLine_eq, eq_self, Int.reduceNeg, Int.reducePow, Int.reduceLT, Int.reduceLE, Int.reduceToNat, Nat.reduceLeDiff, Int.reduceSub, Int.reduceAdd, Int.reduceMul, Int.reduceDiv, Int.reduceMod, Int.reduceEq, Nat.reduceMul, Nat.reduceEqDiff, Own.e_raiseO, Own.e_callS, Own.e_what, Own.hxd_inj, w2])
          exact at_is ⟨_, _, _, _, _, _, _, _, _, _, _, rfl, (t0.trans s1).trans s2⟩
    rintro σ H0 ⟨y1, y2, y3, y4, y5, y6, y7, y8, y9, y10, y11, rfl, t0⟩
    (try simp only [Own.e_seq, Own.e_cxK, Own.e_wishK, Own.e_noxK, Own.e_asg, Own.e_gName, Own.e_var, Own.e_C, Own.e_op, Own.e_un, Own.e_rI, Own.e_rI0, Own.e_rU, Own.e_CMul, Own.e_CDiv, Own.e_CPow, Own.e_rEq, Own.e_rNe, Own.e_scal_int, Own.e_scal_str, Own.e_scal_bl, Own.e_ifS, Own.e_test, Own.e_tB, Own.e_ret, Own.e_retN, Own.e_next, Own.e_brk, Own.e_cnt, Own.e_cons, Own.e_nil, Own.e_lst, Own.e_tup, Own.e_drop, Own.e_and, Own.e_or, Own.e_not, Own.e_andV, Own.e_orV, Own.e_notV, Own.e_if, Own.e_chain, Own.e_CB, Own.e_call, Own.e_rIxL, Own.e_rIxT, Own.e_rIxK, Own.e_rIxKT, Own.e_rSlK, Own.e_rLenK, Own.e_rListK, Own.e_rTupleK, Own.e_rSumK, Own.e_rDivK, Own.e_rNeK, Own.e_rEqK, Own.e_rNeKT, Own.e_rEqKT, Own.e_rIsiK, Own.e_rSlS, Own.e_rIxS, Own.tyK_int, Own.tyK_bl, Own.tyK_str, Own.tyK_non, Own.tyK_ref, Own.tyO_lst, Own.tyO_tup, Own.kit1, Own.kit2, Own.kit3, Own.kit4, Own.kit5, Own.kit6, Own.kit7, Own.kit8, Own.kit9, Own.hlst_inj, Own.htup_inj, Own.vty_inj, Own.ivs_inj, Own.bz_inj, Own.ivs_len, Own.bz_len, Own.ivs_app, Own.ivs_set, Own.ivs_bset, Own.bz_app, Own.ivs_snoc, Own.bz_snoc, Own.atI_ints, Own.atI_bz, Own.isLst_some, Own.ty_lst, L2.upd_same, L2.upd_upd, Own.b2_xor, Own.b2_mod2, Own.b2_mod3, Own.b2_mod4, Own.b2_flip, Option.map_some, Option.isSome_some, ne_eq, eq_self, not_false_eq_true, not_true_eq_false, String.reduceEq, Own.e_BM, Own.e_BM0, Own.e_rAppend, Own.e_rCat, Own.e_rRep, Own.e_sl, Own.e_noPart, Own.e_part, Own.e_rSlL, Own.e_gSub, Own.e_rSetL, Own.e_bits, Own.e_yes, Own.e_gTup, Own.e_gNil, Own.e_gCons, Own.e_aug, Own.e_ipI, Own.e_for, Own.e_lc, Own.e_iList, Own.e_iTup, Own.e_iRng1, Own.e_iRng2, Own.e_iEnum, Own.e_iZip, L2.start, L2.wipe, List.map_cons, List.map_nil, List.replicate_succ, List.replicate_zero, List.length_cons, List.length_nil, Nat.reduceAdd, Nat.reduceSub, Nat.zero_add, List.getElem?_cons_zero, List.getElem?_cons_succ, List.set_cons_zero, List.set_cons_succ, Option.some.injEq, L2.V.int.injEq, L2.V.bl.injEq, L2.V.str.injEq, L2.V.ref.injEq, List.cons.injEq, List.cons_append, List.nil_append, List.append_nil, exists_eq_left', exists_eq_left, exists_and_left, exists_and_right, exists_eq, and_true, true_and, reduceCtorEq, false_and, and_false, exists_false, or_false, false_or, true_or, or_true, decide_eq_true_eq, Bool.not_true, Bool.not_false, Bool.not_eq_true', Bool.not_eq_false', decide_eq_false_iff_not, ite_not, if_true, if_false, ite_true, ite_false, Bool.false_eq_true, if_pos trivial, decide_true, decide_false, PySem.sizeLine_eq, eq_self, Int.reduceNeg, Int.reducePow, Int.reduceLT, Int.reduceLE, Int.reduceToNat, Nat.reduceLeDiff, Int.reduceSub, Int.reduceAdd, Int.reduceMul, Int.reduceDiv, Int.reduceMod, Int.reduceEq, Nat.reduceMul, Nat.reduceEqDiff, Own.e_raiseO, Own.e_callS, Own.e_what, Own.hxd_inj])
    refine call_to ⟨_, _, rfl, fun H1 s1 => ?_⟩
    have w1 : refW 0 1 = "blocks" := by unfold refW; rw [if_neg (by omega)]
    (try simp only [Own.e_seq, Own.e_cxK, Own.e_wishK, Own.e_noxK, Own.e_asg, Own.e_gName, Own.e_var, Own.e_C, Own.e_op, Own.e_un, Own.e_rI, Own.e_rI0, Own.e_rU, Own.e_CMul, Own.e_CDiv, Own.e_CPow, Own.e_rEq, Own.e_rNe, Own.e_scal_int, Own.e_scal_str, Own.e_scal_bl, Own.e_ifS, Own.e_test, Own.e_tB, Own.e_ret, Own.e_retN, Own.e_next, Own.e_brk, Own.e_cnt, Own.e_cons, Own.e_nil, Own.e_lst, Own.e_tup, Own.e_drop, Own.e_and, Own.e_or, Own.e_not, Own.e_andV, Own.e_orV, Own.e_notV, Own.e_if, Own.e_chain, Own.e_CB, Own.e_call, Own.e_rIxL, Own.e_rIxT, Own.e_rIxK, Own.e_rIxKT, Own.e_rSlK, Own.e_rLenK, Own.e_rListK, Own.e_rTupleK, Own.e_rSumK, Own.e_rDivK, Own.e_rNeK, Own.e_rEqK, Own.e_rNeKT, Own.e_rEqKT, Own.e_rIsiK, Own.e_rSlS, Own.e_rIxS, Own.tyK_int, Own.tyK_bl, Own.tyK_str, Own.tyK_non, Own.tyK_ref, Own.tyO_lst, Own.tyO_tup, Own.kit1, Own.kit2, Own.kit3, Own.kit4, Own.kit5, Own.kit6, Own.kit7, Own.kit8, Own.kit9, Own.hlst_inj, Own.htup_inj, Own.vty_inj, Own.ivs_inj, Own.bz_inj, Own.ivs_len, Own.bz_len, Own.ivs_app, Own.ivs_set, Own.ivs_bset, Own.bz_app, Own.ivs_snoc, Own.bz_snoc, Own.atI_ints, Own.atI_bz, Own.isLst_some, Own.ty_lst, L2.upd_same, L2.upd_upd, Own.b2_xor, Own.b2_mod2, Own.b2_mod3, Own.b2_mod4, Own.b2_flip, Option.map_some, Option.isSome_some, ne_eq, eq_self, not_false_eq_true, not_true_eq_false, String.reduceEq, Own.e_BM, Own.e_BM0, Own.e_rAppend, Own.e_rCat, Own.e_rRep, Own.e_sl, Own.e_noPart, Own.e_part, Own.e_rSlL, Own.e_gSub, Own.e_rSetL, Own.e_bits, Own.e_yes, Own.e_gTup, Own.e_gNil, Own.e_gCons, Own.e_aug, Own.e_ipI, Own.e_for, Own.e_lc, Own.e_iList, Own.e_iTup, Own.e_iRng1, Own.e_iRng2, Own.e_iEnum, Own.e_iZip, L2.start, L2.wipe, List.map_cons, List.map_nil, List.replicate_succ, List.replicate_zero, List.length_cons, List.length_nil, Nat.reduceAdd, Nat.reduceSub, Nat.zero_add, List.getElem?_cons_zero, List.getElem?_cons_succ, List.set_cons_zero, List.set_cons_succ, Option.some.injEq, L2.V.int.injEq, L2.V.bl.injEq, L2.V.str.injEq, L2.V.ref.injEq, List.cons.injEq, List.cons_append, List.nil_append, List.append_nil, exists_eq_left', exists_eq_left, exists_and_left, exists_and_right, exists_eq, and_true, true_and, reduceCtorEq, false_and, and_false, exists_false, or_false, false_or, true_or, or_true, decide_eq_true_eq, Bool.not_true, Bool.not_false, Bool.not_eq_true', Bool.not_eq_false', decide_eq_false_iff_not, ite_not, if_true, if_false, ite_true, ite_false, Bool.false_eq_true, if_pos trivial, decide_true, decide_false, PySem.sizeLine_eq, eq_self, Int.reduceNeg, Int.reducePow, Int.reduceLT, Int.reduceLE, Int.reduceToNat, Nat.reduceLeDiff, Int.reduceSub, Int.reduceAdd, Int.reduceMul, Int.reduceDiv, Int.reduceMod, Int.reduceEq, Nat.reduceMul, Nat.reduceEqDiff, Own.e_raiseO, Own.e_callS, Own.e_what, Own.hxd_inj, w1])
    refine ⟨_, .inl ((t0.trans s1).seq hS), ?_⟩
    (try simp only [Own.e_seq, Own.e_cxK, Own.e_wishK, Own.e_noxK, Own.e_asg, Own.e_gName, Own.e_var, Own.e_C, Own.e_op, Own.e_un, Own.e_rI, Own.e_rI0, Own.e_rU, Own.e_CMul, Own.e_CDiv, Own.e_CPow, Own.e_rEq, Own.e_rNe, Own.e_scal_int, Own.e_scal_str, Own.e_scal_bl, Own.e_ifS, Own.e_test, Own.e_tB, Own.e_ret, Own.e_retN, Own.e_next, Own.e_brk, Own.e_cnt, Own.e_cons, Own.e_nil, Own.e_lst, Own.e_tup, Own.e_drop, Own.e_and, Own.e_or, Own.e_not, Own.e_andV, Own.e_orV, Own.e_notV, Own.e_if, Own.e_chain, Own.e_CB, Own.e_call, Own.e_rIxL, Own.e_rIxT, Own.e_rIxK, Own.e_rIxKT, Own.e_rSlK, Own.e_rLenK, Own.e_rListK, Own.e_rTupleK, Own.e_rSumK, Own.e_rDivK, Own.e_rNeK, Own.e_rEqK, Own.e_rNeKT, Own.e_rEqKT, Own.e_rIsiK, Own.e_rSlS, Own.e_rIxS, Own.tyK_int, Own.tyK_bl, Own.tyK_str, Own.tyK_non, Own.tyK_ref, Own.tyO_lst, Own.tyO_tup, Own.kit1, Own.kit2, Own.kit3, Own.kit4, Own.kit5, Own.kit6, Own.kit7, Own.kit8, Own.kit9, Own.hlst_inj, Own.htup_inj, Own.vty_inj, Own.ivs_inj, Own.bz_inj, Own.ivs_len, Own.bz_len, Own.ivs_app, Own.ivs_set, Own.ivs_bset, Own.bz_app, Own.ivs_snoc, Own.bz_snoc, Own.atI_ints, Own.atI_bz, Own.isLst_some, Own.ty_lst, L2.upd_same, L2.upd_upd, Own.b2_xor, Own.b2_mod2, Own.b2_mod3, Own.b2_mod4, Own.b2_flip, Option.map_some, Option.isSome_some, ne_eq, eq_self, not_false_eq_true, not_true_eq_false, String.reduceEq, Own.e_BM, Own.e_BM0, Own.e_rAppend, Own.e_rCat, Own.e_rRep, Own.e_sl, Own.e_noPart, Own.e_part, Own.e_rSlL, Own.e_gSub, Own.e_rSetL, Own.e_bits, Own.e_yes, Own.e_gTup, Own.e_gNil, Own.e_gCons, Own.e_aug, Own.e_ipI, Own.e_for, Own.e_lc, Own.e_iList, Own.e_iTup, Own.e_iRng1, Own.e_iRng2, Own.e_iEnum, Own.e_iZip, L2.start, L2.wipe, List.map_cons, List.map_nil, List.replicate_succ, List.replicate_zero, List.length_cons, List.length_nil, Nat.reduceAdd, Nat.reduceSub, Nat.zero_add, List.getElem?_cons_zero, List.getElem?_cons_succ, List.set_cons_zero, List.set_cons_succ, Option.some.injEq, L2.V.int.injEq, L2.V.bl.injEq, L2.V.str.injEq, L2.V.ref.injEq, List.cons.injEq, List.cons_append, List.nil_append, List.append_nil, exists_eq_left', exists_eq_left, exists_and_left, exists_and_right, exists_eq, and_true, true_and, reduceCtorEq, false_and, and_false, exists_false, or_false, false_or, true_or, or_true, decide_eq_true_eq, Bool.not_true, Bool.not_false, Bool.not_eq_true', Bool.not_eq_false', decide_eq_false_iff_not, ite_not, if_true, if_false, ite_true, ite_false, Bool.false_eq_true, if_pos trivial, decide_true, decide_false, PySem.sizeLine_eq, eq_self, Int.reduceNeg, Int.reducePow, Int.reduceLT, Int.reduceLE, Int.reduceToNat, Nat.reduceLeDiff, Int.reduceSub, Int.reduceAdd, Int.reduceMul, Int.reduceDiv, Int.reduceMod, Int.reduceEq, Nat.reduceMul, Nat.reduceEqDiff, Own.e_raiseO, Own.e_callS, Own.e_what, Own.hxd_inj])
    refine call_to ⟨_, _, rfl, fun H2 s2 => ?_⟩
    have w2 : refW (10 + ((ns.map V.int).length : Int)) 10 = "blocks" := by unfold refW; rw [if_neg (by omega)]
    (try simp only [Own.e_seq, Own.e_cxK, Own.e_wishK, Own.e_noxK, Own.e_asg, Own.e_gName, Own.e_var, Own.e_C, Own.e_op, Own.e_un, Own.e_rI, Own.e_rI0, Own.e_rU, Own.e_CMul, Own.e_CDiv, Own.e_CPow, Own.e_rEq, Own.e_rNe, Own.e_scal_int, Own.e_scal_str, Own.e_scal_bl, Own.e_ifS, Own.e_test, Own.e_tB, Own.e_ret, Own.e_retN, Own.e_next, Own.e_brk, Own.e_cnt, Own.e_cons, Own.e_nil, Own.e_lst, Own.e_tup, Own.e_drop, Own.e_and, Own.e_or, Own.e_not, Own.e_andV, Own.e_orV, Own.e_notV, Own.e_if, Own.e_chain, Own.e_CB, Own.e_call, Own.e_rIxL, Own.e_rIxT, Own.e_rIxK, Own.e_rIxKT, Own.e_rSlK, Own.e_rLenK, Own.e_rListK, Own.e_rTupleK, Own.e_rSumK, Own.e_rDivK, Own.e_rNeK, Own.e_rEqK, Own.e_rNeKT, Own.e_rEqKT, Own.e_rIsiK, Own.e_rSlS, Own.e_rIxS, Own.tyK_int, Own.tyK_bl, Own.tyK_str, Own.tyK_non, Own.tyK_ref, Own.tyO_lst, Own.tyO_tup, Own.kit1, Own.kit2, Own.kit3, Own.kit4, Own.kit5, Own.kit6, Own.kit7, Own.kit8, Own.kit9, Own.hlst_inj, Own.htup_inj, Own.vty_inj, Own.ivs_inj, Own.bz_inj, Own.ivs_len, Own.bz_len, Own.ivs_app, Own.ivs_set, Own.ivs_bset, Own.bz_app, Own.ivs_snoc, Own.bz_snoc, Own.atI_ints, Own.atI_bz, Own.isLst_some, Own.ty_lst, L2.upd_same, L2.upd_upd, Own.b2_xor, Own.b2_mod2, Own.b2_mod3, Own.b2_mod4, Own.b2_flip, Option.map_some, Option.isSome_some, ne_eq, eq_self, not_false_eq_true, not_true_eq_false, String.reduceEq, Own.e_BM, Own.e_BM0, Own.e_rAppend, Own.e_rCat, Own.e_rRep, Own.e_sl, Own.e_noPart, Own.e_part, Own.e_rSlL, Own.e_gSub, Own.e_rSetL, Own.e_bits, Own.e_yes, Own.e_gTup, Own.e_gNil, Own.e_gCons, Own.e_aug, Own.e_ipI, Own.e_for, Own.e_lc, Own.e_iList, Own.e_iTup, Own.e_iRng1, Own.e_iRng2, Own.e_iEnum, Own.e_iZip, L2.start, L2.wipe, List.map_cons, List.map_nil, List.replicate_succ, List.replicate_zero, List.length_cons, List.length_nil, Nat.reduceAdd, Nat.reduceSub, Nat.zero_add, List.getElem?_cons_zero, List.getElem?_cons_succ, List.set_cons_zero, List.set_cons_succ, Option.some.injEq, L2.V.int.injEq, L2.V.bl.injEq, L2.V.str.injEq, L2.V.ref.injEq, List.cons.injEq, List.cons_append, List.nil_append, List.append_nil, exists_eq_left', exists_eq_left, exists_and_left, exists_and_right, exists_eq, and_true, true_and, reduceCtorEq, false_and, and_false, exists_false, or_false, false_or, true_or, or_true, decide_eq_true_eq, Bool.not_true, Bool.not_false, Bool.not_eq_true', Bool.not_eq_false', decide_eq_false_iff_not, ite_not, if_true, if_false, ite_true, ite_false, Bool.false_eq_true, if_pos trivial, decide_true, decide_false, PySem.sizeLine_eq, eq_self, Int.reduceNeg, Int.reducePow, Int.reduceLT, Int.reduceLE, Int.reduceToNat, Nat.reduceLeDiff, Int.reduceSub, Int.reduceAdd, Int.reduceMul, Int.reduceDiv, Int.reduceMod, Int.reduceEq, Nat.reduceMul, Nat.reduceEqDiff, Own.e_raiseO, Own.e_callS, Own.e_what, Own.hxd_inj, w2])
    refine ⟨_, .inl (((t0.trans s1).trans s2).seq hS), ?_⟩
    (try simp only [Own.e_seq, Own.e_cxK, Own.e_wishK, Own.e_noxK, Own.e_asg, Own.e_gName, Own.e_var, Own.e_C, Own.e_op, Own.e_un, Own.e_rI, Own.e_rI0, Own.e_rU, Own.e_CMul, Own.e_CDiv, Own.e_CPow, Own.e_rEq, Own.e_rNe, Own.e_scal_int, Own.e_scal_str, Own.e_scal_bl, Own.e_ifS, Own.e_test, Own.e_tB, Own.e_ret, Own.e_retN, Own.e_next, Own.e_brk, Own.e_cnt, Own.e_cons, Own.e_nil, Own.e_lst, Own.e_tup, Own.e_drop, Own.e_and, Own.e_or, Own.e_not, Own.e_andV, Own.e_orV, Own.e_notV, Own.e_if, Own.e_chain, Own.e_CB, Own.e_call, Own.e_rIxL, Own.e_rIxT, Own.e_rIxK, Own.e_rIxKT, Own.e_rSlK, Own.e_rLenK, Own.e_rListK, Own.e_rTupleK, Own.e_rSumK, Own.e_rDivK, Own.e_rNeK, Own.e_rEqK, Own.e_rNeKT, Own.e_rEqKT, Own.e_rIsiK, Own.e_rSlS, Own.e_rIxS, Own.tyK_int, Own.tyK_bl, Own.tyK_str, Own.tyK_non, Own.tyK_ref, Own.tyO_lst, Own.tyO_tup, Own.kit1, Own.kit2, Own.kit3, Own.kit4, Own.kit5, Own.kit6, Own.kit7, Own.kit8, Own.kit9, Own.hlst_inj, Own.htup_inj, Own.vty_inj, Own.ivs_inj, Own.bz_inj, Own.ivs_len, Own.bz_len, Own.ivs_app, Own.ivs_set, Own.ivs_bset, Own.bz_app, Own.ivs_snoc, Own.bz_snoc, Own.atI_ints, Own.atI_bz, Own.isLst_some, Own.ty_lst, L2.upd_same, L2.upd_upd, Own.b2_xor, Own.b2_mod2, Own.b2_mod3, Own.b2_mod4, Own.b2_flip, Option.map_some, Option.isSome_some, ne_eq, eq_self, not_false_eq_true, not_true_eq_false, String.reduceEq, Own.e_BM, Own.e_BM0, Own.e_rAppend, Own.e_rCat, Own.e_rRep, Own.e_sl, Own.e_noPart, Own.e_part, Own.e_rSlL, Own.e_gSub, Own.e_rSetL, Own.e_bits, Own.e_yes, Own.e_gTup, Own.e_gNil, Own.e_gCons, Own.e_aug, Own.e_ipI, Own.e_for, Own.e_lc, Own.e_iList, Own.e_iTup, Own.e_iRng1, Own.e_iRng2, Own.e_iEnum, Own.e_iZip, L2.start, L2.wipe, List.map_cons, List.map_nil, List.replicate_succ, List.replicate_zero, List.length_cons, List.length_nil, Nat.reduceAdd, Nat.reduceSub, Nat.zero_add, List.getElem?_cons_zero, List.getElem?_cons_succ, List.set_cons_zero, List.set_cons_succ, Option.some.injEq, L2.V.int.injEq, L2.V.bl.injEq, L2.V.str.injEq, L2.V.ref.injEq, List.cons.injEq, List.cons_append, List.nil_append, List.append_nil, exists_eq_left', exists_eq_left, exists_and_left, exists_and_right, exists_eq, and_true, true_and, reduceCtorEq, false_and, and_false, exists_false, or_false, false_or, true_or, or_true, decide_eq_true_eq, Bool.not_true, Bool.not_false, Bool.not_eq_true', Bool.not_eq_false', decide_eq_false_iff_not, ite_not, if_true, if_false, ite_true, ite_false, Bool.false_eq_true, if_pos trivial, decide_true, decide_false, PySem.sizeLine_eq, eq_self, Int.reduceNeg, Int.reducePow, Int.reduceLT, Int.reduceLE, Int.reduceToNat, Nat.reduceLeDiff, Int.reduceSub, Int.reduceAdd, Int.reduceMul, Int.reduceDiv, Int.reduceMod, Int.reduceEq, Nat.reduceMul, Nat.reduceEqDiff, Own.e_raiseO, Own.e_callS, Own.e_what, Own.hxd_inj])
    refine call_to ⟨_, _, rfl, fun H3 s3 => ?_⟩
    have w3 : refW (-((ns.map V.int).length : Int)) 3 = "blocks" := by unfold refW; rw [if_neg (by omega)]
    (try simp only [Own.e_seq, Own.e_cxK, Own.e_wishK, Own.e_noxK, Own.e_asg, Own.e_gName, Own.e_var, Own.e_C, Own.e_op, Own.e_un, Own.e_rI, Own.e_rI0, Own.e_rU, Own.e_CMul, Own.e_CDiv, Own.e_CPow, Own.e_rEq, Own.e_rNe, Own.e_scal_int, Own.e_scal_str, Own.e_scal_bl, Own.e_ifS, Own.e_test, Own.e_tB, Own.e_ret, Own.e_retN, Own.e_next, Own.e_brk, Own.e_cnt, Own.e_cons, Own.e_nil, Own.e_lst, Own.e_tup, Own.e_drop, Own.e_and, Own.e_or, Own.e_not, Own.e_andV, Own.e_orV, Own.e_notV, Own.e_if, Own.e_chain, Own.e_CB, Own.e_call, Own.e_rIxL, Own.e_rIxT, Own.e_rIxK, Own.e_rIxKT, Own.e_rSlK, Own.e_rLenK, Own.e_rListK, Own.e_rTupleK, Own.e_rSumK, Own.e_rDivK, Own.e_rNeK, Own.e_rEqK, Own.e_rNeKT, Own.e_rEqKT, Own.e_rIsiK, Own.e_rSlS, Own.e_rIxS, Own.tyK_int, Own.tyK_bl, Own.tyK_str, Own.tyK_non, Own.tyK_ref, Own.tyO_lst, Own.tyO_tup, Own.kit1, Own.kit2, Own.kit3, Own.kit4, Own.kit5, Own.kit6, Own.kit7, Own.kit8, Own.kit9, Own.hlst_inj, Own.htup_inj, Own.vty_inj, Own.ivs_inj, Own.bz_inj, Own.ivs_len, Own.bz_len, Own.ivs_app, Own.ivs_set, Own.ivs_bset, Own.bz_app, Own.ivs_snoc, Own.bz_snoc, Own.atI_ints, Own.atI_bz, Own.isLst_some, Own.ty_lst, L2.upd_same, L2.upd_upd, Own.b2_xor, Own.b2_mod2, Own.b2_mod3, Own.b2_mod4, Own.b2_flip, Option.map_some, Option.isSome_some, ne_eq, eq_self, not_false_eq_true, not_true_eq_false, String.reduceEq, Own.e_BM, Own.e_BM0, Own.e_rAppend, Own.e_rCat, Own.e_rRep, Own.e_sl, Own.e_noPart, Own.e_part, Own.e_rSlL, Own.e_gSub, Own.e_rSetL, Own.e_bits, Own.e_yes, Own.e_gTup, Own.e_gNil, Own.e_gCons, Own.e_aug, Own.e_ipI, Own.e_for, Own.e_lc, Own.e_iList, Own.e_iTup, Own.e_iRng1, Own.e_iRng2, Own.e_iEnum, Own.e_iZip, L2.start, L2.wipe, List.map_cons, List.map_nil, List.replicate_succ, List.replicate_zero, List.length_cons, List.length_nil, Nat.reduceAdd, Nat.reduceSub, Nat.zero_add, List.getElem?_cons_zero, List.getElem?_cons_succ, List.set_cons_zero, List.set_cons_succ, Option.some.injEq, L2.V.int.injEq, L2.V.bl.injEq, L2.V.str.injEq, L2.V.ref.injEq, List.cons.injEq, List.cons_append, List.nil_append, List.append_nil, exists_eq_left', exists_eq_left, exists_and_left, exists_and_right, exists_eq, and_true, true_and, reduceCtorEq, false_and, and_false, exists_false, or_false, false_or, true_or, or_true, decide_eq_true_eq, Bool.not_true, Bool.not_false, Bool.not_eq_true', Bool.not_eq_false', decide_eq_false_iff_not, ite_not, if_true, if_false, ite_true, ite_false, Bool.false_eq_true, if_pos trivial, decide_true, decide_false, PySem.sizeLine_eq, eq_self, Int.reduceNeg, Int.reducePow, Int.reduceLT, Int.reduceLE, Int.reduceToNat, Nat.reduceLeDiff, Int.reduceSub, Int.reduceAdd, Int.reduceMul, Int.reduceDiv, Int.reduceMod, Int.reduceEq, Nat.reduceMul, Nat.reduceEqDiff, Own.e_raiseO, Own.e_callS, Own.e_what, Own.hxd_inj, w3])
    refine ⟨_, .inl ((((t0.trans s1).trans s2).trans s3).seq hS), ?_⟩
    (try simp only [Own.e_seq, Own.e_cxK, Own.e_wishK, Own.e_noxK, Own.e_asg, Own.e_gName, Own.e_var, Own.e_C, Own.e_op, Own.e_un, Own.e_rI, Own.e_rI0, Own.e_rU, Own.e_CMul, Own.e_CDiv, Own.e_CPow, Own.e_rEq, Own.e_rNe, Own.e_scal_int, Own.e_scal_str, Own.e_scal_bl, Own.e_ifS, Own.e_test, Own.e_tB, Own.e_ret, Own.e_retN, Own.e_next, Own.e_brk, Own.e_cnt, Own.e_cons, Own.e_nil, Own.e_lst, Own.e_tup, Own.e_drop, Own.e_and, Own.e_or, Own.e_not, Own.e_andV, Own.e_orV, Own.e_notV, Own.e_if, Own.e_chain, Own.e_CB, Own.e_call, Own.e_rIxL, Own.e_rIxT, Own.e_rIxK, Own.e_rIxKT, Own.e_rSlK, Own.e_rLenK, Own.e_rListK, Own.e_rTupleK, Own.e_rSumK, Own.e_rDivK, Own.e_rNeK, Own.e_rEqK, Own.e_rNeKT, Own.e_rEqKT, Own.e_rIsiK, Own.e_rSlS, Own.e_rIxS, Own.tyK_int, Own.tyK_bl, Own.tyK_str, Own.tyK_non, Own.tyK_ref, Own.tyO_lst, Own.tyO_tup, Own.kit1, Own.kit2, Own.kit3, Own.kit4, Own.kit5, Own.kit6, Own.kit7, Own.kit8, Own.kit9, Own.hlst_inj, Own.htup_inj, Own.vty_inj, Own.ivs_inj, Own.bz_inj, Own.ivs_len, Own.bz_len, Own.ivs_app, Own.ivs_set, Own.ivs_bset, Own.bz_app, Own.ivs_snoc, Own.bz_snoc, Own.atI_ints, Own.atI_bz, Own.isLst_some, Own.ty_lst, L2.upd_same, L2.upd_upd, Own.b2_xor, Own.b2_mod2, Own.b2_mod3, Own.b2_mod4, Own.b2_flip, Option.map_some, Option.isSome_some, ne_eq, eq_self, not_false_eq_true, not_true_eq_false, String.reduceEq, Own.e_BM, Own.e_BM0, Own.e_rAppend, Own.e_rCat, Own.e_rRep, Own.e_sl, Own.e_noPart, Own.e_part, Own.e_rSlL, Own.e_gSub, Own.e_rSetL, Own.e_bits, Own.e_yes, Own.e_gTup, Own.e_gNil, Own.e_gCons, Own.e_aug, Own.e_ipI, Own.e_for, Own.e_lc, Own.e_iList, Own.e_iTup, Own.e_iRng1, Own.e_iRng2, Own.e_iEnum, Own.e_iZip, L2.start, L2.wipe, List.map_cons, List.map_nil, List.replicate_succ, List.replicate_zero, List.length_cons, List.length_nil, Nat.reduceAdd, Nat.reduceSub, Nat.zero_add, List.getElem?_cons_zero, List.getElem?_cons_succ, List.set_cons_zero, List.set_cons_succ, Option.some.injEq, L2.V.int.injEq, L2.V.bl.injEq, L2.V.str.injEq, L2.V.ref.injEq, List.cons.injEq, List.cons_append, List.nil_append, List.append_nil, exists_eq_left', exists_eq_left, exists_and_left, exists_and_right, exists_eq, and_true, true_and, reduceCtorEq, false_and, and_false, exists_false, or_false, false_or, true_or, or_true, decide_eq_true_eq, Bool.not_true, Bool.not_false, Bool.not_eq_true', Bool.not_eq_false', decide_eq_false_iff_not, ite_not, if_true, if_false, ite_true, ite_false, Bool.false_eq_true, if_pos trivial, decide_true, decide_false, PySem.sizeLine_eq, eq_self, Int.reduceNeg, Int.reducePow, Int.reduceLT, Int.reduceLE, Int.reduceToNat, Nat.reduceLeDiff, Int.reduceSub, Int.reduceAdd, Int.reduceMul, Int.reduceDiv, Int.reduceMod, Int.reduceEq, Nat.reduceMul, Nat.reduceEqDiff, Own.e_raiseO, Own.e_callS, Own.e_what, Own.hxd_inj])
    refine call_to ⟨_, _, rfl, fun H4' s4 => ?_⟩
    have w4 : refW 9 (1 - ((ns.map V.int).length : Int)) = "turns" := by unfold refW; rw [if_pos (by omega), if_neg (by omega)]
    (try simp only [Own.e_seq, Own.e_cxK, Own.e_wishK, Own.e_noxK, Own.e_asg, Own.e_gName, Own.e_var, Own.e_C, Own.e_op, Own.e_un, Own.e_rI, Own.e_rI0, Own.e_rU, Own.e_CMul, Own.e_CDiv, Own.e_CPow, Own.e_rEq, Own.e_rNe, Own.e_scal_int, Own.e_scal_str, Own.e_scal_bl, Own.e_ifS, Own.e_test, Own.e_tB, Own.e_ret, Own.e_retN, Own.e_next, Own.e_brk, Own.e_cnt, Own.e_cons, Own.e_nil, Own.e_lst, Own.e_tup, Own.e_drop, Own.e_and, Own.e_or, Own.e_not, Own.e_andV, Own.e_orV, Own.e_notV, Own.e_if, Own.e_chain, Own.e_CB, Own.e_call, Own.e_rIxL, Own.e_rIxT, Own.e_rIxK, Own.e_rIxKT, Own.e_rSlK, Own.e_rLenK, Own.e_rListK, Own.e_rTupleK, Own.e_rSumK, Own.e_rDivK, Own.e_rNeK, Own.e_rEqK, Own.e_rNeKT, Own.e_rEqKT, Own.e_rIsiK, Own.e_rSlS, Own.e_rIxS, Own.tyK_int, Own.tyK_bl, Own.tyK_str, Own.tyK_non, Own.tyK_ref, Own.tyO_lst, Own.tyO_tup, Own.kit1, Own.kit2, Own.kit3, Own.kit4, Own.kit5, Own.kit6, Own.kit7, Own.kit8, Own.kit9, Own.hlst_inj, Own.htup_inj, Own.vty_inj, Own.ivs_inj, Own.bz_inj, Own.ivs_len, Own.bz_len, Own.ivs_app, Own.ivs_set, Own.ivs_bset, Own.bz_app, Own.ivs_snoc, Own.bz_snoc, Own.atI_ints, Own.atI_bz, Own.isLst_some, Own.ty_lst, L2.upd_same, L2.upd_upd, Own.b2_xor, Own.b2_mod2, Own.b2_mod3, Own.b2_mod4, Own.b2_flip, Option.map_some, Option.isSome_some, ne_eq, eq_self, not_false_eq_true, not_true_eq_false, String.reduceEq, Own.e_BM, Own.e_BM0, Own.e_rAppend, Own.e_rCat, Own.e_rRep, Own.e_sl, Own.e_noPart, Own.e_part, Own.e_rSlL, Own.e_gSub, Own.e_rSetL, Own.e_bits, Own.e_yes, Own.e_gTup, Own.e_gNil, Own.e_gCons, Own.e_aug, Own.e_ipI, Own.e_for, Own.e_lc, Own.e_iList, Own.e_iTup, Own.e_iRng1, Own.e_iRng2, Own.e_iEnum, Own.e_iZip, L2.start, L2.wipe, List.map_cons, List.map_nil, List.replicate_succ, List.replicate_zero, List.length_cons, List.length_nil, Nat.reduceAdd, Nat.reduceSub, Nat.zero_add, List.getElem?_cons_zero, List.getElem?_cons_succ, List.set_cons_zero, List.set_cons_succ, Option.some.injEq, L2.V.int.injEq, L2.V.bl.injEq, L2.V.str.injEq, L2.V.ref.injEq, List.cons.injEq, List.cons_append, List.nil_append, List.append_nil, exists_eq_left', exists_eq_left, exists_and_left, exists_and_right, exists_eq, and_true, true_and, reduceCtorEq, false_and, and_false, exists_false, or_false, false_or, true_or, or_true, decide_eq_true_eq, Bool.not_true, Bool.not_false, Bool.not_eq_true', Bool.not_eq_false', decide_eq_false_iff_not, ite_not, if_true, if_false, ite_true, ite_false, Bool.false_eq_true, if_pos trivial, decide_true, decide_false, PySem.sizeLine_eq, eq_self, Int.reduceNeg, Int.reducePow, Int.reduceLT, Int.reduceLE, Int.reduceToNat, Nat.reduceLeDiff, Int.reduceSub, Int.reduceAdd, Int.reduceMul, Int.reduceDiv, Int.reduceMod, Int.reduceEq, Nat.reduceMul, Nat.reduceEqDiff, Own.e_raiseO, Own.e_callS, Own.e_what, Own.hxd_inj, w4])
    have t4 := (((t0.trans s1).trans s2).trans s3).trans s4
    refine ⟨_, t4.seq hS, new_of fun p4 H4 np4 sm4 hp4 => ?_⟩
    (try simp only [Own.e_seq, Own.e_cxK, Own.e_wishK, Own.e_noxK, Own.e_asg, Own.e_gName, Own.e_var, Own.e_C, Own.e_op, Own.e_un, Own.e_rI, Own.e_rI0, Own.e_rU, Own.e_CMul, Own.e_CDiv, Own.e_CPow, Own.e_rEq, Own.e_rNe, Own.e_scal_int, Own.e_scal_str, Own.e_scal_bl, Own.e_ifS, Own.e_test, Own.e_tB, Own.e_ret, Own.e_retN, Own.e_next, Own.e_brk, Own.e_cnt, Own.e_cons, Own.e_nil, Own.e_lst, Own.e_tup, Own.e_drop, Own.e_and, Own.e_or, Own.e_not, Own.e_andV, Own.e_orV, Own.e_notV, Own.e_if, Own.e_chain, Own.e_CB, Own.e_call, Own.e_rIxL, Own.e_rIxT, Own.e_rIxK, Own.e_rIxKT, Own.e_rSlK, Own.e_rLenK, Own.e_rListK, Own.e_rTupleK, Own.e_rSumK, Own.e_rDivK, Own.e_rNeK, Own.e_rEqK, Own.e_rNeKT, Own.e_rEqKT, Own.e_rIsiK, Own.e_rSlS, Own.e_rIxS, Own.tyK_int, Own.tyK_bl, Own.tyK_str, Own.tyK_non, Own.tyK_ref, Own.tyO_lst, Own.tyO_tup, Own.kit1, Own.kit2, Own.kit3, Own.kit4, Own.kit5, Own.kit6, Own.kit7, Own.kit8, Own.kit9, Own.hlst_inj, Own.htup_inj, Own.vty_inj, Own.ivs_inj, Own.bz_inj, Own.ivs_len, Own.bz_len, Own.ivs_app, Own.ivs_set, Own.ivs_bset, Own.bz_app, Own.ivs_snoc, Own.bz_snoc, Own.atI_ints, Own.atI_bz, Own.isLst_some, Own.ty_lst, L2.upd_same, L2.upd_upd, Own.b2_xor, Own.b2_mod2, Own.b2_mod3, Own.b2_mod4, Own.b2_flip, Option.map_some, Option.isSome_some, ne_eq, eq_self, not_false_eq_true, not_true_eq_false, String.reduceEq, Own.e_BM, Own.e_BM0, Own.e_rAppend, Own.e_rCat, Own.e_rRep, Own.e_sl, Own.e_noPart, Own.e_part, Own.e_rSlL, Own.e_gSub, Own.e_rSetL, Own.e_bits, Own.e_yes, Own.e_gTup, Own.e_gNil, Own.e_gCons, Own.e_aug, Own.e_ipI, Own.e_for, Own.e_lc, Own.e_iList, Own.e_iTup, Own.e_iRng1, Own.e_iRng2, Own.e_iEnum, Own.e_iZip, L2.start, L2.wipe, List.map_cons, List.map_nil, List.replicate_succ, List.replicate_zero, List.length_cons, List.length_nil, Nat.reduceAdd, Nat.reduceSub, Nat.zero_add, List.getElem?_cons_zero, List.getElem?_cons_succ, List.set_cons_zero, List.set_cons_succ, Option.some.injEq, L2.V.int.injEq, L2.V.bl.injEq, L2.V.str.injEq, L2.V.ref.injEq, List.cons.injEq, List.cons_append, List.nil_append, List.append_nil, exists_eq_left', exists_eq_left, exists_and_left, exists_and_right, exists_eq, and_true, true_and, reduceCtorEq, false_and, and_false, exists_false, or_false, false_or, true_or, or_true, decide_eq_true_eq, Bool.not_true, Bool.not_false, Bool.not_eq_true', Bool.not_eq_false', decide_eq_false_iff_not, ite_not, if_true, if_false, ite_true, ite_false, Bool.false_eq_true, if_pos trivial, decide_true, decide_false, PySem.sizeLine_eq, eq_self, Int.reduceNeg, Int.reducePow, Int.reduceLT, Int.reduceLE, Int.reduceToNat, Nat.reduceLeDiff, Int.reduceSub, Int.reduceAdd, Int.reduceMul, Int.reduceDiv, Int.reduceMod, Int.reduceEq, Nat.reduceMul, Nat.reduceEqDiff, Own.e_raiseO, Own.e_callS, Own.e_what, Own.hxd_inj])
    have e4 : cutV (ns.map V.int) none (some 40) = ivs (ns.take 40) := by rw [cut_to _ (by decide)]; exact ivs_take
    rw [e4] at hp4
    refine ⟨⟨_, .of hp4⟩, loop_enum rfl (fun i σ H' => ∃ y1 y2 y3 y4 y5 y6 y7 y8 y9 y10 y11 : Option V, σ = [some (.ref a), y1, y2, y3, y4, y5, y6, y7, y8, y9, y10, y11] ∧ Same H4 H') ⟨_, _, _, _, _, _, _, _, _, _, _, rfl, Same.refl _⟩ (fun i σ H' ⟨_, _, _, _, _, _, _, _, _, _, _, _, sm⟩ => sm _ _ hp4) ?_ ?_⟩
    · rintro i z σ H' H5 hz hi ⟨y1, y2, y3, y4, y5, y6, y7, y8, y9, y10, y11, rfl, smx⟩ smy
      have sm5 : Same H4 H5 := smx.trans smy
      (try simp only [Own.e_seq, Own.e_cxK, Own.e_wishK, Own.e_noxK, Own.e_asg, Own.e_gName, Own.e_var, Own.e_C, Own.e_op, Own.e_un, Own.e_rI, Own.e_rI0, Own.e_rU, Own.e_CMul, Own.e_CDiv, Own.e_CPow, Own.e_rEq, Own.e_rNe, Own.e_scal_int, Own.e_scal_str, Own.e_scal_bl, Own.e_ifS, Own.e_test, Own.e_tB, Own.e_ret, Own.e_retN, Own.e_next, Own.e_brk, Own.e_cnt, Own.e_cons, Own.e_nil, Own.e_lst, Own.e_tup, Own.e_drop, Own.e_and, Own.e_or, Own.e_not, Own.e_andV, Own.e_orV, Own.e_notV, Own.e_if, Own.e_chain, Own.e_CB, Own.e_call, Own.e_rIxL, Own.e_rIxT, Own.e_rIxK, Own.e_rIxKT, Own.e_rSlK, Own.e_rLenK, Own.e_rListK, Own.e_rTupleK, Own.e_rSumK, Own.e_rDivK, Own.e_rNeK, Own.e_rEqK, Own.e_rNeKT, Own.e_rEqKT, Own.e_rIsiK, Own.e_rSlS, Own.e_rIxS, Own.tyK_int, Own.tyK_bl, Own.tyK_str, Own.tyK_non, Own.tyK_ref, Own.tyO_lst, Own.tyO_tup, Own.kit1, Own.kit2, Own.kit3, Own.kit4, Own.kit5, Own.kit6, Own.kit7, Own.kit8, Own.kit9, Own.hlst_inj, Own.htup_inj, Own.vty_inj, Own.ivs_inj, Own.bz_inj, Own.ivs_len, Own.bz_len, Own.ivs_app, Own.ivs_set, Own.ivs_bset, Own.bz_app, Own.ivs_snoc, Own.bz_snoc, Own.atI_ints, Own.atI_bz, Own.isLst_some, Own.ty_lst, L2.upd_same, L2.upd_upd, Own.b2_xor, Own.b2_mod2, Own.b2_mod3, Own.b2_mod4, Own.b2_flip, Option.map_some, Option.isSome_some, ne_eq, eq_self, not_false_eq_true, not_true_eq_false, String.reduceEq, Own.e_BM, Own.e_BM0, Own.e_rAppend, Own.e_rCat, Own.e_rRep, Own.e_sl, Own.e_noPart, Own.e_part, Own.e_rSlL, Own.e_gSub, Own.e_rSetL, Own.e_bits, Own.e_yes, Own.e_gTup, Own.e_gNil, Own.e_gCons, Own.e_aug, Own.e_ipI, Own.e_for, Own.e_lc, Own.e_iList, Own.e_iTup, Own.e_iRng1, Own.e_iRng2, Own.e_iEnum, Own.e_iZip, L2.start, L2.wipe, List.map_cons, List.map_nil, List.replicate_succ, List.replicate_zero, List.length_cons, List.length_nil, Nat.reduceAdd, Nat.reduceSub, Nat.zero_add, List.getElem?_cons_zero, List.getElem?_cons_succ, List.set_cons_zero, List.set_cons_succ, Option.some.injEq, L2.V.int.injEq, L2.V.bl.injEq, L2.V.str.injEq, L2.V.ref.injEq, List.cons.injEq, List.cons_append, List.nil_append, List.append_nil, exists_eq_left', exists_eq_left, exists_and_left, exists_and_right, exists_eq, and_true, true_and, reduceCtorEq, false_and, and_false, exists_false, or_false, false_or, true_or, or_true, decide_eq_true_eq, Bool.not_true, Bool.not_false, Bool.not_eq_true', Bool.not_eq_false', decide_eq_false_iff_not, ite_not, if_true, if_false, ite_true, ite_false, Bool.false_eq_true, if_pos trivial, decide_true, decide_false, PySem.sizeLine_eq, eq_self, Int.reduceNeg, Int.reducePow, Int.reduceLT, Int.reduceLE, Int.reduceToNat, Nat.reduceLeDiff, Int.reduceSub, Int.reduceAdd, Int.reduceMul, Int.reduceDiv, Int.reduceMod, Int.reduceEq, Nat.reduceMul, Nat.reduceEqDiff, Own.e_raiseO, Own.e_callS, Own.e_what, Own.hxd_inj])
      refine call_to ⟨_, _, rfl, ?_⟩
      have hv := mixed_nn z i
      generalize mixed z i = v at hv ⊢
      (try simp only [Own.e_seq, Own.e_cxK, Own.e_wishK, Own.e_noxK, Own.e_asg, Own.e_gName, Own.e_var, Own.e_C, Own.e_op, Own.e_un, Own.e_rI, Own.e_rI0, Own.e_rU, Own.e_CMul, Own.e_CDiv, Own.e_CPow, Own.e_rEq, Own.e_rNe, Own.e_scal_int, Own.e_scal_str, Own.e_scal_bl, Own.e_ifS, Own.e_test, Own.e_tB, Own.e_ret, Own.e_retN, Own.e_next, Own.e_brk, Own.e_cnt, Own.e_cons, Own.e_nil, Own.e_lst, Own.e_tup, Own.e_drop, Own.e_and, Own.e_or, Own.e_not, Own.e_andV, Own.e_orV, Own.e_notV, Own.e_if, Own.e_chain, Own.e_CB, Own.e_call, Own.e_rIxL, Own.e_rIxT, Own.e_rIxK, Own.e_rIxKT, Own.e_rSlK, Own.e_rLenK, Own.e_rListK, Own.e_rTupleK, Own.e_rSumK, Own.e_rDivK, Own.e_rNeK, Own.e_rEqK, Own.e_rNeKT, Own.e_rEqKT, Own.e_rIsiK, Own.e_rSlS, Own.e_rIxS, Own.tyK_int, Own.tyK_bl, Own.tyK_str, Own.tyK_non, Own.tyK_ref, Own.tyO_lst, Own.tyO_tup, Own.kit1, Own.kit2, Own.kit3, Own.kit4, Own.kit5, Own.kit6, Own.kit7, Own.kit8, Own.kit9, Own.hlst_inj, Own.htup_inj, Own.vty_inj, Own.ivs_inj, Own.bz_inj, Own.ivs_len, Own.bz_len, Own.ivs_app, Own.ivs_set, Own.ivs_bset, Own.bz_app, Own.ivs_snoc, Own.bz_snoc, Own.atI_ints, Own.atI_bz, Own.isLst_some, Own.ty_lst, L2.upd_same, L2.upd_upd, Own.b2_xor, Own.b2_mod2, Own.b2_mod3, Own.b2_mod4, Own.b2_flip, Option.map_some, Option.isSome_some, ne_eq, eq_self, not_false_eq_true, not_true_eq_false, String.reduceEq, Own.e_BM, Own.e_BM0, Own.e_rAppend, Own.e_rCat, Own.e_rRep, Own.e_sl, Own.e_noPart, Own.e_part, Own.e_rSlL, Own.e_gSub, Own.e_rSetL, Own.e_bits, Own.e_yes, Own.e_gTup, Own.e_gNil, Own.e_gCons, Own.e_aug, Own.e_ipI, Own.e_for, Own.e_lc, Own.e_iList, Own.e_iTup, Own.e_iRng1, Own.e_iRng2, Own.e_iEnum, Own.e_iZip, L2.start, L2.wipe, List.map_cons, List.map_nil, List.replicate_succ, List.replicate_zero, List.length_cons, List.length_nil, Nat.reduceAdd, Nat.reduceSub, Nat.zero_add, List.getElem?_cons_zero, List.getElem?_cons_succ, List.set_cons_zero, List.set_cons_succ, Option.some.injEq, L2.V.int.injEq, L2.V.bl.injEq, L2.V.str.injEq, L2.V.ref.injEq, List.cons.injEq, List.cons_append, List.nil_append, List.append_nil, exists_eq_left', exists_eq_left, exists_and_left, exists_and_right, exists_eq, and_true, true_and, reduceCtorEq, false_and, and_false, exists_false, or_false, false_or, true_or, or_true, decide_eq_true_eq, Bool.not_true, Bool.not_false, Bool.not_eq_true', Bool.not_eq_false', decide_eq_false_iff_not, ite_not, if_true, if_false, ite_true, ite_false, Bool.false_eq_true, if_pos trivial, decide_true, decide_false, PySem.sizeLine_eq, eq_self, Int.reduceNeg, Int.reducePow, Int.reduceLT, Int.reduceLE, Int.reduceToNat, Nat.reduceLeDiff, Int.reduceSub, Int.reduceAdd, Int.reduceMul, Int.reduceDiv, Int.reduceMod, Int.reduceEq, Nat.reduceMul, Nat.reduceEqDiff, Own.e_raiseO, Own.e_callS, Own.e_what, Own.hxd_inj])
      refine ⟨by omega, by omega, loop_it walk_range (fun k σ H' => ∃ (l : List Nat) (lf : Int) (y8 : Option V), σ = [some (.ref a), y1, y2, some (.int i), some (.int z), some (.int v), some (.str (dg l)), some (.int lf), y8, y9, y10, y11] ∧ H' = H5 ∧ l.length = k ∧ (∀ d ∈ l, d < 10)) ⟨[], _, _, rfl, rfl, rfl, fun _ h => nomatch h⟩ (fun _ _ _ _ _ => trivial) ?_ ?_⟩
      · rintro k x σ Hk H'' hk ⟨l, lf, y8, rfl, rfl, lk, ld⟩ ⟨rfl, rfl⟩
        have m0 : 0 ≤ lf % 10 := by omega
        have m1 : lf % 10 < 10 := by omega
        have at1 := ten_at m0 m1
        have ln : (Str.ofString "0123456789").length ≤ 16777216 := by decide +kernel
        have l2 : (dg l).length + (dg [(lf % 10).toNat]).length ≤ 16777216 := by rw [dg_len, dg_len]; simp; omega
        (try simp only [Own.e_seq, Own.e_cxK, Own.e_wishK, Own.e_noxK, Own.e_asg, Own.e_gName, Own.e_var, Own.e_C, Own.e_op, Own.e_un, Own.e_rI, Own.e_rI0, Own.e_rU, Own.e_CMul, Own.e_CDiv, Own.e_CPow, Own.e_rEq, Own.e_rNe, Own.e_scal_int, Own.e_scal_str, Own.e_scal_bl, Own.e_ifS, Own.e_test, Own.e_tB, Own.e_ret, Own.e_retN, Own.e_next, Own.e_brk, Own.e_cnt, Own.e_cons, Own.e_nil, Own.e_lst, Own.e_tup, Own.e_drop, Own.e_and, Own.e_or, Own.e_not, Own.e_andV, Own.e_orV, Own.e_notV, Own.e_if, Own.e_chain, Own.e_CB, Own.e_call, Own.e_rIxL, Own.e_rIxT, Own.e_rIxK, Own.e_rIxKT, Own.e_rSlK, Own.e_rLenK, Own.e_rListK, Own.e_rTupleK, Own.e_rSumK, Own.e_rDivK, Own.e_rNeK, Own.e_rEqK, Own.e_rNeKT, Own.e_rEqKT, Own.e_rIsiK, Own.e_rSlS, Own.e_rIxS, Own.tyK_int, Own.tyK_bl, Own.tyK_str, Own.tyK_non, Own.tyK_ref, Own.tyO_lst, Own.tyO_tup, Own.kit1, Own.kit2, Own.kit3, Own.kit4, Own.kit5, Own.kit6, Own.kit7, Own.kit8, Own.kit9, Own.hlst_inj, Own.htup_inj, Own.vty_inj, Own.ivs_inj, Own.bz_inj, Own.ivs_len, Own.bz_len, Own.ivs_app, Own.ivs_set, Own.ivs_bset, Own.bz_app, Own.ivs_snoc, Own.bz_snoc, Own.atI_ints, Own.atI_bz, Own.isLst_some, Own.ty_lst, L2.upd_same, L2.upd_upd, Own.b2_xor, Own.b2_mod2, Own.b2_mod3, Own.b2_mod4, Own.b2_flip, Option.map_some, Option.isSome_some, ne_eq, eq_self, not_false_eq_true, not_true_eq_false, String.reduceEq, Own.e_BM, Own.e_BM0, Own.e_rAppend, Own.e_rCat, Own.e_rRep, Own.e_sl, Own.e_noPart, Own.e_part, Own.e_rSlL, Own.e_gSub, Own.e_rSetL, Own.e_bits, Own.e_yes, Own.e_gTup, Own.e_gNil, Own.e_gCons, Own.e_aug, Own.e_ipI, Own.e_for, Own.e_lc, Own.e_iList, Own.e_iTup, Own.e_iRng1, Own.e_iRng2, Own.e_iEnum, Own.e_iZip, L2.start, L2.wipe, List.map_cons, List.map_nil, List.replicate_succ, List.replicate_zero, List.length_cons, List.length_nil, Nat.reduceAdd, Nat.reduceSub, Nat.zero_add, List.getElem?_cons_zero, List.getElem?_cons_succ, List.set_cons_zero, List.set_cons_succ, Option.some.injEq, L2.V.int.injEq, L2.V.bl.injEq, L2.V.str.injEq, L2.V.ref.injEq, List.cons.injEq, List.cons_append, List.nil_append, List.append_nil, exists_eq_left', exists_eq_left, exists_and_left, exists_and_right, exists_eq, and_true, true_and, reduceCtorEq, false_and, and_false, exists_false, or_false, false_or, true_or, or_true, decide_eq_true_eq, Bool.not_true, Bool.not_false, Bool.not_eq_true', Bool.not_eq_false', decide_eq_false_iff_not, ite_not, if_true, if_false, ite_true, ite_false, Bool.false_eq_true, if_pos trivial, decide_true, decide_false, PySem.sizeLine_eq, eq_self, Int.reduceNeg, Int.reducePow, Int.reduceLT, Int.reduceLE, Int.reduceToNat, Nat.reduceLeDiff, Int.reduceSub, Int.reduceAdd, Int.reduceMul, Int.reduceDiv, Int.reduceMod, Int.reduceEq, Nat.reduceMul, Nat.reduceEqDiff, Own.e_raiseO, Own.e_callS, Own.e_what, Own.hxd_inj, at1, ln, dg_one, dg_app, l2])
        exact at_is ⟨_, _, _, rfl, rfl, by simp [lk], fun d hd => by
          rcases List.mem_append.mp hd with h | h
          · exact ld d h
          · rw [List.mem_singleton.mp h]; omega⟩
      rintro σ Hk ⟨l, lf, y8, rfl, rfl, lk, ld⟩
      obtain ⟨r, A, B', C', rfl⟩ := split3 (l := l) (by omega)
      obtain ⟨x3, x2, x1⟩ := at_m3 r A B' C'
      have dA : A < 10 := ld A (by simp)
      have dB : B' < 10 := ld B' (by simp)
      have dC : C' < 10 := ld C' (by simp)
      have lr : r.length ≤ 1000 := by simp only [List.length_append, List.length_cons, List.length_nil] at lk; omega
      have ll : (dg (r ++ [A, B', C'])).length ≤ 16777216 := by rw [dg_len]; simp; omega
      have l1 : (dg [A]).length ≤ 640 := by rw [dg_len]; simp
      have l2 : (dg [B']).length ≤ 640 := by rw [dg_len]; simp
      have l3 : (dg [C']).length ≤ 640 := by rw [dg_len]; simp
      (try simp only [Own.e_seq, Own.e_cxK, Own.e_wishK, Own.e_noxK, Own.e_asg, Own.e_gName, Own.e_var, Own.e_C, Own.e_op, Own.e_un, Own.e_rI, Own.e_rI0, Own.e_rU, Own.e_CMul, Own.e_CDiv, Own.e_CPow, Own.e_rEq, Own.e_rNe, Own.e_scal_int, Own.e_scal_str, Own.e_scal_bl, Own.e_ifS, Own.e_test, Own.e_tB, Own.e_ret, Own.e_retN, Own.e_next, Own.e_brk, Own.e_cnt, Own.e_cons, Own.e_nil, Own.e_lst, Own.e_tup, Own.e_drop, Own.e_and, Own.e_or, Own.e_not, Own.e_andV, Own.e_orV, Own.e_notV, Own.e_if, Own.e_chain, Own.e_CB, Own.e_call, Own.e_rIxL, Own.e_rIxT, Own.e_rIxK, Own.e_rIxKT, Own.e_rSlK, Own.e_rLenK, Own.e_rListK, Own.e_rTupleK, Own.e_rSumK, Own.e_rDivK, Own.e_rNeK, Own.e_rEqK, Own.e_rNeKT, Own.e_rEqKT, Own.e_rIsiK, Own.e_rSlS, Own.e_rIxS, Own.tyK_int, Own.tyK_bl, Own.tyK_str, Own.tyK_non, Own.tyK_ref, Own.tyO_lst, Own.tyO_tup, Own.kit1, Own.kit2, Own.kit3, Own.kit4, Own.kit5, Own.kit6, Own.kit7, Own.kit8, Own.kit9, Own.hlst_inj, Own.htup_inj, Own.vty_inj, Own.ivs_inj, Own.bz_inj, Own.ivs_len, Own.bz_len, Own.ivs_app, Own.ivs_set, Own.ivs_bset, Own.bz_app, Own.ivs_snoc, Own.bz_snoc, Own.atI_ints, Own.atI_bz, Own.isLst_some, Own.ty_lst, L2.upd_same, L2.upd_upd, Own.b2_xor, Own.b2_mod2, Own.b2_mod3, Own.b2_mod4, Own.b2_flip, Option.map_some, Option.isSome_some, ne_eq, eq_self, not_false_eq_true, not_true_eq_false, String.reduceEq, Own.e_BM, Own.e_BM0, Own.e_rAppend, Own.e_rCat, Own.e_rRep, Own.e_sl, Own.e_noPart, Own.e_part, Own.e_rSlL, Own.e_gSub, Own.e_rSetL, Own.e_bits, Own.e_yes, Own.e_gTup, Own.e_gNil, Own.e_gCons, Own.e_aug, Own.e_ipI, Own.e_for, Own.e_lc, Own.e_iList, Own.e_iTup, Own.e_iRng1, Own.e_iRng2, Own.e_iEnum, Own.e_iZip, L2.start, L2.wipe, List.map_cons, List.map_nil, List.replicate_succ, List.replicate_zero, List.length_cons, List.length_nil, Nat.reduceAdd, Nat.reduceSub, Nat.zero_add, List.getElem?_cons_zero, List.getElem?_cons_succ, List.set_cons_zero, List.set_cons_succ, Option.some.injEq, L2.V.int.injEq, L2.V.bl.injEq, L2.V.str.injEq, L2.V.ref.injEq, List.cons.injEq, List.cons_append, List.nil_append, List.append_nil, exists_eq_left', exists_eq_left, exists_and_left, exists_and_right, exists_eq, and_true, true_and, reduceCtorEq, false_and, and_false, exists_false, or_false, false_or, true_or, or_true, decide_eq_true_eq, Bool.not_true, Bool.not_false, Bool.not_eq_true', Bool.not_eq_false', decide_eq_false_iff_not, ite_not, if_true, if_false, ite_true, ite_false, Bool.false_eq_true, if_pos trivial, decide_true, decide_false, PySem.sizeLine_eq, eq_self, Int.reduceNeg, Int.reducePow, Int.reduceLT, Int.reduceLE, Int.reduceToNat, Nat.reduceLeDiff, Int.reduceSub, Int.reduceAdd, Int.reduceMul, Int.reduceDiv, Int.reduceMod, Int.reduceEq, Nat.reduceMul, Nat.reduceEqDiff, Own.e_raiseO, Own.e_callS, Own.e_what, Own.hxd_inj, x3, x2, x1, ll, dg_one, int1 A dA, int1 B' dB, int1 C' dC, l1, l2, l3])
      have b1 : 1 ≤ 1 + v / 11 % 9 ∧ 1 + v / 11 % 9 ≤ 9 := by omega
      have b2' : 2 ≤ 2 + v / 99 % 8 ∧ 2 + v / 99 % 8 ≤ 9 := by omega
      generalize 1 + v / 11 % 9 = P' at b1 ⊢
      generalize 2 + v / 99 % 8 = M' at b2' ⊢
      have pm : 0 < P' * M' := Int.mul_pos (by omega) (by omega)
      refine call_to ⟨r, A, B', C', _, _, rfl, lr, dA, dB, dC, fun h => absurd b1 h, fun _ h => absurd b2' h, fun _ _ => ?_⟩
      (try simp only [Own.e_seq, Own.e_cxK, Own.e_wishK, Own.e_noxK, Own.e_asg, Own.e_gName, Own.e_var, Own.e_C, Own.e_op, Own.e_un, Own.e_rI, Own.e_rI0, Own.e_rU, Own.e_CMul, Own.e_CDiv, Own.e_CPow, Own.e_rEq, Own.e_rNe, Own.e_scal_int, Own.e_scal_str, Own.e_scal_bl, Own.e_ifS, Own.e_test, Own.e_tB, Own.e_ret, Own.e_retN, Own.e_next, Own.e_brk, Own.e_cnt, Own.e_cons, Own.e_nil, Own.e_lst, Own.e_tup, Own.e_drop, Own.e_and, Own.e_or, Own.e_not, Own.e_andV, Own.e_orV, Own.e_notV, Own.e_if, Own.e_chain, Own.e_CB, Own.e_call, Own.e_rIxL, Own.e_rIxT, Own.e_rIxK, Own.e_rIxKT, Own.e_rSlK, Own.e_rLenK, Own.e_rListK, Own.e_rTupleK, Own.e_rSumK, Own.e_rDivK, Own.e_rNeK, Own.e_rEqK, Own.e_rNeKT, Own.e_rEqKT, Own.e_rIsiK, Own.e_rSlS, Own.e_rIxS, Own.tyK_int, Own.tyK_bl, Own.tyK_str, Own.tyK_non, Own.tyK_ref, Own.tyO_lst, Own.tyO_tup, Own.kit1, Own.kit2, Own.kit3, Own.kit4, Own.kit5, Own.kit6, Own.kit7, Own.kit8, Own.kit9, Own.hlst_inj, Own.htup_inj, Own.vty_inj, Own.ivs_inj, Own.bz_inj, Own.ivs_len, Own.bz_len, Own.ivs_app, Own.ivs_set, Own.ivs_bset, Own.bz_app, Own.ivs_snoc, Own.bz_snoc, Own.atI_ints, Own.atI_bz, Own.isLst_some, Own.ty_lst, L2.upd_same, L2.upd_upd, Own.b2_xor, Own.b2_mod2, Own.b2_mod3, Own.b2_mod4, Own.b2_flip, Option.map_some, Option.isSome_some, ne_eq, eq_self, not_false_eq_true, not_true_eq_false, String.reduceEq, Own.e_BM, Own.e_BM0, Own.e_rAppend, Own.e_rCat, Own.e_rRep, Own.e_sl, Own.e_noPart, Own.e_part, Own.e_rSlL, Own.e_gSub, Own.e_rSetL, Own.e_bits, Own.e_yes, Own.e_gTup, Own.e_gNil, Own.e_gCons, Own.e_aug, Own.e_ipI, Own.e_for, Own.e_lc, Own.e_iList, Own.e_iTup, Own.e_iRng1, Own.e_iRng2, Own.e_iEnum, Own.e_iZip, L2.start, L2.wipe, List.map_cons, List.map_nil, List.replicate_succ, List.replicate_zero, List.length_cons, List.length_nil, Nat.reduceAdd, Nat.reduceSub, Nat.zero_add, List.getElem?_cons_zero, List.getElem?_cons_succ, List.set_cons_zero, List.set_cons_succ, Option.some.injEq, L2.V.int.injEq, L2.V.bl.injEq, L2.V.str.injEq, L2.V.ref.injEq, List.cons.injEq, List.cons_append, List.nil_append, List.append_nil, exists_eq_left', exists_eq_left, exists_and_left, exists_and_right, exists_eq, and_true, true_and, reduceCtorEq, false_and, and_false, exists_false, or_false, false_or, true_or, or_true, decide_eq_true_eq, Bool.not_true, Bool.not_false, Bool.not_eq_true', Bool.not_eq_false', decide_eq_false_iff_not, ite_not, if_true, if_false, ite_true, ite_false, Bool.false_eq_true, if_pos trivial, decide_true, decide_false, PySem.sizeLine_eq, eq_self, Int.reduceNeg, Int.reducePow, Int.reduceLT, Int.reduceLE, Int.reduceToNat, Nat.reduceLeDiff, Int.reduceSub, Int.reduceAdd, Int.reduceMul, Int.reduceDiv, Int.reduceMod, Int.reduceEq, Nat.reduceMul, Nat.reduceEqDiff, Own.e_raiseO, Own.e_callS, Own.e_what, Own.hxd_inj])
      refine ⟨by omega, pm, ?_⟩
      exact at_is ⟨_, _, _, _, _, _, _, _, _, _, _, rfl, sm5⟩
    · rintro σ H' ⟨y1, y2, y3, y4, y5, y6, y7, y8, y9, y10, y11, rfl, sm⟩
      (try simp only [Own.e_seq, Own.e_cxK, Own.e_wishK, Own.e_noxK, Own.e_asg, Own.e_gName, Own.e_var, Own.e_C, Own.e_op, Own.e_un, Own.e_rI, Own.e_rI0, Own.e_rU, Own.e_CMul, Own.e_CDiv, Own.e_CPow, Own.e_rEq, Own.e_rNe, Own.e_scal_int, Own.e_scal_str, Own.e_scal_bl, Own.e_ifS, Own.e_test, Own.e_tB, Own.e_ret, Own.e_retN, Own.e_next, Own.e_brk, Own.e_cnt, Own.e_cons, Own.e_nil, Own.e_lst, Own.e_tup, Own.e_drop, Own.e_and, Own.e_or, Own.e_not, Own.e_andV, Own.e_orV, Own.e_notV, Own.e_if, Own.e_chain, Own.e_CB, Own.e_call, Own.e_rIxL, Own.e_rIxT, Own.e_rIxK, Own.e_rIxKT, Own.e_rSlK, Own.e_rLenK, Own.e_rListK, Own.e_rTupleK, Own.e_rSumK, Own.e_rDivK, Own.e_rNeK, Own.e_rEqK, Own.e_rNeKT, Own.e_rEqKT, Own.e_rIsiK, Own.e_rSlS, Own.e_rIxS, Own.tyK_int, Own.tyK_bl, Own.tyK_str, Own.tyK_non, Own.tyK_ref, Own.tyO_lst, Own.tyO_tup, Own.kit1, Own.kit2, Own.kit3, Own.kit4, Own.kit5, Own.kit6, Own.kit7, Own.kit8, Own.kit9, Own.hlst_inj, Own.htup_inj, Own.vty_inj, Own.ivs_inj, Own.bz_inj, Own.ivs_len, Own.bz_len, Own.ivs_app, Own.ivs_set, Own.ivs_bset, Own.bz_app, Own.ivs_snoc, Own.bz_snoc, Own.atI_ints, Own.atI_bz, Own.isLst_some, Own.ty_lst, L2.upd_same, L2.upd_upd, Own.b2_xor, Own.b2_mod2, Own.b2_mod3, Own.b2_mod4, Own.b2_flip, Option.map_some, Option.isSome_some, ne_eq, eq_self, not_false_eq_true, not_true_eq_false, String.reduceEq, Own.e_BM, Own.e_BM0, Own.e_rAppend, Own.e_rCat, Own.e_rRep, Own.e_sl, Own.e_noPart, Own.e_part, Own.e_rSlL, Own.e_gSub, Own.e_rSetL, Own.e_bits, Own.e_yes, Own.e_gTup, Own.e_gNil, Own.e_gCons, Own.e_aug, Own.e_ipI, Own.e_for, Own.e_lc, Own.e_iList, Own.e_iTup, Own.e_iRng1, Own.e_iRng2, Own.e_iEnum, Own.e_iZip, L2.start, L2.wipe, List.map_cons, List.map_nil, List.replicate_succ, List.replicate_zero, List.length_cons, List.length_nil, Nat.reduceAdd, Nat.reduceSub, Nat.zero_add, List.getElem?_cons_zero, List.getElem?_cons_succ, List.set_cons_zero, List.set_cons_succ, Option.some.injEq, L2.V.int.injEq, L2.V.bl.injEq, L2.V.str.injEq, L2.V.ref.injEq, List.cons.injEq, List.cons_append, List.nil_append, List.append_nil, exists_eq_left', exists_eq_left, exists_and_left, exists_and_right, exists_eq, and_true, true_and, reduceCtorEq, false_and, and_false, exists_false, or_false, false_or, true_or, or_true, decide_eq_true_eq, Bool.not_true, Bool.not_false, Bool.not_eq_true', Bool.not_eq_false', decide_eq_false_iff_not, ite_not, if_true, if_false, ite_true, ite_false, Bool.false_eq_true, if_pos trivial, decide_true, decide_false, PySem.sizeLine_eq, eq_self, Int.reduceNeg, Int.reducePow, Int.reduceLT, Int.reduceLE, Int.reduceToNat, Nat.reduceLeDiff, Int.reduceSub, Int.reduceAdd, Int.reduceMul, Int.reduceDiv, Int.reduceMod, Int.reduceEq, Nat.reduceMul, Nat.reduceEqDiff, Own.e_raiseO, Own.e_callS, Own.e_what, Own.hxd_inj])
      exact q H'
end
theorem all_mk {l : PySem.W.OpenLaw} {w : World} {K : PySem.W.Frag} {h : Heap} {mg : Str → Option Value} {fa f1 f2 f3 f4 f5 f6 : Addr} (X : K.In h) (G : h.Ns mainGlobals mg) (hfa : mg "law" = some (.ref fa))
    {od1 an1 od2 an2 od3 an3 od4 an4 od5 an5 od6 an6 : Option Addr} {sl1 sl2 sl3 sl4 sl5 sl6 : Array (Option Value)} {oc1 kV1 dc1 pm1 cd1 ct1 oc2 kV2 dc2 pm2 cd2 ct2 oc3 kV3 dc3 pm3 cd3 ct3 oc4 kV4 dc4 pm4 cd4 ct4 oc5 kV5 dc5 pm5 cd5 ct5 oc6 kV6 dc6 pm6 cd6 ct6 : Value}  {C_OutOfRange f_OutOfRange xM xN : Addr} {xnm xq : Str} {xbs : List Value} {xsn : List Str} {xsub : List Value} {xab : Bool} {xcol : Option Bool} {xdd : Option Addr} {xm0 xm1 xm2 xm3 xm5 : Option Value} {xod1 xan1 : Option Addr} {xsl1 : Array (Option Value)} {xoc1 xdc1 xpm1 xcd1 xct1 : Value}
    (a1 : PySem.W.nsIn K mainGlobals "check_range" = some (some (.ref f1)))
    (l1 : K.lookup f1 = some ⟨oc1, od1, .func (PySem.W.fnOf "check_range" "check_range" (defArgs s_check_range) (defBody s_check_range) (defScope s_check_range) .none kV1 dc1 pm1 an1 cd1 ct1), sl1⟩)
    (c1 : PySem.W.codeIn K cd1 "check_range" = true)
    (k1 : PySem.W.keepIn K (.ref f1) = true)
    (a2 : PySem.W.nsIn K mainGlobals "_check_cell" = some (some (.ref f2)))
    (l2 : K.lookup f2 = some ⟨oc2, od2, .func (PySem.W.fnOf "_check_cell" "_check_cell" (defArgs s__check_cell) (defBody s__check_cell) (defScope s__check_cell) .none kV2 dc2 pm2 an2 cd2 ct2), sl2⟩)
    (c2 : PySem.W.codeIn K cd2 "_check_cell" = true)
    (k2 : PySem.W.keepIn K (.ref f2) = true)
    (a3 : PySem.W.nsIn K mainGlobals "group_of" = some (some (.ref f3)))
    (l3 : K.lookup f3 = some ⟨oc3, od3, .func (PySem.W.fnOf "group_of" "group_of" (defArgs s_group_of) (defBody s_group_of) (defScope s_group_of) .none kV3 dc3 pm3 an3 cd3 ct3), sl3⟩)
    (c3 : PySem.W.codeIn K cd3 "group_of" = true)
    (k3 : PySem.W.keepIn K (.ref f3) = true)
    (a4 : PySem.W.nsIn K mainGlobals "_law_mixed" = some (some (.ref f4)))
    (l4 : K.lookup f4 = some ⟨oc4, od4, .func (PySem.W.fnOf "_law_mixed" "_law_mixed" (defArgs s__law_mixed) (defBody s__law_mixed) (defScope s__law_mixed) .none kV4 dc4 pm4 an4 cd4 ct4), sl4⟩)
    (c4 : PySem.W.codeIn K cd4 "_law_mixed" = true)
    (k4 : PySem.W.keepIn K (.ref f4) = true)
    (a5 : PySem.W.nsIn K mainGlobals "_law_refused" = some (some (.ref f5)))
    (l5 : K.lookup f5 = some ⟨oc5, od5, .func (PySem.W.fnOf "_law_refused" "_law_refused" (defArgs s__law_refused) (defBody s__law_refused) (defScope s__law_refused) .none kV5 dc5 pm5 an5 cd5 ct5), sl5⟩)
    (c5 : PySem.W.codeIn K cd5 "_law_refused" = true)
    (k5 : PySem.W.keepIn K (.ref f5) = true)
    (a6 : PySem.W.nsIn K mainGlobals "law" = some (some (.ref f6)))
    (l6 : K.lookup f6 = some ⟨oc6, od6, .func (PySem.W.fnOf "law" "law" (defArgs s_law) (defBody s_law) (defScope s_law) .none kV6 dc6 pm6 an6 cd6 ct6), sl6⟩)
    (c6 : PySem.W.codeIn K cd6 "law" = true)
    (k6 : PySem.W.keepIn K (.ref f6) = true)
    (z0 : PySem.W.nsIn K mainGlobals "int" = some none)
    (z1 : PySem.W.nsIn K mainGlobals "len" = some none)
    (z2 : PySem.W.nsIn K mainGlobals "range" = some none)
    (z3 : PySem.W.nsIn K mainGlobals "enumerate" = some none)
    (z4 : PySem.W.nsIn K mainGlobals "isinstance" = some none)
    (z5 : PySem.W.nsIn K mainGlobals "bool" = some none)
    (aC_OutOfRange : PySem.W.nsIn K mainGlobals "OutOfRange" = some (some (.ref C_OutOfRange)))
    (xL : K.lookup C_OutOfRange = some (excClassObj xnm xq C_OutOfRange xN xbs [.ref xM, .type "ValueError", .type "Exception", .type "BaseException", .type "object"] true xsn xsub xab xcol xdd xm0 xm1 xm2 xm3 xm5 "ValueError.__new__"))
    (xsa : PySem.W.findIn K (.ref C_OutOfRange) "__setattr__" = some (some (.builtin "object.__setattr__")))
    (xga : PySem.W.findIn K (.ref C_OutOfRange) "__getattribute__" = some (some (.builtin "BaseException.__getattribute__")))
    (xgg : PySem.W.findIn K (.ref C_OutOfRange) "__getattr__" = some none)
    (xnb : PySem.W.findIn K (.ref C_OutOfRange) "what" = some none)
    (xa1 : PySem.W.findIn K (.ref C_OutOfRange) "__init__" = some (some (.ref f_OutOfRange)))
    (xt1 : PySem.W.typeIn K (.ref f_OutOfRange) = some (.type "function"))
    (xl1 : K.lookup f_OutOfRange = some ⟨xoc1, xod1, .func (PySem.W.fnOf "__init__" "OutOfRange.__init__" (PySem.OorX.iA ⟨6, 17, 6, 21⟩ ⟨6, 23, 6, 27⟩) (PySem.OorX.iB ⟨7, 8, 7, 12⟩ ⟨7, 8, 7, 17⟩ ⟨7, 20, 7, 24⟩ ⟨7, 8, 7, 24⟩) PySem.OorX.iS .none .none xdc1 xpm1 xan1 xcd1 xct1), xsl1⟩)
    (xc1 : PySem.W.codeIn K xcd1 "OutOfRange.__init__" = true)
    (xkC : PySem.W.keepIn K (.ref C_OutOfRange) = true)
    (xeC : PySem.W.subIn K (.ref C_OutOfRange) (.type "BaseException") = some true)
    (xtC : PySem.W.typeIn K (.ref C_OutOfRange) = some (.type "type"))
    (xhC : PySem.W.hasDictIn K C_OutOfRange = true)
    (xiC : PySem.W.isClsIn K C_OutOfRange = true)
    (xsC : PySem.W.subIn K (.ref C_OutOfRange) (.ref C_OutOfRange) = some true) :
    ∃ fd : FuncData, (∀ (s : Shared) (v : Value), BindsTo s fd ⟨[v], []⟩ [("script", v)]) ∧ ∀ base : Heap, K.In base → base.Ns mainGlobals mg → FnOk l.prog w K mg base CX0 5 fa fd ["script"] (sp_law K) := by
  have e := hfa.symm.trans (PySem.W.mg_of X G a6)
  cases e
  have B : BI mg := ⟨PySem.W.mg_none_of X G z0, PySem.W.mg_none_of X G z1, PySem.W.mg_none_of X G z2, PySem.W.mg_none_of X G z3, PySem.W.mg_none_of X G z4, PySem.W.mg_none_of X G z5⟩
  have X_OutOfRange : PySem.OorX.OorTxt K mg C_OutOfRange f_OutOfRange := { gC := PySem.W.mg_of X G aC_OutOfRange, cls := ⟨xnm, xq, xN, xbs, _, xsn, xsub, xab, xcol, xdd, xm0, xm1, xm2, xm3, xm5, xL, rfl⟩, sa := xsa, ga := xga, gg := xgg, noN := xnb, iC := xa1, tC := xt1, kC := xkC, exC := xeC, tyC := xtC, hdC := xhC, te := exm_self xeC xiC xtC xsC, fn := ⟨_, _, _, _, _, _, _, _, _, _, _, _, _, _, xl1, xc1⟩ }
  refine ⟨PySem.W.fnOf "law" "law" (defArgs s_law) (defBody s_law) (defScope s_law) .none kV6 dc6 pm6 an6 cd6 ct6, fun s v => .of_eq rfl, fun base _ _ => ?_⟩
  have F1 := fun_mk (st := s_check_range) l1 c1 k1
  have C1 : Cal l.prog w K mg base (L2.CX l.prog w) 1 "check_range" f1 _ ["number", "least", "most", "what"] (sp_check_range K C_OutOfRange) := ⟨ok_check_range F1 B  X_OutOfRange , F1.binds (ps := ["number", "least", "most", "what"]) fun _ _ _ _ _ _ us hl => match us, hl with | [_, _, _, _], _ => rfl, PySem.W.mg_of X G a1, k1⟩
  have F2 := fun_mk (st := s__check_cell) l2 c2 k2
  have C2 : Cal l.prog w K mg base (L2.CX l.prog w) 2 "_check_cell" f2 _ ["blocks", "turns"] (sp__check_cell K C_OutOfRange) := ⟨ok__check_cell F2 B   C1, F2.binds (ps := ["blocks", "turns"]) fun _ _ _ _ _ _ us hl => match us, hl with | [_, _], _ => rfl, PySem.W.mg_of X G a2, k2⟩
  have F3 := fun_mk (st := s_group_of) l3 c3 k3
  have C3 : Cal l.prog w K mg base (L2.CX l.prog w) 3 "group_of" f3 _ ["digits", "blocks", "turns"] (sp_group_of K C_OutOfRange) := ⟨ok_group_of F3 B   C2, F3.binds (ps := ["digits", "blocks", "turns"]) fun _ _ _ _ _ _ us hl => match us, hl with | [_, _, _], _ => rfl, PySem.W.mg_of X G a3, k3⟩
  have F4 := fun_mk (st := s__law_mixed) l4 c4 k4
  have C4 : Cal l.prog w K mg base CX0 1 "_law_mixed" f4 _ ["cell", "turn"] (sp__law_mixed K) := ⟨ok__law_mixed F4 B   , F4.binds (ps := ["cell", "turn"]) fun _ _ _ _ _ _ us hl => match us, hl with | [_, _], _ => rfl, PySem.W.mg_of X G a4, k4⟩
  have F5 := fun_mk (st := s__law_refused) l5 c5 k5
  have C5 : Cal l.prog w K mg base CX0 4 "_law_refused" f5 _ ["blocks", "turns"] (sp__law_refused K C_OutOfRange) := ⟨ok__law_refused F5 B  X_OutOfRange C3, F5.binds (ps := ["blocks", "turns"]) fun _ _ _ _ _ _ us hl => match us, hl with | [_, _], _ => rfl, PySem.W.mg_of X G a5, k5⟩
  have F6 := fun_mk (st := s_law) l6 c6 k6
  exact ok_law F6 B   C5 C4 C3
end Own
open PySem PySem.W PyProof.Rows
set_option pp.maxSteps 300 in
set_option maxHeartbeats 0 in
theorem PySem.Challenge.cw_mobileair_k20_groups_of_digits_holds : PySem.Challenge.rw_mobileair_k20_groups_of_digits.Holds := by
  w_on; o_law; k_head; (case hw => w_witness2)
  k_fill
  refine L2.walk_of (l := PySem.Challenge.rw_mobileair_k20_groups_of_digits) (n := 63) (k := 5) (x := "script") (CX := fun _ => L2.CX0) (sp := fun w => Own.sp_law _) rfl (by decide) rfl ⟨rfl, by decide, by decide⟩ (fun w h Y => PySem.W.kIn_of Y) ?F (fun _ _ a ns hl _ hS => ⟨a, ns, rfl, hS, hl, fun _ => rfl⟩) (fun _ _ _ _ _ h => h)
  case F =>
    intro w mg fa h KX G hmg
    refine' Own.all_mk KX G hmg ?a1 ?l1 ?c1 ?k1 ?a2 ?l2 ?c2 ?k2 ?a3 ?l3 ?c3 ?k3 ?a4 ?l4 ?c4 ?k4 ?a5 ?l5 ?c5 ?k5 ?a6 ?l6 ?c6 ?k6 ?z0 ?z1 ?z2 ?z3 ?z4 ?z5 ?aC_OutOfRange ?xL ?xsa ?xga ?xgg ?xnb ?xa1 ?xt1 ?xl1 ?xc1 ?xkC ?xeC ?xtC ?xhC ?xiC ?xsC
    (case a1 => k_is); (case l1 => k_is); (case c1 => k_is); (case k1 => k_is); (case a2 => k_is); (case l2 => k_is); (case c2 => k_is); (case k2 => k_is); (case a3 => k_is); (case l3 => k_is); (case c3 => k_is); (case k3 => k_is); (case a4 => k_is); (case l4 => k_is); (case c4 => k_is); (case k4 => k_is); (case a5 => k_is); (case l5 => k_is); (case c5 => k_is); (case k5 => k_is); (case a6 => k_is); (case l6 => k_is); (case c6 => k_is); (case k6 => k_is); (case z0 => k_is); (case z1 => k_is); (case z2 => k_is); (case z3 => k_is); (case z4 => k_is); (case z5 => k_is); (case aC_OutOfRange => k_is); (case xL => k_is); (case xsa => k_is); (case xga => k_is); (case xgg => k_is); (case xnb => k_is); (case xa1 => k_is); (case xt1 => k_is); (case xl1 => k_is); (case xc1 => k_is); (case xkC => k_is); (case xeC => k_is); (case xtC => k_is); (case xhC => k_is); (case xiC => k_is); (case xsC => first | rfl | k_is)
