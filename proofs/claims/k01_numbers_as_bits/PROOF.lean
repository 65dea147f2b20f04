import PyProof.Rows.All
import Wide.All
import OpenK.AllK
import Wide.FinOn
import HandS.ForMost
import HandS.ForExc
import HandS.IsInst
import HandS.WideBits
import HandS.Walk
import HandS.EndBits
import HandS.Style
import HandS.Text
import PySem.Challenge.RW_mobileair_k01_numbers_as_bits
set_option Elab.async false
set_option linter.all false
set_option maxRecDepth 100000
set_option maxHeartbeats 4000000
namespace Own
open PySem PySem.Spec PyProof.Rows L2

/-- a def of the text that others call: its promise, how it binds, where its name stands -/
structure Cal (P : Program) (w : World) (K : PySem.W.Frag) (mg : Str → Option Value) (base : Heap) (CX : CXT) (k : Nat) (x : Str) (f : Addr) (fd : FuncData) (ps : List Str) (sp : Sp) : Prop where
  ok : FnOk P w K mg base CX k f fd ps sp
  b : Binds K fd ps []
  g : mg x = some (.ref f)
  kp : PySem.W.keepIn K (.ref f) = true

theorem same_upd {H : Hp} {p : Addr} {o : HO} (h : H p = none) : Same H (upd H p o) := fun b x e => by
  rw [upd_ne (ne_of_none e h)]
  exact e
theorem same_upd_of {H0 H : Hp} {p : Addr} {o : HO} (h : Same H0 H) (hp : H0 p = none) : Same H0 (upd H p o) := fun b x e => by
  rw [upd_ne (ne_of_none e hp)]
  exact h b x e
theorem upd_get_ne {H : Hp} {p q : Addr} {o u : HO} (hp : H p = none) (hq : H q = some u) : upd H p o q = some u := by
  rw [upd_ne (ne_of_none hq hp)]
  exact hq

/-- a bit as an int, as a value -/
def b2 (b : Bool) : Int := match b with
  | true => 1
  | false => 0
def vb (b : Bool) : V := .int (b2 b)
theorem b2_t : b2 true = 1 := rfl
theorem b2_f : b2 false = 0 := rfl
theorem b2_01 (b : Bool) : b2 b = 0 ∨ b2 b = 1 := by cases b <;> simp [b2]
theorem b2_nn (b : Bool) : 0 ≤ b2 b := by cases b <;> simp [b2]
theorem b2_le (b : Bool) : b2 b ≤ 1 := by cases b <;> simp [b2]
theorem b2_inj {a b : Bool} (h : b2 a = b2 b) : a = b := by cases a <;> cases b <;> simp [b2] at h <;> rfl
theorem b2_xor (a b : Bool) : Builtin.bitXor (b2 a) (b2 b) = b2 (a ^^ b) := by cases a <;> cases b <;> decide +kernel
theorem b2_mod2 (a b : Bool) : (b2 a + b2 b) % 2 = b2 (a ^^ b) := by cases a <;> cases b <;> decide +kernel
theorem b2_mod3 (a b c : Bool) : (b2 a + b2 b + b2 c) % 2 = b2 (a ^^ b ^^ c) := by cases a <;> cases b <;> cases c <;> decide +kernel
theorem b2_mod4 (a b c d : Bool) : (b2 a + b2 b + b2 c + b2 d) % 2 = b2 (a ^^ b ^^ c ^^ d) := by cases a <;> cases b <;> cases c <;> cases d <;> decide +kernel
theorem b2_flip (a : Bool) : 1 - b2 a = b2 (!a) := by cases a <;> decide +kernel
theorem b2_odd (n : Int) : n % 2 = b2 (decide (n % 2 = 1)) := by
  by_cases h : n % 2 = 1
  · rw [decide_eq_true h, h]; rfl
  · have h2 : n % 2 = 0 := by omega
    rw [h2]; rfl

/-- data of lists of ints, of bits -/
theorem dp_ints {K : PySem.W.Frag} {H : Hp} : ∀ ns : List Int, DpAll K H (ns.map V.int) (ns.map PyData.int)
  | [] => .nil
  | n :: r => .cons (.int n) (dp_ints r)
theorem dp_list {K : PySem.W.Frag} {H : Hp} {a : Addr} {ns : List Int} (h : SqL K H a (ns.map V.int)) : Dp K H (.ref a) (.list (ns.map PyData.int)) := .lst h (dp_ints ns)
theorem dp_tup {K : PySem.W.Frag} {H : Hp} {a : Addr} {ns : List Int} (h : SqT K H a (ns.map V.int)) : Dp K H (.ref a) (.tuple (ns.map PyData.int)) := .tup h (dp_ints ns)
theorem map_vb (bs : List Bool) : bs.map vb = (bs.map b2).map V.int := by
  rw [List.map_map]; rfl
end Own

namespace Own
open PySem PySem.Spec PyProof.Rows L2
/-! ### places where the reading stops: a new object, a call, a loop, a comprehension (simp does not look behind them) -/
def Fx {α : Type} (_ : α) : Type := Unit
def fx {α : Type} {a : α} : Fx a := ()
def New (H : Hp) (o : HO) (Q : VK) (_ : Fx Q) : Prop := ∀ p, H p = none → Q (.ref p) (upd H p o)
theorem new_of {H : Hp} {o : HO} {Q : VK} (h : ∀ p H1, H p = none → Same H H1 → H1 p = some o → Q (.ref p) H1) {z : Fx Q} : New H o Q z := fun p np => h p _ np (same_upd np) upd_same
theorem new_ex {H : Hp} {o : HO} {Q : VK} (h : ∀ p, H p = none → Q (.ref p) (upd H p o)) : New H o Q fx := h
def CallTo (sp : Sp) (vs : List V) (H : Hp) (Q : VK) (E : XK) (_ : Fx (sp, Q, E)) : Prop := sp vs H Q E
theorem call_to {sp : Sp} {vs : List V} {H : Hp} {Q : VK} {E : XK} {z : Fx (sp, Q, E)} (h : sp vs H Q E) : CallTo sp vs H Q E z := h
/-- a loop, what is left of it behind its walk's own reading -/
def Loop (J : It) (g : TG) (tb : TS) (D : Ends) (σ : L2.St) (H : Hp) (_ : Fx (g, tb, D)) : Prop := ∃ W : Nat → Nat → L2.St → Hp → Prop, (∃ m, W 0 m σ H) ∧ ∀ i m σ H, W i m σ H →
  (J.stop i H ∧ D.nx σ H) ∨ (J.go i H ∧ ∃ N : L2.St → Hp → Prop, (∀ σ' H', N σ' H' → ∃ m', m' < m ∧ W (i + 1) m' σ' H') ∧ ∀ x H', J.yld i H x H' → g x σ H' fun σ2 H2 => tb { D with nx := N, ct := N, bk := D.nx } σ2 H2)
/-- a comprehension's rest -/
def LcLoop (J : It) (g : TG) (tt : TT) (te : TE) (vs : List Nat) (σ : L2.St) (H1 : Hp) (D : Addr) (Qd : Hp → Prop) : Prop := ∃ W : Nat → Nat → Hp → Prop, (∃ m, W 0 m (upd H1 D (.lst []))) ∧ ∀ i m H, W i m H →
  (J.stop i H ∧ Qd H) ∨ (J.go i H ∧ ∃ Nx : Hp → Prop, (∀ H', Nx H' → ∃ m', m' < m ∧ W (i + 1) m' H') ∧ ∀ x H', J.yld i H x H' → g x (wipe σ vs) H' fun σ2 H2 => wipe σ2 vs = wipe σ vs ∧ tt σ2 H2 fun b H3 =>
    if b = true then te σ2 H3 fun y H4 => ∃ acc, H4 D = some (.lst acc) ∧ acc.length < sizeLine ∧ Nx (upd H4 D (.lst (acc ++ [y]))) else Nx H3)
def LcNew (J : It) (g : TG) (tt : TT) (te : TE) (vs : List Nat) (σ : L2.St) (H1 : Hp) (Q : VK) (_ : Fx (g, tt, te, Q)) : Prop := ∀ D, H1 D = none → LcLoop J g tt te vs σ H1 D (Q (.ref D))
section
variable {t u : TS} {te ta tb tc : TE} {tt tu : TT} {g : TG} {D : Ends} {σ : L2.St} {H : Hp} {Q : VK} {K : PySem.W.Frag} {x y : V} {r r' : R2}
theorem e_seq : tSeq t u D σ H = t { D with nx := u D } σ H := rfl
theorem e_asg : tAsg te g D σ H = te σ H fun x H1 => g x σ H1 D.nx := rfl
theorem e_gName {i : Nat} {v : V} {Q : L2.St → Hp → Prop} : gName i v σ H Q = Q (σ.set i (some v)) H := rfl
theorem e_var {i : Nat} : tVar i σ H Q = ∃ v, σ[i]? = some (some v) ∧ Q v H := rfl
theorem e_C {v : V} : tC v σ H Q = Q v H := rfl
theorem e_op : tOp r ta tb σ H Q = ta σ H fun x H1 => tb σ H1 fun y H2 => r x y H2 Q := rfl
theorem e_un {r : V → Hp → VK → Prop} : tUn r ta σ H Q = ta σ H fun x H1 => r x H1 Q := rfl
theorem e_rI {C : Int → Int → Prop} {g : Int → Int → V} : rI C g x y H Q = ∃ i j, x = .int i ∧ y = .int j ∧ C i j ∧ Q (g i j) H := rfl
theorem e_rI0 {g : Int → Int → V} : rI0 g x y H Q = ∃ i j, x = .int i ∧ y = .int j ∧ Q (g i j) H := rfl
theorem e_rU {g : Int → V} : rU g x H Q = ∃ i, x = .int i ∧ Q (g i) H := rfl
theorem e_CMul {i j : Int} : CMul i j = ((-(2 ^ 64) < i ∧ i < 2 ^ 64) ∨ (-(2 ^ 64) < j ∧ j < 2 ^ 64)) := rfl
theorem e_CDiv {i j : Int} : CDiv i j = (0 < j ∧ j < 1073741824) := rfl
theorem e_CPow {i j : Int} : CPow i j = (0 ≤ j ∧ j ≤ 1000000 ∧ i.natAbs < 2 ^ 64) := rfl
theorem e_rEq : rEq x y H Q = (scal x y = true ∧ Q (.bl (decide (x = y))) H) := rfl
theorem e_rNe : rNe x y H Q = (scal x y = true ∧ Q (.bl (!decide (x = y))) H) := rfl
theorem e_scal_int {i j : Int} : (scal (.int i) (.int j) = true) = True := by rw [show scal (.int i) (.int j) = true from rfl]; exact eq_self true
theorem e_scal_str {i j : Str} : (scal (.str i) (.str j) = true) = True := by rw [show scal (.str i) (.str j) = true from rfl]; exact eq_self true
theorem e_scal_bl {i j : Bool} : (scal (.bl i) (.bl j) = true) = True := by rw [show scal (.bl i) (.bl j) = true from rfl]; exact eq_self true
theorem e_ifS {c : TT} : tIfS c t u D σ H = c σ H fun b H1 => if b = true then t D σ H1 else u D σ H1 := rfl
theorem e_test {Q : Bool → Hp → Prop} : tTest te σ H Q = te σ H fun x H' => ∃ k, x = .bl k ∧ Q k H' := rfl
theorem e_tB {Q : Bool → Hp → Prop} : tB te σ H Q = te σ H fun x H' => ∃ k, x = .bl k ∧ Q k H' := rfl
theorem e_ret : tRet te D σ H = te σ H D.rt := rfl
theorem e_retN : tRetN D σ H = D.rt .non H := rfl
theorem e_next : tNext D σ H = D.nx σ H := rfl
theorem e_brk : tBreak D σ H = D.bk σ H := rfl
theorem e_cnt : tCont D σ H = D.ct σ H := rfl
theorem e_cons {tr : TA} {Q : List V → Hp → Prop} : tCons te tr σ H Q = te σ H fun x H1 => tr σ H1 fun xs H2 => Q (x :: xs) H2 := rfl
theorem e_nil {Q : List V → Hp → Prop} : tNil σ H Q = Q [] H := rfl
theorem e_lst {t : TA} : tLst t σ H Q = t σ H fun xs H1 => xs.length ≤ sizeLine ∧ New H1 (.lst xs) Q fx := rfl
theorem e_tup {t : TA} : tTup t σ H Q = t σ H fun xs H1 => xs.length ≤ sizeLine ∧ New H1 (.tup xs) Q fx := rfl
theorem e_drop : tDrop te D σ H = te σ H fun _ H1 => D.nx σ H1 := rfl
theorem e_and {Q : Bool → Hp → Prop} : tAnd tt tu σ H Q = tt σ H fun c H1 => if c = true then tu σ H1 Q else Q false H1 := rfl
theorem e_or {Q : Bool → Hp → Prop} : tOr tt tu σ H Q = tt σ H fun c H1 => if c = true then Q true H1 else tu σ H1 Q := rfl
theorem e_not {Q : Bool → Hp → Prop} : tNot tt σ H Q = tt σ H fun c H1 => Q (!c) H1 := rfl
theorem e_andV : tAndV ta tb σ H Q = ta σ H fun x H1 => ∃ c, x = .bl c ∧ if c = true then tb σ H1 Q else Q (.bl false) H1 := rfl
theorem e_orV : tOrV ta tb σ H Q = ta σ H fun x H1 => ∃ c, x = .bl c ∧ if c = true then Q (.bl true) H1 else tb σ H1 Q := rfl
theorem e_notV : tNotV ta σ H Q = ta σ H fun x H1 => ∃ c, x = .bl c ∧ Q (.bl (!c)) H1 := rfl
theorem e_if : tIf tt ta tb σ H Q = tt σ H fun c H1 => if c = true then ta σ H1 Q else tb σ H1 Q := rfl
theorem e_chain : tChain r r' ta tb tc σ H Q = ta σ H fun x H1 => tb σ H1 fun y H2 => r x y H2 fun z H3 => ∃ k, z = .bl k ∧ (if k = true then tc σ H3 fun w' H4 => r' y w' H4 Q else Q (.bl false) H3) := rfl
theorem e_CB {rr : List V → Hp → VK → Prop} {t : TA} : tCB rr t σ H Q = t σ H fun vs H1 => rr vs H1 Q := rfl
theorem e_call {sp : Sp} {dvs : List V} {E : XK} {t : TA} : tCall sp dvs E t σ H Q = t σ H fun vs H1 => CallTo sp (vs ++ dvs) H1 Q E fx := rfl
theorem e_rIxL : rIxL K x y H Q = ∃ p xs i v, x = .ref p ∧ y = .int i ∧ SqL K H p xs ∧ atI xs i = some v ∧ Q v H := rfl
theorem e_rIxT : rIxT K x y H Q = ∃ p xs i v, x = .ref p ∧ y = .int i ∧ SqT K H p xs ∧ atI xs i = some v ∧ Q v H := rfl
theorem e_BM {T : String} {rr : V → List V → Hp → VK → Prop} {t : TA} : tBM K T rr te t σ H Q = te σ H fun x H1 => tyV K T x H1 ∧ t σ H1 fun xs H2 => rr x xs H2 Q := rfl
theorem e_BM0 {T : String} {rr : V → List V → Hp → VK → Prop} : tBM0 K T rr te σ H Q = te σ H fun x H1 => tyV K T x H1 ∧ rr x [] H1 Q := rfl
theorem e_rAppend {vs : List V} : rAppend x vs H Q = ∃ l xs y, x = .ref l ∧ vs = [y] ∧ H l = some (.lst xs) ∧ xs.length < sizeLine ∧ Q .non (upd H l (.lst (xs ++ [y]))) := rfl
theorem e_rCat : rCat x y H Q = ∃ l b xs zs, x = .ref l ∧ y = .ref b ∧ H l = some (.lst xs) ∧ H b = some (.lst zs) ∧ xs.length + zs.length ≤ sizeLine ∧ New H (.lst (xs ++ zs)) Q fx := rfl
theorem e_rRep : rRep x y H Q = ∃ l k xs, x = .ref l ∧ y = .int k ∧ H l = some (.lst xs) ∧ -(2 ^ 63) ≤ k ∧ k < 2 ^ 63 ∧ xs.length * k.toNat ≤ sizeLine ∧ New H (.lst (List.replicate k.toNat xs).flatten) Q fx := rfl
theorem e_sl {rr : V → Option Int → Option Int → Hp → VK → Prop} {tl th : TO} : tSl rr te tl th σ H Q = te σ H fun x H1 => tl σ H1 fun l H2 => th σ H2 fun u H3 => rr x l u H3 Q := rfl
theorem e_noPart {Q : Option Int → Hp → Prop} : tNoPart σ H Q = Q none H := rfl
theorem e_part {Q : Option Int → Hp → Prop} : tPart te σ H Q = te σ H fun x H1 => ∃ i, x = .int i ∧ Q (some i) H1 := rfl
theorem e_rSlL {lo hi : Option Int} : rSlL K x lo hi H Q = ∃ a xs, x = .ref a ∧ SqL K H a xs ∧ New H (.lst (cutV xs lo hi)) Q fx := rfl
theorem e_gSub {to ti : TE} {ts : TSet} {v : V} {Q : L2.St → Hp → Prop} : gSub to ti ts v σ H Q = to σ H fun o H1 => ti σ H1 fun i H2 => ts o i v H2 fun H3 => Q σ H3 := rfl
theorem e_rSetL {o i v : V} {Q : Hp → Prop} : rSetL o i v H Q = ∃ p xs k j, o = .ref p ∧ i = .int k ∧ H p = some (.lst xs) ∧ ixN xs.length k = some j ∧ Q (upd H p (.lst (xs.set j v))) := rfl
theorem e_bits : tBits te σ H Q = te σ H fun x H1 => ∃ i, x = .int i ∧ Q (.int (Builtin.Int.intBits i : Nat)) H1 := rfl
theorem e_yes {Q : Bool → Hp → Prop} : tYes σ H Q = Q true H := rfl
theorem e_gTup {n : Nat} {t : TGs} {v : V} {Q : L2.St → Hp → Prop} : gTup K n t v σ H Q = ∃ a xs, v = .ref a ∧ SqT K H a xs ∧ xs.length = n ∧ t xs σ H Q := rfl
theorem e_gNil {vs : List V} {Q : L2.St → Hp → Prop} : gNil vs σ H Q = (vs = [] ∧ Q σ H) := rfl
theorem e_gCons {t : TG} {u : TGs} {vs : List V} {Q : L2.St → Hp → Prop} : gCons t u vs σ H Q = ∃ v r, vs = v :: r ∧ t v σ H fun σ' H' => u r σ' H' Q := rfl
theorem e_aug {i : Nat} {ti : TIp} : tAug i te ti D σ H = ∃ x, σ[i]? = some (some x) ∧ te σ H fun y H1 => ti x y H1 fun z H2 => D.nx (σ.set i (some z)) H2 := rfl
theorem e_ipI {f : Int → Int → Int} : ipI f x y H Q = ∃ i j, x = .int i ∧ y = .int j ∧ Q (.int (f i j)) H := rfl
theorem e_cxK {CX : CXT} {P : Program} {w : World} {K : PySem.W.Frag} {mg : Str → Option Value} {base : Heap} {N : List Str} {q : Str} {sc : Scope} {f : Addr} {cd : Value} {A : Around} {o : List Env} {s : Shared} {H : Hp} {E : XK} : (cxOf CX P w K mg base N q sc f cd A o s H E).K = K := rfl
theorem e_wishK {X : Cx} {E : Value → Shared → Prop} : (X.wish E).K = X.K := rfl
theorem e_noxK {X : Cx} : X.nox.K = X.K := rfl
theorem e_for {wi : TI} {tb : TS} : tFor wi g tb D σ H = wi σ H fun J H1 => Loop J g tb D σ H1 fx := rfl
theorem e_lc {wi : TI} {vs : List Nat} : tLc wi g tt te vs σ H Q = wi σ H fun J H1 => LcNew J g tt te vs σ H1 Q fx := rfl
theorem e_iList {R : It → Hp → Prop} : iList K te σ H R = te σ H fun x H1 => ∃ a, x = .ref a ∧ (∃ xs, SqL K H1 a xs) ∧ R (Itl K a) H1 := rfl
theorem e_iTup {R : It → Hp → Prop} : iTup K te σ H R = te σ H fun x H1 => ∃ a, x = .ref a ∧ (∃ xs, SqT K H1 a xs) ∧ R (Itt K a) H1 := rfl
theorem e_iRng1 {t : TA} {R : It → Hp → Prop} : iRng1 t σ H R = t σ H fun vs H1 => ∃ j : Int, vs = [.int j] ∧ -(2 ^ 62) ≤ j ∧ j < 2 ^ 62 ∧ R (Itr 0 j.toNat) H1 := rfl
theorem e_iRng2 {t : TA} {R : It → Hp → Prop} : iRng2 t σ H R = t σ H fun vs H1 => ∃ i j : Int, vs = [.int i, .int j] ∧ (-(2 ^ 62) ≤ i ∧ i < 2 ^ 62 ∧ -(2 ^ 62) ≤ j ∧ j < 2 ^ 62) ∧ R (Itr i (j - i).toNat) H1 := rfl
theorem e_iEnum {t : TA} {R : It → Hp → Prop} : iEnum K t σ H R = t σ H fun vs H1 => ∃ a xs, vs = [.ref a] ∧ SqL K H1 a xs ∧ R (Ite K a) H1 := rfl
theorem e_iZip {t : TA} {R : It → Hp → Prop} : iZip K t σ H R = t σ H fun vs H1 => ∃ a b xs ys, vs = [.ref a, .ref b] ∧ SqL K H1 a xs ∧ SqL K H1 b ys ∧ R (Itz K a b) H1 := rfl
end
/-- a loop's word at a turn (simp leaves the word itself alone) -/
def At (Pv : Nat → L2.St → Hp → Prop) (i : Nat) (σ : L2.St) (H : Hp) (_ : Fx Pv) : Prop := Pv i σ H
theorem at_is {Pv : Nat → L2.St → Hp → Prop} {i : Nat} {σ : L2.St} {H : Hp} {z : Fx Pv} (h : Pv i σ H) : At Pv i σ H z := h
theorem loop_it {J : It} {n : Nat} {G : Hp → Prop} {Y : Nat → Hp → V → Hp → Prop} (w : Walk J n G Y) {g : TG} {tb : TS} {D : Ends} {σ : L2.St} {H : Hp} (Pv : Nat → L2.St → Hp → Prop) (h0 : Pv 0 σ H) (hG : ∀ i σ H, i ≤ n → Pv i σ H → G H)
    (hs : ∀ i x σ H H', i < n → Pv i σ H → Y i H x H' → g x σ H' fun σ2 H2 => tb { D with nx := fun σ H => At Pv (i + 1) σ H fx, ct := fun σ H => At Pv (i + 1) σ H fx, bk := D.nx } σ2 H2) (hd : ∀ σ H, Pv n σ H → D.nx σ H) {z : Fx (g, tb, D)} : Loop J g tb D σ H z := for_it w Pv h0 hG hs hd
/-- the list at D so far: l i; what stood ahead stands -/
def LcP (H1 : Hp) (D : Addr) (l : Nat → List V) (i : Nat) (H : Hp) : Prop := Same H1 H ∧ H D = some (.lst (l i))
theorem lcl_it {J : It} {n : Nat} {G : Hp → Prop} {Y : Nat → Hp → V → Hp → Prop} (w : Walk J n G Y) {g : TG} {tt : TT} {te : TE} {vs : List Nat} {σ : L2.St} {H1 : Hp} {D : Addr} {Qd : Hp → Prop} (hD : H1 D = none) (l : Nat → List V) (h0 : l 0 = []) (hG : ∀ H, Same H1 H → G H)
    (hs : ∀ i x H H', i < n → LcP H1 D l i H → Y i H x H' → g x (wipe σ vs) H' fun σ2 H2 => wipe σ2 vs = wipe σ vs ∧ tt σ2 H2 fun b H3 =>
      if b = true then te σ2 H3 fun y H4 => ∃ acc, H4 D = some (.lst acc) ∧ acc.length < sizeLine ∧ LcP H1 D l (i + 1) (upd H4 D (.lst (acc ++ [y]))) else LcP H1 D l (i + 1) H3)
    (hd : ∀ H, Same H1 H → H D = some (.lst (l n)) → Qd H) : LcLoop J g tt te vs σ H1 D Qd :=
  lc_it w (LcP H1 D l) ⟨same_upd hD, by rw [upd_same, h0]⟩ (fun _ H _ p => hG H p.1) hs fun H p => hd H p.1 p.2
theorem lc_app {H1 H H4 : Hp} {D : Addr} {l : Nat → List V} {i : Nat} {y : V} (hD : H1 D = none) (p : LcP H1 D l i H) (sm : Same H H4) (hl : l (i + 1) = l i ++ [y]) (hz : (l i).length < sizeLine) :
    ∃ acc, H4 D = some (.lst acc) ∧ acc.length < sizeLine ∧ LcP H1 D l (i + 1) (upd H4 D (.lst (acc ++ [y]))) :=
  ⟨l i, sm _ _ p.2, hz, same_upd_of (p.1.trans sm) hD, by rw [upd_same, hl]⟩
theorem lc_skip {H1 H H3 : Hp} {D : Addr} {l : Nat → List V} {i : Nat} (p : LcP H1 D l i H) (sm : Same H H3) (hl : l (i + 1) = l i) : LcP H1 D l (i + 1) H3 :=
  ⟨p.1.trans sm, by rw [hl]; exact sm _ _ p.2⟩
theorem ty_list {K : PySem.W.Frag} {H : Hp} {a : Addr} {xs : List V} (h : H a = some (.lst xs)) : tyV K "list" (.ref a) H := .inl ⟨rfl, _, .inl (.inl h)⟩
theorem r_append {K : PySem.W.Frag} {H : Hp} {l : Addr} {xs : List V} {y : V} {Q : VK} (h : H l = some (.lst xs)) (hz : xs.length < sizeLine) (q : Q .non (upd H l (.lst (xs ++ [y])))) : tyV K "list" (.ref l) H ∧ rAppend (.ref l) [y] H Q :=
  ⟨ty_list h, l, xs, y, rfl, rfl, h, hz, q⟩
theorem atI_in {α : Type} {xs : List α} {z : Int} {v : α} (h0 : 0 ≤ z) (h : xs[z.toNat]? = some v) : atI xs z = some v := by
  have e := atI_nat h
  rw [Int.toNat_of_nonneg h0] at e
  exact e

/-! ### equal lists of ints -/
theorem eqvAll_ints : ∀ ns ms : List Int, PyData.eqvAll (ns.map PyData.int) (ms.map PyData.int) = decide (ns = ms)
  | [], [] => by simp [PyData.eqvAll]
  | [], m :: r => by simp [PyData.eqvAll]
  | n :: r, [] => by simp [PyData.eqvAll]
  | n :: r, m :: q => by
    simp only [List.map_cons, PyData.eqvAll, PyData.eqv, eqvAll_ints r q, List.cons.injEq]
    by_cases h1 : n = m <;> by_cases h2 : r = q <;> simp [h1, h2]
theorem canLay_ints : ∀ ns : List Int, PyData.canLayAll0 (ns.map PyData.int) = true
  | [] => by simp [PyData.canLayAll0]
  | n :: r => by simp [PyData.canLayAll0, PyData.canLay0, canLay_ints r]
theorem depth_ints : ∀ ns : List Int, PyData.depthAll (ns.map PyData.int) ≤ 1
  | [] => by simp [PyData.depthAll]
  | n :: r => by
    have ih := depth_ints r
    simp only [List.map_cons, PyData.depthAll, PyData.depth]
    omega
theorem shaped_ints (ns : List Int) : SeqAt.shaped (.list (ns.map PyData.int)) = true := by
  have h := depth_ints ns
  unfold SeqAt.shaped
  rw [Bool.and_eq_true]
  refine ⟨by simp only [PyData.canLay0]; exact canLay_ints ns, decide_eq_true ?_⟩
  simp only [PyData.depth]
  omega
theorem shaped_intsT (ns : List Int) : SeqAt.shaped (.tuple (ns.map PyData.int)) = true := by
  have h := depth_ints ns
  unfold SeqAt.shaped
  rw [Bool.and_eq_true]
  refine ⟨by simp only [PyData.canLay0]; exact canLay_ints ns, decide_eq_true ?_⟩
  simp only [PyData.depth]
  omega
section
variable {K : PySem.W.Frag} {H : Hp} {a b : Addr} {ns ms : List Int} {Q : VK}
theorem r_ne_list (ha : SqL K H a (ns.map V.int)) (hb : SqL K H b (ms.map V.int)) (q : Q (.bl (!decide (ns = ms))) H) : rNeD K (.ref a) (.ref b) H Q := by
  refine ⟨_, _, dp_list ha, dp_list hb, shaped_ints _, shaped_ints _, ?_⟩
  rw [PyData.eqv, eqvAll_ints]
  exact q
theorem r_eq_list (ha : SqL K H a (ns.map V.int)) (hb : SqL K H b (ms.map V.int)) (q : Q (.bl (decide (ns = ms))) H) : rEqD K (.ref a) (.ref b) H Q := by
  refine ⟨_, _, dp_list ha, dp_list hb, shaped_ints _, shaped_ints _, ?_⟩
  rw [PyData.eqv, eqvAll_ints]
  exact q
theorem r_ne_tup (ha : SqT K H a (ns.map V.int)) (hb : SqT K H b (ms.map V.int)) (q : Q (.bl (!decide (ns = ms))) H) : rNeD K (.ref a) (.ref b) H Q := by
  refine ⟨_, _, dp_tup ha, dp_tup hb, shaped_intsT _, shaped_intsT _, ?_⟩
  rw [PyData.eqv, eqvAll_ints]
  exact q
/-- isinstance of an int, a list, a tuple -/
theorem r_isi {x : V} {t u : String} {b : Bool} (ty : TyX K H x (.type t)) (e : kitB t u = some b) (q : Q (.bl b) H) : rIsi K [x, .ty u] H Q := ⟨x, .ty u, .type t, .type u, b, rfl, .ty u, ty, kit_ty e, q⟩
end
end Own

namespace Own
open PySem PySem.Spec PyProof.Rows L2
/-! ### rules for what is tracked: the premise is an equation of the heap -/
def ivs (l : List Int) : List V := l.map V.int
def bz (u : List Bool) : List Int := u.map b2
theorem vint_inj {a b : Int} (h : V.int a = V.int b) : a = b := V.int.inj h
theorem map_inj_of {α β : Type} {f : α → β} (hf : ∀ a b, f a = f b → a = b) : ∀ {l m : List α}, l.map f = m.map f → l = m
  | [], [], _ => rfl
  | [], _ :: _, h => by simp at h
  | _ :: _, [], h => by simp at h
  | a :: l, b :: m, h => by
    simp only [List.map_cons, List.cons.injEq] at h
    rw [hf _ _ h.1, map_inj_of hf h.2]
theorem ivs_inj {a b : List Int} : (ivs a = ivs b) = (a = b) := propext ⟨fun h => map_inj_of (fun _ _ => vint_inj) h, fun h => by rw [h]⟩
theorem bz_inj {a b : List Bool} : (bz a = bz b) = (a = b) := propext ⟨fun h => map_inj_of (fun _ _ => b2_inj) h, fun h => by rw [h]⟩
theorem ivs_len {l : List Int} : (ivs l).length = l.length := List.length_map ..
theorem bz_len {u : List Bool} : (bz u).length = u.length := List.length_map ..
theorem ivs_app {a b : List Int} : ivs a ++ ivs b = ivs (a ++ b) := (List.map_append ..).symm
theorem bz_app {a b : List Bool} : bz a ++ bz b = bz (a ++ b) := (List.map_append (f := b2) ..).symm
theorem ivs_snoc {a : List Int} {z : Int} : ivs a ++ [V.int z] = ivs (a ++ [z]) := (List.map_append (f := V.int) (l₂ := [z])).symm
theorem bz_snoc {a : List Bool} {b : Bool} : bz a ++ [b2 b] = bz (a ++ [b]) := (List.map_append (f := b2) (l₂ := [b])).symm
theorem ivs_get {l : List Int} {i : Nat} : (ivs l)[i]? = (l[i]?).map V.int := List.getElem?_map ..
theorem bz_get {u : List Bool} {i : Nat} : (bz u)[i]? = (u[i]?).map b2 := List.getElem?_map ..
theorem atI_ints {l : List Int} {i : Int} : atI (ivs l) i = (atI l i).map V.int := by
  unfold atI ivs
  rw [List.length_map]
  cases ixN l.length i with
  | none => rfl
  | some j => exact List.getElem?_map ..
theorem atI_bz {u : List Bool} {i : Int} : atI (bz u) i = (atI u i).map b2 := by
  unfold atI bz
  rw [List.length_map]
  cases ixN u.length i with
  | none => rfl
  | some j => exact List.getElem?_map ..
theorem atI_at {α : Type} {l : List α} {i : Int} (h0 : 0 ≤ i) : atI l i = l[i.toNat]? := by
  unfold atI ixN
  rw [if_pos h0]
  by_cases h : i < l.length
  · rw [if_pos h]; rfl
  · rw [if_neg h]
    exact (List.getElem?_eq_none (by omega)).symm
theorem ivs_take {l : List Int} {n : Nat} : (ivs l).take n = ivs (l.take n) := (List.map_take ..).symm
theorem ivs_drop {l : List Int} {n : Nat} : (ivs l).drop n = ivs (l.drop n) := (List.map_drop ..).symm
theorem ivs_set {l : List Int} {n : Nat} {z : Int} : (ivs l).set n (.int z) = ivs (l.set n z) := (List.map_set ..).symm
theorem ivs_nil : ivs [] = [] := rfl
theorem ivs_cons {z : Int} {l : List Int} : ivs (z :: l) = .int z :: ivs l := rfl
theorem bz_nil : bz [] = [] := rfl
theorem bz_cons {b : Bool} {l : List Bool} : bz (b :: l) = b2 b :: bz l := rfl
def isLst : Option HO → Bool
  | some (.lst _) => true
  | _ => false
theorem isLst_some {xs : List V} : isLst (some (.lst xs)) = true := rfl
theorem ty_lst {K : PySem.W.Frag} {H : Hp} {p : Addr} (h : isLst (H p) = true) : tyV K "list" (.ref p) H = True := by
  cases e : H p with
  | none => rw [e] at h; cases h
  | some o =>
    cases o with
    | lst xs => exact eq_true (ty_list e)
    | _ => rw [e] at h; cases h
theorem upd_old {H : Hp} {p q : Addr} {o : HO} (hp : H p = none) (hq : (H q).isSome = true) : upd H p o q = H q :=
  upd_ne fun e => by rw [e, hp] at hq; cases hq
theorem upd_none {H : Hp} {p q : Addr} {o : HO} (h : upd H p o q = none) : q ≠ p ∧ H q = none := by
  have ne : q ≠ p := fun e => by rw [e, upd_same] at h; cases h
  exact ⟨ne, by rw [upd_ne ne] at h; exact h⟩
/-- an object changed: the heap behind it by a letter -/
theorem chg_of {H H0 : Hp} {p : Addr} {o : HO} {Q : Hp → Prop} (np : H0 p = none) (sm : Same H0 H) (h : ∀ H1, Same H0 H1 → (∀ q, q ≠ p → H1 q = H q) → H1 p = some o → Q H1) : Q (upd H p o) := h _ (same_upd_of sm np) (fun _ h => upd_ne h) upd_same
section
variable {X : Cx}
def rIxK : R2 := fun x y H Q => ∃ p xs i v, x = .ref p ∧ y = .int i ∧ H p = some (.lst xs) ∧ atI xs i = some v ∧ Q v H
theorem ixk_list : IxR X rIxK := fun value slice pins s σ H x y v u Q I rx ry h => ix_list value slice pins s σ H x y v u Q I rx ry (by
  obtain ⟨p, xs, i, v', e1, e2, hp, ha, q⟩ := h
  exact ⟨p, xs, i, v', e1, e2, .of hp, ha, q⟩)
def rIxKT : R2 := fun x y H Q => ∃ p xs i v, x = .ref p ∧ y = .int i ∧ H p = some (.tup xs) ∧ atI xs i = some v ∧ Q v H
theorem ixk_tup : IxR X rIxKT := fun value slice pins s σ H x y v u Q I rx ry h => ix_tup value slice pins s σ H x y v u Q I rx ry (by
  obtain ⟨p, xs, i, v', e1, e2, hp, ha, q⟩ := h
  exact ⟨p, xs, i, v', e1, e2, .of hp, ha, q⟩)
def rSlK : V → Option Int → Option Int → Hp → VK → Prop := fun x lo hi H Q => ∃ a xs, x = .ref a ∧ H a = some (.lst xs) ∧ ∀ p, H p = none → Q (.ref p) (upd H p (.lst (cutV xs lo hi)))
theorem slk_list : SlR X rSlK := fun pins s σ H x v vl vu lo hi sl Q I rx hs pl pu h => sl_list pins s σ H x v vl vu lo hi sl Q I rx hs pl pu (by
  obtain ⟨a, xs, e, hp, q⟩ := h
  exact ⟨a, xs, e, .of hp, q⟩)
def rLenK : List V → Hp → VK → Prop := fun vs H Q => ∃ p ys, vs = [.ref p] ∧ H p = some (.lst ys) ∧ Q (.int ys.length) H
theorem callk_len : CallR X (.builtin "len") rLenK := fun pins s σ H xs us Q I r h => call_len_seq pins s σ H xs us Q I r (by
  obtain ⟨p, ys, e, hp, q⟩ := h
  exact ⟨p, ys, e, .inl (.of hp), q⟩)
def rListK : List V → Hp → VK → Prop := fun vs H Q => ∃ p ys, vs = [.ref p] ∧ H p = some (.lst ys) ∧ ∀ l, H l = none → Q (.ref l) (upd H l (.lst ys))
theorem callk_list : CallR X (.type "list") rListK := fun pins s σ H xs us Q I r h => call_list_of pins s σ H xs us Q I r (by
  obtain ⟨p, ys, e, hp, q⟩ := h
  exact ⟨p, ys, e, .inl (.of hp), q⟩)
def rTupleK : List V → Hp → VK → Prop := fun vs H Q => ∃ p ys, vs = [.ref p] ∧ H p = some (.lst ys) ∧ ∀ l, H l = none → Q (.ref l) (upd H l (.tup ys))
theorem callk_tuple : CallR X (.type "tuple") rTupleK := fun pins s σ H xs us Q I r h => call_tuple_of pins s σ H xs us Q I r (by
  obtain ⟨p, ys, e, hp, q⟩ := h
  exact ⟨p, ys, e, .inl ⟨.of hp, q⟩⟩)
def rSumK : List V → Hp → VK → Prop := fun vs H Q => ∃ a ns, vs = [V.ref a] ∧ H a = some (.lst (ivs ns)) ∧ Q (.int ns.sum) H
theorem crk_sum (hc : X.calm = true) : CallR X (.builtin "sum") rSumK := fun pins s σ H xs us Q I r h => cr_sum hc pins s σ H xs us Q I r (by
  obtain ⟨p, ys, e, hp, q⟩ := h
  exact ⟨p, ys, e, .of hp, q⟩)
/-- == and != of lists of ivs -/
def rDivK : List V → Hp → VK → Prop := fun vs H Q => ∃ i j, vs = [.int i, .int j] ∧ CDiv i j ∧ New H (.tup [.int (i / j), .int (i % j)]) Q fx
theorem callk_divmod : CallR X (.builtin "divmod") rDivK := fun pins s σ H xs us Q I r h => call_divmod pins s σ H xs us Q I r (by
  obtain ⟨i, j, e, hc, q⟩ := h
  exact ⟨i, j, e, hc, q⟩)
def rNeK : R2 := fun x y H Q => ∃ a b ns ms, x = .ref a ∧ y = .ref b ∧ H a = some (.lst (ivs ns)) ∧ H b = some (.lst (ivs ms)) ∧ Q (.bl (!decide (ns = ms))) H
def rEqK : R2 := fun x y H Q => ∃ a b ns ms, x = .ref a ∧ y = .ref b ∧ H a = some (.lst (ivs ns)) ∧ H b = some (.lst (ivs ms)) ∧ Q (.bl (decide (ns = ms))) H
theorem opk_ne (hu : X.A.units + 64 < cLine) : OpR X (compareOp .NotEq) rNeK := fun pins s σ H x y v u Q I rx ry h => op_neD hu pins s σ H x y v u Q I rx ry (by
  obtain ⟨a, b, ns, ms, rfl, rfl, h1, h2, q⟩ := h
  exact r_ne_list (.of h1) (.of h2) q)
theorem opk_eq (hu : X.A.units + 64 < cLine) : OpR X (compareOp .Eq) rEqK := fun pins s σ H x y v u Q I rx ry h => op_eqD hu pins s σ H x y v u Q I rx ry (by
  obtain ⟨a, b, ns, ms, rfl, rfl, h1, h2, q⟩ := h
  exact r_eq_list (.of h1) (.of h2) q)
theorem r_eq_tup {K : PySem.W.Frag} {H : Hp} {a b : Addr} {ns ms : List Int} {Q : VK} (ha : SqT K H a (ns.map V.int)) (hb : SqT K H b (ms.map V.int)) (q : Q (.bl (decide (ns = ms))) H) : rEqD K (.ref a) (.ref b) H Q := by
  refine ⟨_, _, dp_tup ha, dp_tup hb, shaped_intsT _, shaped_intsT _, ?_⟩
  rw [PyData.eqv, eqvAll_ints]
  exact q
def rNeKT : R2 := fun x y H Q => ∃ a b ns ms, x = .ref a ∧ y = .ref b ∧ H a = some (.tup (ivs ns)) ∧ H b = some (.tup (ivs ms)) ∧ Q (.bl (!decide (ns = ms))) H
def rEqKT : R2 := fun x y H Q => ∃ a b ns ms, x = .ref a ∧ y = .ref b ∧ H a = some (.tup (ivs ns)) ∧ H b = some (.tup (ivs ms)) ∧ Q (.bl (decide (ns = ms))) H
theorem opk_neT (hu : X.A.units + 64 < cLine) : OpR X (compareOp .NotEq) rNeKT := fun pins s σ H x y v u Q I rx ry h => op_neD hu pins s σ H x y v u Q I rx ry (by
  obtain ⟨a, b, ns, ms, rfl, rfl, h1, h2, q⟩ := h
  exact r_ne_tup (.of h1) (.of h2) q)
theorem opk_eqT (hu : X.A.units + 64 < cLine) : OpR X (compareOp .Eq) rEqKT := fun pins s σ H x y v u Q I rx ry h => op_eqD hu pins s σ H x y v u Q I rx ry (by
  obtain ⟨a, b, ns, ms, rfl, rfl, h1, h2, q⟩ := h
  exact r_eq_tup (.of h1) (.of h2) q)
/-- isinstance(x, T) of an int, a bool, a tracked list or tuple -/
def tyO : Option HO → String
  | some (.lst _) => "list"
  | some (.tup _) => "tuple"
  | _ => ""
def tyK : V → Hp → String
  | .int _, _ => "int"
  | .bl _, _ => "bool"
  | .str _, _ => "str"
  | .non, _ => "NoneType"
  | .ref a, H => tyO (H a)
  | _, _ => ""
theorem tyX_of {K : PySem.W.Frag} {x : V} {H : Hp} (h : tyK x H ≠ "") : TyX K H x (.type (tyK x H)) := by
  cases x with
  | int i => exact .base (.int i)
  | bl b => exact .base (.bl b)
  | str b => exact .base (.str b)
  | non => exact .base .non
  | ref a =>
    have h' : tyO (H a) ≠ "" := h
    show TyX K H (.ref a) (.type (tyO (H a)))
    cases e : H a with
    | none => rw [e] at h'; exact absurd rfl h'
    | some o =>
      rw [e] at h'
      cases o with
      | lst xs => exact .base (.lst e)
      | tup xs => exact .base (.tup e)
      | _ => exact absurd rfl h'
  | _ => exact absurd rfl h
def rIsiK : List V → Hp → VK → Prop := fun xs H Q => ∃ x T b, xs = [x, .ty T] ∧ tyK x H ≠ "" ∧ kitB (tyK x H) T = some b ∧ Q (.bl b) H
theorem callk_isi : CallR X (.builtin "isinstance") rIsiK := fun pins s σ H xs us Q I r h => call_isi pins s σ H xs us Q I r (by
  obtain ⟨x, T, b, rfl, h1, h2, q⟩ := h
  exact ⟨x, .ty T, _, _, b, rfl, .ty T, tyX_of h1, kit_ty h2, q⟩)
end
section
variable {H : Hp} {Q : VK} {x y : V} {vs : List V}
theorem e_rIxK : rIxK x y H Q = ∃ p xs i v, x = .ref p ∧ y = .int i ∧ H p = some (.lst xs) ∧ atI xs i = some v ∧ Q v H := rfl
theorem e_rIxKT : rIxKT x y H Q = ∃ p xs i v, x = .ref p ∧ y = .int i ∧ H p = some (.tup xs) ∧ atI xs i = some v ∧ Q v H := rfl
theorem e_rSlK {lo hi : Option Int} : rSlK x lo hi H Q = ∃ a xs, x = .ref a ∧ H a = some (.lst xs) ∧ New H (.lst (cutV xs lo hi)) Q fx := rfl
theorem e_rLenK : rLenK vs H Q = ∃ p ys, vs = [.ref p] ∧ H p = some (.lst ys) ∧ Q (.int ys.length) H := rfl
theorem e_rListK : rListK vs H Q = ∃ p ys, vs = [.ref p] ∧ H p = some (.lst ys) ∧ New H (.lst ys) Q fx := rfl
theorem e_rTupleK : rTupleK vs H Q = ∃ p ys, vs = [.ref p] ∧ H p = some (.lst ys) ∧ New H (.tup ys) Q fx := rfl
theorem e_rDivK {i j : Int} : rDivK [.int i, .int j] H Q = (CDiv i j ∧ New H (.tup [.int (i / j), .int (i % j)]) Q fx) := propext ⟨fun ⟨i', j', e, hc, q⟩ => by
    injection e with e1 e2
    injection e2 with e3 _
    injection e1 with e1
    injection e3 with e3
    subst e1 e3
    exact ⟨hc, q⟩, fun ⟨hc, q⟩ => ⟨i, j, rfl, hc, q⟩⟩
theorem e_rSumK : rSumK vs H Q = ∃ a ns, vs = [V.ref a] ∧ H a = some (.lst (ivs ns)) ∧ Q (.int ns.sum) H := rfl
theorem e_rNeK : rNeK x y H Q = ∃ a b ns ms, x = .ref a ∧ y = .ref b ∧ H a = some (.lst (ivs ns)) ∧ H b = some (.lst (ivs ms)) ∧ Q (.bl (!decide (ns = ms))) H := rfl
theorem e_rEqK : rEqK x y H Q = ∃ a b ns ms, x = .ref a ∧ y = .ref b ∧ H a = some (.lst (ivs ns)) ∧ H b = some (.lst (ivs ms)) ∧ Q (.bl (decide (ns = ms))) H := rfl
theorem e_rNeKT : rNeKT x y H Q = ∃ a b ns ms, x = .ref a ∧ y = .ref b ∧ H a = some (.tup (ivs ns)) ∧ H b = some (.tup (ivs ms)) ∧ Q (.bl (!decide (ns = ms))) H := rfl
theorem e_rEqKT : rEqKT x y H Q = ∃ a b ns ms, x = .ref a ∧ y = .ref b ∧ H a = some (.tup (ivs ns)) ∧ H b = some (.tup (ivs ms)) ∧ Q (.bl (decide (ns = ms))) H := rfl
theorem e_rIsiK {T : String} : rIsiK [x, .ty T] H Q = (tyK x H ≠ "" ∧ ∃ b, kitB (tyK x H) T = some b ∧ Q (.bl b) H) := propext ⟨fun ⟨x', T', b, e, h1, h2, q⟩ => by
    injection e with e1 e2
    injection e2 with e3 _
    injection e3 with e3
    subst e1 e3
    exact ⟨h1, b, h2, q⟩, fun ⟨h1, b, h2, q⟩ => ⟨x, T, b, rfl, h1, h2, q⟩⟩
theorem e_rSlS {lo hi : Option Int} : rSlS x lo hi H Q = ∃ z, x = .str z ∧ z.length ≤ sizeLine ∧ Q (.str (cutS z lo hi)) H := rfl
theorem e_rIxS : rIxS x y H Q = ∃ z i c, x = .str z ∧ y = .int i ∧ z.length ≤ sizeLine ∧ atI z.cps.toList i = some c ∧ Q (.str ⟨#[c]⟩) H := rfl
theorem e_rIn {K : PySem.W.Frag} {neg : Bool} : rIn K neg x y H Q = ∃ p xs, y = .ref p ∧ (SqL K H p xs ∨ SqT K H p xs) ∧ flatV x = true ∧ xs.all flatV = true ∧ Q (.bl (if neg then !inV x xs else inV x xs)) H := rfl
theorem tyK_int {z : Int} : tyK (.int z) H = "int" := rfl
theorem tyK_bl {z : Bool} : tyK (.bl z) H = "bool" := rfl
theorem tyK_str {z : Str} : tyK (.str z) H = "str" := rfl
theorem tyK_non : tyK .non H = "NoneType" := rfl
theorem tyK_ref {a : Addr} : tyK (.ref a) H = tyO (H a) := rfl
theorem tyO_lst {xs : List V} : tyO (some (.lst xs)) = "list" := rfl
theorem tyO_tup {xs : List V} : tyO (some (.tup xs)) = "tuple" := rfl
theorem kit1 : kitB "int" "bool" = some false := by decide +kernel
theorem kit2 : kitB "bool" "bool" = some true := by decide +kernel
theorem kit3 : kitB "list" "list" = some true := by decide +kernel
theorem kit4 : kitB "tuple" "tuple" = some true := by decide +kernel
theorem kit5 : kitB "int" "int" = some true := by decide +kernel
theorem kit6 : kitB "list" "tuple" = some false := by decide +kernel
theorem kit7 : kitB "tuple" "list" = some false := by decide +kernel
theorem kit8 : kitB "NoneType" "bool" = some false := by decide +kernel
theorem kit9 : kitB "NoneType" "int" = some false := by decide +kernel
theorem hlst_inj {a b : List V} : (HO.lst a = HO.lst b) = (a = b) := propext ⟨fun h => HO.lst.inj h, fun h => by rw [h]⟩
theorem htup_inj {a b : List V} : (HO.tup a = HO.tup b) = (a = b) := propext ⟨fun h => HO.tup.inj h, fun h => by rw [h]⟩
theorem vty_inj {a b : String} : (V.ty a = V.ty b) = (a = b) := propext ⟨fun h => V.ty.inj h, fun h => by rw [h]⟩
end
/-! ### slices, walks over a script's numbered items -/
theorem cut_to (xs : List V) {k : Int} (h : 0 ≤ k) : cutV xs none (some k) = xs.take k.toNat := by
  obtain ⟨n, rfl⟩ := Int.eq_ofNat_of_zero_le h
  unfold cutV
  rw [HT.sIx_none, HT.sIx_nat, Int.toNat_natCast, List.drop_zero, Nat.sub_zero, Nat.min_def]
  split
  · rfl
  · rw [List.take_of_length_le (Nat.le_refl _), List.take_of_length_le (by omega)]
theorem cut_from (xs : List V) {k : Int} (h : 0 ≤ k) : cutV xs (some k) none = xs.drop k.toNat := by
  obtain ⟨n, rfl⟩ := Int.eq_ofNat_of_zero_le h
  unfold cutV
  rw [HT.sIx_none, HT.sIx_nat, Int.toNat_natCast]
  by_cases hn : n ≤ xs.length
  · rw [Nat.min_eq_left hn, List.take_of_length_le (by rw [List.length_drop]; omega)]
  · rw [Nat.min_eq_right (by omega), List.drop_of_length_le (Nat.le_refl _), List.drop_of_length_le (by omega)]
    simp
theorem cut_in (xs : List V) {j k : Int} (h : 0 ≤ j) (h2 : 0 ≤ k) : cutV xs (some j) (some k) = (xs.take k.toNat).drop j.toNat := by
  obtain ⟨m, rfl⟩ := Int.eq_ofNat_of_zero_le h
  obtain ⟨n, rfl⟩ := Int.eq_ofNat_of_zero_le h2
  unfold cutV
  rw [HT.sIx_nat, HT.sIx_nat, Int.toNat_natCast, Int.toNat_natCast]
  apply List.ext_getElem?
  intro i
  rw [List.getElem?_take, List.getElem?_drop, List.getElem?_drop, List.getElem?_take]
  have g : ∀ j, xs.length ≤ j → xs[j]? = none := fun j hj => List.getElem?_eq_none hj
  by_cases h1 : m ≤ xs.length
  · rw [Nat.min_eq_left h1]
    by_cases h4 : m + i < n
    · rw [if_pos h4]
      by_cases h5 : m + i < xs.length
      · rw [if_pos (by omega)]
      · rw [g (m + i) (by omega)]; split <;> rfl
    · rw [if_neg h4, if_neg (by omega)]
  · rw [Nat.min_eq_right (a := m) (by omega), g (xs.length + i) (by omega), g (m + i) (by omega)]
    split <;> split <;> rfl
theorem loop_enum {K : PySem.W.Frag} {a : Addr} {l : List Int} {p q n : Nat} {tb : TS} {D : Ends} {σ : L2.St} {H : Hp} (hn : 2 = n) (Pv : Nat → L2.St → Hp → Prop) (h0 : Pv 0 σ H) (hG : ∀ i σ H, Pv i σ H → H a = some (.lst (ivs l)))
    (hs : ∀ i z σ H H', l[i]? = some z → i < l.length → Pv i σ H → Same H H' → tb { D with nx := fun σ H => At Pv (i + 1) σ H fx, ct := fun σ H => At Pv (i + 1) σ H fx, bk := D.nx } ((σ.set p (some (.int (i : Nat)))).set q (some (.int z))) H')
    (hd : ∀ σ H, Pv l.length σ H → D.nx σ H) {z : Fx (gTup K n (gCons (gName p) (gCons (gName q) gNil)), tb, D)} : Loop (Ite K a) (gTup K n (gCons (gName p) (gCons (gName q) gNil))) tb D σ H z := by
  refine loop_it (walk_enum (xs := ivs l)) Pv h0 (fun i σ H _ h => .of (hG i σ H h)) ?_ (fun σ H h => hd σ H (by rw [ivs_len] at h; exact h))
  rintro i x σ H H' hi hp ⟨T, x1, y1, rfl, hT, rfl, e1, e2⟩
  rw [ivs_len] at hi
  have ev : (ivs l)[i]? = some (.int l[i]) := by rw [ivs_get, List.getElem?_eq_getElem hi]; rfl
  have e3 : V.int (i : Nat) = x1 := Option.some.inj e1
  have e4 : V.int l[i] = y1 := Option.some.inj (ev.symm.trans e2)
  subst e3 e4
  exact ⟨T, _, rfl, .of upd_same, hn, _, _, rfl, _, _, rfl, rfl, hs i l[i] σ H _ (List.getElem?_eq_getElem hi) hi hp (same_upd hT)⟩
/-! ### comprehensions -/
/-- an item is made: y, the heap behind it H4 -/
def Elt (H1 : Hp) (D : Addr) (l : Nat → List V) (i : Nat) (y : V) (H4 : Hp) (_ : Fx l) : Prop := ∃ acc, H4 D = some (.lst acc) ∧ acc.length < sizeLine ∧ LcP H1 D l (i + 1) (upd H4 D (.lst (acc ++ [y])))
theorem elt_is {H1 H H4 : Hp} {D : Addr} {l : Nat → List V} {i : Nat} {y : V} {z : Fx l} (hD : H1 D = none) (p : LcP H1 D l i H) (sm : Same H H4) (hl : l (i + 1) = l i ++ [y]) (hz : (l i).length < 16777216) : Elt H1 D l i y H4 z :=
  lc_app hD p sm hl (by rw [sizeLine_eq]; exact hz)
def NoElt (H1 : Hp) (D : Addr) (l : Nat → List V) (i : Nat) (H3 : Hp) (_ : Fx l) : Prop := LcP H1 D l (i + 1) H3
theorem lc_rng {lo : Int} {n j : Nat} {te : TE} {σ : L2.St} {H1 : Hp} {Q : VK} {z : Fx (gName j, tYes, te, Q)} (l : Nat → List V) (h0 : l 0 = [])
    (hs : ∀ D i H, H1 D = none → i < n → LcP H1 D l i H → te ((σ.set j none).set j (some (.int (lo + (i : Nat))))) H fun y H4 => Elt H1 D l i y H4 fx)
    (hd : ∀ D H, H1 D = none → Same H1 H → H D = some (.lst (l n)) → Q (.ref D) H) : LcNew (Itr lo n) (gName j) tYes te [j] σ H1 Q z := fun D hD => by
  refine lcl_it walk_range hD l h0 (fun _ _ => trivial) ?_ (fun H => hd D H hD)
  rintro i x H H' hi hp ⟨rfl, rfl⟩
  refine ⟨?_, hs D i _ hD hi hp⟩
  show ((σ.set j none).set j (some (.int (lo + (i : Nat))))).set j none = σ.set j none
  rw [List.set_set, List.set_set]
/-- over a list of ints, with a test or without -/
theorem lc_lst {K : PySem.W.Frag} {a : Addr} {j : Nat} {tt : TT} {te : TE} {σ : L2.St} {H1 : Hp} {Q : VK} {z : Fx (gName j, tt, te, Q)} {xs : List V} (ha : H1 a = some (.lst xs)) (l : Nat → List V) (h0 : l 0 = [])
    (hs : ∀ D i x H, H1 D = none → xs[i]? = some x → LcP H1 D l i H → tt ((σ.set j none).set j (some x)) H fun b H3 => if b = true then te ((σ.set j none).set j (some x)) H3 fun y H4 => Elt H1 D l i y H4 fx else NoElt H1 D l i H3 fx)
    (hd : ∀ D H, H1 D = none → Same H1 H → H D = some (.lst (l xs.length)) → Q (.ref D) H) : LcNew (Itl K a) (gName j) tt te [j] σ H1 Q z := fun D hD => by
  refine lcl_it walk_list hD l h0 (fun H s => .of (s _ _ ha)) ?_ (fun H => hd D H hD)
  rintro i x H H' hi hp ⟨rfl, hx⟩
  refine ⟨?_, hs D i x _ hD hx hp⟩
  show ((σ.set j none).set j (some x)).set j none = σ.set j none
  rw [List.set_set, List.set_set]
theorem lc_rngT {lo : Int} {n j : Nat} {tt : TT} {te : TE} {σ : L2.St} {H1 : Hp} {Q : VK} {z : Fx (gName j, tt, te, Q)} (l : Nat → List V) (h0 : l 0 = [])
    (hs : ∀ D i H, H1 D = none → i < n → LcP H1 D l i H → tt ((σ.set j none).set j (some (.int (lo + (i : Nat))))) H fun b H3 => if b = true then te ((σ.set j none).set j (some (.int (lo + (i : Nat))))) H3 fun y H4 => Elt H1 D l i y H4 fx else NoElt H1 D l i H3 fx)
    (hd : ∀ D H, H1 D = none → Same H1 H → H D = some (.lst (l n)) → Q (.ref D) H) : LcNew (Itr lo n) (gName j) tt te [j] σ H1 Q z := fun D hD => by
  refine lcl_it walk_range hD l h0 (fun _ _ => trivial) ?_ (fun H => hd D H hD)
  rintro i x H H' hi hp ⟨rfl, rfl⟩
  refine ⟨?_, hs D i _ hD hi hp⟩
  show ((σ.set j none).set j (some (.int (lo + (i : Nat))))).set j none = σ.set j none
  rw [List.set_set, List.set_set]
theorem no_elt {H1 H H3 : Hp} {D : Addr} {l : Nat → List V} {i : Nat} {z : Fx l} (p : LcP H1 D l i H) (sm : Same H H3) (hl : l (i + 1) = l i) : NoElt H1 D l i H3 z := lc_skip p sm hl
theorem wipe2 {σ : L2.St} {i j : Nat} {x y : Option V} : ((((((σ.set j none).set i none).set i x).set j y).set j none).set i none) = (σ.set j none).set i none := by
  apply List.ext_getElem?
  intro k
  simp only [List.getElem?_set, List.length_set]
  by_cases h1 : i = k <;> by_cases h2 : j = k <;> simp [h1, h2]
theorem lc_zip {K : PySem.W.Frag} {a b : Addr} {i j n : Nat} {te : TE} {σ : L2.St} {H1 : Hp} {Q : VK} {z : Fx (gTup K n (gCons (gName i) (gCons (gName j) gNil)), tYes, te, Q)} {xs ys : List V} (hn : 2 = n) (ha : H1 a = some (.lst xs)) (hb : H1 b = some (.lst ys)) (hl : xs.length = ys.length) (l : Nat → List V) (h0 : l 0 = [])
    (hs : ∀ D k x y H, H1 D = none → xs[k]? = some x → ys[k]? = some y → LcP H1 D l k H → te ((((σ.set j none).set i none).set i (some x)).set j (some y)) H fun y H4 => Elt H1 D l k y H4 fx)
    (hd : ∀ D H, H1 D = none → Same H1 H → H D = some (.lst (l xs.length)) → Q (.ref D) H) : LcNew (Itz K a b) (gTup K n (gCons (gName i) (gCons (gName j) gNil))) tYes te [i, j] σ H1 Q z := fun D hD => by
  refine lcl_it (walk_zip (xs := xs) (ys := ys) (n := xs.length) (by omega)) hD l h0 (fun H s => ⟨.of (s _ _ ha), .of (s _ _ hb)⟩) ?_ (fun H => hd D H hD)
  rintro k v H H' hk hp ⟨T, x, y, rfl, hT, rfl, e1, e2⟩
  refine ⟨T, _, rfl, .of upd_same, hn, _, _, rfl, _, _, rfl, rfl, wipe2, ?_⟩
  exact hs D k x y _ hD e1 e2 ⟨hp.1.trans (same_upd hT), (same_upd hT) _ _ hp.2⟩
theorem replicate_snoc {α : Type} (n : Nat) (v : α) : List.replicate (n + 1) v = List.replicate n v ++ [v] := by
  rw [List.replicate_succ']
/-- [v for _ in range(n)], v written -/
theorem lc_const {lo : Int} {n j : Nat} {v : V} {σ : L2.St} {H1 : Hp} {Q : VK} {z : Fx (gName j, tYes, tC v, Q)} (hn : n < 16777216)
    (hd : ∀ D H, H1 D = none → Same H1 H → H D = some (.lst (List.replicate n v)) → Q (.ref D) H) : LcNew (Itr lo n) (gName j) tYes (tC v) [j] σ H1 Q z :=
  lc_rng (fun i => List.replicate i v) rfl (fun D i H hD hi hp => elt_is (z := fx) hD hp (Same.refl _) (replicate_snoc i v) (by rw [List.length_replicate]; omega)) hd
theorem ivs_at {l : List Int} {i : Nat} {x : V} (h : (ivs l)[i]? = some x) : ∃ b, l[i]? = some b ∧ x = .int b := by
  rw [ivs_get] at h
  cases e : l[i]? with
  | none => rw [e] at h; cases h
  | some b =>
    rw [e] at h
    exact ⟨b, rfl, (Option.some.inj h).symm⟩
theorem get_setj {σ : L2.St} {j : Nat} {x : V} (hj : j < σ.length) : ((σ.set j none).set j (some x))[j]? = some (some x) := by
  rw [List.set_set, List.getElem?_set_self hj]
/-- [x for x in xs if isinstance(x, bool)] of ints -/
theorem lc_nobools {K : PySem.W.Frag} {a : Addr} {j : Nat} {σ : L2.St} {H1 : Hp} {Q : VK} {z : Fx (gName j, tB (tCB rIsiK (tCons (tVar j) (tCons (tC (V.ty "bool")) tNil))), tVar j, Q)} {l : List Int} (ha : H1 a = some (.lst (ivs l))) (hj : j < σ.length)
    (hd : ∀ D H, H1 D = none → Same H1 H → H D = some (.lst (ivs [])) → Q (.ref D) H) : LcNew (Itl K a) (gName j) (tB (tCB rIsiK (tCons (tVar j) (tCons (tC (V.ty "bool")) tNil)))) (tVar j) [j] σ H1 Q z := by
  refine lc_lst ha (fun _ => []) rfl ?_ hd
  intro D i x H hD hx hp
  obtain ⟨b, _, rfl⟩ := ivs_at hx
  refine ⟨.int b, get_setj hj, _, _, false, rfl, (by simp [tyK_int]), kit1, false, rfl, ?_⟩
  exact iteF ⟨hp.1, hp.2⟩
/-! ### an if whose ways meet: what holds where they meet is said once -/
def tIfJ (c : TT) (t u : TS) : TS := fun D σ H => c σ H fun b H1 => if b = true then t D σ H1 else u D σ H1
theorem ps_ifJ {X : Cx} {c : Expr} {a b : List Stmt} {tc : TT} {t u : TS} {pos : Pos} (hc : PT X c tc) (ha : PSs X a t) (hb : PSs X b u) : PS X (.If c a b pos) (tIfJ tc t u) := ps_if hc ha hb
theorem if_join {c : TT} {t u : TS} {D : Ends} {σ : L2.St} {H : Hp} (R : L2.St → Hp → Prop) (key : ∀ σ H, R σ H → D.nx σ H)
    (main : ∀ nx : L2.St → Hp → Prop, (∀ σ H, R σ H → nx σ H) → tIfS c t u { D with nx := nx } σ H) : tIfJ c t u D σ H := main D.nx key
theorem ivs_bset {u : List Bool} {n : Nat} {b : Bool} : (bz u).set n (b2 b) = bz (u.set n b) := (List.map_set ..).symm
theorem ixN_in {n : Nat} {z : Int} (h0 : 0 ≤ z) (h : z < n) : ixN n z = some z.toNat := by
  unfold ixN
  rw [if_pos h0, if_pos h]
theorem pe_globI {X : Cx} {x : Str} {n : Int} {pos : Pos} (hg : Gl X x) (hm : ∃ t, X.mg x = some (.int n t)) (hd : (x == ("__debug__" : Str)) = false := by decide) : PE X (.Name x pos) (tC (.int n)) := by
  obtain ⟨t, h⟩ := hm
  exact pe_glob hg h ⟨t, rfl⟩ hd
theorem r_ne_refl {K : PySem.W.Frag} {H : Hp} {x y : V} {d : PyData} {Q : VK} (h1 : Dp K H x d) (h2 : Dp K H y d) (hs : SeqAt.shaped d = true) (q : Q (.bl false) H) : rNeD K x y H Q := by
  refine ⟨d, d, h1, h2, hs, hs, ?_⟩
  rw [SeqAt.eqv_refl d (SeqAt.canLay_of_shaped hs)]
  exact q
theorem r_eq_refl {K : PySem.W.Frag} {H : Hp} {x y : V} {d : PyData} {Q : VK} (h1 : Dp K H x d) (h2 : Dp K H y d) (hs : SeqAt.shaped d = true) (q : Q (.bl true) H) : rEqD K x y H Q := by
  refine ⟨d, d, h1, h2, hs, hs, ?_⟩
  rw [SeqAt.eqv_refl d (SeqAt.canLay_of_shaped hs)]
  exact q
theorem dpk_list {K : PySem.W.Frag} {H : Hp} {a : Addr} {l : List Int} (h : H a = some (.lst (ivs l))) : Dp K H (.ref a) (.list (l.map PyData.int)) := dp_list (.of h)
/-- rows of lists of ints -/
def dd (l : List Int) : PyData := .list (l.map PyData.int)
theorem canLay_dd (l : List Int) : (dd l).canLay0 = true := by unfold dd; simp only [PyData.canLay0]; exact canLay_ints l
theorem depth_dd (l : List Int) : (dd l).depth ≤ 2 := by
  have h := depth_ints l
  unfold dd; simp only [PyData.depth]; omega
theorem shaped_dd : ∀ ls : List (List Int), SeqAt.shaped (.list (ls.map dd)) = true := fun ls => by
  have c : ∀ ls : List (List Int), PyData.canLayAll0 (ls.map dd) = true := fun ls => by
    induction ls with
    | nil => simp [PyData.canLayAll0]
    | cons l r ih => simp [PyData.canLayAll0, canLay_dd, ih]
  have d : ∀ ls : List (List Int), PyData.depthAll (ls.map dd) ≤ 2 := fun ls => by
    induction ls with
    | nil => simp [PyData.depthAll]
    | cons l r ih => have := depth_dd l; simp only [List.map_cons, PyData.depthAll]; omega
  unfold SeqAt.shaped
  rw [Bool.and_eq_true]
  have := d ls
  exact ⟨by simp only [PyData.canLay0]; exact c ls, decide_eq_true (by simp only [PyData.depth]; omega)⟩
/-! ### while -/
def Wh (W : Nat → L2.St → Hp → Prop) (m : Nat) (σ : L2.St) (H : Hp) (_ : Fx W) : Prop := ∃ m', m' < m ∧ W m' σ H
theorem wh_is {W : Nat → L2.St → Hp → Prop} {m : Nat} {σ : L2.St} {H : Hp} {z : Fx W} (m' : Nat) (h : m' < m) (w : W m' σ H) : Wh W m σ H z := ⟨m', h, w⟩
def WhGo (W : Nat → L2.St → Hp → Prop) (m : Nat) (tb : TS) (D : Ends) (σ : L2.St) (H1 : Hp) (_ : Fx (W, tb, D)) : Prop :=
  ∃ N : L2.St → Hp → Prop, (∀ σ' H', N σ' H' → ∃ m', m' < m ∧ W m' σ' H') ∧ tb { D with nx := N, ct := N, bk := D.nx } σ H1
theorem wh_go {W : Nat → L2.St → Hp → Prop} {m : Nat} {tb : TS} {D : Ends} {σ : L2.St} {H1 : Hp} {z : Fx (W, tb, D)} (h : tb { D with nx := fun σ' H' => Wh W m σ' H' fx, ct := fun σ' H' => Wh W m σ' H' fx, bk := D.nx } σ H1) : WhGo W m tb D σ H1 z := ⟨_, fun _ _ h => h, h⟩
theorem while_it {c : TT} {tb : TS} {D : Ends} {σ : L2.St} {H : Hp} (W : Nat → L2.St → Hp → Prop) (m : Nat) (h0 : W m σ H)
    (hs : ∀ m σ H, W m σ H → c σ H fun b H1 => if b = true then WhGo W m tb D σ H1 fx else D.nx σ H1) : tWhile c tb D σ H := ⟨W, ⟨m, h0⟩, hs⟩
/-! ### a list or a tuple -/
def SqA (K : PySem.W.Frag) (H : Hp) (a : Addr) (xs : List V) : Prop := SqL K H a xs ∨ SqT K H a xs
def iAny (K : PySem.W.Frag) (i : Nat) : TI := fun σ H R => ∃ a, σ[i]? = some (some (.ref a)) ∧ (((∃ xs, SqL K H a xs) ∧ R (Itl K a) H) ∨ ((∃ xs, SqT K H a xs) ∧ R (Itt K a) H))
theorem pi_any {X : Cx} {tg l : Expr} {i : Nat} (hl : PE X l (tVar i)) : PI X tg l (iAny X.K i) :=
  ⟨fun pins s σ H R I h => by
    obtain ⟨a, e, h | h⟩ := h
    · exact (pi_list hl).run pins s σ H R I ⟨_, e, a, rfl, h.1, h.2⟩
    · exact (pi_tup hl).run pins s σ H R I ⟨_, e, a, rfl, h.1, h.2⟩⟩
theorem e_iAny {K : PySem.W.Frag} {i : Nat} {σ : L2.St} {H : Hp} {R : It → Hp → Prop} : iAny K i σ H R = ∃ a, σ[i]? = some (some (.ref a)) ∧ (((∃ xs, SqL K H a xs) ∧ R (Itl K a) H) ∨ ((∃ xs, SqT K H a xs) ∧ R (Itt K a) H)) := rfl
theorem seqT_up {K : PySem.W.Frag} {H H' : Hp} {a : Addr} {xs : List V} (e : Same H H') (h : SqT K H a xs) : SqT K H' a xs := by
  rcases h with (h | ⟨o, h⟩) | h
  · exact .inl (.inl (e _ _ h))
  · exact .inl (.inr ⟨o, e _ _ h⟩)
  · exact .inr h
theorem SqA.up {K : PySem.W.Frag} {H H' : Hp} {a : Addr} {xs : List V} (h : SqA K H a xs) (e : Same H H') : SqA K H' a xs := by
  rcases h with h | h
  · exact .inl (e.seq h)
  · exact .inr (seqT_up e h)
/-- a loop over a list or a tuple of ints -/
theorem any_loop {K : PySem.W.Frag} {a : Addr} {l : List Int} {g : TG} {tb : TS} {D : Ends} {σ : L2.St} {H : Hp} {z z' : Fx (g, tb, D)} (hS : SqA K H a (ivs l)) (Pv : Nat → L2.St → Hp → Prop) (h0 : Pv 0 σ H) (hG : ∀ i σ H', Pv i σ H' → Same H H')
    (hs : ∀ i x σ H', l[i]? = some x → Pv i σ H' → g (.int x) σ H' fun σ2 H2 => tb { D with nx := fun σ H => At Pv (i + 1) σ H fx, ct := fun σ H => At Pv (i + 1) σ H fx, bk := D.nx } σ2 H2) (hd : ∀ σ H', Pv l.length σ H' → D.nx σ H') :
    ((∃ xs, SqL K H a xs) ∧ Loop (Itl K a) g tb D σ H z) ∨ ((∃ xs, SqT K H a xs) ∧ Loop (Itt K a) g tb D σ H z') := by
  rcases hS with h | h
  · refine .inl ⟨⟨_, h⟩, loop_it walk_list Pv h0 (fun i σ H' _ p => (hG i σ H' p).seq h) ?_ (fun σ H' p => hd σ H' (by rw [ivs_len] at p; exact p))⟩
    rintro i x σ H' H'' hi p ⟨rfl, hx⟩
    obtain ⟨y, hy, rfl⟩ := ivs_at hx
    exact hs i y σ _ hy p
  · refine .inr ⟨⟨_, h⟩, loop_it walk_tup Pv h0 (fun i σ H' _ p => seqT_up (hG i σ H' p) h) ?_ (fun σ H' p => hd σ H' (by rw [ivs_len] at p; exact p))⟩
    rintro i x σ H' H'' hi p ⟨rfl, hx⟩
    obtain ⟨y, hy, rfl⟩ := ivs_at hx
    exact hs i y σ _ hy p
/-- isinstance of a tuple of the text -/
theorem ftup_of {K : PySem.W.Frag} {A : Addr} {xs : List V} (h : ∀ H : Hp, SqT K H A xs) (H : Hp) : TyX K H (.ref A) (.type "tuple") := by
  rcases h (fun _ => none) with (h | ⟨o, h⟩) | ⟨o, its, n, h1, h2, _⟩
  · cases h
  · cases h
  · exact .kTuple h1 h2
def rIsiX (K : PySem.W.Frag) : List V → Hp → VK → Prop := fun xs H Q => ∃ x T t b, xs = [x, .ty T] ∧ TyX K H x (.type t) ∧ kitB t T = some b ∧ Q (.bl b) H
theorem callx_isi {X : Cx} : CallR X (.builtin "isinstance") (rIsiX X.K) := fun pins s σ H xs us Q I r h => call_isi pins s σ H xs us Q I r (by
  obtain ⟨x, T, t, b, rfl, h1, h2, q⟩ := h
  exact ⟨x, .ty T, _, _, b, rfl, .ty T, h1, kit_ty h2, q⟩)
theorem e_rIsiX {K : PySem.W.Frag} {x : V} {T : String} {H : Hp} {Q : VK} : rIsiX K [x, .ty T] H Q = ∃ t b, TyX K H x (.type t) ∧ kitB t T = some b ∧ Q (.bl b) H := propext ⟨fun ⟨x', T', t, b, e, h1, h2, q⟩ => by
    injection e with e1 e2
    injection e2 with e3 _
    injection e3 with e3
    subst e1 e3
    exact ⟨t, b, h1, h2, q⟩, fun ⟨t, b, h1, h2, q⟩ => ⟨x, T, t, b, rfl, h1, h2, q⟩⟩
def rListA (K : PySem.W.Frag) : List V → Hp → VK → Prop := fun vs H Q => ∃ p ys, vs = [.ref p] ∧ (SqL K H p ys ∨ SqT K H p ys) ∧ ∀ l, H l = none → Q (.ref l) (upd H l (.lst ys))
theorem calla_list {X : Cx} {K : PySem.W.Frag} (hK : X.K = K) : CallR X (.type "list") (rListA K) := by
  subst hK
  exact fun pins s σ H xs us Q I r h => call_list_of pins s σ H xs us Q I r h
theorem ixa_tup {X : Cx} {K : PySem.W.Frag} (hK : X.K = K) : IxR X (rIxT K) := by
  subst hK
  exact ix_tup
theorem pe_globR {X : Cx} {x : Str} {A : Addr} {pos : Pos} (hg : Gl X x) (h : X.mg x = some (.ref A)) (hd : (x == ("__debug__" : Str)) = false := by decide) : PE X (.Name x pos) (tC (.ref A)) := pe_glob (v := .ref A) hg h rfl hd
theorem ivs_rep (n : Nat) : List.replicate n (V.int 0) = ivs (bz (List.replicate n false)) := by
  unfold ivs bz
  rw [List.map_replicate, List.map_replicate]
  rfl
theorem e_rListA {K : PySem.W.Frag} {vs : List V} {H : Hp} {Q : VK} : rListA K vs H Q = ∃ p ys, vs = [.ref p] ∧ SqA K H p ys ∧ New H (.lst ys) Q fx := rfl
def rLenA (K : PySem.W.Frag) : List V → Hp → VK → Prop := fun vs H Q => ∃ p ys, vs = [.ref p] ∧ (SqL K H p ys ∨ SqT K H p ys) ∧ Q (.int ys.length) H
theorem calla_len {X : Cx} {K : PySem.W.Frag} (hK : X.K = K) : CallR X (.builtin "len") (rLenA K) := by
  subst hK
  exact fun pins s σ H xs us Q I r h => call_len_seq pins s σ H xs us Q I r h
theorem e_rLenA {K : PySem.W.Frag} {vs : List V} {H : Hp} {Q : VK} : rLenA K vs H Q = ∃ p ys, vs = [.ref p] ∧ SqA K H p ys ∧ Q (.int ys.length) H := rfl
/-! ### range of three -/
theorem e_iRng3 {t : TA} {σ : L2.St} {H : Hp} {R : It → Hp → Prop} : iRng3 t σ H R = t σ H fun vs H1 => ∃ (i j c : Int) (n : Nat), vs = [.int i, .int j, .int c] ∧ RgC i j c n ∧ R (Itc i c n) H1 := rfl
theorem lc_rngC {lo c : Int} {n j : Nat} {te : TE} {σ : L2.St} {H1 : Hp} {Q : VK} {z : Fx (gName j, tYes, te, Q)} (l : Nat → List V) (h0 : l 0 = [])
    (hs : ∀ D i H, H1 D = none → i < n → LcP H1 D l i H → te ((σ.set j none).set j (some (.int (lo + (i : Nat) * c)))) H fun y H4 => Elt H1 D l i y H4 fx)
    (hd : ∀ D H, H1 D = none → Same H1 H → H D = some (.lst (l n)) → Q (.ref D) H) : LcNew (Itc lo c n) (gName j) tYes te [j] σ H1 Q z := fun D hD => by
  refine lcl_it walk_rangeC hD l h0 (fun _ _ => trivial) ?_ (fun H => hd D H hD)
  rintro i x H H' hi hp ⟨rfl, rfl⟩
  refine ⟨?_, hs D i _ hD hi hp⟩
  show ((σ.set j none).set j (some (.int (lo + (i : Nat) * c)))).set j none = σ.set j none
  rw [List.set_set, List.set_set]
theorem e_rIsB {x y : V} {H : Hp} {Q : VK} : rIsB x y H Q = ∃ a b : Bool, x = .bl a ∧ y = .bl b ∧ Q (.bl (decide (a = b))) H := rfl
theorem e_rNotB {x y : V} {H : Hp} {Q : VK} : rNotB x y H Q = ∃ a b : Bool, x = .bl a ∧ y = .bl b ∧ Q (.bl (!decide (a = b))) H := rfl
/-- xs[::-1] -/
theorem pe_revA {X : Cx} {K : PySem.W.Frag} (hK : X.K = K) {e : Expr} {te : TE} {k : Nat} {p1 p2 p3 pos : Pos} (he : PE X e te) : PE X (.Subscript e (.Slice none none (some (.UnaryOp .USub (.Constant (.int 1) k p1) p2)) p3) pos) (tRevL K te) := by
  subst hK
  exact pe_revL he
theorem e_revL {K : PySem.W.Frag} {te : TE} {σ : L2.St} {H : Hp} {Q : VK} : tRevL K te σ H Q = te σ H fun x H1 => ∃ a xs, x = .ref a ∧ SqL K H1 a xs ∧ New H1 (.lst xs.reverse) Q fx := rfl
end Own

namespace PySem
namespace OorX
open PySem.W PySem.Calls PyProof.Rows PySem.HandSPX
/-! ### the text of __init__ -/
def iA (p1 p2 : Pos) : Arguments := { posonlyargs := [], args := [{ arg := "self", annotation := none, pos := p1 }, { arg := "what", annotation := none, pos := p2 }], vararg := none, kwonlyargs := [], kw_defaults := [], kwarg := none, defaults := [] }
def iB (q1 q2 q3 q4 : Pos) : List Stmt := [.Assign [.Attribute (.Name "self" q1) "what" q2] (.Name "what" q3) q4]
def iS : Scope := { kind := .function, names := [(PySem.Str.ofString "self", .local), (PySem.Str.ofString "what", .local)], isGenerator := false, isCoroutine := false, more := [] }
/-- what the written part says of Low, at C, and of its __init__, at fI -/
structure OorTxt (K : Frag) (mg : Str → Option Value) (C fI : Addr) : Prop where
  gC : mg "OutOfRange" = some (.ref C)
  cls : ∃ nm q N bs bm sn sub ab col dd k0 k1 k2 k3 k5, K.lookup C = some (excClassObj nm q C N bs bm true sn sub ab col dd k0 k1 k2 k3 k5 "ValueError.__new__") ∧ refsVE bm = true
  sa : findIn K (.ref C) "__setattr__" = some (some (.builtin "object.__setattr__"))
  ga : findIn K (.ref C) "__getattribute__" = some (some (.builtin "BaseException.__getattribute__"))
  gg : findIn K (.ref C) "__getattr__" = some none
  noN : findIn K (.ref C) "what" = some none
  iC : findIn K (.ref C) "__init__" = some (some (.ref fI))
  tC : typeIn K (.ref fI) = some (.type "function")
  kC : keepIn K (.ref C) = true
  exC : subIn K (.ref C) (.type "BaseException") = some true
  tyC : typeIn K (.ref C) = some (.type "type")
  hdC : hasDictIn K C = true
  te : exmOne K (.ref C) (.ref C) = some true
  fn : ∃ (oc : Value) (od : Option Addr) (doc pm : Value) (an : Option Addr) (cdv ct : Value) (osl : Array (Option Value)) (p1 p2 q1 q2 q3 q4 : Pos),
    K.lookup fI = some ⟨oc, od, .func (fnOf "__init__" "OutOfRange.__init__" (iA p1 p2) (iB q1 q2 q3 q4) iS .none .none doc pm an cdv ct), osl⟩ ∧ codeIn K cdv "OutOfRange.__init__" = true
theorem one_size (v : Value) : [v].length ≤ sizeLine := by
  rw [sizeLine_eq]
  exact (by decide : 1 ≤ 16777216)
theorem kept_but {K : Frag} {h h' : Heap} {x : Addr} (X : K.In h) (hx : K.lookup x = none) (k : ∀ b o, b ≠ x → h.get? b = some o → h'.get? b = some o) : K.In h' := fun a o e =>
  k a o (fun z => by rw [z, hx] at e; cases e) (X a o e)
theorem ldC {M : Model} {s : Shared} {name : Str} {scope : Scope} {L a : Addr} {cd : Value} {m : Str → Option Value} {x : Str} {pos : Pos} {v : Value} {Q : Value → Shared → Prop} {A : Around} {E : Value → Shared → Prop} (hn : s.heap.Ns L m) (hv : m x = some v) (h : Q v s)
    (hk : scope.kind = .function := by rfl) (hl : (envOfC name scope L a cd).kindOf x = some .local := by rfl) (hd : (x == ("__debug__" : Str)) = false := by decide) :
    wpAny M A (eval (.Name x pos) (envOfC name scope L a cd)) Q E s := wpAny_Name (wpAny_loadName_local hk hl hn hv h) hd
/-- what __init__ leaves of a fresh exception at x -/
structure InitEnd (h h' : Heap) (x C dx t1 : Addr) (v : Value) : Prop where
  keep : ∀ b o, b ≠ x → h.get? b = some o → h'.get? b = some o
  obj : h'.get? x = some { cls := .ref C, dict := some dx, data := .fields #[.ref t1, .none, .none, .none, .bool false, .none] }
  dbig : h.objs.size ≤ dx
  dne : dx ≠ x
  ns : h'.Ns1 dx (fun y => if y = "what" then some v else none)
/-- a made Low -/
structure OwnMade (h h' : Heap) (e C d : Addr) (v : Value) : Prop where
  keep : ∀ b o, h.get? b = some o → h'.get? b = some o
  new : h.objs.size ≤ e
  obj : ∃ oe vs, h'.get? e = some oe ∧ oe.cls = .ref C ∧ oe.dict = some d ∧ oe.data = .fields vs ∧ vs[1]? = some .none
  dbig : h.objs.size ≤ d
  dne : d ≠ e
  ns : h'.Ns1 d (fun y => if y = "what" then some v else none)
section
variable {prog : Program} {w : World} {A : Around} {E : Value → Shared → Prop} {R : Result → Shared → Prop} {s : Shared} {K : Frag} {mg : Str → Option Value} {C fI : Addr}
theorem low_init (T : OorTxt K mg C fI) {x t0 : Addr} {v : Value} (X : K.In s.heap) (hlim : s.heap.NoLimit) (hx : s.heap.get? x = some (excO C t0)) (hnx : K.lookup x = none) (hroom : A.depth < recursionLimit)
    (hq : ∀ h' tk dx, InitEnd s.heap h' x C dx t0 v → R (.ok (.ret .none)) { s with heap := h', toks := tk }) :
    codeAny (model prog w) A (.call (.ref fI) ⟨[.ref x, v], []⟩) R s := by
  obtain ⟨oc, od, doc, pm, an, cdv, ct, osl, p1, p2, q1, q2, q3, q4, ho, hcd⟩ := T.fn
  obtain ⟨nm, q, N, bs, bm, sn, sub, ab, col, dd, k0, k1, k2, k3, k5, hC, hbm⟩ := T.cls
  have hcl : clsIn K C = some { name := nm, bases := bs, mro := .ref C :: bm, ns := N, qualname := q, hasDict := true, slotNames := sn, subclasses := sub, abstract := ab, collection := col, hasDel := false } := by unfold clsIn; rw [hC] <;> rfl
  refine Att.call_fn (binds := [("self", .ref x), ("what", v)]) X hlim ho hcd hroom (BindsTo.of_eq (by first | rfl | with_unfolding_all rfl)) (by first | rfl | decide | with_unfolding_all rfl) (fun s₁ IC => ?_) rfl rfl rfl
  obtain ⟨h₁, tk₁, rfl⟩ := IC.toInCall.same
  have k : ∀ b o, s.heap.get? b = some o → h₁.get? b = some o := IC.toInCall.keep
  have hn := IC.toInCall.ns
  have hxL : s.heap.objs.size ≠ x := Nat.ne_of_gt (Heap.lt_size hx)
  have X₁ : K.In h₁ := X.keeps k
  have hx₁ := k _ _ hx
  -- self.by = by
  show wpAny _ _ (execs _ _) _ _ _
  refine wpAny_execs_cons (plainObj_wpAny_Assign_Attribute ?_)
  refine ldC (v := v) hn (by first | rfl | with_unfolding_all rfl | kernel_rfl) (ldC (v := .ref x) hn (by first | rfl | with_unfolding_all rfl | kernel_rfl) ?_)
  refine set_plain X₁ (ox := excO C t0) (od := none) ⟨hx₁, rfl, rfl, trivial⟩ T.sa ?_
  refine exc_osa X₁ hx₁ hcl (show refsVE (.ref C :: bm) = true from hbm) rfl T.noN (fun h₃ tk₃ dx k₃ dn dne hx₃ hn₃ => ?_)
  show wpAny _ _ (execs _ _) _ _ _
  have z : s.heap.objs.size < h₁.objs.size := hn.lt
  exact wpAny_execs_nil (hq h₃ tk₃ dx ⟨fun b o hb e => k₃ b o hb (k b o e), hx₃, Nat.le_of_lt (Nat.lt_of_lt_of_le z dn), dne, hn₃⟩)
theorem low_made (T : OorTxt K mg C fI) {v : Value} (X : K.In s.heap) (hlim : s.heap.NoLimit) (hroom : A.depth + 1 < recursionLimit)
    (hq : ∀ h' tk e d, OwnMade s.heap h' e C d v → R (.ok (.ret (.ref e))) { s with heap := h', toks := tk }) :
    codeAny (model prog w) A (.call (.ref C) ⟨[v], []⟩) R s := by
  obtain ⟨nm, q, N, bs, bm, sn, sub, ab, col, dd, k0, k1, k2, k3, k5, hC, hbm⟩ := T.cls
  obtain ⟨hp, g, dr, tk, os⟩ := s
  have k : ∀ b o, hp.get? b = some o → ((hp.push (kdv_tup [v])).push (excO C hp.objs.size)).get? b = some o := fun b o e => Heap.get?_push_of_some _ (Heap.get?_push_of_some _ e)
  have hget : ((hp.push (kdv_tup [v])).push (excO C hp.objs.size)).get? (hp.objs.size + 1) = some (excO C hp.objs.size) := by heap_get
  have hnx : K.lookup (hp.objs.size + 1) = none := by
    cases e : K.lookup (hp.objs.size + 1) with
    | none => rfl
    | some o =>
      have z : hp.get? (hp.objs.size + 1) = some o := X _ _ e
      exact absurd (Nat.lt_of_succ_lt (Heap.lt_size z)) (Nat.lt_irrefl _)
  refine call_own F.excBase_ValueError (fun X => refsVE_contains X bm hbm) (X _ _ hC) (looks_findIn X T.iC) (fun self => bind_fn X self T.tC) (one_size v) ?_
  refine low_init (s := ⟨(hp.push (kdv_tup [v])).push (excO C hp.objs.size), g, dr, tk, os⟩) T (X.keeps k) (hlim.keeps k) hget hnx ?_ fun h' tk' dx ⟨k', hx, dn, dne, hns⟩ => ?_
  · show A.depth + 1 < recursionLimit
    exact hroom
  · have old : ∀ b o, hp.get? b = some o → h'.get? b = some o := fun b o e => k' b o (Nat.ne_of_lt (Nat.lt_succ_of_lt (Heap.lt_size e))) (k b o e)
    have z : hp.objs.size + 1 + 1 ≤ dx := by
      first
        | (simpa only [Heap.size_push] using dn)
        | exact dn
        | (have q := dn; rw [Heap.size_push, Heap.size_push] at q; exact q)
    exact ⟨rfl, hq h' tk' (hp.objs.size + 1) dx ⟨old, Nat.le_succ _, ⟨_, _, hx, rfl, rfl, rfl, rfl⟩, Nat.le_trans (Nat.le_trans (Nat.le_succ _) (Nat.le_succ _)) z, dne, hns⟩⟩
end
end OorX
end PySem
namespace L2
open PySem PySem.Spec PyProof.Rows
theorem relO_low {v : V} {v' : Value} (r : RelV v v') (f : Str) : RelO (List.lookup f [(("what" : Str), v)]) (if f = "what" then some v' else none) := by
  by_cases hw : f = "what"
  · subst hw
    rw [if_pos rfl]
    have q : List.lookup ("what" : Str) [(("what" : Str), v)] = some v := by simp [List.lookup]
    rw [q]
    exact r
  · rw [if_neg hw]
    have qw : (f == ("what" : Str)) = false := by simpa using hw
    have q2 : List.lookup f [(("what" : Str), v)] = none := by simp [List.lookup, qw]
    rw [q2]
    trivial
section
variable {X : Cx} {C fI : Addr}
/-- Low(e) -/
def tMkO (C : Addr) (ta : TA) : St → Hp → XK → Prop := fun σ H Q => ta σ H fun vs H1 => ∃ v, vs = [v] ∧ ∀ d, H1 d = none → Q (.ref C) (some d) (upd H1 d (.xd [(("what" : Str), v)]))
theorem pmk_oor {a : Expr} {ta : TA} {p pos : Pos} {k : Nat} (T : PySem.OorX.OorTxt X.K X.mg C fI) (hr : Room k X.A) (ha : PA X [a] ta) (hg : Gl X "OutOfRange" := by rfl)
    (he : starEach (a :: []) X.env = (false, eval a X.env) :: starEach [] X.env := by rfl) (hpl : (backTo pos (starEach [] X.env)).any (·.1) = false := by rfl) :
    PMk X (.Call (.Name "OutOfRange" p) [a] [] pos) (tMkO C ta) := by
  intro pins s σ H Q I h
  refine wpAny_Call_Name_kw (ld_glob I hg T.gC ?_)
  refine PySem.W.callWith_K (h₀ := X.base) I.ok.mod.kin T.kC (thn (ha.run pos pins s σ H _ I h) fun us s1 hh => ?_) he hpl
  obtain ⟨vs, H1, I1, r1, v, ev, q1⟩ := hh
  subst ev
  refine ⟨I1.kIn, ?_⟩
  cases r1 with
  | cons rv rn =>
    rename_i v' us'
    cases rn
    show wpAny _ _ (call (.ref C) [v']) _ _ _
    have hlim := I1.nolimit
    obtain ⟨hp, g, dr, tk, os⟩ := s1
    refine wpAny_call (PySem.OorX.low_made T I1.kIn hlim (by have := hr.dp; omega) fun h' tk' e d M => ?_)
    show MkP X pins σ Q (.ref e) ⟨h', g, dr, tk', os⟩
    obtain ⟨oe, fv, hoe, hc, hd, hdat, h1⟩ := M.obj
    have hns := M.ns
    obtain ⟨G', g1, g2⟩ := restrict h' fun b => decide (b ≠ e)
    have gk : ∀ b, b ≠ e → G'.get? b = h'.get? b := fun b hb => g1 b (decide_eq_true hb)
    have ge : G'.get? e = none := g2 e (by simp)
    have old : ∀ b o, hp.get? b = some o → G'.get? b = some o := fun b o q => (gk b (Nat.ne_of_lt (Nat.lt_of_lt_of_le (Heap.lt_size q) M.new))).trans (M.keep b o q)
    have ob : ObjOk X.prog X.w (upd H1 d (.xd [(("what" : Str), v)])) G' d (.xd [(("what" : Str), v)]) :=
      ⟨_, hns.at (fun o q => (gk d M.dne).trans q), fun f => relO_low rv f⟩
    have J : Inv X pins σ (upd H1 d (.xd [(("what" : Str), v)])) ⟨G', g, dr, tk', os⟩ := I1.laid (t' := tk') old M.dbig ob
    refine ⟨e, oe, fv, ⟨G', g, dr, tk', os⟩, _, .ref C, some d, rfl, J, fun b o q => ?_, ge, hoe, ⟨hc, hd⟩, hdat, h1, ?_, rfl, I1.bare, raises_own T.exC T.tyC, q1 d (I1.hok.fresh M.dbig)⟩
    · by_cases hb : b = e
      · have q' : G'.get? b = some o := q
        rw [hb, ge] at q'; cases q'
      · exact (gk b hb).symm.trans q
    · rw [upd_ne (Ne.symm M.dne)]
      exact I1.hok.fresh M.new
/-- raise Low(e) -/
def tRaiseO (C : Addr) (W : WX) (ta : TA) : TS := fun _ σ H => tMkO C ta σ H fun cls d H' => W cls d σ H'
theorem ps_raiseO {a : Expr} {ta : TA} {W : WX} {p pos pos2 : Pos} {k : Nat} (hc : X.calm = true) (T : PySem.OorX.OorTxt X.K X.mg C fI) (hr : Room k X.A) (tk : Takes X W) (ha : PA X [a] ta) (hg : Gl X "OutOfRange" := by rfl)
    (he : starEach (a :: []) X.env = (false, eval a X.env) :: starEach [] X.env := by rfl) (hpl : (backTo pos (starEach [] X.env)).any (·.1) = false := by rfl) :
    PS X (.Raise (some (.Call (.Name "OutOfRange" p) [a] [] pos)) none pos2) (tRaiseO C W ta) := ps_raise hc tk (pmk_oor T hr ha hg he hpl)
/-- low.by, low the exception that the suite holds (at a; its class cls, its dict d) -/
def tWhat (C : Addr) (a : Addr) (cls : Value) (d : Option Addr) (te : TE) : TE := fun σ H Q => te σ H fun x H1 => x = .ref a ∧ cls = .ref C ∧ ∃ (dd : Addr) (v : V), d = some dd ∧ H1 dd = some (.xd [(("what" : Str), v)]) ∧ Q v H1
theorem pe_what {a : Addr} {oe : Obj} {cls : Value} {d : Option Addr} {pn : List (Addr × Obj)} {e : Expr} {te : TE} {pos : Pos} (T : PySem.OorX.OorTxt X.K X.mg C fI) (hz : Zc cls d oe) (hf : ∃ vs, oe.data = .fields vs) (he : PE (X.suite a ((a, oe) :: pn)) e te)
    (hb : attributeBase e "what" X.env (eval e X.env) = eval e X.env := by rfl) :
    PE (X.suite a ((a, oe) :: pn)) (.Attribute e "what" pos) (tWhat C a cls d te) := by
  refine ⟨fun pins s σ H Q I h => ?_⟩
  refine attr_of hb (thn (he.run pins s σ H _ I h) fun u s1 hh => ?_)
  obtain ⟨x, H1, I1, rx, ex, ec, dd, v, ed, ea, q⟩ := hh
  subst ex
  obtain rfl : u = Value.ref a := rx
  subst ec
  subst ed
  obtain ⟨ha, _⟩ := I1.pin (a, oe) (List.mem_append_left _ List.mem_cons_self)
  obtain ⟨vs, hd⟩ := hf
  have hx : ObjOk X.prog X.w H1 s1.heap dd (.xd [(("what" : Str), v)]) := I1.hok dd _ ea
  obtain ⟨mA, hns, hr⟩ := hx
  obtain ⟨od, ho, hl⟩ := lookIn_ns hns
  have l : List.lookup ("what" : Str) [(("what" : Str), v)] = some v := by simp [List.lookup]
  obtain ⟨u, hu, ru⟩ := RelO.some_of (v := v) (o := mA "what") (by rw [← l]; exact hr "what")
  have J : PySem.W.InstAt s1.heap a oe C (some od) := ⟨ha, hz.1, by unfold PySem.W.notCls; rw [hd] <;> rfl, by rw [hz.2]; exact ho⟩
  exact HandSPX.exc_get I1.kIn J T.ga T.gg T.exC (PySem.W.findObj_own T.hdC T.noN rfl (by rw [hl, hu])) (handed_of ru) ⟨v, H1, I1.tok _, ru, q⟩
end
end L2

namespace L2
open PySem PySem.Spec PyProof.Rows
theorem exm_self {K : PySem.W.Frag} {S : Addr} (h1 : PySem.W.subIn K (.ref S) (.type "BaseException") = some true) (h2 : PySem.W.isClsIn K S = true) (h3 : PySem.W.typeIn K (.ref S) = some (.type "type")) (h4 : PySem.W.subIn K (.ref S) (.ref S) = some true) :
    PySem.W.exmOne K (.ref S) (.ref S) = some true := by
  have e1 : (PySem.W.subIn K (.ref S) (.type "BaseException") == some true) = true := by rw [h1] <;> rfl
  have e2 : ((PySem.W.clsIn K S).isSome && PySem.W.typeIn K (.ref S) == some (.type "type")) = true := by
    have h2' : (PySem.W.clsIn K S).isSome = true := h2
    rw [h2', h3] <;> rfl
  show (if (PySem.W.subIn K (.ref S) (.type "BaseException") == some true) = true then (if ((PySem.W.clsIn K S).isSome && PySem.W.typeIn K (.ref S) == some (.type "type")) = true then PySem.W.subIn K (.ref S) (.ref S) else none) else none) = some true
  rw [if_pos e1, if_pos e2]
  exact h4
end L2
namespace L2
open PySem PySem.Spec PyProof.Rows
/-- X(), an own class without an __init__ of its own -/
theorem pmk_own0 {X : Cx} {C : Addr} {bmB : List Value} {B newId initId : String} {x : Str} {p pos : Pos} (F : ExcBaseFacts B newId initId bmB) (q : PySem.W.excIn X.K C bmB newId = true) (gC : X.mg x = some (.ref C)) (kC : PySem.W.keepIn X.K (.ref C) = true) (r : Raises X (.ref C)) (hg : Gl X x)
    (hdb : (x == ("__debug__" : Str)) = false := by decide) : PMk X (.Call (.Name x p) [] [] pos) (fun _ H Q => Q (.ref C) none H) := by
  intro pins s σ H Q I h
  refine wpAny_Call_Name_kw (ld_glob I hg gC ?_ hdb)
  refine PySem.W.callWith_K0 I.kIn kC ?_
  show wpAny _ _ (call (.ref C) []) _ _ _
  obtain ⟨bm, N, nm, qn, bs, hdct, sn, sub, ab, col, dd, k0, k1, k2, k3, k5, mN, hC, hN, hni, T⟩ := exc_obj I.kIn q
  refine wpAny_call_exc_subT F T hC hN hni (fun h' e hm => ?_) (Nat.zero_le _)
  exact mk_of I hm r h (I.hok.gone hm.new)
end L2
namespace Own
open PySem PySem.Spec PyProof.Rows L2
/-- an own error class without fields -/
structure OwnErr (K : PySem.W.Frag) (mg : Str → Option Value) (x : Str) (C : Addr) : Prop where
  gC : mg x = some (.ref C)
  xP : PySem.W.excIn K C [.type "ValueError", .type "Exception", .type "BaseException", .type "object"] "ValueError.__new__" = true
  kP : PySem.W.keepIn K (.ref C) = true
  bP : PySem.W.subIn K (.ref C) (.type "BaseException") = some true
  tP : PySem.W.typeIn K (.ref C) = some (.type "type")
  te : PySem.W.exmOne K (.ref C) (.ref C) = some true
/-- an error's own dict: new -/
def NewX (H : Hp) (v : V) (Q : Addr → Hp → Prop) (_ : Fx Q) : Prop := ∀ d, H d = none → Q d (upd H d (.xd [(("what" : Str), v)]))
theorem newx_of {H : Hp} {v : V} {Q : Addr → Hp → Prop} {z : Fx Q} (h : ∀ d H1, Same H H1 → H d = none → H1 d = some (.xd [(("what" : Str), v)]) → Q d H1) : NewX H v Q z := fun d nd => h d _ (same_upd nd) nd upd_same
theorem e_raiseO {C : Addr} {W : WX} {ta : TA} {D : Ends} {σ : L2.St} {H : Hp} : tRaiseO C W ta D σ H = ta σ H fun vs H1 => ∃ v, vs = [v] ∧ NewX H1 v (fun d H' => W (.ref C) (some d) σ H') fx := rfl
theorem e_callS {sp : Sp} {E : L2.St → XK} {t : TA} {σ : L2.St} {H : Hp} {Q : VK} : tCallS sp E t σ H Q = t σ H fun vs H1 => CallTo sp vs H1 Q (E σ) fx := rfl
theorem e_what {C a : Addr} {cls : Value} {d : Option Addr} {te : TE} {σ : L2.St} {H : Hp} {Q : VK} : tWhat C a cls d te σ H Q = te σ H fun x H1 => x = .ref a ∧ cls = .ref C ∧ ∃ (dd : Addr) (v : V), d = some dd ∧ H1 dd = some (.xd [(("what" : Str), v)]) ∧ Q v H1 := rfl
theorem hxd_inj {f : Str} {a b : V} : (HO.xd [(f, a)] = HO.xd [(f, b)]) = (a = b) := propext ⟨fun h => by injection h with h; injection h with h1 h2; injection h1, fun h => by rw [h]⟩
/-- an error that the clause names -/
theorem as_hit {K : PySem.W.Frag} {C : Addr} {i : Nat} {ts : Addr → Value → Option Addr → TS} {Wout : WX} {D : Ends} {d : Option Addr} {σ : L2.St} {H : Hp} (te : PySem.W.exmOne K (.ref C) (.ref C) = some true)
    (h : ∀ a, H a = none → ts a (.ref C) d { nx := fun σ' H' => D.nx (σ'.set i none) H', rt := D.rt, bk := fun σ' H' => D.bk (σ'.set i none) H', ct := fun σ' H' => D.ct (σ'.set i none) H' } (σ.set i (some (.ref a))) H) :
    WE (wAs K (.ref C) i ts Wout D) σ (.ref C) d H := ⟨true, te, fun _ => h, fun z => by cases z⟩
theorem only_hit {K : PySem.W.Frag} {C : Addr} {ts : Addr → Value → Option Addr → TS} {Wout : WX} {D : Ends} {d : Option Addr} {σ : L2.St} {H : Hp} (te : PySem.W.exmOne K (.ref C) (.ref C) = some true)
    (h : ∀ a, H a = none → ts a (.ref C) d D σ H) : WE (wOnly K (.ref C) ts Wout D) σ (.ref C) d H := ⟨true, te, fun _ => h, fun z => by cases z⟩
/-- the call ends in OutOfRange(z); what stood ahead stands -/
abbrev Ref (C : Addr) (z : Str) (H : Hp) (E : XK) : Prop := ∀ d H', Same H H' → H d = none → H' d = some (.xd [(("what" : Str), .str z)]) → E (.ref C) (some d) H'
theorem Ref.up {C : Addr} {z : Str} {H H1 : Hp} {E : XK} (r : Ref C z H E) (sm : Same H H1) : Ref C z H1 E := fun d H' s n e => r d H' (sm.trans s) (sm.free n) e
end Own

namespace Own
open PySem PySem.Spec PyProof.Rows L2
def topS (i : Nat) : Stmt := PySem.Challenge.pw_mobileair_k01_numbers_as_bits.main.body.getD i (.Pass ⟨0, 0, 0, 0⟩)
abbrev s_number_bits : Stmt := topS 5
abbrev s_bits_number : Stmt := topS 6
abbrev s_octet_bits : Stmt := topS 7
abbrev s_bits_octets : Stmt := topS 8
abbrev s__law_mixed : Stmt := topS 10
abbrev s__law_refused : Stmt := topS 11
abbrev s__law_number_right : Stmt := topS 12
abbrev s__law_octets_right : Stmt := topS 13
abbrev s_law : Stmt := topS 14
theorem sc_number_bits : FnScope ["number", "count", "place"] ["number", "count"] (defScope s_number_bits) := ⟨rfl, rfl, rfl, by decide +kernel, rfl, by decide +kernel, by decide +kernel⟩
theorem sc_bits_number : FnScope ["bits", "number", "bit"] ["bits"] (defScope s_bits_number) := ⟨rfl, rfl, rfl, by decide +kernel, rfl, by decide +kernel, by decide +kernel⟩
theorem sc_octet_bits : FnScope ["octets", "octet", "place"] ["octets"] (defScope s_octet_bits) := ⟨rfl, rfl, rfl, by decide +kernel, rfl, by decide +kernel, by decide +kernel⟩
theorem sc_bits_octets : FnScope ["bits", "at"] ["bits"] (defScope s_bits_octets) := ⟨rfl, rfl, rfl, by decide +kernel, rfl, by decide +kernel, by decide +kernel⟩
theorem sc__law_mixed : FnScope ["cell", "turn", "value", "first", "second", "third"] ["cell", "turn"] (defScope s__law_mixed) := ⟨rfl, rfl, rfl, by decide +kernel, rfl, by decide +kernel, by decide +kernel⟩
theorem sc__law_refused : FnScope ["number", "count", "e"] ["number", "count"] (defScope s__law_refused) := ⟨rfl, rfl, rfl, by decide +kernel, rfl, by decide +kernel, by decide +kernel⟩
theorem sc__law_number_right : FnScope ["number", "count", "bits", "left", "k", "bit", "kept"] ["number", "count"] (defScope s__law_number_right) := ⟨rfl, rfl, rfl, by decide +kernel, rfl, by decide +kernel, by decide +kernel⟩
theorem sc__law_octets_right : FnScope ["octets", "bits", "k", "left", "j", "kept", "back"] ["octets"] (defScope s__law_octets_right) := ⟨rfl, rfl, rfl, by decide +kernel, rfl, by decide +kernel, by decide +kernel⟩
theorem sc_law : FnScope ["script", "turn", "cell", "value", "size", "number", "spare", "need", "left", "between", "octets", "k", "bits"] ["script"] (defScope s_law) := ⟨rfl, rfl, rfl, by decide +kernel, rfl, by decide +kernel, by decide +kernel⟩
structure BI (mg : Str → Option Value) : Prop where
  range_ : mg "range" = none
  len_ : mg "len" = none
  tuple_ : mg "tuple" = none
  int_ : mg "int" = none
  isinstance_ : mg "isinstance" = none
  list_ : mg "list" = none
  bool_ : mg "bool" = none
  enumerate_ : mg "enumerate" = none
/-- the coded form, behind the last four bits a (the newest), b, c, d -/
def cvt : Bool → Bool → Bool → Bool → List Bool → List Bool
  | _, _, _, _, [] => []
  | a, b, c, d, x :: r => (x ^^ c ^^ d) :: (x ^^ a ^^ c ^^ d) :: cvt x a b c r
def conv (u : List Bool) : List Bool := cvt false false false false u
/-- the last four bits -/
def lst4 : Bool → Bool → Bool → Bool → List Bool → Bool × Bool × Bool × Bool
  | a, b, c, d, [] => (a, b, c, d)
  | a, b, c, _, x :: r => lst4 x a b c r
def l4 (u : List Bool) : Bool × Bool × Bool × Bool := lst4 false false false false u
theorem cvt_len : ∀ (a b c d : Bool) (u : List Bool), (cvt a b c d u).length = 2 * u.length
  | _, _, _, _, [] => rfl
  | a, b, c, d, x :: r => by
    show (cvt x a b c r).length + 1 + 1 = 2 * (r.length + 1)
    rw [cvt_len x a b c r]; omega
theorem conv_len (u : List Bool) : (conv u).length = 2 * u.length := cvt_len _ _ _ _ u
theorem cvt_snoc : ∀ (a b c d : Bool) (u : List Bool) (x : Bool), cvt a b c d (u ++ [x]) =
    cvt a b c d u ++ [x ^^ (lst4 a b c d u).2.2.1 ^^ (lst4 a b c d u).2.2.2, x ^^ (lst4 a b c d u).1 ^^ (lst4 a b c d u).2.2.1 ^^ (lst4 a b c d u).2.2.2]
  | _, _, _, _, [], _ => rfl
  | a, b, c, d, y :: r, x => by
    show _ :: _ :: cvt y a b c (r ++ [x]) = _ :: _ :: (cvt y a b c r ++ _)
    rw [cvt_snoc y a b c r x]
    rfl
theorem lst4_snoc : ∀ (a b c d : Bool) (u : List Bool) (x : Bool), lst4 a b c d (u ++ [x]) = (x, (lst4 a b c d u).1, (lst4 a b c d u).2.1, (lst4 a b c d u).2.2.1)
  | _, _, _, _, [], _ => rfl
  | a, b, c, _, y :: r, x => lst4_snoc y a b c r x
theorem conv_snoc (u : List Bool) (x : Bool) : conv (u ++ [x]) = conv u ++ [x ^^ (l4 u).2.2.1 ^^ (l4 u).2.2.2, x ^^ (l4 u).1 ^^ (l4 u).2.2.1 ^^ (l4 u).2.2.2] := cvt_snoc _ _ _ _ u x
theorem l4_snoc (u : List Bool) (x : Bool) : l4 (u ++ [x]) = (x, (l4 u).1, (l4 u).2.1, (l4 u).2.2.1) := lst4_snoc _ _ _ _ u x
theorem conv_take {u : List Bool} {i : Nat} {x : Bool} (h : u[i]? = some x) : conv (u.take (i + 1)) = conv (u.take i) ++ [x ^^ (l4 (u.take i)).2.2.1 ^^ (l4 (u.take i)).2.2.2, x ^^ (l4 (u.take i)).1 ^^ (l4 (u.take i)).2.2.1 ^^ (l4 (u.take i)).2.2.2] := by
  rw [List.take_add_one, h]
  exact conv_snoc _ x
theorem l4_take {u : List Bool} {i : Nat} {x : Bool} (h : u[i]? = some x) : l4 (u.take (i + 1)) = (x, (l4 (u.take i)).1, (l4 (u.take i)).2.1, (l4 (u.take i)).2.2.1) := by
  rw [List.take_add_one, h]
  exact l4_snoc _ x
theorem conv_le (u : List Bool) (i : Nat) : (conv (u.take i)).length ≤ 2 * u.length := by
  rw [conv_len, List.length_take]; omega
def v4 (q : Bool × Bool × Bool × Bool) : List Bool := [q.1, q.2.1, q.2.2.1, q.2.2.2]
theorem bz_at {u : List Bool} {i : Nat} {x : V} (h : (ivs (bz u))[i]? = some x) : ∃ b, u[i]? = some b ∧ x = .int (b2 b) := by
  rw [ivs_get, bz_get] at h
  cases e : u[i]? with
  | none => rw [e] at h; cases h
  | some b =>
    rw [e] at h
    exact ⟨b, rfl, (Option.some.inj h).symm⟩
theorem nth_pad {u : List Bool} {i : Nat} : ([false, false, false, false] ++ u)[i + 4]? = u[i]? := rfl
/-- behind i bits the last four stand ahead of place i + 4 -/
theorem l4_pad : ∀ (u : List Bool) (i : Nat), i ≤ u.length → ([false, false, false, false] ++ u)[i + 3]? = some (l4 (u.take i)).1 ∧ ([false, false, false, false] ++ u)[i + 2]? = some (l4 (u.take i)).2.1 ∧
    ([false, false, false, false] ++ u)[i + 1]? = some (l4 (u.take i)).2.2.1 ∧ ([false, false, false, false] ++ u)[i]? = some (l4 (u.take i)).2.2.2
  | u, 0, _ => ⟨rfl, rfl, rfl, rfl⟩
  | u, i + 1, h => by
    obtain ⟨h1, h2, h3, h4⟩ := l4_pad u i (by omega)
    have e : u[i]? = some u[i] := List.getElem?_eq_getElem (by omega)
    rw [l4_take e]
    exact ⟨by rw [show i + 1 + 3 = i + 4 by omega, nth_pad]; exact e, h1, h2, h3⟩
/-- the sum of two rows -/
def zx (u v : List Bool) : List Bool := List.zipWith (fun a b => a ^^ b) u v
theorem zx_len {u v : List Bool} (h : v.length = u.length) : (zx u v).length = u.length := by
  unfold zx; rw [List.length_zipWith, h, Nat.min_self]
theorem zx_get {u v : List Bool} {i : Nat} {a b : Bool} (h1 : u[i]? = some a) (h2 : v[i]? = some b) : (zx u v)[i]? = some (a ^^ b) := by
  unfold zx; rw [List.getElem?_zipWith, h1, h2]
theorem cvt_zx : ∀ (a b c d a' b' c' d' : Bool) (u v : List Bool), v.length = u.length →
    cvt (a ^^ a') (b ^^ b') (c ^^ c') (d ^^ d') (zx u v) = zx (cvt a b c d u) (cvt a' b' c' d' v)
  | _, _, _, _, _, _, _, _, [], [], _ => rfl
  | a, b, c, d, a', b', c', d', x :: u, y :: v, h => by
    show ((x ^^ y) ^^ (c ^^ c') ^^ (d ^^ d')) :: ((x ^^ y) ^^ (a ^^ a') ^^ (c ^^ c') ^^ (d ^^ d')) :: cvt (x ^^ y) (a ^^ a') (b ^^ b') (c ^^ c') (zx u v) =
      ((x ^^ c ^^ d) ^^ (y ^^ c' ^^ d')) :: ((x ^^ a ^^ c ^^ d) ^^ (y ^^ a' ^^ c' ^^ d')) :: zx (cvt x a b c u) (cvt y a' b' c' v)
    rw [cvt_zx x a b c y a' b' c' u v (by simpa using h)]
    congr 1
    · cases x <;> cases y <;> cases c <;> cases d <;> cases c' <;> cases d' <;> rfl
    · congr 1
      cases x <;> cases y <;> cases a <;> cases c <;> cases d <;> cases a' <;> cases c' <;> cases d' <;> rfl
theorem conv_zx {u v : List Bool} (h : v.length = u.length) : conv (zx u v) = zx (conv u) (conv v) := cvt_zx false false false false false false false false u v h
theorem bz_take {u : List Bool} {n : Nat} : (bz u).take n = bz (u.take n) := (List.map_take ..).symm
theorem take_snoc {α : Type} {u : List α} {i : Nat} {b : α} (h : u[i]? = some b) : u.take (i + 1) = u.take i ++ [b] := by
  rw [List.take_add_one, h]; rfl
theorem ivs_bz_take_snoc {u : List Bool} {i : Nat} {b : Bool} (h : u[i]? = some b) : ivs (bz (u.take (i + 1))) = ivs (bz (u.take i)) ++ [V.int (b2 b)] := by
  rw [take_snoc h, ivs_snoc, bz_snoc]
theorem ivs_bz_len (u : List Bool) (i : Nat) : (ivs (bz (u.take i))).length ≤ u.length := by
  rw [ivs_len, bz_len, List.length_take]; omega
theorem ivs_take_snoc {u : List Int} {i : Nat} {b : Int} (h : u[i]? = some b) : ivs (u.take (i + 1)) = ivs (u.take i) ++ [V.int b] := by
  rw [take_snoc h, ivs_snoc]

/-- bits as a number, the first one the highest -/
def nu (u : List Bool) : Nat := u.foldl (fun n b => 2 * n + b.toNat) 0
theorem b2_nat (b : Bool) : b2 b = (b.toNat : Int) := by cases b <;> rfl
theorem nu_snoc (u : List Bool) (b : Bool) : nu (u ++ [b]) = 2 * nu u + b.toNat := by simp [nu]
theorem snoc_ind {P : List Bool → Prop} (h0 : P []) (hs : ∀ u b, P u → P (u ++ [b])) (u : List Bool) : P u := by
  have go : ∀ (n : Nat) (u : List Bool), u.length = n → P u := by
    intro n
    induction n with
    | zero => intro u h; rw [List.length_eq_zero_iff.mp h]; exact h0
    | succ n ih =>
      intro u h
      have ne : u ≠ [] := fun e => by rw [e] at h; cases h
      rw [← List.dropLast_concat_getLast ne]
      exact hs _ _ (ih _ (by rw [List.length_dropLast]; omega))
  exact go _ u rfl
theorem nu_lt (u : List Bool) : nu u < 2 ^ u.length := by
  induction u using snoc_ind with
  | h0 => decide
  | hs u b ih =>
    rw [nu_snoc, List.length_append, List.length_cons, List.length_nil, Nat.zero_add, Nat.pow_succ]
    have : b.toNat ≤ 1 := by cases b <;> decide
    omega
theorem nu_cons (b : Bool) (u : List Bool) : nu (b :: u) = b.toNat * 2 ^ u.length + nu u := by
  induction u using snoc_ind with
  | h0 => cases b <;> rfl
  | hs u c ih =>
    rw [show b :: (u ++ [c]) = (b :: u) ++ [c] from rfl, nu_snoc, ih, nu_snoc, List.length_append, List.length_cons, List.length_nil, Nat.zero_add, Nat.pow_succ]
    cases b
    · simp
    · simp only [Bool.toNat_true, Nat.one_mul]; omega
theorem nat_xor2 (x y : Nat) (a b : Bool) : (2 * x + a.toNat) ^^^ (2 * y + b.toNat) = 2 * (x ^^^ y) + (a ^^ b).toNat := by
  have d := Nat.xor_div_two (a := 2 * x + a.toNat) (b := 2 * y + b.toNat)
  have m := Nat.testBit_xor (x := 2 * x + a.toNat) (y := 2 * y + b.toNat) (i := 0)
  have em : ∀ (k : Nat) (c : Bool), decide ((2 * k + c.toNat) % 2 = 1) = c := fun k c => by cases c <;> simp <;> omega
  rw [Nat.testBit_zero, Nat.testBit_zero, Nat.testBit_zero, em, em] at m
  have ea : (2 * x + a.toNat) / 2 = x := by cases a <;> simp <;> omega
  have eb : (2 * y + b.toNat) / 2 = y := by cases b <;> simp <;> omega
  rw [ea, eb] at d
  generalize (2 * x + a.toNat) ^^^ (2 * y + b.toNat) = z at d m ⊢
  rw [← d, ← m]
  by_cases h : z % 2 = 1
  · rw [decide_eq_true h, Bool.toNat_true]; omega
  · rw [decide_eq_false h, Bool.toNat_false]; omega
theorem zx_snoc {u v : List Bool} {a b : Bool} (h : v.length = u.length) : zx (u ++ [a]) (v ++ [b]) = zx u v ++ [a ^^ b] := by
  unfold zx
  rw [List.zipWith_append (by omega)]
  rfl
theorem nu_xor (u : List Bool) : ∀ v : List Bool, v.length = u.length → nu u ^^^ nu v = nu (zx u v) := by
  induction u using snoc_ind with
  | h0 => intro v h; rw [List.length_eq_zero_iff.mp h]; decide
  | hs u a ih =>
    intro v h
    rw [List.length_append, List.length_cons, List.length_nil] at h
    have ne : v ≠ [] := fun e => by rw [e] at h; simp at h
    rw [← List.dropLast_concat_getLast ne]
    have hl : v.dropLast.length = u.length := by rw [List.length_dropLast]; omega
    rw [nu_snoc, nu_snoc, zx_snoc hl, nu_snoc, nat_xor2, ih _ hl]
/-- the bits of a number -/
def nb (n : Nat) : Nat → List Bool
  | 0 => []
  | c + 1 => nb (n / 2) c ++ [decide (n % 2 = 1)]
theorem nb_len : ∀ (n c : Nat), (nb n c).length = c
  | _, 0 => rfl
  | n, c + 1 => by
    show (nb (n / 2) c ++ [decide (n % 2 = 1)]).length = c + 1
    rw [List.length_append, nb_len]; rfl
theorem nb_nu (u : List Bool) : nb (nu u) u.length = u := by
  induction u using snoc_ind with
  | h0 => rfl
  | hs u b ih =>
    rw [nu_snoc, List.length_append, List.length_cons, List.length_nil, Nat.zero_add]
    show nb ((2 * nu u + b.toNat) / 2) u.length ++ [decide ((2 * nu u + b.toNat) % 2 = 1)] = u ++ [b]
    have e1 : (2 * nu u + b.toNat) / 2 = nu u := by cases b <;> simp <;> omega
    have e2 : decide ((2 * nu u + b.toNat) % 2 = 1) = b := by cases b <;> simp <;> omega
    rw [e1, e2, ih]
theorem nb_get : ∀ (n c k : Nat), k < c → (nb n c)[k]? = some (decide (n / 2 ^ (c - 1 - k) % 2 = 1))
  | _, 0, k, h => absurd h (by omega)
  | n, c + 1, k, h => by
    show (nb (n / 2) c ++ [decide (n % 2 = 1)])[k]? = _
    have l := nb_len (n / 2) c
    by_cases e : k < c
    · rw [List.getElem?_append_left (by omega), nb_get (n / 2) c k e, Nat.div_div_eq_div_mul, ← Nat.pow_succ', show (c - 1 - k).succ = c + 1 - 1 - k by omega]
    · rw [List.getElem?_append_right (by omega), l, show k - c = 0 by omega, show c + 1 - 1 - k = 0 by omega]
      simp
/-- a division's step: the rest r, the divisor behind its first 1, the next bit -/
def stp (d : List Bool) : List Bool → Bool → List Bool
  | [], _ => []
  | t :: rs, b => if t = true then zx (rs ++ [b]) d else rs ++ [b]
def zs (n : Nat) : List Bool := List.replicate n false
/-- the remainder -/
def rmd (d u : List Bool) : List Bool := u.foldl (stp d) (zs d.length)
theorem stp_len {d r : List Bool} {b : Bool} (h : r.length = d.length) : (stp d r b).length = d.length := by
  cases r with
  | nil => exact h
  | cons t rs =>
    have hl : (rs ++ [b]).length = d.length := by simpa using h
    show (if t = true then zx (rs ++ [b]) d else rs ++ [b]).length = d.length
    split
    · rw [zx_len (by omega)]; exact hl
    · exact hl
theorem fold_len {d : List Bool} : ∀ (u : List Bool) (r : List Bool), r.length = d.length → (u.foldl (stp d) r).length = d.length
  | [], _, h => h
  | b :: u, r, h => fold_len u (stp d r b) (stp_len h)
theorem zs_len (n : Nat) : (zs n).length = n := List.length_replicate
theorem rmd_len (d u : List Bool) : (rmd d u).length = d.length := fold_len u _ (zs_len _)
theorem rmd_snoc (d u : List Bool) (b : Bool) : rmd d (u ++ [b]) = stp d (rmd d u) b := by simp [rmd]
theorem rmd_take {d u : List Bool} {i : Nat} {b : Bool} (h : u[i]? = some b) : rmd d (u.take (i + 1)) = stp d (rmd d (u.take i)) b := by
  rw [take_snoc h, rmd_snoc]
theorem nu_zs : ∀ n : Nat, nu (zs n) = 0
  | 0 => rfl
  | n + 1 => by rw [show zs (n + 1) = false :: zs n from rfl, nu_cons, nu_zs n]; simp
/-- the step on numbers -/
theorem stp_nu {d r : List Bool} {b : Bool} (h : r.length = d.length) (hd : 0 < d.length) :
    ((2 * nu r + b.toNat) / 2 ^ d.length = 0 ∧ 2 * nu r + b.toNat = nu (stp d r b)) ∨ ((2 * nu r + b.toNat) / 2 ^ d.length ≠ 0 ∧ (2 * nu r + b.toNat) ^^^ nu (true :: d) = nu (stp d r b)) := by
  cases r with
  | nil => rw [List.length_nil] at h; omega
  | cons t rs =>
    have hl : (rs ++ [b]).length = d.length := by simpa using h
    have e : 2 * nu (t :: rs) + b.toNat = nu (t :: (rs ++ [b])) := (nu_snoc _ _).symm
    rw [e]
    have lt := nu_lt (rs ++ [b])
    rw [hl] at lt
    cases t with
    | false =>
      refine .inl ⟨?_, ?_⟩
      · rw [nu_cons]; simp only [Bool.toNat_false, Nat.zero_mul, Nat.zero_add]
        exact Nat.div_eq_of_lt lt
      · rw [nu_cons]; simp [stp]
    | true =>
      refine .inr ⟨?_, ?_⟩
      · rw [nu_cons, hl]; simp only [Bool.toNat_true, Nat.one_mul]
        rw [Nat.add_div_left _ (Nat.two_pow_pos _)]
        exact Nat.succ_ne_zero _
      · rw [nu_xor _ _ (by simpa using hl.symm)]
        show nu (false :: zx (rs ++ [b]) d) = _
        rw [nu_cons]; simp [stp]
/-! the sum of rows -/
theorem stp_zx {d r s : List Bool} {a b : Bool} (h1 : r.length = d.length) (h2 : s.length = d.length) : stp d (zx r s) (a ^^ b) = zx (stp d r a) (stp d s b) := by
  have xc : ∀ (x y z : List Bool), zx (zx x y) z = zx x (zx y z) := by
    intro x
    induction x with
    | nil => intro y z; simp [zx]
    | cons p x ih =>
      intro y z
      cases y with
      | nil => simp [zx]
      | cons q y =>
        cases z with
        | nil => simp [zx]
        | cons o z => show (p ^^ q ^^ o) :: zx (zx x y) z = (p ^^ (q ^^ o)) :: zx x (zx y z); rw [ih, Bool.xor_assoc]
  have cm : ∀ (x y : List Bool), zx x y = zx y x := by
    intro x
    induction x with
    | nil => intro y; cases y <;> rfl
    | cons p x ih =>
      intro y
      cases y with
      | nil => rfl
      | cons q y => show (p ^^ q) :: zx x y = (q ^^ p) :: zx y x; rw [ih, Bool.xor_comm]
  have nil2 : ∀ (x y : List Bool), x.length = y.length → zx x (zx y y) = x := by
    intro x
    induction x with
    | nil => intro y h; rfl
    | cons p x ih =>
      intro y h
      cases y with
      | nil => cases h
      | cons q y => show (p ^^ (q ^^ q)) :: zx x (zx y y) = p :: x; rw [ih y (by simpa using h)]; simp
  cases r with
  | nil => cases s with
    | nil => rfl
    | cons _ _ => rw [← h1] at h2; cases h2
  | cons t rs => cases s with
    | nil => rw [← h1] at h2; cases h2
    | cons t' ss =>
      have hl : (rs ++ [a]).length = d.length := by simpa using h1
      have hl2 : (ss ++ [b]).length = d.length := by simpa using h2
      have lz : (zx (rs ++ [a]) (ss ++ [b])).length = d.length := by rw [zx_len (by omega)]; exact hl
      have ez : zx rs ss ++ [a ^^ b] = zx (rs ++ [a]) (ss ++ [b]) := (zx_snoc (by simp at h1 h2; omega)).symm
      show (if (t ^^ t') = true then zx (zx rs ss ++ [a ^^ b]) d else zx rs ss ++ [a ^^ b]) = zx (if t = true then zx (rs ++ [a]) d else rs ++ [a]) (if t' = true then zx (ss ++ [b]) d else ss ++ [b])
      rw [ez]
      cases t <;> cases t'
      · rfl
      · exact xc _ _ _
      · show zx (zx (rs ++ [a]) (ss ++ [b])) d = zx (zx (rs ++ [a]) d) (ss ++ [b])
        rw [xc, xc, cm d]
      · show zx (rs ++ [a]) (ss ++ [b]) = zx (zx (rs ++ [a]) d) (zx (ss ++ [b]) d)
        rw [xc, ← xc d, cm d, xc (ss ++ [b]), ← xc (rs ++ [a]), nil2 _ _ (by rw [lz])]
theorem fold_zx {d : List Bool} : ∀ (u v r s : List Bool), v.length = u.length → r.length = d.length → s.length = d.length → (zx u v).foldl (stp d) (zx r s) = zx (u.foldl (stp d) r) (v.foldl (stp d) s)
  | [], [], _, _, _, _, _ => rfl
  | a :: u, b :: v, r, s, h, h1, h2 => by
    show (zx u v).foldl (stp d) (stp d (zx r s) (a ^^ b)) = zx (u.foldl (stp d) (stp d r a)) (v.foldl (stp d) (stp d s b))
    rw [stp_zx h1 h2]
    exact fold_zx u v _ _ (by simpa using h) (stp_len h1) (stp_len h2)
  | [], _ :: _, _, _, h, _, _ => by cases h
  | _ :: _, [], _, _, h, _, _ => by cases h
theorem zx_zs : ∀ (u : List Bool) (n : Nat), u.length = n → zx u (zs n) = u
  | [], _, h => by subst h; rfl
  | a :: u, n, h => by
    subst h
    show (a ^^ false) :: zx u (zs u.length) = a :: u
    rw [zx_zs u _ rfl, Bool.xor_false]
theorem zs_zx {n m : Nat} (h : m = n) : zx (zs n) (zs m) = zs n := by rw [h]; exact zx_zs _ _ (zs_len _)
theorem rmd_zx {d u v : List Bool} (h : v.length = u.length) : rmd d (zx u v) = zx (rmd d u) (rmd d v) := by
  unfold rmd
  rw [← fold_zx u v _ _ h (zs_len _) (zs_len _), zs_zx rfl]
/-- zeros at first -/
theorem fold_zs {d : List Bool} : ∀ n : Nat, (zs n).foldl (stp d) (zs d.length) = zs d.length
  | 0 => rfl
  | n + 1 => by
    show (zs n).foldl (stp d) (stp d (zs d.length) false) = _
    have e : stp d (zs d.length) false = zs d.length := by
      cases d with
      | nil => rfl
      | cons x d =>
        show zs d.length ++ [false] = zs (d.length + 1)
        exact (List.replicate_succ' ..).symm
    rw [e, fold_zs n]
/-- rows shorter than the rest are taken in as they are -/
theorem fold_short {d : List Bool} (w : List Bool) (h : w.length ≤ d.length) : w.foldl (stp d) (zs d.length) = zs (d.length - w.length) ++ w := by
  induction w using snoc_ind with
  | h0 => simp
  | hs w b ih =>
    rw [List.length_append, List.length_cons, List.length_nil] at h
    rw [List.foldl_append, ih (by omega)]
    show stp d (zs (d.length - w.length) ++ w) b = _
    obtain ⟨k, hk⟩ : ∃ k, d.length - w.length = k + 1 := ⟨d.length - w.length - 1, by omega⟩
    rw [hk, show zs (k + 1) = false :: zs k from rfl]
    show (zs k ++ w) ++ [b] = _
    rw [List.length_append, List.length_cons, List.length_nil, show d.length - (w.length + (0 + 1)) = k by omega, List.append_assoc]
theorem zx_same : ∀ u : List Bool, zx u u = zs u.length
  | [] => rfl
  | a :: u => by
    show (a ^^ a) :: zx u u = false :: zs u.length
    rw [zx_same u, Bool.xor_self]
/-- the divisor itself leaves nothing -/
theorem fold_self {d : List Bool} (hd : 0 < d.length) : (true :: d).foldl (stp d) (zs d.length) = zs d.length := by
  have ne : d ≠ [] := fun e => by rw [e] at hd; cases hd
  have e : true :: d = (true :: d.dropLast) ++ [d.getLast ne] := by rw [List.cons_append, List.dropLast_concat_getLast]
  rw [e, List.foldl_append, fold_short _ (by simp; omega)]
  show stp d (zs (d.length - (d.dropLast.length + 1)) ++ true :: d.dropLast) (d.getLast ne) = _
  rw [show d.length - (d.dropLast.length + 1) = 0 by rw [List.length_dropLast]; omega]
  show zx (d.dropLast ++ [d.getLast ne]) d = _
  rw [List.dropLast_concat_getLast, zx_same]
/-- the divisor, shifted, taken to a row leaves the row's remainder -/
theorem rmd_shift {d u : List Bool} {at' m : Nat} (hd : 0 < d.length) (h : at' + (d.length + 1) + m = u.length) : rmd d (zx u (zs at' ++ (true :: d) ++ zs m)) = rmd d u := by
  rw [rmd_zx (by simp [zs_len]; omega)]
  have e : rmd d (zs at' ++ (true :: d) ++ zs m) = zs d.length := by
    unfold rmd
    rw [List.foldl_append, List.foldl_append, fold_zs, fold_self hd, fold_zs]
  rw [e]
  exact zx_zs _ _ (rmd_len d u)
theorem zx_app2 {u v a b : List Bool} (h : v.length = u.length) : zx (u ++ a) (v ++ b) = zx u v ++ zx a b := by
  unfold zx
  exact List.zipWith_append h.symm
theorem set_mid {X Z : List Bool} {y v : Bool} {n : Nat} (h : n = X.length) : (X ++ y :: Z)[n]? = some y ∧ (X ++ y :: Z).set n v = X ++ v :: Z := by
  subst h
  constructor
  · rw [List.getElem?_append_right (Nat.le_refl _), Nat.sub_self]; rfl
  · rw [List.set_append_right _ _ (Nat.le_refl _), Nat.sub_self]; rfl
/-- one place more of the shifted divisor -/
theorem zx_put {u p : List Bool} {a m n : Nat} {b c : Bool} (hn : n = a + p.length) (hb : u[n]? = some b) (h : n + 1 + m = u.length) :
    (zx u (zs a ++ p ++ zs (m + 1)))[n]? = some b ∧ (zx u (zs a ++ p ++ zs (m + 1))).set n (b ^^ c) = zx u (zs a ++ (p ++ [c]) ++ zs m) := by
  have lt : n < u.length := by omega
  have e : u = u.take n ++ b :: u.drop (n + 1) := by
    have e1 := List.drop_eq_getElem_cons lt
    have e2 : u[n] = b := by rw [List.getElem?_eq_getElem lt] at hb; exact Option.some.inj hb
    rw [e2] at e1
    rw [← e1, List.take_append_drop]
  have l1 : (u.take n).length = n := by rw [List.length_take]; omega
  have l2 : (zs a ++ p).length = (u.take n).length := by rw [List.length_append, zs_len, l1, hn]
  have k1 : zx u (zs a ++ p ++ zs (m + 1)) = zx (u.take n) (zs a ++ p) ++ (b ^^ false) :: zx (u.drop (n + 1)) (zs m) := by
    conv => lhs; rw [e, show zs (m + 1) = false :: zs m from rfl]
    rw [zx_app2 l2]
    rfl
  have k2 : zx u (zs a ++ (p ++ [c]) ++ zs m) = zx (u.take n) (zs a ++ p) ++ (b ^^ c) :: zx (u.drop (n + 1)) (zs m) := by
    conv => lhs; rw [e, ← List.append_assoc, List.append_assoc (zs a ++ p), show [c] ++ zs m = c :: zs m from rfl]
    rw [zx_app2 l2]
    rfl
  have l3 : n = (zx (u.take n) (zs a ++ p)).length := by rw [zx_len l2, l1]
  rw [k1, k2]
  have s := set_mid (X := zx (u.take n) (zs a ++ p)) (Z := zx (u.drop (n + 1)) (zs m)) (y := b ^^ false) (v := b ^^ c) l3
  refine ⟨?_, s.2⟩
  rw [s.1, Bool.xor_false]
theorem zs_add (n m k : Nat) (h : n + m = k) : zs n ++ zs m = zs k := by
  unfold zs
  rw [List.replicate_append_replicate, h]

/-- [f(x, y) for x in t for y in range(m)], t a tuple, the two names behind one parameter -/
theorem lc2_rng {K : PySem.W.Frag} {a : Addr} {m : Nat} {te : TE} {y1 y2 : Option V} {H1 : Hp} {Q : VK} {xs : List V} (hS : SqT K H1 a xs) (hm : m < 1000) (l : Nat → List V) (h0 : l 0 = [])
    (hs : ∀ D i j x H, H1 D = none → xs[i]? = some x → j < m → LcP H1 D l (i * m + j) H → te [some (.ref a), some x, some (.int (0 + (j : Nat)))] H fun y H4 => Elt H1 D l (i * m + j) y H4 fx)
    (hd : ∀ D H, H1 D = none → Same H1 H → H D = some (.lst (l (xs.length * m))) → Q (.ref D) H) :
    tLc2 (iTup K (tVar 0)) (gName 1) tYes (iRng1 (tCons (tC (V.int (m : Nat))) tNil)) (gName 2) tYes te [1, 2] [2] [some (.ref a), y1, y2] H1 Q := by
  refine ⟨.ref a, rfl, a, rfl, ⟨xs, hS⟩, fun D hD => ?_⟩
  have w := walk_tup (K := K) (a := a) (xs := xs)
  refine ⟨fun i k H => k = xs.length - i ∧ i ≤ xs.length ∧ LcP H1 D l (i * m) H, ⟨_, rfl, Nat.zero_le _, same_upd hD, by rw [upd_same, Nat.zero_mul, h0]⟩, ?_⟩
  rintro i k H ⟨rfl, hi, p⟩
  by_cases lt : i < xs.length
  · refine .inr ⟨w.goes i H lt (seqT_up p.1 hS), fun H => LcP H1 D l ((i + 1) * m) H, fun H' p' => ⟨xs.length - (i + 1), by omega, rfl, lt, p'⟩, fun x H' y => ?_⟩
    obtain ⟨rfl, hx⟩ := w.yields i H x H' lt (seqT_up p.1 hS) y
    refine ⟨rfl, ?_⟩
    unfold tYes
    dsimp only
    try rw [if_pos rfl]
    refine ⟨(m : Int), rfl, by omega, by omega, ?_⟩
    rw [Int.toNat_natCast]
    have w1 := walk_range (lo := 0) (n := m)
    refine ⟨fun j k H => k = m - j ∧ j ≤ m ∧ LcP H1 D l (i * m + j) H, ⟨_, rfl, Nat.zero_le _, p⟩, ?_⟩
    rintro j k G ⟨rfl, hj, p1⟩
    by_cases lj : j < m
    · refine .inr ⟨w1.goes j G lj trivial, fun H => LcP H1 D l (i * m + (j + 1)) H, fun H' p' => ⟨m - (j + 1), by omega, rfl, lj, p'⟩, fun x1 G' y1' => ?_⟩
      obtain ⟨rfl, rfl⟩ := w1.yields j G x1 G' lj trivial y1'
      refine ⟨rfl, ?_⟩
      try rw [if_pos rfl]
      exact hs D i j x G' hD hx lj p1
    · have e : j = m := by omega
      subst e
      refine .inl ⟨w1.stops G trivial, ?_⟩
      rw [Nat.succ_mul]
      exact p1
  · have e : i = xs.length := by omega
    subst e
    exact .inl ⟨w.stops H (seqT_up p.1 hS), hd D H hD p.1 p.2⟩

section
variable {P : Program} {w : World} {K : PySem.W.Frag} {mg : Str → Option Value} {base : Heap} {C_OutOfRange f_OutOfRange : Addr} {C_BadBits : Addr}
theorem and_one (x : Int) : Builtin.bitAnd x 1 = x % 2 := by
  have h := Bits.bit_at (x := x) 0
  rw [Int.pow_zero, Int.fdiv_one, Int.ediv_one] at h
  exact h
theorem bits_lt {m k : Nat} (h : Builtin.Int.intBits (m : Int) ≤ k) : m < 2 ^ k := by
  unfold Builtin.Int.intBits at h
  split at h
  · rename_i e
    have e' : (m : Int) = 0 := by simpa using e
    have : m = 0 := by omega
    rw [this]; exact Nat.two_pow_pos k
  · rw [Int.natAbs_natCast] at h
    exact Nat.lt_of_lt_of_le Nat.lt_log2_self (Nat.pow_le_pow_right (by decide) h)
theorem nb_bit (m p : Nat) : Builtin.bitAnd ((m : Int) / 2 ^ p) 1 = b2 (decide (m / 2 ^ p % 2 = 1)) := by
  rw [and_one, b2_odd, ← PySem.W.kbt_cast, ← Int.natCast_ediv]
  congr 1
  rw [decide_eq_decide]
  omega

def sp_number_bits (K : PySem.W.Frag) (C : Addr) : Sp := fun vs H Q E => ∃ n c : Int, vs = [.int n, .int c] ∧ c ≤ 100000 ∧ (¬ (0 ≤ n ∧ n < 2 ^ c.toNat ∧ 0 ≤ c) → Ref C "number" H E) ∧
  (∀ m k : Nat, n = (m : Int) → c = (k : Int) → m < 2 ^ k → ∀ H' p, Same H H' → H p = none → H' p = some (.lst (ivs (bz (nb m k)))) → Q (.ref p) H')

theorem ok_number_bits {f : Addr} {fd : FuncData} (F : Fun K "number_bits" "number_bits" s_number_bits f fd) (B : BI mg) (X_OutOfRange : PySem.OorX.OorTxt K mg C_OutOfRange f_OutOfRange) : FnOk P w K mg base (L2.CX P w) 1 f fd ["number", "count"] (sp_number_bits K C_OutOfRange) := by
  refine F.okX sc_number_bits (fun vs H Q E h => ?_) (fun cdv A outer s H vs Q E hr h => ?_)
  · obtain ⟨n, c, rfl, hc, q1, q2⟩ := h
    rfl
  · obtain ⟨n, c, rfl, hc, q1, q2⟩ := h
    refine ⟨_, (pss_cons (ps_if (PW.pt (pw_or (pt_cmpR op_lt (pv 0) pe_int (nomark _)) (pw_or1 (pt_cmpR op_gt (pe_bits (pv 0)) (pv 1) (nomark _))))) (pss_one (ps_raiseO rfl X_OutOfRange hr (takes_of rfl rfl rfl rfl) (by exact (pa_cons pe_str pa_nil)))) pss_nil)
      (pss_one (ps_ret (pe_lc (own := [("place", 2)]) (g := gName 2) (tt := tYes) rfl sc_number_bits.nd (pi_range3 (by rfl) B.range_ (pa_cons (pe_op op_sub (pv 1) pe_int) (pa_cons (pe_un un_neg pe_int) (pa_cons (pe_un un_neg pe_int) pa_nil)))) (blkOk_by (own := [("place", 2)]) (N := ["number", "count", "place"]) (sc := (defScope s_number_bits)) (by decide +kernel)) (fun _ _ _ _ _ => pg_name (i := 2) sc_number_bits.nd rfl (Or.inl rfl)) (fun _ _ _ _ _ => pts_nil) (fun _ _ _ _ _ => (pe_op op_and (pe_op op_shr (pv 0) (pv 2)) pe_int)))))), ?_⟩
    (try simp -dsimp only [↓Own.e_seq, ↓Own.e_cxK, ↓Own.e_wishK, ↓Own.e_noxK, ↓Own.e_asg, ↓Own.e_gName, ↓Own.e_var, Own.e_C, ↓Own.e_op, ↓Own.e_un, ↓Own.e_rI, ↓Own.e_rI0, ↓Own.e_rU, Own.e_CMul, Own.e_CDiv, Own.e_CPow, ↓Own.e_rEq, ↓Own.e_rNe, Own.e_scal_int, Own.e_scal_str, Own.e_scal_bl, ↓Own.e_ifS, ↓Own.e_test, ↓Own.e_tB, ↓Own.e_ret, ↓Own.e_retN, ↓Own.e_next, ↓Own.e_brk, ↓Own.e_cnt, ↓Own.e_cons, ↓Own.e_nil, ↓Own.e_lst, ↓Own.e_tup, ↓Own.e_drop, ↓Own.e_and, ↓Own.e_or, ↓Own.e_not, ↓Own.e_andV, ↓Own.e_orV, ↓Own.e_notV, ↓Own.e_if, ↓Own.e_chain, Own.e_CB, ↓Own.e_call, ↓Own.e_rIxL, ↓Own.e_rIxT, ↓Own.e_rIxK, ↓Own.e_rIxKT, ↓Own.e_rSlK, ↓Own.e_rLenK, ↓Own.e_rListK, ↓Own.e_rTupleK, ↓Own.e_rSumK, ↓Own.e_rDivK, ↓Own.e_rNeK, ↓Own.e_rEqK, ↓Own.e_rNeKT, ↓Own.e_rEqKT, ↓Own.e_rIsiK, ↓Own.e_rSlS, ↓Own.e_rIxS, Own.tyK_int, Own.tyK_bl, Own.tyK_str, Own.tyK_non, Own.tyK_ref, Own.tyO_lst, Own.tyO_tup, Own.kit1, Own.kit2, Own.kit3, Own.kit4, Own.kit5, Own.kit6, Own.kit7, Own.kit8, Own.kit9, Own.hlst_inj, Own.htup_inj, Own.vty_inj, Own.ivs_inj, Own.bz_inj, Own.ivs_len, Own.bz_len, Own.ivs_app, Own.ivs_set, Own.ivs_bset, Own.bz_app, Own.ivs_snoc, Own.bz_snoc, Own.atI_ints, Own.atI_bz, Own.isLst_some, Own.ty_lst, L2.upd_same, L2.upd_upd, Own.b2_xor, Own.b2_mod2, Own.b2_mod3, Own.b2_mod4, Own.b2_flip, Option.map_some, Option.isSome_some, ne_eq, eq_self, not_false_eq_true, not_true_eq_false, String.reduceEq, ↓Own.e_BM, ↓Own.e_BM0, ↓Own.e_rAppend, ↓Own.e_rCat, ↓Own.e_rRep, ↓Own.e_sl, ↓Own.e_noPart, ↓Own.e_part, ↓Own.e_rSlL, ↓Own.e_gSub, ↓Own.e_rSetL, ↓Own.e_bits, ↓Own.e_yes, ↓Own.e_gTup, ↓Own.e_gNil, ↓Own.e_gCons, ↓Own.e_aug, ↓Own.e_ipI, ↓Own.e_for, ↓Own.e_lc, ↓Own.e_iList, ↓Own.e_iTup, ↓Own.e_iRng1, ↓Own.e_iRng2, ↓Own.e_iRng3, ↓Own.e_iAny, ↓Own.e_rListA, ↓Own.e_rLenA, ↓Own.e_rIsiX, ↓Own.e_rIsB, ↓Own.e_revL, ↓Own.e_rNotB, ↓Own.e_iEnum, ↓Own.e_iZip, L2.start, L2.wipe, List.map_cons, List.map_nil, List.replicate_succ, List.replicate_zero, List.length_cons, List.length_nil, Nat.reduceAdd, Nat.reduceSub, Nat.zero_add, List.getElem?_cons_zero, List.getElem?_cons_succ, List.set_cons_zero, List.set_cons_succ, Option.some.injEq, L2.V.int.injEq, L2.V.bl.injEq, L2.V.str.injEq, L2.V.ref.injEq, List.cons.injEq, List.cons_append, List.nil_append, List.append_nil, exists_eq_left', exists_eq_left, exists_and_left, exists_and_right, exists_eq, and_true, true_and, reduceCtorEq, false_and, and_false, exists_false, or_false, false_or, true_or, or_true, decide_eq_true_eq, Bool.not_true, Bool.not_false, Bool.not_eq_true', Bool.not_eq_false', decide_eq_false_iff_not, ite_not, if_true, if_false, ite_true, ite_false, Bool.false_eq_true, if_pos trivial, decide_true, decide_false, PySem.sizeLine_eq, eq_self, Int.reduceNeg, Int.reducePow, Int.reduceLT, Int.reduceLE, Int.reduceToNat, Nat.reduceLeDiff, Int.reduceSub, Int.reduceAdd, Int.reduceMul, Int.reduceDiv, Int.reduceMod, Int.reduceEq, Nat.reduceMul, Nat.reduceEqDiff, ↓reduceIte, ↓Own.e_raiseO, ↓Own.e_callS, ↓Own.e_what, Own.hxd_inj])
    refine ite2 (fun h1 => newx_of fun d H1 sm nd hd => q1 (fun z => absurd z.1 (by omega)) d H1 sm nd hd) (fun h1 => ite2 (fun h2 => newx_of fun d H1 sm nd hd => q1 (fun z => ?_) d H1 sm nd hd) (fun h2 => ?_))
    · obtain ⟨m, rfl⟩ := Int.eq_ofNat_of_zero_le z.1
      obtain ⟨k, rfl⟩ := Int.eq_ofNat_of_zero_le z.2.2
      have l : m < 2 ^ k := by
        have z2 := z.2.1
        rw [Int.toNat_natCast, ← PySem.W.kbt_cast] at z2
        exact Int.ofNat_lt.mp z2
      have b := PyProof.Rows.intBits_le (a := (m : Int)) (k := k) (by rw [Int.natAbs_natCast]; exact l)
      omega
    · obtain ⟨m, rfl⟩ := Int.eq_ofNat_of_zero_le (by omega : 0 ≤ n)
      obtain ⟨k, rfl⟩ := Int.eq_ofNat_of_zero_le (by omega : 0 ≤ c)
      have l : m < 2 ^ k := bits_lt (by omega)
      refine ⟨_, _, _, ⟨rfl, rfl, rfl⟩, _, RgC.neg (by omega) (by omega) (by omega) (by omega), ?_⟩
      have ek : ((k : Int) - 1 - -1).toNat = k := by omega
      rw [ek]
      refine lc_rngC (fun i => ivs (bz ((nb m k).take i))) rfl ?_ ?_
      · intro D i H' hD hi hp
        (try simp -dsimp only [↓Own.e_seq, ↓Own.e_cxK, ↓Own.e_wishK, ↓Own.e_noxK, ↓Own.e_asg, ↓Own.e_gName, ↓Own.e_var, Own.e_C, ↓Own.e_op, ↓Own.e_un, ↓Own.e_rI, ↓Own.e_rI0, ↓Own.e_rU, Own.e_CMul, Own.e_CDiv, Own.e_CPow, ↓Own.e_rEq, ↓Own.e_rNe, Own.e_scal_int, Own.e_scal_str, Own.e_scal_bl, ↓Own.e_ifS, ↓Own.e_test, ↓Own.e_tB, ↓Own.e_ret, ↓Own.e_retN, ↓Own.e_next, ↓Own.e_brk, ↓Own.e_cnt, ↓Own.e_cons, ↓Own.e_nil, ↓Own.e_lst, ↓Own.e_tup, ↓Own.e_drop, ↓Own.e_and, ↓Own.e_or, ↓Own.e_not, ↓Own.e_andV, ↓Own.e_orV, ↓Own.e_notV, ↓Own.e_if, ↓Own.e_chain, Own.e_CB, ↓Own.e_call, ↓Own.e_rIxL, ↓Own.e_rIxT, ↓Own.e_rIxK, ↓Own.e_rIxKT, ↓Own.e_rSlK, ↓Own.e_rLenK, ↓Own.e_rListK, ↓Own.e_rTupleK, ↓Own.e_rSumK, ↓Own.e_rDivK, ↓Own.e_rNeK, ↓Own.e_rEqK, ↓Own.e_rNeKT, ↓Own.e_rEqKT, ↓Own.e_rIsiK, ↓Own.e_rSlS, ↓Own.e_rIxS, Own.tyK_int, Own.tyK_bl, Own.tyK_str, Own.tyK_non, Own.tyK_ref, Own.tyO_lst, Own.tyO_tup, Own.kit1, Own.kit2, Own.kit3, Own.kit4, Own.kit5, Own.kit6, Own.kit7, Own.kit8, Own.kit9, Own.hlst_inj, Own.htup_inj, Own.vty_inj, Own.ivs_inj, Own.bz_inj, Own.ivs_len, Own.bz_len, Own.ivs_app, Own.ivs_set, Own.ivs_bset, Own.bz_app, Own.ivs_snoc, Own.bz_snoc, Own.atI_ints, Own.atI_bz, Own.isLst_some, Own.ty_lst, L2.upd_same, L2.upd_upd, Own.b2_xor, Own.b2_mod2, Own.b2_mod3, Own.b2_mod4, Own.b2_flip, Option.map_some, Option.isSome_some, ne_eq, eq_self, not_false_eq_true, not_true_eq_false, String.reduceEq, ↓Own.e_BM, ↓Own.e_BM0, ↓Own.e_rAppend, ↓Own.e_rCat, ↓Own.e_rRep, ↓Own.e_sl, ↓Own.e_noPart, ↓Own.e_part, ↓Own.e_rSlL, ↓Own.e_gSub, ↓Own.e_rSetL, ↓Own.e_bits, ↓Own.e_yes, ↓Own.e_gTup, ↓Own.e_gNil, ↓Own.e_gCons, ↓Own.e_aug, ↓Own.e_ipI, ↓Own.e_for, ↓Own.e_lc, ↓Own.e_iList, ↓Own.e_iTup, ↓Own.e_iRng1, ↓Own.e_iRng2, ↓Own.e_iRng3, ↓Own.e_iAny, ↓Own.e_rListA, ↓Own.e_rLenA, ↓Own.e_rIsiX, ↓Own.e_rIsB, ↓Own.e_revL, ↓Own.e_rNotB, ↓Own.e_iEnum, ↓Own.e_iZip, L2.start, L2.wipe, List.map_cons, List.map_nil, List.replicate_succ, List.replicate_zero, List.length_cons, List.length_nil, Nat.reduceAdd, Nat.reduceSub, Nat.zero_add, List.getElem?_cons_zero, List.getElem?_cons_succ, List.set_cons_zero, List.set_cons_succ, Option.some.injEq, L2.V.int.injEq, L2.V.bl.injEq, L2.V.str.injEq, L2.V.ref.injEq, List.cons.injEq, List.cons_append, List.nil_append, List.append_nil, exists_eq_left', exists_eq_left, exists_and_left, exists_and_right, exists_eq, and_true, true_and, reduceCtorEq, false_and, and_false, exists_false, or_false, false_or, true_or, or_true, decide_eq_true_eq, Bool.not_true, Bool.not_false, Bool.not_eq_true', Bool.not_eq_false', decide_eq_false_iff_not, ite_not, if_true, if_false, ite_true, ite_false, Bool.false_eq_true, if_pos trivial, decide_true, decide_false, PySem.sizeLine_eq, eq_self, Int.reduceNeg, Int.reducePow, Int.reduceLT, Int.reduceLE, Int.reduceToNat, Nat.reduceLeDiff, Int.reduceSub, Int.reduceAdd, Int.reduceMul, Int.reduceDiv, Int.reduceMod, Int.reduceEq, Nat.reduceMul, Nat.reduceEqDiff, ↓reduceIte, ↓Own.e_raiseO, ↓Own.e_callS, ↓Own.e_what, Own.hxd_inj])
        refine ⟨by omega, ?_⟩
        have ep : ((k : Int) - 1 + (i : Int) * -1).toNat = k - 1 - i := by omega
        rw [ep, nb_bit]
        exact elt_is hD hp (Same.refl _) (ivs_bz_take_snoc (nb_get m k i hi)) (by have := ivs_bz_len (nb m k) i; rw [nb_len] at this; omega)
      · intro D H' hD sm hp
        rw [List.take_of_length_le (by rw [nb_len]; omega)] at hp
        exact q2 m k rfl rfl l H' D sm hD hp
def sp_bits_number (K : PySem.W.Frag) : Sp := fun vs H Q _ => ∃ (a : Addr) (u : List Bool), vs = [.ref a] ∧ SqA K H a (ivs (bz u)) ∧ Q (.int (nu u : Nat)) H

theorem ok_bits_number {f : Addr} {fd : FuncData} (F : Fun K "bits_number" "bits_number" s_bits_number f fd) (B : BI mg) : FnOk P w K mg base CX0 1 f fd ["bits"] (sp_bits_number K) := by
  refine F.ok sc_bits_number (fun vs H Q E h => ?_) (fun cdv A outer s H vs Q E hr h => ?_)
  · obtain ⟨a, u, rfl, hS, q⟩ := h
    rfl
  · obtain ⟨a, u, rfl, hS, q⟩ := h
    refine ⟨_, (pss_cons (ps_set (i := 1) sc_bits_number.nd rfl (Or.inl rfl) pe_int)
      (pss_cons (ps_for PassesOwn.never rfl (pi_any (pv 0)) (pg_name (i := 2) sc_bits_number.nd rfl (Or.inl rfl))
      (pss_one (ps_set (i := 1) sc_bits_number.nd rfl (Or.inl rfl) (pe_op op_add (pe_op op_mul pe_int (pv 1)) (pv 2)))))
      (pss_one (ps_ret (pv 1))))), ?_⟩
    (try simp -dsimp only [↓Own.e_seq, ↓Own.e_cxK, ↓Own.e_wishK, ↓Own.e_noxK, ↓Own.e_asg, ↓Own.e_gName, ↓Own.e_var, Own.e_C, ↓Own.e_op, ↓Own.e_un, ↓Own.e_rI, ↓Own.e_rI0, ↓Own.e_rU, Own.e_CMul, Own.e_CDiv, Own.e_CPow, ↓Own.e_rEq, ↓Own.e_rNe, Own.e_scal_int, Own.e_scal_str, Own.e_scal_bl, ↓Own.e_ifS, ↓Own.e_test, ↓Own.e_tB, ↓Own.e_ret, ↓Own.e_retN, ↓Own.e_next, ↓Own.e_brk, ↓Own.e_cnt, ↓Own.e_cons, ↓Own.e_nil, ↓Own.e_lst, ↓Own.e_tup, ↓Own.e_drop, ↓Own.e_and, ↓Own.e_or, ↓Own.e_not, ↓Own.e_andV, ↓Own.e_orV, ↓Own.e_notV, ↓Own.e_if, ↓Own.e_chain, Own.e_CB, ↓Own.e_call, ↓Own.e_rIxL, ↓Own.e_rIxT, ↓Own.e_rIxK, ↓Own.e_rIxKT, ↓Own.e_rSlK, ↓Own.e_rLenK, ↓Own.e_rListK, ↓Own.e_rTupleK, ↓Own.e_rSumK, ↓Own.e_rDivK, ↓Own.e_rNeK, ↓Own.e_rEqK, ↓Own.e_rNeKT, ↓Own.e_rEqKT, ↓Own.e_rIsiK, ↓Own.e_rSlS, ↓Own.e_rIxS, Own.tyK_int, Own.tyK_bl, Own.tyK_str, Own.tyK_non, Own.tyK_ref, Own.tyO_lst, Own.tyO_tup, Own.kit1, Own.kit2, Own.kit3, Own.kit4, Own.kit5, Own.kit6, Own.kit7, Own.kit8, Own.kit9, Own.hlst_inj, Own.htup_inj, Own.vty_inj, Own.ivs_inj, Own.bz_inj, Own.ivs_len, Own.bz_len, Own.ivs_app, Own.ivs_set, Own.ivs_bset, Own.bz_app, Own.ivs_snoc, Own.bz_snoc, Own.atI_ints, Own.atI_bz, Own.isLst_some, Own.ty_lst, L2.upd_same, L2.upd_upd, Own.b2_xor, Own.b2_mod2, Own.b2_mod3, Own.b2_mod4, Own.b2_flip, Option.map_some, Option.isSome_some, ne_eq, eq_self, not_false_eq_true, not_true_eq_false, String.reduceEq, ↓Own.e_BM, ↓Own.e_BM0, ↓Own.e_rAppend, ↓Own.e_rCat, ↓Own.e_rRep, ↓Own.e_sl, ↓Own.e_noPart, ↓Own.e_part, ↓Own.e_rSlL, ↓Own.e_gSub, ↓Own.e_rSetL, ↓Own.e_bits, ↓Own.e_yes, ↓Own.e_gTup, ↓Own.e_gNil, ↓Own.e_gCons, ↓Own.e_aug, ↓Own.e_ipI, ↓Own.e_for, ↓Own.e_lc, ↓Own.e_iList, ↓Own.e_iTup, ↓Own.e_iRng1, ↓Own.e_iRng2, ↓Own.e_iRng3, ↓Own.e_iAny, ↓Own.e_rListA, ↓Own.e_rLenA, ↓Own.e_rIsiX, ↓Own.e_rIsB, ↓Own.e_revL, ↓Own.e_rNotB, ↓Own.e_iEnum, ↓Own.e_iZip, L2.start, L2.wipe, List.map_cons, List.map_nil, List.replicate_succ, List.replicate_zero, List.length_cons, List.length_nil, Nat.reduceAdd, Nat.reduceSub, Nat.zero_add, List.getElem?_cons_zero, List.getElem?_cons_succ, List.set_cons_zero, List.set_cons_succ, Option.some.injEq, L2.V.int.injEq, L2.V.bl.injEq, L2.V.str.injEq, L2.V.ref.injEq, List.cons.injEq, List.cons_append, List.nil_append, List.append_nil, exists_eq_left', exists_eq_left, exists_and_left, exists_and_right, exists_eq, and_true, true_and, reduceCtorEq, false_and, and_false, exists_false, or_false, false_or, true_or, or_true, decide_eq_true_eq, Bool.not_true, Bool.not_false, Bool.not_eq_true', Bool.not_eq_false', decide_eq_false_iff_not, ite_not, if_true, if_false, ite_true, ite_false, Bool.false_eq_true, if_pos trivial, decide_true, decide_false, PySem.sizeLine_eq, eq_self, Int.reduceNeg, Int.reducePow, Int.reduceLT, Int.reduceLE, Int.reduceToNat, Nat.reduceLeDiff, Int.reduceSub, Int.reduceAdd, Int.reduceMul, Int.reduceDiv, Int.reduceMod, Int.reduceEq, Nat.reduceMul, Nat.reduceEqDiff, ↓reduceIte, ↓Own.e_raiseO, ↓Own.e_callS, ↓Own.e_what, Own.hxd_inj])
    refine any_loop hS (fun i σ H' => ∃ y : Option V, σ = [some (.ref a), some (.int (nu (u.take i) : Nat)), y] ∧ H' = H) ⟨none, rfl, rfl⟩ (fun i σ H' ⟨_, _, e⟩ => by rw [e]; exact Same.refl _) ?_ ?_
    · rintro i x σ H' hx ⟨y, rfl, rfl⟩
      rw [bz_get] at hx
      cases hb : u[i]? with
      | none => rw [hb] at hx; cases hx
      | some b =>
        rw [hb] at hx
        have hx' : b2 b = x := Option.some.inj hx
        subst hx'
        (try simp -dsimp only [↓Own.e_seq, ↓Own.e_cxK, ↓Own.e_wishK, ↓Own.e_noxK, ↓Own.e_asg, ↓Own.e_gName, ↓Own.e_var, Own.e_C, ↓Own.e_op, ↓Own.e_un, ↓Own.e_rI, ↓Own.e_rI0, ↓Own.e_rU, Own.e_CMul, Own.e_CDiv, Own.e_CPow, ↓Own.e_rEq, ↓Own.e_rNe, Own.e_scal_int, Own.e_scal_str, Own.e_scal_bl, ↓Own.e_ifS, ↓Own.e_test, ↓Own.e_tB, ↓Own.e_ret, ↓Own.e_retN, ↓Own.e_next, ↓Own.e_brk, ↓Own.e_cnt, ↓Own.e_cons, ↓Own.e_nil, ↓Own.e_lst, ↓Own.e_tup, ↓Own.e_drop, ↓Own.e_and, ↓Own.e_or, ↓Own.e_not, ↓Own.e_andV, ↓Own.e_orV, ↓Own.e_notV, ↓Own.e_if, ↓Own.e_chain, Own.e_CB, ↓Own.e_call, ↓Own.e_rIxL, ↓Own.e_rIxT, ↓Own.e_rIxK, ↓Own.e_rIxKT, ↓Own.e_rSlK, ↓Own.e_rLenK, ↓Own.e_rListK, ↓Own.e_rTupleK, ↓Own.e_rSumK, ↓Own.e_rDivK, ↓Own.e_rNeK, ↓Own.e_rEqK, ↓Own.e_rNeKT, ↓Own.e_rEqKT, ↓Own.e_rIsiK, ↓Own.e_rSlS, ↓Own.e_rIxS, Own.tyK_int, Own.tyK_bl, Own.tyK_str, Own.tyK_non, Own.tyK_ref, Own.tyO_lst, Own.tyO_tup, Own.kit1, Own.kit2, Own.kit3, Own.kit4, Own.kit5, Own.kit6, Own.kit7, Own.kit8, Own.kit9, Own.hlst_inj, Own.htup_inj, Own.vty_inj, Own.ivs_inj, Own.bz_inj, Own.ivs_len, Own.bz_len, Own.ivs_app, Own.ivs_set, Own.ivs_bset, Own.bz_app, Own.ivs_snoc, Own.bz_snoc, Own.atI_ints, Own.atI_bz, Own.isLst_some, Own.ty_lst, L2.upd_same, L2.upd_upd, Own.b2_xor, Own.b2_mod2, Own.b2_mod3, Own.b2_mod4, Own.b2_flip, Option.map_some, Option.isSome_some, ne_eq, eq_self, not_false_eq_true, not_true_eq_false, String.reduceEq, ↓Own.e_BM, ↓Own.e_BM0, ↓Own.e_rAppend, ↓Own.e_rCat, ↓Own.e_rRep, ↓Own.e_sl, ↓Own.e_noPart, ↓Own.e_part, ↓Own.e_rSlL, ↓Own.e_gSub, ↓Own.e_rSetL, ↓Own.e_bits, ↓Own.e_yes, ↓Own.e_gTup, ↓Own.e_gNil, ↓Own.e_gCons, ↓Own.e_aug, ↓Own.e_ipI, ↓Own.e_for, ↓Own.e_lc, ↓Own.e_iList, ↓Own.e_iTup, ↓Own.e_iRng1, ↓Own.e_iRng2, ↓Own.e_iRng3, ↓Own.e_iAny, ↓Own.e_rListA, ↓Own.e_rLenA, ↓Own.e_rIsiX, ↓Own.e_rIsB, ↓Own.e_revL, ↓Own.e_rNotB, ↓Own.e_iEnum, ↓Own.e_iZip, L2.start, L2.wipe, List.map_cons, List.map_nil, List.replicate_succ, List.replicate_zero, List.length_cons, List.length_nil, Nat.reduceAdd, Nat.reduceSub, Nat.zero_add, List.getElem?_cons_zero, List.getElem?_cons_succ, List.set_cons_zero, List.set_cons_succ, Option.some.injEq, L2.V.int.injEq, L2.V.bl.injEq, L2.V.str.injEq, L2.V.ref.injEq, List.cons.injEq, List.cons_append, List.nil_append, List.append_nil, exists_eq_left', exists_eq_left, exists_and_left, exists_and_right, exists_eq, and_true, true_and, reduceCtorEq, false_and, and_false, exists_false, or_false, false_or, true_or, or_true, decide_eq_true_eq, Bool.not_true, Bool.not_false, Bool.not_eq_true', Bool.not_eq_false', decide_eq_false_iff_not, ite_not, if_true, if_false, ite_true, ite_false, Bool.false_eq_true, if_pos trivial, decide_true, decide_false, PySem.sizeLine_eq, eq_self, Int.reduceNeg, Int.reducePow, Int.reduceLT, Int.reduceLE, Int.reduceToNat, Nat.reduceLeDiff, Int.reduceSub, Int.reduceAdd, Int.reduceMul, Int.reduceDiv, Int.reduceMod, Int.reduceEq, Nat.reduceMul, Nat.reduceEqDiff, ↓reduceIte, ↓Own.e_raiseO, ↓Own.e_callS, ↓Own.e_what, Own.hxd_inj])
        refine at_is ⟨some (.int (b2 b)), ?_, rfl⟩
        rw [take_snoc hb, nu_snoc, b2_nat]
        rfl
    · rintro σ H' ⟨y, rfl, rfl⟩
      rw [bz_len, List.take_length]
      (try simp -dsimp only [↓Own.e_seq, ↓Own.e_cxK, ↓Own.e_wishK, ↓Own.e_noxK, ↓Own.e_asg, ↓Own.e_gName, ↓Own.e_var, Own.e_C, ↓Own.e_op, ↓Own.e_un, ↓Own.e_rI, ↓Own.e_rI0, ↓Own.e_rU, Own.e_CMul, Own.e_CDiv, Own.e_CPow, ↓Own.e_rEq, ↓Own.e_rNe, Own.e_scal_int, Own.e_scal_str, Own.e_scal_bl, ↓Own.e_ifS, ↓Own.e_test, ↓Own.e_tB, ↓Own.e_ret, ↓Own.e_retN, ↓Own.e_next, ↓Own.e_brk, ↓Own.e_cnt, ↓Own.e_cons, ↓Own.e_nil, ↓Own.e_lst, ↓Own.e_tup, ↓Own.e_drop, ↓Own.e_and, ↓Own.e_or, ↓Own.e_not, ↓Own.e_andV, ↓Own.e_orV, ↓Own.e_notV, ↓Own.e_if, ↓Own.e_chain, Own.e_CB, ↓Own.e_call, ↓Own.e_rIxL, ↓Own.e_rIxT, ↓Own.e_rIxK, ↓Own.e_rIxKT, ↓Own.e_rSlK, ↓Own.e_rLenK, ↓Own.e_rListK, ↓Own.e_rTupleK, ↓Own.e_rSumK, ↓Own.e_rDivK, ↓Own.e_rNeK, ↓Own.e_rEqK, ↓Own.e_rNeKT, ↓Own.e_rEqKT, ↓Own.e_rIsiK, ↓Own.e_rSlS, ↓Own.e_rIxS, Own.tyK_int, Own.tyK_bl, Own.tyK_str, Own.tyK_non, Own.tyK_ref, Own.tyO_lst, Own.tyO_tup, Own.kit1, Own.kit2, Own.kit3, Own.kit4, Own.kit5, Own.kit6, Own.kit7, Own.kit8, Own.kit9, Own.hlst_inj, Own.htup_inj, Own.vty_inj, Own.ivs_inj, Own.bz_inj, Own.ivs_len, Own.bz_len, Own.ivs_app, Own.ivs_set, Own.ivs_bset, Own.bz_app, Own.ivs_snoc, Own.bz_snoc, Own.atI_ints, Own.atI_bz, Own.isLst_some, Own.ty_lst, L2.upd_same, L2.upd_upd, Own.b2_xor, Own.b2_mod2, Own.b2_mod3, Own.b2_mod4, Own.b2_flip, Option.map_some, Option.isSome_some, ne_eq, eq_self, not_false_eq_true, not_true_eq_false, String.reduceEq, ↓Own.e_BM, ↓Own.e_BM0, ↓Own.e_rAppend, ↓Own.e_rCat, ↓Own.e_rRep, ↓Own.e_sl, ↓Own.e_noPart, ↓Own.e_part, ↓Own.e_rSlL, ↓Own.e_gSub, ↓Own.e_rSetL, ↓Own.e_bits, ↓Own.e_yes, ↓Own.e_gTup, ↓Own.e_gNil, ↓Own.e_gCons, ↓Own.e_aug, ↓Own.e_ipI, ↓Own.e_for, ↓Own.e_lc, ↓Own.e_iList, ↓Own.e_iTup, ↓Own.e_iRng1, ↓Own.e_iRng2, ↓Own.e_iRng3, ↓Own.e_iAny, ↓Own.e_rListA, ↓Own.e_rLenA, ↓Own.e_rIsiX, ↓Own.e_rIsB, ↓Own.e_revL, ↓Own.e_rNotB, ↓Own.e_iEnum, ↓Own.e_iZip, L2.start, L2.wipe, List.map_cons, List.map_nil, List.replicate_succ, List.replicate_zero, List.length_cons, List.length_nil, Nat.reduceAdd, Nat.reduceSub, Nat.zero_add, List.getElem?_cons_zero, List.getElem?_cons_succ, List.set_cons_zero, List.set_cons_succ, Option.some.injEq, L2.V.int.injEq, L2.V.bl.injEq, L2.V.str.injEq, L2.V.ref.injEq, List.cons.injEq, List.cons_append, List.nil_append, List.append_nil, exists_eq_left', exists_eq_left, exists_and_left, exists_and_right, exists_eq, and_true, true_and, reduceCtorEq, false_and, and_false, exists_false, or_false, false_or, true_or, or_true, decide_eq_true_eq, Bool.not_true, Bool.not_false, Bool.not_eq_true', Bool.not_eq_false', decide_eq_false_iff_not, ite_not, if_true, if_false, ite_true, ite_false, Bool.false_eq_true, if_pos trivial, decide_true, decide_false, PySem.sizeLine_eq, eq_self, Int.reduceNeg, Int.reducePow, Int.reduceLT, Int.reduceLE, Int.reduceToNat, Nat.reduceLeDiff, Int.reduceSub, Int.reduceAdd, Int.reduceMul, Int.reduceDiv, Int.reduceMod, Int.reduceEq, Nat.reduceMul, Nat.reduceEqDiff, ↓reduceIte, ↓Own.e_raiseO, ↓Own.e_callS, ↓Own.e_what, Own.hxd_inj])
      exact q
/-- an octet's bits, the lowest first -/
def ob (n : Int) : List Bool := (List.range 8).map fun j => decide (n / 2 ^ j % 2 = 1)
def obs (l : List Int) : List Bool := l.flatMap ob
theorem ob_len (n : Int) : (ob n).length = 8 := by unfold ob; simp
theorem obs_len : ∀ l : List Int, (obs l).length = 8 * l.length
  | [] => rfl
  | n :: l => by
    show (ob n ++ obs l).length = 8 * (l.length + 1)
    rw [List.length_append, ob_len, obs_len l]; omega
theorem obs_get : ∀ (l : List Int) (i j : Nat) (n : Int), l[i]? = some n → j < 8 → (obs l)[i * 8 + j]? = some (decide (n / 2 ^ j % 2 = 1))
  | [], _, _, _, h, _ => by simp at h
  | a :: l, 0, j, n, h, hj => by
    have e : a = n := Option.some.inj h
    subst e
    show (ob a ++ obs l)[0 * 8 + j]? = _
    rw [List.getElem?_append_left (by rw [ob_len]; omega)]
    unfold ob
    rw [List.getElem?_map, List.getElem?_range (by omega)]
    simp
  | a :: l, i + 1, j, n, h, hj => by
    show (ob a ++ obs l)[(i + 1) * 8 + j]? = _
    rw [List.getElem?_append_right (by rw [ob_len]; omega), ob_len, show (i + 1) * 8 + j - 8 = i * 8 + j by omega]
    exact obs_get l i j n h hj
theorem ob_bit (n : Int) (p : Nat) : Builtin.bitAnd (n / 2 ^ p) 1 = b2 (decide (n / 2 ^ p % 2 = 1)) := by
  rw [and_one]
  exact b2_odd _

def sp_octet_bits (K : PySem.W.Frag) : Sp := fun vs H Q _ => ∃ (a : Addr) (l : List Int), vs = [.ref a] ∧ SqT K H a (ivs l) ∧ l.length ≤ 100000 ∧ ∀ H' p, Same H H' → H p = none → H' p = some (.lst (ivs (bz (obs l)))) → Q (.ref p) H'

theorem ok_octet_bits {f : Addr} {fd : FuncData} (F : Fun K "octet_bits" "octet_bits" s_octet_bits f fd) (B : BI mg) : FnOk P w K mg base CX0 1 f fd ["octets"] (sp_octet_bits K) := by
  refine F.ok sc_octet_bits (fun vs H Q E h => ?_) (fun cdv A outer s H vs Q E hr h => ?_)
  · obtain ⟨a, l, rfl, hS, hl, q⟩ := h
    rfl
  · obtain ⟨a, l, rfl, hS, hl, q⟩ := h
    refine ⟨_, (pss_one (ps_ret (pe_lc2 (own := [("octet", 1), ("place", 2)]) (vs1 := [2]) rfl sc_octet_bits.nd (pi_tup (pv 0)) (blkOk_by (own := [("octet", 1), ("place", 2)]) (N := ["octets", "octet", "place"]) (sc := (defScope s_octet_bits)) (by decide +kernel)) (by decide) (fun _ _ _ _ _ => pg_name (i := 1) sc_octet_bits.nd rfl (Or.inl rfl)) (fun _ _ _ _ _ => pts_nil) (fun _ _ _ _ _ => (pi_range1 (by rfl) B.range_ (pa_cons pe_int pa_nil))) (fun _ _ _ _ _ => pg_name (i := 2) sc_octet_bits.nd rfl (Or.inl rfl)) (fun _ _ _ _ _ => pts_nil) (fun _ _ _ _ _ => (pe_op op_and (pe_op op_shr (pv 1) (pv 2)) pe_int))))), ?_⟩
    (try simp -dsimp only [↓Own.e_seq, ↓Own.e_cxK, ↓Own.e_wishK, ↓Own.e_noxK, ↓Own.e_asg, ↓Own.e_gName, ↓Own.e_var, Own.e_C, ↓Own.e_op, ↓Own.e_un, ↓Own.e_rI, ↓Own.e_rI0, ↓Own.e_rU, Own.e_CMul, Own.e_CDiv, Own.e_CPow, ↓Own.e_rEq, ↓Own.e_rNe, Own.e_scal_int, Own.e_scal_str, Own.e_scal_bl, ↓Own.e_ifS, ↓Own.e_test, ↓Own.e_tB, ↓Own.e_ret, ↓Own.e_retN, ↓Own.e_next, ↓Own.e_brk, ↓Own.e_cnt, ↓Own.e_cons, ↓Own.e_nil, ↓Own.e_lst, ↓Own.e_tup, ↓Own.e_drop, ↓Own.e_and, ↓Own.e_or, ↓Own.e_not, ↓Own.e_andV, ↓Own.e_orV, ↓Own.e_notV, ↓Own.e_if, ↓Own.e_chain, Own.e_CB, ↓Own.e_call, ↓Own.e_rIxL, ↓Own.e_rIxT, ↓Own.e_rIxK, ↓Own.e_rIxKT, ↓Own.e_rSlK, ↓Own.e_rLenK, ↓Own.e_rListK, ↓Own.e_rTupleK, ↓Own.e_rSumK, ↓Own.e_rDivK, ↓Own.e_rNeK, ↓Own.e_rEqK, ↓Own.e_rNeKT, ↓Own.e_rEqKT, ↓Own.e_rIsiK, ↓Own.e_rSlS, ↓Own.e_rIxS, Own.tyK_int, Own.tyK_bl, Own.tyK_str, Own.tyK_non, Own.tyK_ref, Own.tyO_lst, Own.tyO_tup, Own.kit1, Own.kit2, Own.kit3, Own.kit4, Own.kit5, Own.kit6, Own.kit7, Own.kit8, Own.kit9, Own.hlst_inj, Own.htup_inj, Own.vty_inj, Own.ivs_inj, Own.bz_inj, Own.ivs_len, Own.bz_len, Own.ivs_app, Own.ivs_set, Own.ivs_bset, Own.bz_app, Own.ivs_snoc, Own.bz_snoc, Own.atI_ints, Own.atI_bz, Own.isLst_some, Own.ty_lst, L2.upd_same, L2.upd_upd, Own.b2_xor, Own.b2_mod2, Own.b2_mod3, Own.b2_mod4, Own.b2_flip, Option.map_some, Option.isSome_some, ne_eq, eq_self, not_false_eq_true, not_true_eq_false, String.reduceEq, ↓Own.e_BM, ↓Own.e_BM0, ↓Own.e_rAppend, ↓Own.e_rCat, ↓Own.e_rRep, ↓Own.e_sl, ↓Own.e_noPart, ↓Own.e_part, ↓Own.e_rSlL, ↓Own.e_gSub, ↓Own.e_rSetL, ↓Own.e_bits, ↓Own.e_yes, ↓Own.e_gTup, ↓Own.e_gNil, ↓Own.e_gCons, ↓Own.e_aug, ↓Own.e_ipI, ↓Own.e_for, ↓Own.e_lc, ↓Own.e_iList, ↓Own.e_iTup, ↓Own.e_iRng1, ↓Own.e_iRng2, ↓Own.e_iRng3, ↓Own.e_iAny, ↓Own.e_rListA, ↓Own.e_rLenA, ↓Own.e_rIsiX, ↓Own.e_rIsB, ↓Own.e_revL, ↓Own.e_rNotB, ↓Own.e_iEnum, ↓Own.e_iZip, L2.start, L2.wipe, List.map_cons, List.map_nil, List.replicate_succ, List.replicate_zero, List.length_cons, List.length_nil, Nat.reduceAdd, Nat.reduceSub, Nat.zero_add, List.getElem?_cons_zero, List.getElem?_cons_succ, List.set_cons_zero, List.set_cons_succ, Option.some.injEq, L2.V.int.injEq, L2.V.bl.injEq, L2.V.str.injEq, L2.V.ref.injEq, List.cons.injEq, List.cons_append, List.nil_append, List.append_nil, exists_eq_left', exists_eq_left, exists_and_left, exists_and_right, exists_eq, and_true, true_and, reduceCtorEq, false_and, and_false, exists_false, or_false, false_or, true_or, or_true, decide_eq_true_eq, Bool.not_true, Bool.not_false, Bool.not_eq_true', Bool.not_eq_false', decide_eq_false_iff_not, ite_not, if_true, if_false, ite_true, ite_false, Bool.false_eq_true, if_pos trivial, decide_true, decide_false, PySem.sizeLine_eq, eq_self, Int.reduceNeg, Int.reducePow, Int.reduceLT, Int.reduceLE, Int.reduceToNat, Nat.reduceLeDiff, Int.reduceSub, Int.reduceAdd, Int.reduceMul, Int.reduceDiv, Int.reduceMod, Int.reduceEq, Nat.reduceMul, Nat.reduceEqDiff, ↓reduceIte, ↓Own.e_raiseO, ↓Own.e_callS, ↓Own.e_what, Own.hxd_inj])
    refine lc2_rng (m := 8) hS (by decide) (fun i => ivs (bz ((obs l).take i))) rfl ?_ ?_
    · intro D i j x H' hD hx hj hp
      obtain ⟨n, hn, rfl⟩ := ivs_at hx
      (try simp -dsimp only [↓Own.e_seq, ↓Own.e_cxK, ↓Own.e_wishK, ↓Own.e_noxK, ↓Own.e_asg, ↓Own.e_gName, ↓Own.e_var, Own.e_C, ↓Own.e_op, ↓Own.e_un, ↓Own.e_rI, ↓Own.e_rI0, ↓Own.e_rU, Own.e_CMul, Own.e_CDiv, Own.e_CPow, ↓Own.e_rEq, ↓Own.e_rNe, Own.e_scal_int, Own.e_scal_str, Own.e_scal_bl, ↓Own.e_ifS, ↓Own.e_test, ↓Own.e_tB, ↓Own.e_ret, ↓Own.e_retN, ↓Own.e_next, ↓Own.e_brk, ↓Own.e_cnt, ↓Own.e_cons, ↓Own.e_nil, ↓Own.e_lst, ↓Own.e_tup, ↓Own.e_drop, ↓Own.e_and, ↓Own.e_or, ↓Own.e_not, ↓Own.e_andV, ↓Own.e_orV, ↓Own.e_notV, ↓Own.e_if, ↓Own.e_chain, Own.e_CB, ↓Own.e_call, ↓Own.e_rIxL, ↓Own.e_rIxT, ↓Own.e_rIxK, ↓Own.e_rIxKT, ↓Own.e_rSlK, ↓Own.e_rLenK, ↓Own.e_rListK, ↓Own.e_rTupleK, ↓Own.e_rSumK, ↓Own.e_rDivK, ↓Own.e_rNeK, ↓Own.e_rEqK, ↓Own.e_rNeKT, ↓Own.e_rEqKT, ↓Own.e_rIsiK, ↓Own.e_rSlS, ↓Own.e_rIxS, Own.tyK_int, Own.tyK_bl, Own.tyK_str, Own.tyK_non, Own.tyK_ref, Own.tyO_lst, Own.tyO_tup, Own.kit1, Own.kit2, Own.kit3, Own.kit4, Own.kit5, Own.kit6, Own.kit7, Own.kit8, Own.kit9, Own.hlst_inj, Own.htup_inj, Own.vty_inj, Own.ivs_inj, Own.bz_inj, Own.ivs_len, Own.bz_len, Own.ivs_app, Own.ivs_set, Own.ivs_bset, Own.bz_app, Own.ivs_snoc, Own.bz_snoc, Own.atI_ints, Own.atI_bz, Own.isLst_some, Own.ty_lst, L2.upd_same, L2.upd_upd, Own.b2_xor, Own.b2_mod2, Own.b2_mod3, Own.b2_mod4, Own.b2_flip, Option.map_some, Option.isSome_some, ne_eq, eq_self, not_false_eq_true, not_true_eq_false, String.reduceEq, ↓Own.e_BM, ↓Own.e_BM0, ↓Own.e_rAppend, ↓Own.e_rCat, ↓Own.e_rRep, ↓Own.e_sl, ↓Own.e_noPart, ↓Own.e_part, ↓Own.e_rSlL, ↓Own.e_gSub, ↓Own.e_rSetL, ↓Own.e_bits, ↓Own.e_yes, ↓Own.e_gTup, ↓Own.e_gNil, ↓Own.e_gCons, ↓Own.e_aug, ↓Own.e_ipI, ↓Own.e_for, ↓Own.e_lc, ↓Own.e_iList, ↓Own.e_iTup, ↓Own.e_iRng1, ↓Own.e_iRng2, ↓Own.e_iRng3, ↓Own.e_iAny, ↓Own.e_rListA, ↓Own.e_rLenA, ↓Own.e_rIsiX, ↓Own.e_rIsB, ↓Own.e_revL, ↓Own.e_rNotB, ↓Own.e_iEnum, ↓Own.e_iZip, L2.start, L2.wipe, List.map_cons, List.map_nil, List.replicate_succ, List.replicate_zero, List.length_cons, List.length_nil, Nat.reduceAdd, Nat.reduceSub, Nat.zero_add, List.getElem?_cons_zero, List.getElem?_cons_succ, List.set_cons_zero, List.set_cons_succ, Option.some.injEq, L2.V.int.injEq, L2.V.bl.injEq, L2.V.str.injEq, L2.V.ref.injEq, List.cons.injEq, List.cons_append, List.nil_append, List.append_nil, exists_eq_left', exists_eq_left, exists_and_left, exists_and_right, exists_eq, and_true, true_and, reduceCtorEq, false_and, and_false, exists_false, or_false, false_or, true_or, or_true, decide_eq_true_eq, Bool.not_true, Bool.not_false, Bool.not_eq_true', Bool.not_eq_false', decide_eq_false_iff_not, ite_not, if_true, if_false, ite_true, ite_false, Bool.false_eq_true, if_pos trivial, decide_true, decide_false, PySem.sizeLine_eq, eq_self, Int.reduceNeg, Int.reducePow, Int.reduceLT, Int.reduceLE, Int.reduceToNat, Nat.reduceLeDiff, Int.reduceSub, Int.reduceAdd, Int.reduceMul, Int.reduceDiv, Int.reduceMod, Int.reduceEq, Nat.reduceMul, Nat.reduceEqDiff, ↓reduceIte, ↓Own.e_raiseO, ↓Own.e_callS, ↓Own.e_what, Own.hxd_inj])
      refine ⟨by omega, ?_⟩
      rw [show (0 + (j : Int)).toNat = j by omega, ob_bit]
      have hi : i < l.length := by
        by_cases z : i < l.length
        · exact z
        · rw [List.getElem?_eq_none (by omega)] at hn; cases hn
      exact elt_is hD hp (Same.refl _) (ivs_bz_take_snoc (obs_get l i j n hn hj)) (by have := ivs_bz_len (obs l) (i * 8 + j); rw [obs_len] at this; omega)
    · intro D H' hD sm hp
      rw [ivs_len, List.take_of_length_le (by rw [obs_len]; omega)] at hp
      exact q H' D sm hD hp
/-- octets of bits -/
def oct (u : List Bool) (i : Nat) : Int := (nu (((u.take (8 * i + 8)).drop (8 * i)).reverse) : Nat)
def octs (u : List Bool) (n : Nat) : List Int := (List.range n).map (oct u)
theorem octs_get {u : List Bool} {n i : Nat} (h : i < n) : (octs u n)[i]? = some (oct u i) := by
  unfold octs
  rw [List.getElem?_map, List.getElem?_range h]
  rfl
theorem octs_len (u : List Bool) (n : Nat) : (octs u n).length = n := by unfold octs; simp
theorem rgc8 {n : Nat} (h : n % 8 = 0) (hl : n ≤ 100000) : RgC 0 (n : Int) 8 (n / 8) := by
  have e : Builtin.Range.rangeSize 0 (n : Int) 8 = ((n / 8 : Nat) : Int) := by
    rw [PyProof.Rows.rangeSize_pos (by decide) (by omega)]
    omega
  refine ⟨by decide, by decide, ?_, e⟩
  unfold Builtin.Range.small Builtin.Range.rangeFitsLong
  rw [e]
  have hn : (n : Int) ≤ 100000 := by omega
  have hq : ((n / 8 : Nat) : Int) * 8 = n := by omega
  have hb : (0 : Int) ≤ ((n / 8 : Nat) : Int) := by omega
  have hc : ((n / 8 : Nat) : Int) ≤ 12500 := by omega
  generalize ((n / 8 : Nat) : Int) = m at hq hb hc ⊢
  generalize (n : Int) = N at hn hq ⊢
  subst hq
  rw [Bool.and_eq_true]
  refine ⟨?_, ?_⟩ <;> simp <;> omega

def sp_bits_octets (K : PySem.W.Frag) (C : Addr) : Sp := fun vs H Q E => ∃ (a : Addr) (u : List Bool), vs = [.ref a] ∧ H a = some (.lst (ivs (bz u))) ∧ u.length ≤ 100000 ∧ (u.length % 8 ≠ 0 → E (.ref C) none H) ∧
  (u.length % 8 = 0 → ∀ H' p, Same H H' → H p = none → H' p = some (.tup (ivs (octs u (u.length / 8)))) → Q (.ref p) H')

theorem ok_bits_octets {f : Addr} {fd : FuncData} {f_bits_number : Addr} {fd_bits_number : FuncData} (F : Fun K "bits_octets" "bits_octets" s_bits_octets f fd) (B : BI mg) (X_BadBits : OwnErr K mg "BadBits" C_BadBits) (c_bits_number : Cal P w K mg base CX0 1 "bits_number" f_bits_number fd_bits_number ["bits"] (sp_bits_number K)) : FnOk P w K mg base (L2.CX P w) 2 f fd ["bits"] (sp_bits_octets K C_BadBits) := by
  refine F.okX sc_bits_octets (fun vs H Q E h => ?_) (fun cdv A outer s H vs Q E hr h => ?_)
  · obtain ⟨a, u, rfl, ha, hl, q1, q2⟩ := h
    rfl
  · obtain ⟨a, u, rfl, ha, hl, q1, q2⟩ := h
    refine ⟨_, (pss_cons (ps_if (pt_cmpR op_ne (pe_op op_mod (pe_callB callk_len (by rfl) B.len_ (by decide +kernel) (pa_cons (pv 0) pa_nil)) pe_int) pe_int (nomark _)) (pss_one (ps_raise rfl (takes_of rfl rfl rfl rfl) (pmk_own0 PySem.F.excBase_ValueError X_BadBits.xP X_BadBits.gC X_BadBits.kP (raises_own X_BadBits.bP X_BadBits.tP) rfl))) pss_nil)
      (pss_one (ps_ret (pe_callTy callk_tuple (by rfl) B.tuple_ boot_tuple (pa_cons (pe_lc (own := [("at", 1)]) (g := gName 1) (tt := tYes) rfl sc_bits_octets.nd (pi_range3 (by rfl) B.range_ (pa_cons pe_int (pa_cons (pe_callB callk_len (by rfl) B.len_ (by decide +kernel) (pa_cons (pv 0) pa_nil)) (pa_cons pe_int pa_nil)))) (blkOk_by (own := [("at", 1)]) (N := ["bits", "at"]) (sc := (defScope s_bits_octets)) (by decide +kernel)) (fun _ _ _ _ _ => pg_name (i := 1) sc_bits_octets.nd rfl (Or.inl rfl)) (fun _ _ _ _ _ => pts_nil) (fun _ _ _ _ _ => by exact (pe_call c_bits_number.ok (hr.mono (by decide)) (by rfl) c_bits_number.g c_bits_number.kp c_bits_number.b .nil pass0 (pa_cons (pe_revA (K := K) rfl (pe_slice slk_list (pv 0) (po_some (pv 1)) (po_some (pe_op op_add (pv 1) pe_int)))) pa_nil)))) pa_nil))))), ?_⟩
    (try simp -dsimp only [↓Own.e_seq, ↓Own.e_cxK, ↓Own.e_wishK, ↓Own.e_noxK, ↓Own.e_asg, ↓Own.e_gName, ↓Own.e_var, Own.e_C, ↓Own.e_op, ↓Own.e_un, ↓Own.e_rI, ↓Own.e_rI0, ↓Own.e_rU, Own.e_CMul, Own.e_CDiv, Own.e_CPow, ↓Own.e_rEq, ↓Own.e_rNe, Own.e_scal_int, Own.e_scal_str, Own.e_scal_bl, ↓Own.e_ifS, ↓Own.e_test, ↓Own.e_tB, ↓Own.e_ret, ↓Own.e_retN, ↓Own.e_next, ↓Own.e_brk, ↓Own.e_cnt, ↓Own.e_cons, ↓Own.e_nil, ↓Own.e_lst, ↓Own.e_tup, ↓Own.e_drop, ↓Own.e_and, ↓Own.e_or, ↓Own.e_not, ↓Own.e_andV, ↓Own.e_orV, ↓Own.e_notV, ↓Own.e_if, ↓Own.e_chain, Own.e_CB, ↓Own.e_call, ↓Own.e_rIxL, ↓Own.e_rIxT, ↓Own.e_rIxK, ↓Own.e_rIxKT, ↓Own.e_rSlK, ↓Own.e_rLenK, ↓Own.e_rListK, ↓Own.e_rTupleK, ↓Own.e_rSumK, ↓Own.e_rDivK, ↓Own.e_rNeK, ↓Own.e_rEqK, ↓Own.e_rNeKT, ↓Own.e_rEqKT, ↓Own.e_rIsiK, ↓Own.e_rSlS, ↓Own.e_rIxS, Own.tyK_int, Own.tyK_bl, Own.tyK_str, Own.tyK_non, Own.tyK_ref, Own.tyO_lst, Own.tyO_tup, Own.kit1, Own.kit2, Own.kit3, Own.kit4, Own.kit5, Own.kit6, Own.kit7, Own.kit8, Own.kit9, Own.hlst_inj, Own.htup_inj, Own.vty_inj, Own.ivs_inj, Own.bz_inj, Own.ivs_len, Own.bz_len, Own.ivs_app, Own.ivs_set, Own.ivs_bset, Own.bz_app, Own.ivs_snoc, Own.bz_snoc, Own.atI_ints, Own.atI_bz, Own.isLst_some, Own.ty_lst, L2.upd_same, L2.upd_upd, Own.b2_xor, Own.b2_mod2, Own.b2_mod3, Own.b2_mod4, Own.b2_flip, Option.map_some, Option.isSome_some, ne_eq, eq_self, not_false_eq_true, not_true_eq_false, String.reduceEq, ↓Own.e_BM, ↓Own.e_BM0, ↓Own.e_rAppend, ↓Own.e_rCat, ↓Own.e_rRep, ↓Own.e_sl, ↓Own.e_noPart, ↓Own.e_part, ↓Own.e_rSlL, ↓Own.e_gSub, ↓Own.e_rSetL, ↓Own.e_bits, ↓Own.e_yes, ↓Own.e_gTup, ↓Own.e_gNil, ↓Own.e_gCons, ↓Own.e_aug, ↓Own.e_ipI, ↓Own.e_for, ↓Own.e_lc, ↓Own.e_iList, ↓Own.e_iTup, ↓Own.e_iRng1, ↓Own.e_iRng2, ↓Own.e_iRng3, ↓Own.e_iAny, ↓Own.e_rListA, ↓Own.e_rLenA, ↓Own.e_rIsiX, ↓Own.e_rIsB, ↓Own.e_revL, ↓Own.e_rNotB, ↓Own.e_iEnum, ↓Own.e_iZip, L2.start, L2.wipe, List.map_cons, List.map_nil, List.replicate_succ, List.replicate_zero, List.length_cons, List.length_nil, Nat.reduceAdd, Nat.reduceSub, Nat.zero_add, List.getElem?_cons_zero, List.getElem?_cons_succ, List.set_cons_zero, List.set_cons_succ, Option.some.injEq, L2.V.int.injEq, L2.V.bl.injEq, L2.V.str.injEq, L2.V.ref.injEq, List.cons.injEq, List.cons_append, List.nil_append, List.append_nil, exists_eq_left', exists_eq_left, exists_and_left, exists_and_right, exists_eq, and_true, true_and, reduceCtorEq, false_and, and_false, exists_false, or_false, false_or, true_or, or_true, decide_eq_true_eq, Bool.not_true, Bool.not_false, Bool.not_eq_true', Bool.not_eq_false', decide_eq_false_iff_not, ite_not, if_true, if_false, ite_true, ite_false, Bool.false_eq_true, if_pos trivial, decide_true, decide_false, PySem.sizeLine_eq, eq_self, Int.reduceNeg, Int.reducePow, Int.reduceLT, Int.reduceLE, Int.reduceToNat, Nat.reduceLeDiff, Int.reduceSub, Int.reduceAdd, Int.reduceMul, Int.reduceDiv, Int.reduceMod, Int.reduceEq, Nat.reduceMul, Nat.reduceEqDiff, ↓reduceIte, ↓Own.e_raiseO, ↓Own.e_callS, ↓Own.e_what, Own.hxd_inj, ha])
    refine ite2 (fun h => ?_) (fun h => q1 (by omega))
    have h8 : u.length % 8 = 0 := by omega
    refine ⟨_, _, _, ⟨rfl, rfl, rfl⟩, _, rgc8 h8 hl, lc_rngC (fun i => ivs ((octs u (u.length / 8)).take i)) rfl ?_ ?_⟩
    · intro D i H' hD hi hp
      have ha' := hp.1 _ _ ha
      (try simp -dsimp only [↓Own.e_seq, ↓Own.e_cxK, ↓Own.e_wishK, ↓Own.e_noxK, ↓Own.e_asg, ↓Own.e_gName, ↓Own.e_var, Own.e_C, ↓Own.e_op, ↓Own.e_un, ↓Own.e_rI, ↓Own.e_rI0, ↓Own.e_rU, Own.e_CMul, Own.e_CDiv, Own.e_CPow, ↓Own.e_rEq, ↓Own.e_rNe, Own.e_scal_int, Own.e_scal_str, Own.e_scal_bl, ↓Own.e_ifS, ↓Own.e_test, ↓Own.e_tB, ↓Own.e_ret, ↓Own.e_retN, ↓Own.e_next, ↓Own.e_brk, ↓Own.e_cnt, ↓Own.e_cons, ↓Own.e_nil, ↓Own.e_lst, ↓Own.e_tup, ↓Own.e_drop, ↓Own.e_and, ↓Own.e_or, ↓Own.e_not, ↓Own.e_andV, ↓Own.e_orV, ↓Own.e_notV, ↓Own.e_if, ↓Own.e_chain, Own.e_CB, ↓Own.e_call, ↓Own.e_rIxL, ↓Own.e_rIxT, ↓Own.e_rIxK, ↓Own.e_rIxKT, ↓Own.e_rSlK, ↓Own.e_rLenK, ↓Own.e_rListK, ↓Own.e_rTupleK, ↓Own.e_rSumK, ↓Own.e_rDivK, ↓Own.e_rNeK, ↓Own.e_rEqK, ↓Own.e_rNeKT, ↓Own.e_rEqKT, ↓Own.e_rIsiK, ↓Own.e_rSlS, ↓Own.e_rIxS, Own.tyK_int, Own.tyK_bl, Own.tyK_str, Own.tyK_non, Own.tyK_ref, Own.tyO_lst, Own.tyO_tup, Own.kit1, Own.kit2, Own.kit3, Own.kit4, Own.kit5, Own.kit6, Own.kit7, Own.kit8, Own.kit9, Own.hlst_inj, Own.htup_inj, Own.vty_inj, Own.ivs_inj, Own.bz_inj, Own.ivs_len, Own.bz_len, Own.ivs_app, Own.ivs_set, Own.ivs_bset, Own.bz_app, Own.ivs_snoc, Own.bz_snoc, Own.atI_ints, Own.atI_bz, Own.isLst_some, Own.ty_lst, L2.upd_same, L2.upd_upd, Own.b2_xor, Own.b2_mod2, Own.b2_mod3, Own.b2_mod4, Own.b2_flip, Option.map_some, Option.isSome_some, ne_eq, eq_self, not_false_eq_true, not_true_eq_false, String.reduceEq, ↓Own.e_BM, ↓Own.e_BM0, ↓Own.e_rAppend, ↓Own.e_rCat, ↓Own.e_rRep, ↓Own.e_sl, ↓Own.e_noPart, ↓Own.e_part, ↓Own.e_rSlL, ↓Own.e_gSub, ↓Own.e_rSetL, ↓Own.e_bits, ↓Own.e_yes, ↓Own.e_gTup, ↓Own.e_gNil, ↓Own.e_gCons, ↓Own.e_aug, ↓Own.e_ipI, ↓Own.e_for, ↓Own.e_lc, ↓Own.e_iList, ↓Own.e_iTup, ↓Own.e_iRng1, ↓Own.e_iRng2, ↓Own.e_iRng3, ↓Own.e_iAny, ↓Own.e_rListA, ↓Own.e_rLenA, ↓Own.e_rIsiX, ↓Own.e_rIsB, ↓Own.e_revL, ↓Own.e_rNotB, ↓Own.e_iEnum, ↓Own.e_iZip, L2.start, L2.wipe, List.map_cons, List.map_nil, List.replicate_succ, List.replicate_zero, List.length_cons, List.length_nil, Nat.reduceAdd, Nat.reduceSub, Nat.zero_add, List.getElem?_cons_zero, List.getElem?_cons_succ, List.set_cons_zero, List.set_cons_succ, Option.some.injEq, L2.V.int.injEq, L2.V.bl.injEq, L2.V.str.injEq, L2.V.ref.injEq, List.cons.injEq, List.cons_append, List.nil_append, List.append_nil, exists_eq_left', exists_eq_left, exists_and_left, exists_and_right, exists_eq, and_true, true_and, reduceCtorEq, false_and, and_false, exists_false, or_false, false_or, true_or, or_true, decide_eq_true_eq, Bool.not_true, Bool.not_false, Bool.not_eq_true', Bool.not_eq_false', decide_eq_false_iff_not, ite_not, if_true, if_false, ite_true, ite_false, Bool.false_eq_true, if_pos trivial, decide_true, decide_false, PySem.sizeLine_eq, eq_self, Int.reduceNeg, Int.reducePow, Int.reduceLT, Int.reduceLE, Int.reduceToNat, Nat.reduceLeDiff, Int.reduceSub, Int.reduceAdd, Int.reduceMul, Int.reduceDiv, Int.reduceMod, Int.reduceEq, Nat.reduceMul, Nat.reduceEqDiff, ↓reduceIte, ↓Own.e_raiseO, ↓Own.e_callS, ↓Own.e_what, Own.hxd_inj, ha'])
      refine new_of fun p1 H2 np1 sm1 hp1 => ?_
      have hp1' : H2 p1 = some (.lst (ivs (bz ((u.take (8 * i + 8)).drop (8 * i))))) := by
        rw [hp1, cut_in _ (by omega) (by omega), show (0 + (i : Int) * 8).toNat = 8 * i by omega, show (0 + (i : Int) * 8 + 8).toNat = 8 * i + 8 by omega]
        unfold ivs bz
        rw [List.map_drop, List.map_drop, List.map_take, List.map_take]
      (try simp -dsimp only [↓Own.e_seq, ↓Own.e_cxK, ↓Own.e_wishK, ↓Own.e_noxK, ↓Own.e_asg, ↓Own.e_gName, ↓Own.e_var, Own.e_C, ↓Own.e_op, ↓Own.e_un, ↓Own.e_rI, ↓Own.e_rI0, ↓Own.e_rU, Own.e_CMul, Own.e_CDiv, Own.e_CPow, ↓Own.e_rEq, ↓Own.e_rNe, Own.e_scal_int, Own.e_scal_str, Own.e_scal_bl, ↓Own.e_ifS, ↓Own.e_test, ↓Own.e_tB, ↓Own.e_ret, ↓Own.e_retN, ↓Own.e_next, ↓Own.e_brk, ↓Own.e_cnt, ↓Own.e_cons, ↓Own.e_nil, ↓Own.e_lst, ↓Own.e_tup, ↓Own.e_drop, ↓Own.e_and, ↓Own.e_or, ↓Own.e_not, ↓Own.e_andV, ↓Own.e_orV, ↓Own.e_notV, ↓Own.e_if, ↓Own.e_chain, Own.e_CB, ↓Own.e_call, ↓Own.e_rIxL, ↓Own.e_rIxT, ↓Own.e_rIxK, ↓Own.e_rIxKT, ↓Own.e_rSlK, ↓Own.e_rLenK, ↓Own.e_rListK, ↓Own.e_rTupleK, ↓Own.e_rSumK, ↓Own.e_rDivK, ↓Own.e_rNeK, ↓Own.e_rEqK, ↓Own.e_rNeKT, ↓Own.e_rEqKT, ↓Own.e_rIsiK, ↓Own.e_rSlS, ↓Own.e_rIxS, Own.tyK_int, Own.tyK_bl, Own.tyK_str, Own.tyK_non, Own.tyK_ref, Own.tyO_lst, Own.tyO_tup, Own.kit1, Own.kit2, Own.kit3, Own.kit4, Own.kit5, Own.kit6, Own.kit7, Own.kit8, Own.kit9, Own.hlst_inj, Own.htup_inj, Own.vty_inj, Own.ivs_inj, Own.bz_inj, Own.ivs_len, Own.bz_len, Own.ivs_app, Own.ivs_set, Own.ivs_bset, Own.bz_app, Own.ivs_snoc, Own.bz_snoc, Own.atI_ints, Own.atI_bz, Own.isLst_some, Own.ty_lst, L2.upd_same, L2.upd_upd, Own.b2_xor, Own.b2_mod2, Own.b2_mod3, Own.b2_mod4, Own.b2_flip, Option.map_some, Option.isSome_some, ne_eq, eq_self, not_false_eq_true, not_true_eq_false, String.reduceEq, ↓Own.e_BM, ↓Own.e_BM0, ↓Own.e_rAppend, ↓Own.e_rCat, ↓Own.e_rRep, ↓Own.e_sl, ↓Own.e_noPart, ↓Own.e_part, ↓Own.e_rSlL, ↓Own.e_gSub, ↓Own.e_rSetL, ↓Own.e_bits, ↓Own.e_yes, ↓Own.e_gTup, ↓Own.e_gNil, ↓Own.e_gCons, ↓Own.e_aug, ↓Own.e_ipI, ↓Own.e_for, ↓Own.e_lc, ↓Own.e_iList, ↓Own.e_iTup, ↓Own.e_iRng1, ↓Own.e_iRng2, ↓Own.e_iRng3, ↓Own.e_iAny, ↓Own.e_rListA, ↓Own.e_rLenA, ↓Own.e_rIsiX, ↓Own.e_rIsB, ↓Own.e_revL, ↓Own.e_rNotB, ↓Own.e_iEnum, ↓Own.e_iZip, L2.start, L2.wipe, List.map_cons, List.map_nil, List.replicate_succ, List.replicate_zero, List.length_cons, List.length_nil, Nat.reduceAdd, Nat.reduceSub, Nat.zero_add, List.getElem?_cons_zero, List.getElem?_cons_succ, List.set_cons_zero, List.set_cons_succ, Option.some.injEq, L2.V.int.injEq, L2.V.bl.injEq, L2.V.str.injEq, L2.V.ref.injEq, List.cons.injEq, List.cons_append, List.nil_append, List.append_nil, exists_eq_left', exists_eq_left, exists_and_left, exists_and_right, exists_eq, and_true, true_and, reduceCtorEq, false_and, and_false, exists_false, or_false, false_or, true_or, or_true, decide_eq_true_eq, Bool.not_true, Bool.not_false, Bool.not_eq_true', Bool.not_eq_false', decide_eq_false_iff_not, ite_not, if_true, if_false, ite_true, ite_false, Bool.false_eq_true, if_pos trivial, decide_true, decide_false, PySem.sizeLine_eq, eq_self, Int.reduceNeg, Int.reducePow, Int.reduceLT, Int.reduceLE, Int.reduceToNat, Nat.reduceLeDiff, Int.reduceSub, Int.reduceAdd, Int.reduceMul, Int.reduceDiv, Int.reduceMod, Int.reduceEq, Nat.reduceMul, Nat.reduceEqDiff, ↓reduceIte, ↓Own.e_raiseO, ↓Own.e_callS, ↓Own.e_what, Own.hxd_inj])
      refine ⟨_, .of hp1', new_of fun p2 H3 np2 sm2 hp2 => ?_⟩
      have hp2' : H3 p2 = some (.lst (ivs (bz ((u.take (8 * i + 8)).drop (8 * i)).reverse))) := by
        rw [hp2]
        unfold ivs bz
        rw [List.map_reverse, List.map_reverse]
      (try simp -dsimp only [↓Own.e_seq, ↓Own.e_cxK, ↓Own.e_wishK, ↓Own.e_noxK, ↓Own.e_asg, ↓Own.e_gName, ↓Own.e_var, Own.e_C, ↓Own.e_op, ↓Own.e_un, ↓Own.e_rI, ↓Own.e_rI0, ↓Own.e_rU, Own.e_CMul, Own.e_CDiv, Own.e_CPow, ↓Own.e_rEq, ↓Own.e_rNe, Own.e_scal_int, Own.e_scal_str, Own.e_scal_bl, ↓Own.e_ifS, ↓Own.e_test, ↓Own.e_tB, ↓Own.e_ret, ↓Own.e_retN, ↓Own.e_next, ↓Own.e_brk, ↓Own.e_cnt, ↓Own.e_cons, ↓Own.e_nil, ↓Own.e_lst, ↓Own.e_tup, ↓Own.e_drop, ↓Own.e_and, ↓Own.e_or, ↓Own.e_not, ↓Own.e_andV, ↓Own.e_orV, ↓Own.e_notV, ↓Own.e_if, ↓Own.e_chain, Own.e_CB, ↓Own.e_call, ↓Own.e_rIxL, ↓Own.e_rIxT, ↓Own.e_rIxK, ↓Own.e_rIxKT, ↓Own.e_rSlK, ↓Own.e_rLenK, ↓Own.e_rListK, ↓Own.e_rTupleK, ↓Own.e_rSumK, ↓Own.e_rDivK, ↓Own.e_rNeK, ↓Own.e_rEqK, ↓Own.e_rNeKT, ↓Own.e_rEqKT, ↓Own.e_rIsiK, ↓Own.e_rSlS, ↓Own.e_rIxS, Own.tyK_int, Own.tyK_bl, Own.tyK_str, Own.tyK_non, Own.tyK_ref, Own.tyO_lst, Own.tyO_tup, Own.kit1, Own.kit2, Own.kit3, Own.kit4, Own.kit5, Own.kit6, Own.kit7, Own.kit8, Own.kit9, Own.hlst_inj, Own.htup_inj, Own.vty_inj, Own.ivs_inj, Own.bz_inj, Own.ivs_len, Own.bz_len, Own.ivs_app, Own.ivs_set, Own.ivs_bset, Own.bz_app, Own.ivs_snoc, Own.bz_snoc, Own.atI_ints, Own.atI_bz, Own.isLst_some, Own.ty_lst, L2.upd_same, L2.upd_upd, Own.b2_xor, Own.b2_mod2, Own.b2_mod3, Own.b2_mod4, Own.b2_flip, Option.map_some, Option.isSome_some, ne_eq, eq_self, not_false_eq_true, not_true_eq_false, String.reduceEq, ↓Own.e_BM, ↓Own.e_BM0, ↓Own.e_rAppend, ↓Own.e_rCat, ↓Own.e_rRep, ↓Own.e_sl, ↓Own.e_noPart, ↓Own.e_part, ↓Own.e_rSlL, ↓Own.e_gSub, ↓Own.e_rSetL, ↓Own.e_bits, ↓Own.e_yes, ↓Own.e_gTup, ↓Own.e_gNil, ↓Own.e_gCons, ↓Own.e_aug, ↓Own.e_ipI, ↓Own.e_for, ↓Own.e_lc, ↓Own.e_iList, ↓Own.e_iTup, ↓Own.e_iRng1, ↓Own.e_iRng2, ↓Own.e_iRng3, ↓Own.e_iAny, ↓Own.e_rListA, ↓Own.e_rLenA, ↓Own.e_rIsiX, ↓Own.e_rIsB, ↓Own.e_revL, ↓Own.e_rNotB, ↓Own.e_iEnum, ↓Own.e_iZip, L2.start, L2.wipe, List.map_cons, List.map_nil, List.replicate_succ, List.replicate_zero, List.length_cons, List.length_nil, Nat.reduceAdd, Nat.reduceSub, Nat.zero_add, List.getElem?_cons_zero, List.getElem?_cons_succ, List.set_cons_zero, List.set_cons_succ, Option.some.injEq, L2.V.int.injEq, L2.V.bl.injEq, L2.V.str.injEq, L2.V.ref.injEq, List.cons.injEq, List.cons_append, List.nil_append, List.append_nil, exists_eq_left', exists_eq_left, exists_and_left, exists_and_right, exists_eq, and_true, true_and, reduceCtorEq, false_and, and_false, exists_false, or_false, false_or, true_or, or_true, decide_eq_true_eq, Bool.not_true, Bool.not_false, Bool.not_eq_true', Bool.not_eq_false', decide_eq_false_iff_not, ite_not, if_true, if_false, ite_true, ite_false, Bool.false_eq_true, if_pos trivial, decide_true, decide_false, PySem.sizeLine_eq, eq_self, Int.reduceNeg, Int.reducePow, Int.reduceLT, Int.reduceLE, Int.reduceToNat, Nat.reduceLeDiff, Int.reduceSub, Int.reduceAdd, Int.reduceMul, Int.reduceDiv, Int.reduceMod, Int.reduceEq, Nat.reduceMul, Nat.reduceEqDiff, ↓reduceIte, ↓Own.e_raiseO, ↓Own.e_callS, ↓Own.e_what, Own.hxd_inj])
      refine call_to ⟨_, _, rfl, .inl (.of hp2'), ?_⟩
      exact elt_is hD hp (sm1.trans sm2) (ivs_take_snoc (octs_get hi)) (by rw [ivs_len, List.length_take, octs_len]; omega)
    · intro D H' hD sm hp
      rw [List.take_of_length_le (by rw [octs_len]; omega)] at hp
      (try simp -dsimp only [↓Own.e_seq, ↓Own.e_cxK, ↓Own.e_wishK, ↓Own.e_noxK, ↓Own.e_asg, ↓Own.e_gName, ↓Own.e_var, Own.e_C, ↓Own.e_op, ↓Own.e_un, ↓Own.e_rI, ↓Own.e_rI0, ↓Own.e_rU, Own.e_CMul, Own.e_CDiv, Own.e_CPow, ↓Own.e_rEq, ↓Own.e_rNe, Own.e_scal_int, Own.e_scal_str, Own.e_scal_bl, ↓Own.e_ifS, ↓Own.e_test, ↓Own.e_tB, ↓Own.e_ret, ↓Own.e_retN, ↓Own.e_next, ↓Own.e_brk, ↓Own.e_cnt, ↓Own.e_cons, ↓Own.e_nil, ↓Own.e_lst, ↓Own.e_tup, ↓Own.e_drop, ↓Own.e_and, ↓Own.e_or, ↓Own.e_not, ↓Own.e_andV, ↓Own.e_orV, ↓Own.e_notV, ↓Own.e_if, ↓Own.e_chain, Own.e_CB, ↓Own.e_call, ↓Own.e_rIxL, ↓Own.e_rIxT, ↓Own.e_rIxK, ↓Own.e_rIxKT, ↓Own.e_rSlK, ↓Own.e_rLenK, ↓Own.e_rListK, ↓Own.e_rTupleK, ↓Own.e_rSumK, ↓Own.e_rDivK, ↓Own.e_rNeK, ↓Own.e_rEqK, ↓Own.e_rNeKT, ↓Own.e_rEqKT, ↓Own.e_rIsiK, ↓Own.e_rSlS, ↓Own.e_rIxS, Own.tyK_int, Own.tyK_bl, Own.tyK_str, Own.tyK_non, Own.tyK_ref, Own.tyO_lst, Own.tyO_tup, Own.kit1, Own.kit2, Own.kit3, Own.kit4, Own.kit5, Own.kit6, Own.kit7, Own.kit8, Own.kit9, Own.hlst_inj, Own.htup_inj, Own.vty_inj, Own.ivs_inj, Own.bz_inj, Own.ivs_len, Own.bz_len, Own.ivs_app, Own.ivs_set, Own.ivs_bset, Own.bz_app, Own.ivs_snoc, Own.bz_snoc, Own.atI_ints, Own.atI_bz, Own.isLst_some, Own.ty_lst, L2.upd_same, L2.upd_upd, Own.b2_xor, Own.b2_mod2, Own.b2_mod3, Own.b2_mod4, Own.b2_flip, Option.map_some, Option.isSome_some, ne_eq, eq_self, not_false_eq_true, not_true_eq_false, String.reduceEq, ↓Own.e_BM, ↓Own.e_BM0, ↓Own.e_rAppend, ↓Own.e_rCat, ↓Own.e_rRep, ↓Own.e_sl, ↓Own.e_noPart, ↓Own.e_part, ↓Own.e_rSlL, ↓Own.e_gSub, ↓Own.e_rSetL, ↓Own.e_bits, ↓Own.e_yes, ↓Own.e_gTup, ↓Own.e_gNil, ↓Own.e_gCons, ↓Own.e_aug, ↓Own.e_ipI, ↓Own.e_for, ↓Own.e_lc, ↓Own.e_iList, ↓Own.e_iTup, ↓Own.e_iRng1, ↓Own.e_iRng2, ↓Own.e_iRng3, ↓Own.e_iAny, ↓Own.e_rListA, ↓Own.e_rLenA, ↓Own.e_rIsiX, ↓Own.e_rIsB, ↓Own.e_revL, ↓Own.e_rNotB, ↓Own.e_iEnum, ↓Own.e_iZip, L2.start, L2.wipe, List.map_cons, List.map_nil, List.replicate_succ, List.replicate_zero, List.length_cons, List.length_nil, Nat.reduceAdd, Nat.reduceSub, Nat.zero_add, List.getElem?_cons_zero, List.getElem?_cons_succ, List.set_cons_zero, List.set_cons_succ, Option.some.injEq, L2.V.int.injEq, L2.V.bl.injEq, L2.V.str.injEq, L2.V.ref.injEq, List.cons.injEq, List.cons_append, List.nil_append, List.append_nil, exists_eq_left', exists_eq_left, exists_and_left, exists_and_right, exists_eq, and_true, true_and, reduceCtorEq, false_and, and_false, exists_false, or_false, false_or, true_or, or_true, decide_eq_true_eq, Bool.not_true, Bool.not_false, Bool.not_eq_true', Bool.not_eq_false', decide_eq_false_iff_not, ite_not, if_true, if_false, ite_true, ite_false, Bool.false_eq_true, if_pos trivial, decide_true, decide_false, PySem.sizeLine_eq, eq_self, Int.reduceNeg, Int.reducePow, Int.reduceLT, Int.reduceLE, Int.reduceToNat, Nat.reduceLeDiff, Int.reduceSub, Int.reduceAdd, Int.reduceMul, Int.reduceDiv, Int.reduceMod, Int.reduceEq, Nat.reduceMul, Nat.reduceEqDiff, ↓reduceIte, ↓Own.e_raiseO, ↓Own.e_callS, ↓Own.e_what, Own.hxd_inj, hp])
      exact new_of fun p H3 np3 sm3 hp3 => q2 h8 H3 p (sm.trans sm3) (sm.free np3) hp3
def mixF (c t : Int) : Int := (c % 1000003 * 48271 + 69621 * (t + 1)) % 2147483647
def mixS (c t : Int) : Int := (mixF c t * 48271 + c % 999983) % 2147483647
def mixT (c t : Int) : Int := (mixS c t * 69621 + mixF c t) % 2147483647
/-- what is made of a cell -/
def mixed (c t : Int) : Int := if 1000000000000000000 ≤ c then c else mixF c t + 2147483647 * mixS c t + 4611686014132420609 * mixT c t
theorem mixed_nn (c t : Int) : 0 ≤ mixed c t := by
  unfold mixed mixT mixS mixF
  split <;> omega

def sp__law_mixed (K : PySem.W.Frag) : Sp := fun vs H Q _ => ∃ c t : Int, vs = [.int c, .int t] ∧ ∀ v : Int, 0 ≤ v → Q (.int v) H

theorem ok__law_mixed {f : Addr} {fd : FuncData} (F : Fun K "_law_mixed" "_law_mixed" s__law_mixed f fd) (B : BI mg) : FnOk P w K mg base CX0 1 f fd ["cell", "turn"] (sp__law_mixed K) := by
  refine F.ok sc__law_mixed (fun vs H Q E h => ?_) (fun cdv A outer s H vs Q E hr h => ?_)
  · obtain ⟨c, t, rfl, q⟩ := h
    rfl
  · obtain ⟨c, t, rfl, q⟩ := h
    refine ⟨_, (pss_cons (ps_set (i := 2) sc__law_mixed.nd rfl (Or.inl rfl) (pe_callTy call_int1 (by rfl) B.int_ boot_int (pa_cons (pv 0) pa_nil)))
      (pss_cons (ps_if (pt_cmpR op_ge (pv 2) (pe_op op_pow pe_int pe_int) (nomark _)) (pss_one (ps_ret (pv 2))) pss_nil)
      (pss_cons (ps_set (i := 3) sc__law_mixed.nd rfl (Or.inl rfl) (pe_op op_mod (pe_op op_add (pe_op op_mul (pe_op op_mod (pv 2) pe_int) pe_int) (pe_op op_mul pe_int (pe_op op_add (pv 1) pe_int))) pe_int))
      (pss_cons (ps_set (i := 4) sc__law_mixed.nd rfl (Or.inl rfl) (pe_op op_mod (pe_op op_add (pe_op op_mul (pv 3) pe_int) (pe_op op_mod (pv 2) pe_int)) pe_int))
      (pss_cons (ps_set (i := 5) sc__law_mixed.nd rfl (Or.inl rfl) (pe_op op_mod (pe_op op_add (pe_op op_mul (pv 4) pe_int) (pv 3)) pe_int))
      (pss_one (ps_ret (pe_op op_add (pe_op op_add (pv 3) (pe_op op_mul pe_int (pv 4))) (pe_op op_mul pe_int (pv 5)))))))))), ?_⟩
    (try simp -dsimp only [↓Own.e_seq, ↓Own.e_cxK, ↓Own.e_wishK, ↓Own.e_noxK, ↓Own.e_asg, ↓Own.e_gName, ↓Own.e_var, Own.e_C, ↓Own.e_op, ↓Own.e_un, ↓Own.e_rI, ↓Own.e_rI0, ↓Own.e_rU, Own.e_CMul, Own.e_CDiv, Own.e_CPow, ↓Own.e_rEq, ↓Own.e_rNe, Own.e_scal_int, Own.e_scal_str, Own.e_scal_bl, ↓Own.e_ifS, ↓Own.e_test, ↓Own.e_tB, ↓Own.e_ret, ↓Own.e_retN, ↓Own.e_next, ↓Own.e_brk, ↓Own.e_cnt, ↓Own.e_cons, ↓Own.e_nil, ↓Own.e_lst, ↓Own.e_tup, ↓Own.e_drop, ↓Own.e_and, ↓Own.e_or, ↓Own.e_not, ↓Own.e_andV, ↓Own.e_orV, ↓Own.e_notV, ↓Own.e_if, ↓Own.e_chain, Own.e_CB, ↓Own.e_call, ↓Own.e_rIxL, ↓Own.e_rIxT, ↓Own.e_rIxK, ↓Own.e_rIxKT, ↓Own.e_rSlK, ↓Own.e_rLenK, ↓Own.e_rListK, ↓Own.e_rTupleK, ↓Own.e_rSumK, ↓Own.e_rDivK, ↓Own.e_rNeK, ↓Own.e_rEqK, ↓Own.e_rNeKT, ↓Own.e_rEqKT, ↓Own.e_rIsiK, ↓Own.e_rSlS, ↓Own.e_rIxS, Own.tyK_int, Own.tyK_bl, Own.tyK_str, Own.tyK_non, Own.tyK_ref, Own.tyO_lst, Own.tyO_tup, Own.kit1, Own.kit2, Own.kit3, Own.kit4, Own.kit5, Own.kit6, Own.kit7, Own.kit8, Own.kit9, Own.hlst_inj, Own.htup_inj, Own.vty_inj, Own.ivs_inj, Own.bz_inj, Own.ivs_len, Own.bz_len, Own.ivs_app, Own.ivs_set, Own.ivs_bset, Own.bz_app, Own.ivs_snoc, Own.bz_snoc, Own.atI_ints, Own.atI_bz, Own.isLst_some, Own.ty_lst, L2.upd_same, L2.upd_upd, Own.b2_xor, Own.b2_mod2, Own.b2_mod3, Own.b2_mod4, Own.b2_flip, Option.map_some, Option.isSome_some, ne_eq, eq_self, not_false_eq_true, not_true_eq_false, String.reduceEq, ↓Own.e_BM, ↓Own.e_BM0, ↓Own.e_rAppend, ↓Own.e_rCat, ↓Own.e_rRep, ↓Own.e_sl, ↓Own.e_noPart, ↓Own.e_part, ↓Own.e_rSlL, ↓Own.e_gSub, ↓Own.e_rSetL, ↓Own.e_bits, ↓Own.e_yes, ↓Own.e_gTup, ↓Own.e_gNil, ↓Own.e_gCons, ↓Own.e_aug, ↓Own.e_ipI, ↓Own.e_for, ↓Own.e_lc, ↓Own.e_iList, ↓Own.e_iTup, ↓Own.e_iRng1, ↓Own.e_iRng2, ↓Own.e_iRng3, ↓Own.e_iAny, ↓Own.e_rListA, ↓Own.e_rLenA, ↓Own.e_rIsiX, ↓Own.e_rIsB, ↓Own.e_revL, ↓Own.e_rNotB, ↓Own.e_iEnum, ↓Own.e_iZip, L2.start, L2.wipe, List.map_cons, List.map_nil, List.replicate_succ, List.replicate_zero, List.length_cons, List.length_nil, Nat.reduceAdd, Nat.reduceSub, Nat.zero_add, List.getElem?_cons_zero, List.getElem?_cons_succ, List.set_cons_zero, List.set_cons_succ, Option.some.injEq, L2.V.int.injEq, L2.V.bl.injEq, L2.V.str.injEq, L2.V.ref.injEq, List.cons.injEq, List.cons_append, List.nil_append, List.append_nil, exists_eq_left', exists_eq_left, exists_and_left, exists_and_right, exists_eq, and_true, true_and, reduceCtorEq, false_and, and_false, exists_false, or_false, false_or, true_or, or_true, decide_eq_true_eq, Bool.not_true, Bool.not_false, Bool.not_eq_true', Bool.not_eq_false', decide_eq_false_iff_not, ite_not, if_true, if_false, ite_true, ite_false, Bool.false_eq_true, if_pos trivial, decide_true, decide_false, PySem.sizeLine_eq, eq_self, Int.reduceNeg, Int.reducePow, Int.reduceLT, Int.reduceLE, Int.reduceToNat, Nat.reduceLeDiff, Int.reduceSub, Int.reduceAdd, Int.reduceMul, Int.reduceDiv, Int.reduceMod, Int.reduceEq, Nat.reduceMul, Nat.reduceEqDiff, ↓reduceIte, ↓Own.e_raiseO, ↓Own.e_callS, ↓Own.e_what, Own.hxd_inj])
    refine ⟨by decide, ?_⟩
    have e := q _ (mixed_nn c t)
    unfold mixed mixT mixS mixF at e
    split
    · rename_i h1; rw [if_pos h1] at e; exact e
    · rename_i h1; rw [if_neg h1] at e; exact e
def sp__law_refused (K : PySem.W.Frag) (C : Addr) : Sp := fun vs H Q _ => ∃ n c : Int, vs = [.int n, .int c] ∧ c ≤ 100000 ∧ ¬ (0 ≤ n ∧ n < 2 ^ c.toNat ∧ 0 ≤ c) ∧ ∀ H', Same H H' → Q (.bl true) H'

theorem ok__law_refused {f : Addr} {fd : FuncData} {f_number_bits : Addr} {fd_number_bits : FuncData} (F : Fun K "_law_refused" "_law_refused" s__law_refused f fd) (B : BI mg) (X_OutOfRange : PySem.OorX.OorTxt K mg C_OutOfRange f_OutOfRange) (c_number_bits : Cal P w K mg base (L2.CX P w) 1 "number_bits" f_number_bits fd_number_bits ["number", "count"] (sp_number_bits K C_OutOfRange)) : FnOk P w K mg base CX0 2 f fd ["number", "count"] (sp__law_refused K C_OutOfRange) := by
  refine F.ok sc__law_refused (fun vs H Q E h => ?_) (fun cdv A outer s H vs Q E hr h => ?_)
  · obtain ⟨n, c, rfl, hc, hn, q⟩ := h
    rfl
  · obtain ⟨n, c, rfl, hc, hn, q⟩ := h
    refine ⟨_, (pss_cons (ps_try_as (i := 2) (Wout := fun _ _ _ _ => False) rfl rfl sc__law_refused.nd rfl rfl ⟨rfl, by decide, Or.inl X_OutOfRange.gC⟩ takes0 (fun W pn xe tk _ => (pss_one (ps_expr (pe_callS c_number_bits.ok (hr.mono (by decide)) (by rfl) c_number_bits.g c_number_bits.kp c_number_bits.b (fun σ => passAt tk σ) (by exact (pa_cons (pv 0) (pa_cons (pv 1) pa_nil))))))) (fun a oe cls d pn hz hf => (pss_one (ps_ret (pe_cmpR op_eq (pe_what X_OutOfRange hz hf (pv 2)) pe_str (nomark _))))))
      (pss_one (ps_ret pe_bl))), ?_⟩
    (try simp -dsimp only [↓Own.e_seq, ↓Own.e_cxK, ↓Own.e_wishK, ↓Own.e_noxK, ↓Own.e_asg, ↓Own.e_gName, ↓Own.e_var, Own.e_C, ↓Own.e_op, ↓Own.e_un, ↓Own.e_rI, ↓Own.e_rI0, ↓Own.e_rU, Own.e_CMul, Own.e_CDiv, Own.e_CPow, ↓Own.e_rEq, ↓Own.e_rNe, Own.e_scal_int, Own.e_scal_str, Own.e_scal_bl, ↓Own.e_ifS, ↓Own.e_test, ↓Own.e_tB, ↓Own.e_ret, ↓Own.e_retN, ↓Own.e_next, ↓Own.e_brk, ↓Own.e_cnt, ↓Own.e_cons, ↓Own.e_nil, ↓Own.e_lst, ↓Own.e_tup, ↓Own.e_drop, ↓Own.e_and, ↓Own.e_or, ↓Own.e_not, ↓Own.e_andV, ↓Own.e_orV, ↓Own.e_notV, ↓Own.e_if, ↓Own.e_chain, Own.e_CB, ↓Own.e_call, ↓Own.e_rIxL, ↓Own.e_rIxT, ↓Own.e_rIxK, ↓Own.e_rIxKT, ↓Own.e_rSlK, ↓Own.e_rLenK, ↓Own.e_rListK, ↓Own.e_rTupleK, ↓Own.e_rSumK, ↓Own.e_rDivK, ↓Own.e_rNeK, ↓Own.e_rEqK, ↓Own.e_rNeKT, ↓Own.e_rEqKT, ↓Own.e_rIsiK, ↓Own.e_rSlS, ↓Own.e_rIxS, Own.tyK_int, Own.tyK_bl, Own.tyK_str, Own.tyK_non, Own.tyK_ref, Own.tyO_lst, Own.tyO_tup, Own.kit1, Own.kit2, Own.kit3, Own.kit4, Own.kit5, Own.kit6, Own.kit7, Own.kit8, Own.kit9, Own.hlst_inj, Own.htup_inj, Own.vty_inj, Own.ivs_inj, Own.bz_inj, Own.ivs_len, Own.bz_len, Own.ivs_app, Own.ivs_set, Own.ivs_bset, Own.bz_app, Own.ivs_snoc, Own.bz_snoc, Own.atI_ints, Own.atI_bz, Own.isLst_some, Own.ty_lst, L2.upd_same, L2.upd_upd, Own.b2_xor, Own.b2_mod2, Own.b2_mod3, Own.b2_mod4, Own.b2_flip, Option.map_some, Option.isSome_some, ne_eq, eq_self, not_false_eq_true, not_true_eq_false, String.reduceEq, ↓Own.e_BM, ↓Own.e_BM0, ↓Own.e_rAppend, ↓Own.e_rCat, ↓Own.e_rRep, ↓Own.e_sl, ↓Own.e_noPart, ↓Own.e_part, ↓Own.e_rSlL, ↓Own.e_gSub, ↓Own.e_rSetL, ↓Own.e_bits, ↓Own.e_yes, ↓Own.e_gTup, ↓Own.e_gNil, ↓Own.e_gCons, ↓Own.e_aug, ↓Own.e_ipI, ↓Own.e_for, ↓Own.e_lc, ↓Own.e_iList, ↓Own.e_iTup, ↓Own.e_iRng1, ↓Own.e_iRng2, ↓Own.e_iRng3, ↓Own.e_iAny, ↓Own.e_rListA, ↓Own.e_rLenA, ↓Own.e_rIsiX, ↓Own.e_rIsB, ↓Own.e_revL, ↓Own.e_rNotB, ↓Own.e_iEnum, ↓Own.e_iZip, L2.start, L2.wipe, List.map_cons, List.map_nil, List.replicate_succ, List.replicate_zero, List.length_cons, List.length_nil, Nat.reduceAdd, Nat.reduceSub, Nat.zero_add, List.getElem?_cons_zero, List.getElem?_cons_succ, List.set_cons_zero, List.set_cons_succ, Option.some.injEq, L2.V.int.injEq, L2.V.bl.injEq, L2.V.str.injEq, L2.V.ref.injEq, List.cons.injEq, List.cons_append, List.nil_append, List.append_nil, exists_eq_left', exists_eq_left, exists_and_left, exists_and_right, exists_eq, and_true, true_and, reduceCtorEq, false_and, and_false, exists_false, or_false, false_or, true_or, or_true, decide_eq_true_eq, Bool.not_true, Bool.not_false, Bool.not_eq_true', Bool.not_eq_false', decide_eq_false_iff_not, ite_not, if_true, if_false, ite_true, ite_false, Bool.false_eq_true, if_pos trivial, decide_true, decide_false, PySem.sizeLine_eq, eq_self, Int.reduceNeg, Int.reducePow, Int.reduceLT, Int.reduceLE, Int.reduceToNat, Nat.reduceLeDiff, Int.reduceSub, Int.reduceAdd, Int.reduceMul, Int.reduceDiv, Int.reduceMod, Int.reduceEq, Nat.reduceMul, Nat.reduceEqDiff, ↓reduceIte, ↓Own.e_raiseO, ↓Own.e_callS, ↓Own.e_what, Own.hxd_inj])
    refine call_to ⟨_, _, rfl, hc, fun _ d H' sm nd hd => as_hit X_OutOfRange.te fun a na => ?_, fun m k em ek lt => ?_⟩
    · (try simp -dsimp only [↓Own.e_seq, ↓Own.e_cxK, ↓Own.e_wishK, ↓Own.e_noxK, ↓Own.e_asg, ↓Own.e_gName, ↓Own.e_var, Own.e_C, ↓Own.e_op, ↓Own.e_un, ↓Own.e_rI, ↓Own.e_rI0, ↓Own.e_rU, Own.e_CMul, Own.e_CDiv, Own.e_CPow, ↓Own.e_rEq, ↓Own.e_rNe, Own.e_scal_int, Own.e_scal_str, Own.e_scal_bl, ↓Own.e_ifS, ↓Own.e_test, ↓Own.e_tB, ↓Own.e_ret, ↓Own.e_retN, ↓Own.e_next, ↓Own.e_brk, ↓Own.e_cnt, ↓Own.e_cons, ↓Own.e_nil, ↓Own.e_lst, ↓Own.e_tup, ↓Own.e_drop, ↓Own.e_and, ↓Own.e_or, ↓Own.e_not, ↓Own.e_andV, ↓Own.e_orV, ↓Own.e_notV, ↓Own.e_if, ↓Own.e_chain, Own.e_CB, ↓Own.e_call, ↓Own.e_rIxL, ↓Own.e_rIxT, ↓Own.e_rIxK, ↓Own.e_rIxKT, ↓Own.e_rSlK, ↓Own.e_rLenK, ↓Own.e_rListK, ↓Own.e_rTupleK, ↓Own.e_rSumK, ↓Own.e_rDivK, ↓Own.e_rNeK, ↓Own.e_rEqK, ↓Own.e_rNeKT, ↓Own.e_rEqKT, ↓Own.e_rIsiK, ↓Own.e_rSlS, ↓Own.e_rIxS, Own.tyK_int, Own.tyK_bl, Own.tyK_str, Own.tyK_non, Own.tyK_ref, Own.tyO_lst, Own.tyO_tup, Own.kit1, Own.kit2, Own.kit3, Own.kit4, Own.kit5, Own.kit6, Own.kit7, Own.kit8, Own.kit9, Own.hlst_inj, Own.htup_inj, Own.vty_inj, Own.ivs_inj, Own.bz_inj, Own.ivs_len, Own.bz_len, Own.ivs_app, Own.ivs_set, Own.ivs_bset, Own.bz_app, Own.ivs_snoc, Own.bz_snoc, Own.atI_ints, Own.atI_bz, Own.isLst_some, Own.ty_lst, L2.upd_same, L2.upd_upd, Own.b2_xor, Own.b2_mod2, Own.b2_mod3, Own.b2_mod4, Own.b2_flip, Option.map_some, Option.isSome_some, ne_eq, eq_self, not_false_eq_true, not_true_eq_false, String.reduceEq, ↓Own.e_BM, ↓Own.e_BM0, ↓Own.e_rAppend, ↓Own.e_rCat, ↓Own.e_rRep, ↓Own.e_sl, ↓Own.e_noPart, ↓Own.e_part, ↓Own.e_rSlL, ↓Own.e_gSub, ↓Own.e_rSetL, ↓Own.e_bits, ↓Own.e_yes, ↓Own.e_gTup, ↓Own.e_gNil, ↓Own.e_gCons, ↓Own.e_aug, ↓Own.e_ipI, ↓Own.e_for, ↓Own.e_lc, ↓Own.e_iList, ↓Own.e_iTup, ↓Own.e_iRng1, ↓Own.e_iRng2, ↓Own.e_iRng3, ↓Own.e_iAny, ↓Own.e_rListA, ↓Own.e_rLenA, ↓Own.e_rIsiX, ↓Own.e_rIsB, ↓Own.e_revL, ↓Own.e_rNotB, ↓Own.e_iEnum, ↓Own.e_iZip, L2.start, L2.wipe, List.map_cons, List.map_nil, List.replicate_succ, List.replicate_zero, List.length_cons, List.length_nil, Nat.reduceAdd, Nat.reduceSub, Nat.zero_add, List.getElem?_cons_zero, List.getElem?_cons_succ, List.set_cons_zero, List.set_cons_succ, Option.some.injEq, L2.V.int.injEq, L2.V.bl.injEq, L2.V.str.injEq, L2.V.ref.injEq, List.cons.injEq, List.cons_append, List.nil_append, List.append_nil, exists_eq_left', exists_eq_left, exists_and_left, exists_and_right, exists_eq, and_true, true_and, reduceCtorEq, false_and, and_false, exists_false, or_false, false_or, true_or, or_true, decide_eq_true_eq, Bool.not_true, Bool.not_false, Bool.not_eq_true', Bool.not_eq_false', decide_eq_false_iff_not, ite_not, if_true, if_false, ite_true, ite_false, Bool.false_eq_true, if_pos trivial, decide_true, decide_false, PySem.sizeLine_eq, eq_self, Int.reduceNeg, Int.reducePow, Int.reduceLT, Int.reduceLE, Int.reduceToNat, Nat.reduceLeDiff, Int.reduceSub, Int.reduceAdd, Int.reduceMul, Int.reduceDiv, Int.reduceMod, Int.reduceEq, Nat.reduceMul, Nat.reduceEqDiff, ↓reduceIte, ↓Own.e_raiseO, ↓Own.e_callS, ↓Own.e_what, Own.hxd_inj, hd])
      exact q H' sm
    · subst em ek
      exact absurd ⟨by omega, by rw [Int.toNat_natCast, ← PySem.W.kbt_cast]; exact Int.ofNat_lt.mpr lt, by omega⟩ hn
theorem nu_nb : ∀ (k m : Nat), m < 2 ^ k → nu (nb m k) = m
  | 0, m, h => by
    have : m = 0 := by rw [Nat.pow_zero] at h; omega
    subst this; rfl
  | k + 1, m, h => by
    show nu (nb (m / 2) k ++ [decide (m % 2 = 1)]) = m
    rw [nu_snoc, nu_nb k (m / 2) (by rw [Nat.pow_succ] at h; omega)]
    by_cases e : m % 2 = 1
    · rw [decide_eq_true e, Bool.toNat_true]; omega
    · rw [decide_eq_false e, Bool.toNat_false]; omega
theorem nb_top {m k i : Nat} (h : i < k) : (nb m k)[k - 1 - i]? = some (decide (m / 2 ^ i % 2 = 1)) := by
  rw [nb_get m k (k - 1 - i) (by omega), show k - 1 - (k - 1 - i) = i by omega]

def sp__law_number_right (K : PySem.W.Frag) (C : Addr) : Sp := fun vs H Q _ => ∃ m k : Nat, vs = [.int m, .int k] ∧ m < 2 ^ k ∧ k ≤ 1000 ∧ ∀ H', Same H H' → Q (.bl true) H'

theorem ok__law_number_right {f : Addr} {fd : FuncData} {f_number_bits : Addr} {fd_number_bits : FuncData} {f_bits_number : Addr} {fd_bits_number : FuncData} (F : Fun K "_law_number_right" "_law_number_right" s__law_number_right f fd) (B : BI mg) (c_number_bits : Cal P w K mg base (L2.CX P w) 1 "number_bits" f_number_bits fd_number_bits ["number", "count"] (sp_number_bits K C_OutOfRange)) (c_bits_number : Cal P w K mg base CX0 1 "bits_number" f_bits_number fd_bits_number ["bits"] (sp_bits_number K)) : FnOk P w K mg base CX0 2 f fd ["number", "count"] (sp__law_number_right K C_OutOfRange) := by
  refine F.ok sc__law_number_right (fun vs H Q E h => ?_) (fun cdv A outer s H vs Q E hr h => ?_)
  · obtain ⟨m, k, rfl, lt, hk, q⟩ := h
    rfl
  · obtain ⟨m, k, rfl, lt, hk, q⟩ := h
    refine ⟨_, (pss_cons (ps_set (i := 2) sc__law_number_right.nd rfl (Or.inl rfl) (pe_call c_number_bits.ok (hr.mono (by decide)) (by rfl) c_number_bits.g c_number_bits.kp c_number_bits.b .nil passL (pa_cons (pv 0) (pa_cons (pv 1) pa_nil))))
      (pss_cons (ps_if (PW.pt (pw_or (pt_not (pt_val (pe_callB callk_isi (by rfl) B.isinstance_ (by decide +kernel) (pa_cons (pv 2) (pa_cons (pe_bltn (v := .ty "list") (by rfl) B.list_ boot_list rfl) pa_nil))))) (pw_or1 (pt_cmpR op_ne (pe_callB callk_len (by rfl) B.len_ (by decide +kernel) (pa_cons (pv 2) pa_nil)) (pv 1) (nomark _))))) (pss_one (ps_ret pe_bl)) pss_nil)
      (pss_cons (ps_set (i := 3) sc__law_number_right.nd rfl (Or.inl rfl) (pv 0))
      (pss_cons (ps_for PassesOwn.never rfl (pi_range1 (by rfl) B.range_ (pa_cons (pv 1) pa_nil)) (pg_name (i := 4) sc__law_number_right.nd rfl (Or.inl rfl))
      (pss_cons (ps_set (i := 5) sc__law_number_right.nd rfl (Or.inl rfl) (pe_ix ixk_list (pv 2) (pe_op op_sub (pe_op op_sub (pv 1) pe_int) (pv 4)) (fun _ _ => rfl)))
      (pss_cons (ps_if (PW.pt (pw_or (pt_val (pe_callB callk_isi (by rfl) B.isinstance_ (by decide +kernel) (pa_cons (pv 5) (pa_cons (pe_bltn (v := .ty "bool") (by rfl) B.bool_ boot_bool rfl) pa_nil)))) (pw_or1 (pt_cmpR op_ne (pv 5) (pe_op op_mod (pv 3) pe_int) (nomark _))))) (pss_one (ps_ret pe_bl)) pss_nil)
      (pss_one (ps_set (i := 3) sc__law_number_right.nd rfl (Or.inl rfl) (pe_op op_fdiv (pv 3) pe_int))))))
      (pss_cons (ps_set (i := 6) sc__law_number_right.nd rfl (Or.inl rfl) (pe_callTy callk_list (by rfl) B.list_ boot_list (pa_cons (pv 2) pa_nil)))
      (pss_one (ps_ret (pe_and (pe_cmpR op_eq (pv 3) pe_int (nomark _)) (pe_and (pe_cmpR op_eq (pe_call c_bits_number.ok (hr.mono (by decide)) (by rfl) c_bits_number.g c_bits_number.kp c_bits_number.b .nil pass0 (pa_cons (pv 2) pa_nil)) (pv 0) (nomark _)) (pe_one (pe_cmpR (opk_eq hr.units) (pv 2) (pv 6) (nomark _)))))))))))), ?_⟩
    (try simp -dsimp only [↓Own.e_seq, ↓Own.e_cxK, ↓Own.e_wishK, ↓Own.e_noxK, ↓Own.e_asg, ↓Own.e_gName, ↓Own.e_var, Own.e_C, ↓Own.e_op, ↓Own.e_un, ↓Own.e_rI, ↓Own.e_rI0, ↓Own.e_rU, Own.e_CMul, Own.e_CDiv, Own.e_CPow, ↓Own.e_rEq, ↓Own.e_rNe, Own.e_scal_int, Own.e_scal_str, Own.e_scal_bl, ↓Own.e_ifS, ↓Own.e_test, ↓Own.e_tB, ↓Own.e_ret, ↓Own.e_retN, ↓Own.e_next, ↓Own.e_brk, ↓Own.e_cnt, ↓Own.e_cons, ↓Own.e_nil, ↓Own.e_lst, ↓Own.e_tup, ↓Own.e_drop, ↓Own.e_and, ↓Own.e_or, ↓Own.e_not, ↓Own.e_andV, ↓Own.e_orV, ↓Own.e_notV, ↓Own.e_if, ↓Own.e_chain, Own.e_CB, ↓Own.e_call, ↓Own.e_rIxL, ↓Own.e_rIxT, ↓Own.e_rIxK, ↓Own.e_rIxKT, ↓Own.e_rSlK, ↓Own.e_rLenK, ↓Own.e_rListK, ↓Own.e_rTupleK, ↓Own.e_rSumK, ↓Own.e_rDivK, ↓Own.e_rNeK, ↓Own.e_rEqK, ↓Own.e_rNeKT, ↓Own.e_rEqKT, ↓Own.e_rIsiK, ↓Own.e_rSlS, ↓Own.e_rIxS, Own.tyK_int, Own.tyK_bl, Own.tyK_str, Own.tyK_non, Own.tyK_ref, Own.tyO_lst, Own.tyO_tup, Own.kit1, Own.kit2, Own.kit3, Own.kit4, Own.kit5, Own.kit6, Own.kit7, Own.kit8, Own.kit9, Own.hlst_inj, Own.htup_inj, Own.vty_inj, Own.ivs_inj, Own.bz_inj, Own.ivs_len, Own.bz_len, Own.ivs_app, Own.ivs_set, Own.ivs_bset, Own.bz_app, Own.ivs_snoc, Own.bz_snoc, Own.atI_ints, Own.atI_bz, Own.isLst_some, Own.ty_lst, L2.upd_same, L2.upd_upd, Own.b2_xor, Own.b2_mod2, Own.b2_mod3, Own.b2_mod4, Own.b2_flip, Option.map_some, Option.isSome_some, ne_eq, eq_self, not_false_eq_true, not_true_eq_false, String.reduceEq, ↓Own.e_BM, ↓Own.e_BM0, ↓Own.e_rAppend, ↓Own.e_rCat, ↓Own.e_rRep, ↓Own.e_sl, ↓Own.e_noPart, ↓Own.e_part, ↓Own.e_rSlL, ↓Own.e_gSub, ↓Own.e_rSetL, ↓Own.e_bits, ↓Own.e_yes, ↓Own.e_gTup, ↓Own.e_gNil, ↓Own.e_gCons, ↓Own.e_aug, ↓Own.e_ipI, ↓Own.e_for, ↓Own.e_lc, ↓Own.e_iList, ↓Own.e_iTup, ↓Own.e_iRng1, ↓Own.e_iRng2, ↓Own.e_iRng3, ↓Own.e_iAny, ↓Own.e_rListA, ↓Own.e_rLenA, ↓Own.e_rIsiX, ↓Own.e_rIsB, ↓Own.e_revL, ↓Own.e_rNotB, ↓Own.e_iEnum, ↓Own.e_iZip, L2.start, L2.wipe, List.map_cons, List.map_nil, List.replicate_succ, List.replicate_zero, List.length_cons, List.length_nil, Nat.reduceAdd, Nat.reduceSub, Nat.zero_add, List.getElem?_cons_zero, List.getElem?_cons_succ, List.set_cons_zero, List.set_cons_succ, Option.some.injEq, L2.V.int.injEq, L2.V.bl.injEq, L2.V.str.injEq, L2.V.ref.injEq, List.cons.injEq, List.cons_append, List.nil_append, List.append_nil, exists_eq_left', exists_eq_left, exists_and_left, exists_and_right, exists_eq, and_true, true_and, reduceCtorEq, false_and, and_false, exists_false, or_false, false_or, true_or, or_true, decide_eq_true_eq, Bool.not_true, Bool.not_false, Bool.not_eq_true', Bool.not_eq_false', decide_eq_false_iff_not, ite_not, if_true, if_false, ite_true, ite_false, Bool.false_eq_true, if_pos trivial, decide_true, decide_false, PySem.sizeLine_eq, eq_self, Int.reduceNeg, Int.reducePow, Int.reduceLT, Int.reduceLE, Int.reduceToNat, Nat.reduceLeDiff, Int.reduceSub, Int.reduceAdd, Int.reduceMul, Int.reduceDiv, Int.reduceMod, Int.reduceEq, Nat.reduceMul, Nat.reduceEqDiff, ↓reduceIte, ↓Own.e_raiseO, ↓Own.e_callS, ↓Own.e_what, Own.hxd_inj])
    have ok : 0 ≤ ((m : Nat) : Int) ∧ ((m : Nat) : Int) < 2 ^ (k : Int).toNat ∧ 0 ≤ (k : Int) := ⟨by omega, by rw [Int.toNat_natCast, ← PySem.W.kbt_cast]; exact Int.ofNat_lt.mpr lt, by omega⟩
    refine call_to ⟨_, _, rfl, by omega, fun h => absurd ok h, fun m' k' em ek _ H1 p1 sm1 np1 hp1 => ?_⟩
    have em' : m = m' := Int.ofNat.inj em
    have ek' : k = k' := Int.ofNat.inj ek
    subst em' ek'
    (try simp -dsimp only [↓Own.e_seq, ↓Own.e_cxK, ↓Own.e_wishK, ↓Own.e_noxK, ↓Own.e_asg, ↓Own.e_gName, ↓Own.e_var, Own.e_C, ↓Own.e_op, ↓Own.e_un, ↓Own.e_rI, ↓Own.e_rI0, ↓Own.e_rU, Own.e_CMul, Own.e_CDiv, Own.e_CPow, ↓Own.e_rEq, ↓Own.e_rNe, Own.e_scal_int, Own.e_scal_str, Own.e_scal_bl, ↓Own.e_ifS, ↓Own.e_test, ↓Own.e_tB, ↓Own.e_ret, ↓Own.e_retN, ↓Own.e_next, ↓Own.e_brk, ↓Own.e_cnt, ↓Own.e_cons, ↓Own.e_nil, ↓Own.e_lst, ↓Own.e_tup, ↓Own.e_drop, ↓Own.e_and, ↓Own.e_or, ↓Own.e_not, ↓Own.e_andV, ↓Own.e_orV, ↓Own.e_notV, ↓Own.e_if, ↓Own.e_chain, Own.e_CB, ↓Own.e_call, ↓Own.e_rIxL, ↓Own.e_rIxT, ↓Own.e_rIxK, ↓Own.e_rIxKT, ↓Own.e_rSlK, ↓Own.e_rLenK, ↓Own.e_rListK, ↓Own.e_rTupleK, ↓Own.e_rSumK, ↓Own.e_rDivK, ↓Own.e_rNeK, ↓Own.e_rEqK, ↓Own.e_rNeKT, ↓Own.e_rEqKT, ↓Own.e_rIsiK, ↓Own.e_rSlS, ↓Own.e_rIxS, Own.tyK_int, Own.tyK_bl, Own.tyK_str, Own.tyK_non, Own.tyK_ref, Own.tyO_lst, Own.tyO_tup, Own.kit1, Own.kit2, Own.kit3, Own.kit4, Own.kit5, Own.kit6, Own.kit7, Own.kit8, Own.kit9, Own.hlst_inj, Own.htup_inj, Own.vty_inj, Own.ivs_inj, Own.bz_inj, Own.ivs_len, Own.bz_len, Own.ivs_app, Own.ivs_set, Own.ivs_bset, Own.bz_app, Own.ivs_snoc, Own.bz_snoc, Own.atI_ints, Own.atI_bz, Own.isLst_some, Own.ty_lst, L2.upd_same, L2.upd_upd, Own.b2_xor, Own.b2_mod2, Own.b2_mod3, Own.b2_mod4, Own.b2_flip, Option.map_some, Option.isSome_some, ne_eq, eq_self, not_false_eq_true, not_true_eq_false, String.reduceEq, ↓Own.e_BM, ↓Own.e_BM0, ↓Own.e_rAppend, ↓Own.e_rCat, ↓Own.e_rRep, ↓Own.e_sl, ↓Own.e_noPart, ↓Own.e_part, ↓Own.e_rSlL, ↓Own.e_gSub, ↓Own.e_rSetL, ↓Own.e_bits, ↓Own.e_yes, ↓Own.e_gTup, ↓Own.e_gNil, ↓Own.e_gCons, ↓Own.e_aug, ↓Own.e_ipI, ↓Own.e_for, ↓Own.e_lc, ↓Own.e_iList, ↓Own.e_iTup, ↓Own.e_iRng1, ↓Own.e_iRng2, ↓Own.e_iRng3, ↓Own.e_iAny, ↓Own.e_rListA, ↓Own.e_rLenA, ↓Own.e_rIsiX, ↓Own.e_rIsB, ↓Own.e_revL, ↓Own.e_rNotB, ↓Own.e_iEnum, ↓Own.e_iZip, L2.start, L2.wipe, List.map_cons, List.map_nil, List.replicate_succ, List.replicate_zero, List.length_cons, List.length_nil, Nat.reduceAdd, Nat.reduceSub, Nat.zero_add, List.getElem?_cons_zero, List.getElem?_cons_succ, List.set_cons_zero, List.set_cons_succ, Option.some.injEq, L2.V.int.injEq, L2.V.bl.injEq, L2.V.str.injEq, L2.V.ref.injEq, List.cons.injEq, List.cons_append, List.nil_append, List.append_nil, exists_eq_left', exists_eq_left, exists_and_left, exists_and_right, exists_eq, and_true, true_and, reduceCtorEq, false_and, and_false, exists_false, or_false, false_or, true_or, or_true, decide_eq_true_eq, Bool.not_true, Bool.not_false, Bool.not_eq_true', Bool.not_eq_false', decide_eq_false_iff_not, ite_not, if_true, if_false, ite_true, ite_false, Bool.false_eq_true, if_pos trivial, decide_true, decide_false, PySem.sizeLine_eq, eq_self, Int.reduceNeg, Int.reducePow, Int.reduceLT, Int.reduceLE, Int.reduceToNat, Nat.reduceLeDiff, Int.reduceSub, Int.reduceAdd, Int.reduceMul, Int.reduceDiv, Int.reduceMod, Int.reduceEq, Nat.reduceMul, Nat.reduceEqDiff, ↓reduceIte, ↓Own.e_raiseO, ↓Own.e_callS, ↓Own.e_what, Own.hxd_inj, hp1, nb_len])
    refine ⟨by omega, by omega, ?_⟩
    rw [Int.toNat_natCast]
    refine loop_it walk_range (fun i σ H' => ∃ y4 y5 y6 : Option V, σ = [some (.int m), some (.int k), some (.ref p1), some (.int ((m / 2 ^ i : Nat) : Int)), y4, y5, y6] ∧ H' = H1) ⟨none, none, none, by rw [Nat.pow_zero, Nat.div_one], rfl⟩ (fun _ _ _ _ _ => trivial) ?_ ?_
    · rintro i x σ H' H'' hi ⟨y4, y5, y6, rfl, rfl⟩ ⟨rfl, rfl⟩
      have ax : atI (nb m k) ((k : Int) - 1 - (0 + (i : Int))) = some (decide (m / 2 ^ i % 2 = 1)) := by rw [atI_at (by omega), show ((k : Int) - 1 - (0 + (i : Int))).toNat = k - 1 - i by omega]; exact nb_top hi
      have eb : ((m / 2 ^ i : Nat) : Int) % 2 = b2 (decide (m / 2 ^ i % 2 = 1)) := by
        rw [b2_odd]
        congr 1
        rw [decide_eq_decide]
        omega
      have eh : ((m / 2 ^ i : Nat) : Int) / 2 = ((m / 2 ^ (i + 1) : Nat) : Int) := by rw [Nat.pow_succ, ← Nat.div_div_eq_div_mul]; omega
      (try simp -dsimp only [↓Own.e_seq, ↓Own.e_cxK, ↓Own.e_wishK, ↓Own.e_noxK, ↓Own.e_asg, ↓Own.e_gName, ↓Own.e_var, Own.e_C, ↓Own.e_op, ↓Own.e_un, ↓Own.e_rI, ↓Own.e_rI0, ↓Own.e_rU, Own.e_CMul, Own.e_CDiv, Own.e_CPow, ↓Own.e_rEq, ↓Own.e_rNe, Own.e_scal_int, Own.e_scal_str, Own.e_scal_bl, ↓Own.e_ifS, ↓Own.e_test, ↓Own.e_tB, ↓Own.e_ret, ↓Own.e_retN, ↓Own.e_next, ↓Own.e_brk, ↓Own.e_cnt, ↓Own.e_cons, ↓Own.e_nil, ↓Own.e_lst, ↓Own.e_tup, ↓Own.e_drop, ↓Own.e_and, ↓Own.e_or, ↓Own.e_not, ↓Own.e_andV, ↓Own.e_orV, ↓Own.e_notV, ↓Own.e_if, ↓Own.e_chain, Own.e_CB, ↓Own.e_call, ↓Own.e_rIxL, ↓Own.e_rIxT, ↓Own.e_rIxK, ↓Own.e_rIxKT, ↓Own.e_rSlK, ↓Own.e_rLenK, ↓Own.e_rListK, ↓Own.e_rTupleK, ↓Own.e_rSumK, ↓Own.e_rDivK, ↓Own.e_rNeK, ↓Own.e_rEqK, ↓Own.e_rNeKT, ↓Own.e_rEqKT, ↓Own.e_rIsiK, ↓Own.e_rSlS, ↓Own.e_rIxS, Own.tyK_int, Own.tyK_bl, Own.tyK_str, Own.tyK_non, Own.tyK_ref, Own.tyO_lst, Own.tyO_tup, Own.kit1, Own.kit2, Own.kit3, Own.kit4, Own.kit5, Own.kit6, Own.kit7, Own.kit8, Own.kit9, Own.hlst_inj, Own.htup_inj, Own.vty_inj, Own.ivs_inj, Own.bz_inj, Own.ivs_len, Own.bz_len, Own.ivs_app, Own.ivs_set, Own.ivs_bset, Own.bz_app, Own.ivs_snoc, Own.bz_snoc, Own.atI_ints, Own.atI_bz, Own.isLst_some, Own.ty_lst, L2.upd_same, L2.upd_upd, Own.b2_xor, Own.b2_mod2, Own.b2_mod3, Own.b2_mod4, Own.b2_flip, Option.map_some, Option.isSome_some, ne_eq, eq_self, not_false_eq_true, not_true_eq_false, String.reduceEq, ↓Own.e_BM, ↓Own.e_BM0, ↓Own.e_rAppend, ↓Own.e_rCat, ↓Own.e_rRep, ↓Own.e_sl, ↓Own.e_noPart, ↓Own.e_part, ↓Own.e_rSlL, ↓Own.e_gSub, ↓Own.e_rSetL, ↓Own.e_bits, ↓Own.e_yes, ↓Own.e_gTup, ↓Own.e_gNil, ↓Own.e_gCons, ↓Own.e_aug, ↓Own.e_ipI, ↓Own.e_for, ↓Own.e_lc, ↓Own.e_iList, ↓Own.e_iTup, ↓Own.e_iRng1, ↓Own.e_iRng2, ↓Own.e_iRng3, ↓Own.e_iAny, ↓Own.e_rListA, ↓Own.e_rLenA, ↓Own.e_rIsiX, ↓Own.e_rIsB, ↓Own.e_revL, ↓Own.e_rNotB, ↓Own.e_iEnum, ↓Own.e_iZip, L2.start, L2.wipe, List.map_cons, List.map_nil, List.replicate_succ, List.replicate_zero, List.length_cons, List.length_nil, Nat.reduceAdd, Nat.reduceSub, Nat.zero_add, List.getElem?_cons_zero, List.getElem?_cons_succ, List.set_cons_zero, List.set_cons_succ, Option.some.injEq, L2.V.int.injEq, L2.V.bl.injEq, L2.V.str.injEq, L2.V.ref.injEq, List.cons.injEq, List.cons_append, List.nil_append, List.append_nil, exists_eq_left', exists_eq_left, exists_and_left, exists_and_right, exists_eq, and_true, true_and, reduceCtorEq, false_and, and_false, exists_false, or_false, false_or, true_or, or_true, decide_eq_true_eq, Bool.not_true, Bool.not_false, Bool.not_eq_true', Bool.not_eq_false', decide_eq_false_iff_not, ite_not, if_true, if_false, ite_true, ite_false, Bool.false_eq_true, if_pos trivial, decide_true, decide_false, PySem.sizeLine_eq, eq_self, Int.reduceNeg, Int.reducePow, Int.reduceLT, Int.reduceLE, Int.reduceToNat, Nat.reduceLeDiff, Int.reduceSub, Int.reduceAdd, Int.reduceMul, Int.reduceDiv, Int.reduceMod, Int.reduceEq, Nat.reduceMul, Nat.reduceEqDiff, ↓reduceIte, ↓Own.e_raiseO, ↓Own.e_callS, ↓Own.e_what, Own.hxd_inj, hp1, ax, eb])
      refine at_is ?_
      exact ⟨some (.int (0 + (i : Int))), some (.int (b2 (decide (m / 2 ^ i % 2 = 1)))), y6, by rw [← eh], rfl⟩
    · rintro σ H' ⟨y4, y5, y6, rfl, rfl⟩
      rw [Nat.div_eq_of_lt lt]
      (try simp -dsimp only [↓Own.e_seq, ↓Own.e_cxK, ↓Own.e_wishK, ↓Own.e_noxK, ↓Own.e_asg, ↓Own.e_gName, ↓Own.e_var, Own.e_C, ↓Own.e_op, ↓Own.e_un, ↓Own.e_rI, ↓Own.e_rI0, ↓Own.e_rU, Own.e_CMul, Own.e_CDiv, Own.e_CPow, ↓Own.e_rEq, ↓Own.e_rNe, Own.e_scal_int, Own.e_scal_str, Own.e_scal_bl, ↓Own.e_ifS, ↓Own.e_test, ↓Own.e_tB, ↓Own.e_ret, ↓Own.e_retN, ↓Own.e_next, ↓Own.e_brk, ↓Own.e_cnt, ↓Own.e_cons, ↓Own.e_nil, ↓Own.e_lst, ↓Own.e_tup, ↓Own.e_drop, ↓Own.e_and, ↓Own.e_or, ↓Own.e_not, ↓Own.e_andV, ↓Own.e_orV, ↓Own.e_notV, ↓Own.e_if, ↓Own.e_chain, Own.e_CB, ↓Own.e_call, ↓Own.e_rIxL, ↓Own.e_rIxT, ↓Own.e_rIxK, ↓Own.e_rIxKT, ↓Own.e_rSlK, ↓Own.e_rLenK, ↓Own.e_rListK, ↓Own.e_rTupleK, ↓Own.e_rSumK, ↓Own.e_rDivK, ↓Own.e_rNeK, ↓Own.e_rEqK, ↓Own.e_rNeKT, ↓Own.e_rEqKT, ↓Own.e_rIsiK, ↓Own.e_rSlS, ↓Own.e_rIxS, Own.tyK_int, Own.tyK_bl, Own.tyK_str, Own.tyK_non, Own.tyK_ref, Own.tyO_lst, Own.tyO_tup, Own.kit1, Own.kit2, Own.kit3, Own.kit4, Own.kit5, Own.kit6, Own.kit7, Own.kit8, Own.kit9, Own.hlst_inj, Own.htup_inj, Own.vty_inj, Own.ivs_inj, Own.bz_inj, Own.ivs_len, Own.bz_len, Own.ivs_app, Own.ivs_set, Own.ivs_bset, Own.bz_app, Own.ivs_snoc, Own.bz_snoc, Own.atI_ints, Own.atI_bz, Own.isLst_some, Own.ty_lst, L2.upd_same, L2.upd_upd, Own.b2_xor, Own.b2_mod2, Own.b2_mod3, Own.b2_mod4, Own.b2_flip, Option.map_some, Option.isSome_some, ne_eq, eq_self, not_false_eq_true, not_true_eq_false, String.reduceEq, ↓Own.e_BM, ↓Own.e_BM0, ↓Own.e_rAppend, ↓Own.e_rCat, ↓Own.e_rRep, ↓Own.e_sl, ↓Own.e_noPart, ↓Own.e_part, ↓Own.e_rSlL, ↓Own.e_gSub, ↓Own.e_rSetL, ↓Own.e_bits, ↓Own.e_yes, ↓Own.e_gTup, ↓Own.e_gNil, ↓Own.e_gCons, ↓Own.e_aug, ↓Own.e_ipI, ↓Own.e_for, ↓Own.e_lc, ↓Own.e_iList, ↓Own.e_iTup, ↓Own.e_iRng1, ↓Own.e_iRng2, ↓Own.e_iRng3, ↓Own.e_iAny, ↓Own.e_rListA, ↓Own.e_rLenA, ↓Own.e_rIsiX, ↓Own.e_rIsB, ↓Own.e_revL, ↓Own.e_rNotB, ↓Own.e_iEnum, ↓Own.e_iZip, L2.start, L2.wipe, List.map_cons, List.map_nil, List.replicate_succ, List.replicate_zero, List.length_cons, List.length_nil, Nat.reduceAdd, Nat.reduceSub, Nat.zero_add, List.getElem?_cons_zero, List.getElem?_cons_succ, List.set_cons_zero, List.set_cons_succ, Option.some.injEq, L2.V.int.injEq, L2.V.bl.injEq, L2.V.str.injEq, L2.V.ref.injEq, List.cons.injEq, List.cons_append, List.nil_append, List.append_nil, exists_eq_left', exists_eq_left, exists_and_left, exists_and_right, exists_eq, and_true, true_and, reduceCtorEq, false_and, and_false, exists_false, or_false, false_or, true_or, or_true, decide_eq_true_eq, Bool.not_true, Bool.not_false, Bool.not_eq_true', Bool.not_eq_false', decide_eq_false_iff_not, ite_not, if_true, if_false, ite_true, ite_false, Bool.false_eq_true, if_pos trivial, decide_true, decide_false, PySem.sizeLine_eq, eq_self, Int.reduceNeg, Int.reducePow, Int.reduceLT, Int.reduceLE, Int.reduceToNat, Nat.reduceLeDiff, Int.reduceSub, Int.reduceAdd, Int.reduceMul, Int.reduceDiv, Int.reduceMod, Int.reduceEq, Nat.reduceMul, Nat.reduceEqDiff, ↓reduceIte, ↓Own.e_raiseO, ↓Own.e_callS, ↓Own.e_what, Own.hxd_inj, hp1])
      refine new_of fun p2 H2 np2 sm2 hp2 => ?_
      (try simp -dsimp only [↓Own.e_seq, ↓Own.e_cxK, ↓Own.e_wishK, ↓Own.e_noxK, ↓Own.e_asg, ↓Own.e_gName, ↓Own.e_var, Own.e_C, ↓Own.e_op, ↓Own.e_un, ↓Own.e_rI, ↓Own.e_rI0, ↓Own.e_rU, Own.e_CMul, Own.e_CDiv, Own.e_CPow, ↓Own.e_rEq, ↓Own.e_rNe, Own.e_scal_int, Own.e_scal_str, Own.e_scal_bl, ↓Own.e_ifS, ↓Own.e_test, ↓Own.e_tB, ↓Own.e_ret, ↓Own.e_retN, ↓Own.e_next, ↓Own.e_brk, ↓Own.e_cnt, ↓Own.e_cons, ↓Own.e_nil, ↓Own.e_lst, ↓Own.e_tup, ↓Own.e_drop, ↓Own.e_and, ↓Own.e_or, ↓Own.e_not, ↓Own.e_andV, ↓Own.e_orV, ↓Own.e_notV, ↓Own.e_if, ↓Own.e_chain, Own.e_CB, ↓Own.e_call, ↓Own.e_rIxL, ↓Own.e_rIxT, ↓Own.e_rIxK, ↓Own.e_rIxKT, ↓Own.e_rSlK, ↓Own.e_rLenK, ↓Own.e_rListK, ↓Own.e_rTupleK, ↓Own.e_rSumK, ↓Own.e_rDivK, ↓Own.e_rNeK, ↓Own.e_rEqK, ↓Own.e_rNeKT, ↓Own.e_rEqKT, ↓Own.e_rIsiK, ↓Own.e_rSlS, ↓Own.e_rIxS, Own.tyK_int, Own.tyK_bl, Own.tyK_str, Own.tyK_non, Own.tyK_ref, Own.tyO_lst, Own.tyO_tup, Own.kit1, Own.kit2, Own.kit3, Own.kit4, Own.kit5, Own.kit6, Own.kit7, Own.kit8, Own.kit9, Own.hlst_inj, Own.htup_inj, Own.vty_inj, Own.ivs_inj, Own.bz_inj, Own.ivs_len, Own.bz_len, Own.ivs_app, Own.ivs_set, Own.ivs_bset, Own.bz_app, Own.ivs_snoc, Own.bz_snoc, Own.atI_ints, Own.atI_bz, Own.isLst_some, Own.ty_lst, L2.upd_same, L2.upd_upd, Own.b2_xor, Own.b2_mod2, Own.b2_mod3, Own.b2_mod4, Own.b2_flip, Option.map_some, Option.isSome_some, ne_eq, eq_self, not_false_eq_true, not_true_eq_false, String.reduceEq, ↓Own.e_BM, ↓Own.e_BM0, ↓Own.e_rAppend, ↓Own.e_rCat, ↓Own.e_rRep, ↓Own.e_sl, ↓Own.e_noPart, ↓Own.e_part, ↓Own.e_rSlL, ↓Own.e_gSub, ↓Own.e_rSetL, ↓Own.e_bits, ↓Own.e_yes, ↓Own.e_gTup, ↓Own.e_gNil, ↓Own.e_gCons, ↓Own.e_aug, ↓Own.e_ipI, ↓Own.e_for, ↓Own.e_lc, ↓Own.e_iList, ↓Own.e_iTup, ↓Own.e_iRng1, ↓Own.e_iRng2, ↓Own.e_iRng3, ↓Own.e_iAny, ↓Own.e_rListA, ↓Own.e_rLenA, ↓Own.e_rIsiX, ↓Own.e_rIsB, ↓Own.e_revL, ↓Own.e_rNotB, ↓Own.e_iEnum, ↓Own.e_iZip, L2.start, L2.wipe, List.map_cons, List.map_nil, List.replicate_succ, List.replicate_zero, List.length_cons, List.length_nil, Nat.reduceAdd, Nat.reduceSub, Nat.zero_add, List.getElem?_cons_zero, List.getElem?_cons_succ, List.set_cons_zero, List.set_cons_succ, Option.some.injEq, L2.V.int.injEq, L2.V.bl.injEq, L2.V.str.injEq, L2.V.ref.injEq, List.cons.injEq, List.cons_append, List.nil_append, List.append_nil, exists_eq_left', exists_eq_left, exists_and_left, exists_and_right, exists_eq, and_true, true_and, reduceCtorEq, false_and, and_false, exists_false, or_false, false_or, true_or, or_true, decide_eq_true_eq, Bool.not_true, Bool.not_false, Bool.not_eq_true', Bool.not_eq_false', decide_eq_false_iff_not, ite_not, if_true, if_false, ite_true, ite_false, Bool.false_eq_true, if_pos trivial, decide_true, decide_false, PySem.sizeLine_eq, eq_self, Int.reduceNeg, Int.reducePow, Int.reduceLT, Int.reduceLE, Int.reduceToNat, Nat.reduceLeDiff, Int.reduceSub, Int.reduceAdd, Int.reduceMul, Int.reduceDiv, Int.reduceMod, Int.reduceEq, Nat.reduceMul, Nat.reduceEqDiff, ↓reduceIte, ↓Own.e_raiseO, ↓Own.e_callS, ↓Own.e_what, Own.hxd_inj])
      refine ite2 (fun _ => ?_) (fun h => absurd rfl h)
      refine call_to ⟨_, _, rfl, .inl (.of (sm2 _ _ hp1)), ?_⟩
      have h1 := sm2 _ _ hp1
      (try simp -dsimp only [↓Own.e_seq, ↓Own.e_cxK, ↓Own.e_wishK, ↓Own.e_noxK, ↓Own.e_asg, ↓Own.e_gName, ↓Own.e_var, Own.e_C, ↓Own.e_op, ↓Own.e_un, ↓Own.e_rI, ↓Own.e_rI0, ↓Own.e_rU, Own.e_CMul, Own.e_CDiv, Own.e_CPow, ↓Own.e_rEq, ↓Own.e_rNe, Own.e_scal_int, Own.e_scal_str, Own.e_scal_bl, ↓Own.e_ifS, ↓Own.e_test, ↓Own.e_tB, ↓Own.e_ret, ↓Own.e_retN, ↓Own.e_next, ↓Own.e_brk, ↓Own.e_cnt, ↓Own.e_cons, ↓Own.e_nil, ↓Own.e_lst, ↓Own.e_tup, ↓Own.e_drop, ↓Own.e_and, ↓Own.e_or, ↓Own.e_not, ↓Own.e_andV, ↓Own.e_orV, ↓Own.e_notV, ↓Own.e_if, ↓Own.e_chain, Own.e_CB, ↓Own.e_call, ↓Own.e_rIxL, ↓Own.e_rIxT, ↓Own.e_rIxK, ↓Own.e_rIxKT, ↓Own.e_rSlK, ↓Own.e_rLenK, ↓Own.e_rListK, ↓Own.e_rTupleK, ↓Own.e_rSumK, ↓Own.e_rDivK, ↓Own.e_rNeK, ↓Own.e_rEqK, ↓Own.e_rNeKT, ↓Own.e_rEqKT, ↓Own.e_rIsiK, ↓Own.e_rSlS, ↓Own.e_rIxS, Own.tyK_int, Own.tyK_bl, Own.tyK_str, Own.tyK_non, Own.tyK_ref, Own.tyO_lst, Own.tyO_tup, Own.kit1, Own.kit2, Own.kit3, Own.kit4, Own.kit5, Own.kit6, Own.kit7, Own.kit8, Own.kit9, Own.hlst_inj, Own.htup_inj, Own.vty_inj, Own.ivs_inj, Own.bz_inj, Own.ivs_len, Own.bz_len, Own.ivs_app, Own.ivs_set, Own.ivs_bset, Own.bz_app, Own.ivs_snoc, Own.bz_snoc, Own.atI_ints, Own.atI_bz, Own.isLst_some, Own.ty_lst, L2.upd_same, L2.upd_upd, Own.b2_xor, Own.b2_mod2, Own.b2_mod3, Own.b2_mod4, Own.b2_flip, Option.map_some, Option.isSome_some, ne_eq, eq_self, not_false_eq_true, not_true_eq_false, String.reduceEq, ↓Own.e_BM, ↓Own.e_BM0, ↓Own.e_rAppend, ↓Own.e_rCat, ↓Own.e_rRep, ↓Own.e_sl, ↓Own.e_noPart, ↓Own.e_part, ↓Own.e_rSlL, ↓Own.e_gSub, ↓Own.e_rSetL, ↓Own.e_bits, ↓Own.e_yes, ↓Own.e_gTup, ↓Own.e_gNil, ↓Own.e_gCons, ↓Own.e_aug, ↓Own.e_ipI, ↓Own.e_for, ↓Own.e_lc, ↓Own.e_iList, ↓Own.e_iTup, ↓Own.e_iRng1, ↓Own.e_iRng2, ↓Own.e_iRng3, ↓Own.e_iAny, ↓Own.e_rListA, ↓Own.e_rLenA, ↓Own.e_rIsiX, ↓Own.e_rIsB, ↓Own.e_revL, ↓Own.e_rNotB, ↓Own.e_iEnum, ↓Own.e_iZip, L2.start, L2.wipe, List.map_cons, List.map_nil, List.replicate_succ, List.replicate_zero, List.length_cons, List.length_nil, Nat.reduceAdd, Nat.reduceSub, Nat.zero_add, List.getElem?_cons_zero, List.getElem?_cons_succ, List.set_cons_zero, List.set_cons_succ, Option.some.injEq, L2.V.int.injEq, L2.V.bl.injEq, L2.V.str.injEq, L2.V.ref.injEq, List.cons.injEq, List.cons_append, List.nil_append, List.append_nil, exists_eq_left', exists_eq_left, exists_and_left, exists_and_right, exists_eq, and_true, true_and, reduceCtorEq, false_and, and_false, exists_false, or_false, false_or, true_or, or_true, decide_eq_true_eq, Bool.not_true, Bool.not_false, Bool.not_eq_true', Bool.not_eq_false', decide_eq_false_iff_not, ite_not, if_true, if_false, ite_true, ite_false, Bool.false_eq_true, if_pos trivial, decide_true, decide_false, PySem.sizeLine_eq, eq_self, Int.reduceNeg, Int.reducePow, Int.reduceLT, Int.reduceLE, Int.reduceToNat, Nat.reduceLeDiff, Int.reduceSub, Int.reduceAdd, Int.reduceMul, Int.reduceDiv, Int.reduceMod, Int.reduceEq, Nat.reduceMul, Nat.reduceEqDiff, ↓reduceIte, ↓Own.e_raiseO, ↓Own.e_callS, ↓Own.e_what, Own.hxd_inj, nu_nb k m lt, h1, hp2])
      exact q H2 (sm1.trans sm2)
theorem ob_num : ∀ n : Fin 256, ((nu (ob (n.val : Int)).reverse : Nat) : Int) = n.val := by decide +kernel
theorem ob_nu {n : Int} (h0 : 0 ≤ n) (h1 : n < 256) : ((nu (ob n).reverse : Nat) : Int) = n := by
  obtain ⟨m, rfl⟩ := Int.eq_ofNat_of_zero_le h0
  exact ob_num ⟨m, by omega⟩
theorem obs_cut : ∀ (l : List Int) (i : Nat) (n : Int), l[i]? = some n → ((obs l).take (8 * i + 8)).drop (8 * i) = ob n
  | [], _, _, h => by simp at h
  | a :: l, 0, n, h => by
    have e : a = n := Option.some.inj h
    subst e
    show ((ob a ++ obs l).take (8 * 0 + 8)).drop (8 * 0) = ob a
    rw [List.take_append_of_le_length (by rw [ob_len]; omega), List.take_of_length_le (by rw [ob_len]; omega)]
    rfl
  | a :: l, i + 1, n, h => by
    show ((ob a ++ obs l).take (8 * (i + 1) + 8)).drop (8 * (i + 1)) = ob n
    rw [List.take_append, List.take_of_length_le (by rw [ob_len]; omega), List.drop_append, List.drop_of_length_le (by rw [ob_len]; omega), ob_len, List.nil_append, show 8 * (i + 1) + 8 - 8 = 8 * i + 8 by omega, show 8 * (i + 1) - 8 = 8 * i by omega]
    exact obs_cut l i n h
theorem octs_obs {l : List Int} (h : ∀ n ∈ l, 0 ≤ n ∧ n < 256) : octs (obs l) l.length = l := by
  apply List.ext_getElem?
  intro i
  by_cases hi : i < l.length
  · have g : l[i]? = some l[i] := List.getElem?_eq_getElem hi
    have hm := h _ (List.getElem_mem hi)
    rw [octs_get hi, g]
    unfold oct
    rw [obs_cut l i _ g, ob_nu hm.1 hm.2]
  · rw [List.getElem?_eq_none (by rw [octs_len]; omega), List.getElem?_eq_none (by omega)]

def sp__law_octets_right (K : PySem.W.Frag) (C : Addr) : Sp := fun vs H Q _ => ∃ (a : Addr) (l : List Int), vs = [.ref a] ∧ H a = some (.tup (ivs l)) ∧ l.length ≤ 1000 ∧ (∀ n ∈ l, 0 ≤ n ∧ n < 256) ∧ ∀ H', Same H H' → Q (.bl true) H'

theorem ok__law_octets_right {f : Addr} {fd : FuncData} {f_octet_bits : Addr} {fd_octet_bits : FuncData} {f_bits_octets : Addr} {fd_bits_octets : FuncData} (F : Fun K "_law_octets_right" "_law_octets_right" s__law_octets_right f fd) (B : BI mg) (c_octet_bits : Cal P w K mg base CX0 1 "octet_bits" f_octet_bits fd_octet_bits ["octets"] (sp_octet_bits K)) (c_bits_octets : Cal P w K mg base (L2.CX P w) 2 "bits_octets" f_bits_octets fd_bits_octets ["bits"] (sp_bits_octets K C_BadBits)) : FnOk P w K mg base CX0 3 f fd ["octets"] (sp__law_octets_right K C_BadBits) := by
  refine F.ok sc__law_octets_right (fun vs H Q E h => ?_) (fun cdv A outer s H vs Q E hr h => ?_)
  · obtain ⟨a, l, rfl, ha, hl, hrange, q⟩ := h
    rfl
  · obtain ⟨a, l, rfl, ha, hl, hrange, q⟩ := h
    refine ⟨_, (pss_cons (ps_set (i := 1) sc__law_octets_right.nd rfl (Or.inl rfl) (pe_call c_octet_bits.ok (hr.mono (by decide)) (by rfl) c_octet_bits.g c_octet_bits.kp c_octet_bits.b .nil pass0 (pa_cons (pv 0) pa_nil)))
      (pss_cons (ps_if (PW.pt (pw_or (pt_not (pt_val (pe_callB callk_isi (by rfl) B.isinstance_ (by decide +kernel) (pa_cons (pv 1) (pa_cons (pe_bltn (v := .ty "list") (by rfl) B.list_ boot_list rfl) pa_nil))))) (pw_or1 (pt_cmpR op_ne (pe_callB callk_len (by rfl) B.len_ (by decide +kernel) (pa_cons (pv 1) pa_nil)) (pe_op op_mul pe_int (pe_callB call_len_seq (by rfl) B.len_ (by decide +kernel) (pa_cons (pv 0) pa_nil))) (nomark _))))) (pss_one (ps_ret pe_bl)) pss_nil)
      (pss_cons (ps_for PassesOwn.never rfl (pi_range1 (by rfl) B.range_ (pa_cons (pe_callB call_len_seq (by rfl) B.len_ (by decide +kernel) (pa_cons (pv 0) pa_nil)) pa_nil)) (pg_name (i := 2) sc__law_octets_right.nd rfl (Or.inl rfl))
      (pss_cons (ps_set (i := 3) sc__law_octets_right.nd rfl (Or.inl rfl) (pe_ix ixk_tup (pv 0) (pv 2) (fun _ _ => rfl)))
      (pss_one (ps_for PassesOwn.never rfl (pi_range1 (by rfl) B.range_ (pa_cons pe_int pa_nil)) (pg_name (i := 4) sc__law_octets_right.nd rfl (Or.inl rfl))
      (pss_cons (ps_if (PW.pt (pw_or (pt_val (pe_callB callk_isi (by rfl) B.isinstance_ (by decide +kernel) (pa_cons (pe_ix ixk_list (pv 1) (pe_op op_add (pe_op op_mul pe_int (pv 2)) (pv 4)) (fun _ _ => rfl)) (pa_cons (pe_bltn (v := .ty "bool") (by rfl) B.bool_ boot_bool rfl) pa_nil)))) (pw_or1 (pt_cmpR op_ne (pe_ix ixk_list (pv 1) (pe_op op_add (pe_op op_mul pe_int (pv 2)) (pv 4)) (fun _ _ => rfl)) (pe_op op_mod (pv 3) pe_int) (nomark _))))) (pss_one (ps_ret pe_bl)) pss_nil)
      (pss_one (ps_set (i := 3) sc__law_octets_right.nd rfl (Or.inl rfl) (pe_op op_fdiv (pv 3) pe_int))))))))
      (pss_cons (ps_set (i := 5) sc__law_octets_right.nd rfl (Or.inl rfl) (pe_callTy callk_list (by rfl) B.list_ boot_list (pa_cons (pv 1) pa_nil)))
      (pss_cons (ps_set (i := 6) sc__law_octets_right.nd rfl (Or.inl rfl) (pe_call c_bits_octets.ok (hr.mono (by decide)) (by rfl) c_bits_octets.g c_bits_octets.kp c_bits_octets.b .nil passL (pa_cons (pv 1) pa_nil)))
      (pss_one (ps_ret (pe_and (pe_callB callk_isi (by rfl) B.isinstance_ (by decide +kernel) (pa_cons (pv 6) (pa_cons (pe_bltn (v := .ty "tuple") (by rfl) B.tuple_ boot_tuple rfl) pa_nil))) (pe_and (pe_cmpR (opk_eqT hr.units) (pv 6) (pv 0) (nomark _)) (pe_one (pe_cmpR (opk_eq hr.units) (pv 1) (pv 5) (nomark _)))))))))))), ?_⟩
    (try simp -dsimp only [↓Own.e_seq, ↓Own.e_cxK, ↓Own.e_wishK, ↓Own.e_noxK, ↓Own.e_asg, ↓Own.e_gName, ↓Own.e_var, Own.e_C, ↓Own.e_op, ↓Own.e_un, ↓Own.e_rI, ↓Own.e_rI0, ↓Own.e_rU, Own.e_CMul, Own.e_CDiv, Own.e_CPow, ↓Own.e_rEq, ↓Own.e_rNe, Own.e_scal_int, Own.e_scal_str, Own.e_scal_bl, ↓Own.e_ifS, ↓Own.e_test, ↓Own.e_tB, ↓Own.e_ret, ↓Own.e_retN, ↓Own.e_next, ↓Own.e_brk, ↓Own.e_cnt, ↓Own.e_cons, ↓Own.e_nil, ↓Own.e_lst, ↓Own.e_tup, ↓Own.e_drop, ↓Own.e_and, ↓Own.e_or, ↓Own.e_not, ↓Own.e_andV, ↓Own.e_orV, ↓Own.e_notV, ↓Own.e_if, ↓Own.e_chain, Own.e_CB, ↓Own.e_call, ↓Own.e_rIxL, ↓Own.e_rIxT, ↓Own.e_rIxK, ↓Own.e_rIxKT, ↓Own.e_rSlK, ↓Own.e_rLenK, ↓Own.e_rListK, ↓Own.e_rTupleK, ↓Own.e_rSumK, ↓Own.e_rDivK, ↓Own.e_rNeK, ↓Own.e_rEqK, ↓Own.e_rNeKT, ↓Own.e_rEqKT, ↓Own.e_rIsiK, ↓Own.e_rSlS, ↓Own.e_rIxS, Own.tyK_int, Own.tyK_bl, Own.tyK_str, Own.tyK_non, Own.tyK_ref, Own.tyO_lst, Own.tyO_tup, Own.kit1, Own.kit2, Own.kit3, Own.kit4, Own.kit5, Own.kit6, Own.kit7, Own.kit8, Own.kit9, Own.hlst_inj, Own.htup_inj, Own.vty_inj, Own.ivs_inj, Own.bz_inj, Own.ivs_len, Own.bz_len, Own.ivs_app, Own.ivs_set, Own.ivs_bset, Own.bz_app, Own.ivs_snoc, Own.bz_snoc, Own.atI_ints, Own.atI_bz, Own.isLst_some, Own.ty_lst, L2.upd_same, L2.upd_upd, Own.b2_xor, Own.b2_mod2, Own.b2_mod3, Own.b2_mod4, Own.b2_flip, Option.map_some, Option.isSome_some, ne_eq, eq_self, not_false_eq_true, not_true_eq_false, String.reduceEq, ↓Own.e_BM, ↓Own.e_BM0, ↓Own.e_rAppend, ↓Own.e_rCat, ↓Own.e_rRep, ↓Own.e_sl, ↓Own.e_noPart, ↓Own.e_part, ↓Own.e_rSlL, ↓Own.e_gSub, ↓Own.e_rSetL, ↓Own.e_bits, ↓Own.e_yes, ↓Own.e_gTup, ↓Own.e_gNil, ↓Own.e_gCons, ↓Own.e_aug, ↓Own.e_ipI, ↓Own.e_for, ↓Own.e_lc, ↓Own.e_iList, ↓Own.e_iTup, ↓Own.e_iRng1, ↓Own.e_iRng2, ↓Own.e_iRng3, ↓Own.e_iAny, ↓Own.e_rListA, ↓Own.e_rLenA, ↓Own.e_rIsiX, ↓Own.e_rIsB, ↓Own.e_revL, ↓Own.e_rNotB, ↓Own.e_iEnum, ↓Own.e_iZip, L2.start, L2.wipe, List.map_cons, List.map_nil, List.replicate_succ, List.replicate_zero, List.length_cons, List.length_nil, Nat.reduceAdd, Nat.reduceSub, Nat.zero_add, List.getElem?_cons_zero, List.getElem?_cons_succ, List.set_cons_zero, List.set_cons_succ, Option.some.injEq, L2.V.int.injEq, L2.V.bl.injEq, L2.V.str.injEq, L2.V.ref.injEq, List.cons.injEq, List.cons_append, List.nil_append, List.append_nil, exists_eq_left', exists_eq_left, exists_and_left, exists_and_right, exists_eq, and_true, true_and, reduceCtorEq, false_and, and_false, exists_false, or_false, false_or, true_or, or_true, decide_eq_true_eq, Bool.not_true, Bool.not_false, Bool.not_eq_true', Bool.not_eq_false', decide_eq_false_iff_not, ite_not, if_true, if_false, ite_true, ite_false, Bool.false_eq_true, if_pos trivial, decide_true, decide_false, PySem.sizeLine_eq, eq_self, Int.reduceNeg, Int.reducePow, Int.reduceLT, Int.reduceLE, Int.reduceToNat, Nat.reduceLeDiff, Int.reduceSub, Int.reduceAdd, Int.reduceMul, Int.reduceDiv, Int.reduceMod, Int.reduceEq, Nat.reduceMul, Nat.reduceEqDiff, ↓reduceIte, ↓Own.e_raiseO, ↓Own.e_callS, ↓Own.e_what, Own.hxd_inj])
    refine call_to ⟨_, l, rfl, .of ha, by omega, fun H1 p1 sm1 np1 hp1 => ?_⟩
    have ol := obs_len l
    (try simp -dsimp only [↓Own.e_seq, ↓Own.e_cxK, ↓Own.e_wishK, ↓Own.e_noxK, ↓Own.e_asg, ↓Own.e_gName, ↓Own.e_var, Own.e_C, ↓Own.e_op, ↓Own.e_un, ↓Own.e_rI, ↓Own.e_rI0, ↓Own.e_rU, Own.e_CMul, Own.e_CDiv, Own.e_CPow, ↓Own.e_rEq, ↓Own.e_rNe, Own.e_scal_int, Own.e_scal_str, Own.e_scal_bl, ↓Own.e_ifS, ↓Own.e_test, ↓Own.e_tB, ↓Own.e_ret, ↓Own.e_retN, ↓Own.e_next, ↓Own.e_brk, ↓Own.e_cnt, ↓Own.e_cons, ↓Own.e_nil, ↓Own.e_lst, ↓Own.e_tup, ↓Own.e_drop, ↓Own.e_and, ↓Own.e_or, ↓Own.e_not, ↓Own.e_andV, ↓Own.e_orV, ↓Own.e_notV, ↓Own.e_if, ↓Own.e_chain, Own.e_CB, ↓Own.e_call, ↓Own.e_rIxL, ↓Own.e_rIxT, ↓Own.e_rIxK, ↓Own.e_rIxKT, ↓Own.e_rSlK, ↓Own.e_rLenK, ↓Own.e_rListK, ↓Own.e_rTupleK, ↓Own.e_rSumK, ↓Own.e_rDivK, ↓Own.e_rNeK, ↓Own.e_rEqK, ↓Own.e_rNeKT, ↓Own.e_rEqKT, ↓Own.e_rIsiK, ↓Own.e_rSlS, ↓Own.e_rIxS, Own.tyK_int, Own.tyK_bl, Own.tyK_str, Own.tyK_non, Own.tyK_ref, Own.tyO_lst, Own.tyO_tup, Own.kit1, Own.kit2, Own.kit3, Own.kit4, Own.kit5, Own.kit6, Own.kit7, Own.kit8, Own.kit9, Own.hlst_inj, Own.htup_inj, Own.vty_inj, Own.ivs_inj, Own.bz_inj, Own.ivs_len, Own.bz_len, Own.ivs_app, Own.ivs_set, Own.ivs_bset, Own.bz_app, Own.ivs_snoc, Own.bz_snoc, Own.atI_ints, Own.atI_bz, Own.isLst_some, Own.ty_lst, L2.upd_same, L2.upd_upd, Own.b2_xor, Own.b2_mod2, Own.b2_mod3, Own.b2_mod4, Own.b2_flip, Option.map_some, Option.isSome_some, ne_eq, eq_self, not_false_eq_true, not_true_eq_false, String.reduceEq, ↓Own.e_BM, ↓Own.e_BM0, ↓Own.e_rAppend, ↓Own.e_rCat, ↓Own.e_rRep, ↓Own.e_sl, ↓Own.e_noPart, ↓Own.e_part, ↓Own.e_rSlL, ↓Own.e_gSub, ↓Own.e_rSetL, ↓Own.e_bits, ↓Own.e_yes, ↓Own.e_gTup, ↓Own.e_gNil, ↓Own.e_gCons, ↓Own.e_aug, ↓Own.e_ipI, ↓Own.e_for, ↓Own.e_lc, ↓Own.e_iList, ↓Own.e_iTup, ↓Own.e_iRng1, ↓Own.e_iRng2, ↓Own.e_iRng3, ↓Own.e_iAny, ↓Own.e_rListA, ↓Own.e_rLenA, ↓Own.e_rIsiX, ↓Own.e_rIsB, ↓Own.e_revL, ↓Own.e_rNotB, ↓Own.e_iEnum, ↓Own.e_iZip, L2.start, L2.wipe, List.map_cons, List.map_nil, List.replicate_succ, List.replicate_zero, List.length_cons, List.length_nil, Nat.reduceAdd, Nat.reduceSub, Nat.zero_add, List.getElem?_cons_zero, List.getElem?_cons_succ, List.set_cons_zero, List.set_cons_succ, Option.some.injEq, L2.V.int.injEq, L2.V.bl.injEq, L2.V.str.injEq, L2.V.ref.injEq, List.cons.injEq, List.cons_append, List.nil_append, List.append_nil, exists_eq_left', exists_eq_left, exists_and_left, exists_and_right, exists_eq, and_true, true_and, reduceCtorEq, false_and, and_false, exists_false, or_false, false_or, true_or, or_true, decide_eq_true_eq, Bool.not_true, Bool.not_false, Bool.not_eq_true', Bool.not_eq_false', decide_eq_false_iff_not, ite_not, if_true, if_false, ite_true, ite_false, Bool.false_eq_true, if_pos trivial, decide_true, decide_false, PySem.sizeLine_eq, eq_self, Int.reduceNeg, Int.reducePow, Int.reduceLT, Int.reduceLE, Int.reduceToNat, Nat.reduceLeDiff, Int.reduceSub, Int.reduceAdd, Int.reduceMul, Int.reduceDiv, Int.reduceMod, Int.reduceEq, Nat.reduceMul, Nat.reduceEqDiff, ↓reduceIte, ↓Own.e_raiseO, ↓Own.e_callS, ↓Own.e_what, Own.hxd_inj, hp1, ol])
    have ha1 := sm1 _ _ ha
    refine ⟨_, .inr (.of ha1), ?_⟩
    (try simp -dsimp only [↓Own.e_seq, ↓Own.e_cxK, ↓Own.e_wishK, ↓Own.e_noxK, ↓Own.e_asg, ↓Own.e_gName, ↓Own.e_var, Own.e_C, ↓Own.e_op, ↓Own.e_un, ↓Own.e_rI, ↓Own.e_rI0, ↓Own.e_rU, Own.e_CMul, Own.e_CDiv, Own.e_CPow, ↓Own.e_rEq, ↓Own.e_rNe, Own.e_scal_int, Own.e_scal_str, Own.e_scal_bl, ↓Own.e_ifS, ↓Own.e_test, ↓Own.e_tB, ↓Own.e_ret, ↓Own.e_retN, ↓Own.e_next, ↓Own.e_brk, ↓Own.e_cnt, ↓Own.e_cons, ↓Own.e_nil, ↓Own.e_lst, ↓Own.e_tup, ↓Own.e_drop, ↓Own.e_and, ↓Own.e_or, ↓Own.e_not, ↓Own.e_andV, ↓Own.e_orV, ↓Own.e_notV, ↓Own.e_if, ↓Own.e_chain, Own.e_CB, ↓Own.e_call, ↓Own.e_rIxL, ↓Own.e_rIxT, ↓Own.e_rIxK, ↓Own.e_rIxKT, ↓Own.e_rSlK, ↓Own.e_rLenK, ↓Own.e_rListK, ↓Own.e_rTupleK, ↓Own.e_rSumK, ↓Own.e_rDivK, ↓Own.e_rNeK, ↓Own.e_rEqK, ↓Own.e_rNeKT, ↓Own.e_rEqKT, ↓Own.e_rIsiK, ↓Own.e_rSlS, ↓Own.e_rIxS, Own.tyK_int, Own.tyK_bl, Own.tyK_str, Own.tyK_non, Own.tyK_ref, Own.tyO_lst, Own.tyO_tup, Own.kit1, Own.kit2, Own.kit3, Own.kit4, Own.kit5, Own.kit6, Own.kit7, Own.kit8, Own.kit9, Own.hlst_inj, Own.htup_inj, Own.vty_inj, Own.ivs_inj, Own.bz_inj, Own.ivs_len, Own.bz_len, Own.ivs_app, Own.ivs_set, Own.ivs_bset, Own.bz_app, Own.ivs_snoc, Own.bz_snoc, Own.atI_ints, Own.atI_bz, Own.isLst_some, Own.ty_lst, L2.upd_same, L2.upd_upd, Own.b2_xor, Own.b2_mod2, Own.b2_mod3, Own.b2_mod4, Own.b2_flip, Option.map_some, Option.isSome_some, ne_eq, eq_self, not_false_eq_true, not_true_eq_false, String.reduceEq, ↓Own.e_BM, ↓Own.e_BM0, ↓Own.e_rAppend, ↓Own.e_rCat, ↓Own.e_rRep, ↓Own.e_sl, ↓Own.e_noPart, ↓Own.e_part, ↓Own.e_rSlL, ↓Own.e_gSub, ↓Own.e_rSetL, ↓Own.e_bits, ↓Own.e_yes, ↓Own.e_gTup, ↓Own.e_gNil, ↓Own.e_gCons, ↓Own.e_aug, ↓Own.e_ipI, ↓Own.e_for, ↓Own.e_lc, ↓Own.e_iList, ↓Own.e_iTup, ↓Own.e_iRng1, ↓Own.e_iRng2, ↓Own.e_iRng3, ↓Own.e_iAny, ↓Own.e_rListA, ↓Own.e_rLenA, ↓Own.e_rIsiX, ↓Own.e_rIsB, ↓Own.e_revL, ↓Own.e_rNotB, ↓Own.e_iEnum, ↓Own.e_iZip, L2.start, L2.wipe, List.map_cons, List.map_nil, List.replicate_succ, List.replicate_zero, List.length_cons, List.length_nil, Nat.reduceAdd, Nat.reduceSub, Nat.zero_add, List.getElem?_cons_zero, List.getElem?_cons_succ, List.set_cons_zero, List.set_cons_succ, Option.some.injEq, L2.V.int.injEq, L2.V.bl.injEq, L2.V.str.injEq, L2.V.ref.injEq, List.cons.injEq, List.cons_append, List.nil_append, List.append_nil, exists_eq_left', exists_eq_left, exists_and_left, exists_and_right, exists_eq, and_true, true_and, reduceCtorEq, false_and, and_false, exists_false, or_false, false_or, true_or, or_true, decide_eq_true_eq, Bool.not_true, Bool.not_false, Bool.not_eq_true', Bool.not_eq_false', decide_eq_false_iff_not, ite_not, if_true, if_false, ite_true, ite_false, Bool.false_eq_true, if_pos trivial, decide_true, decide_false, PySem.sizeLine_eq, eq_self, Int.reduceNeg, Int.reducePow, Int.reduceLT, Int.reduceLE, Int.reduceToNat, Nat.reduceLeDiff, Int.reduceSub, Int.reduceAdd, Int.reduceMul, Int.reduceDiv, Int.reduceMod, Int.reduceEq, Nat.reduceMul, Nat.reduceEqDiff, ↓reduceIte, ↓Own.e_raiseO, ↓Own.e_callS, ↓Own.e_what, Own.hxd_inj])
    refine ite2 (fun _ => ?_) (fun h => absurd (by omega) h)
    refine ⟨_, .inr (.of ha1), ?_⟩
    (try simp -dsimp only [↓Own.e_seq, ↓Own.e_cxK, ↓Own.e_wishK, ↓Own.e_noxK, ↓Own.e_asg, ↓Own.e_gName, ↓Own.e_var, Own.e_C, ↓Own.e_op, ↓Own.e_un, ↓Own.e_rI, ↓Own.e_rI0, ↓Own.e_rU, Own.e_CMul, Own.e_CDiv, Own.e_CPow, ↓Own.e_rEq, ↓Own.e_rNe, Own.e_scal_int, Own.e_scal_str, Own.e_scal_bl, ↓Own.e_ifS, ↓Own.e_test, ↓Own.e_tB, ↓Own.e_ret, ↓Own.e_retN, ↓Own.e_next, ↓Own.e_brk, ↓Own.e_cnt, ↓Own.e_cons, ↓Own.e_nil, ↓Own.e_lst, ↓Own.e_tup, ↓Own.e_drop, ↓Own.e_and, ↓Own.e_or, ↓Own.e_not, ↓Own.e_andV, ↓Own.e_orV, ↓Own.e_notV, ↓Own.e_if, ↓Own.e_chain, Own.e_CB, ↓Own.e_call, ↓Own.e_rIxL, ↓Own.e_rIxT, ↓Own.e_rIxK, ↓Own.e_rIxKT, ↓Own.e_rSlK, ↓Own.e_rLenK, ↓Own.e_rListK, ↓Own.e_rTupleK, ↓Own.e_rSumK, ↓Own.e_rDivK, ↓Own.e_rNeK, ↓Own.e_rEqK, ↓Own.e_rNeKT, ↓Own.e_rEqKT, ↓Own.e_rIsiK, ↓Own.e_rSlS, ↓Own.e_rIxS, Own.tyK_int, Own.tyK_bl, Own.tyK_str, Own.tyK_non, Own.tyK_ref, Own.tyO_lst, Own.tyO_tup, Own.kit1, Own.kit2, Own.kit3, Own.kit4, Own.kit5, Own.kit6, Own.kit7, Own.kit8, Own.kit9, Own.hlst_inj, Own.htup_inj, Own.vty_inj, Own.ivs_inj, Own.bz_inj, Own.ivs_len, Own.bz_len, Own.ivs_app, Own.ivs_set, Own.ivs_bset, Own.bz_app, Own.ivs_snoc, Own.bz_snoc, Own.atI_ints, Own.atI_bz, Own.isLst_some, Own.ty_lst, L2.upd_same, L2.upd_upd, Own.b2_xor, Own.b2_mod2, Own.b2_mod3, Own.b2_mod4, Own.b2_flip, Option.map_some, Option.isSome_some, ne_eq, eq_self, not_false_eq_true, not_true_eq_false, String.reduceEq, ↓Own.e_BM, ↓Own.e_BM0, ↓Own.e_rAppend, ↓Own.e_rCat, ↓Own.e_rRep, ↓Own.e_sl, ↓Own.e_noPart, ↓Own.e_part, ↓Own.e_rSlL, ↓Own.e_gSub, ↓Own.e_rSetL, ↓Own.e_bits, ↓Own.e_yes, ↓Own.e_gTup, ↓Own.e_gNil, ↓Own.e_gCons, ↓Own.e_aug, ↓Own.e_ipI, ↓Own.e_for, ↓Own.e_lc, ↓Own.e_iList, ↓Own.e_iTup, ↓Own.e_iRng1, ↓Own.e_iRng2, ↓Own.e_iRng3, ↓Own.e_iAny, ↓Own.e_rListA, ↓Own.e_rLenA, ↓Own.e_rIsiX, ↓Own.e_rIsB, ↓Own.e_revL, ↓Own.e_rNotB, ↓Own.e_iEnum, ↓Own.e_iZip, L2.start, L2.wipe, List.map_cons, List.map_nil, List.replicate_succ, List.replicate_zero, List.length_cons, List.length_nil, Nat.reduceAdd, Nat.reduceSub, Nat.zero_add, List.getElem?_cons_zero, List.getElem?_cons_succ, List.set_cons_zero, List.set_cons_succ, Option.some.injEq, L2.V.int.injEq, L2.V.bl.injEq, L2.V.str.injEq, L2.V.ref.injEq, List.cons.injEq, List.cons_append, List.nil_append, List.append_nil, exists_eq_left', exists_eq_left, exists_and_left, exists_and_right, exists_eq, and_true, true_and, reduceCtorEq, false_and, and_false, exists_false, or_false, false_or, true_or, or_true, decide_eq_true_eq, Bool.not_true, Bool.not_false, Bool.not_eq_true', Bool.not_eq_false', decide_eq_false_iff_not, ite_not, if_true, if_false, ite_true, ite_false, Bool.false_eq_true, if_pos trivial, decide_true, decide_false, PySem.sizeLine_eq, eq_self, Int.reduceNeg, Int.reducePow, Int.reduceLT, Int.reduceLE, Int.reduceToNat, Nat.reduceLeDiff, Int.reduceSub, Int.reduceAdd, Int.reduceMul, Int.reduceDiv, Int.reduceMod, Int.reduceEq, Nat.reduceMul, Nat.reduceEqDiff, ↓reduceIte, ↓Own.e_raiseO, ↓Own.e_callS, ↓Own.e_what, Own.hxd_inj])
    refine ⟨by omega, by omega, ?_⟩
    rw [Int.toNat_natCast]
    refine loop_it walk_range (fun i σ H' => ∃ y2 y3 y4 y5 y6 : Option V, σ = [some (.ref a), some (.ref p1), y2, y3, y4, y5, y6] ∧ H' = H1) ⟨none, none, none, none, none, rfl, rfl⟩ (fun _ _ _ _ _ => trivial) ?_ ?_
    · rintro i x σ H' H'' hi ⟨y2, y3, y4, y5, y6, rfl, e1⟩ ⟨e2, rfl⟩
      subst e2
      subst e1
      have g : l[i]? = some (l[i]'hi) := List.getElem?_eq_getElem _
      have hm := hrange _ (List.getElem_mem hi)
      generalize l[i]'hi = n at g hm
      obtain ⟨m, rfl⟩ := Int.eq_ofNat_of_zero_le hm.1
      have ax : atI (ivs l) (0 + (i : Int)) = some (V.int (m : Nat)) := by rw [atI_at (by omega), show (0 + (i : Int)).toNat = i by omega, ivs_get, g]; rfl
      (try simp -dsimp only [↓Own.e_seq, ↓Own.e_cxK, ↓Own.e_wishK, ↓Own.e_noxK, ↓Own.e_asg, ↓Own.e_gName, ↓Own.e_var, Own.e_C, ↓Own.e_op, ↓Own.e_un, ↓Own.e_rI, ↓Own.e_rI0, ↓Own.e_rU, Own.e_CMul, Own.e_CDiv, Own.e_CPow, ↓Own.e_rEq, ↓Own.e_rNe, Own.e_scal_int, Own.e_scal_str, Own.e_scal_bl, ↓Own.e_ifS, ↓Own.e_test, ↓Own.e_tB, ↓Own.e_ret, ↓Own.e_retN, ↓Own.e_next, ↓Own.e_brk, ↓Own.e_cnt, ↓Own.e_cons, ↓Own.e_nil, ↓Own.e_lst, ↓Own.e_tup, ↓Own.e_drop, ↓Own.e_and, ↓Own.e_or, ↓Own.e_not, ↓Own.e_andV, ↓Own.e_orV, ↓Own.e_notV, ↓Own.e_if, ↓Own.e_chain, Own.e_CB, ↓Own.e_call, ↓Own.e_rIxL, ↓Own.e_rIxT, ↓Own.e_rIxK, ↓Own.e_rIxKT, ↓Own.e_rSlK, ↓Own.e_rLenK, ↓Own.e_rListK, ↓Own.e_rTupleK, ↓Own.e_rSumK, ↓Own.e_rDivK, ↓Own.e_rNeK, ↓Own.e_rEqK, ↓Own.e_rNeKT, ↓Own.e_rEqKT, ↓Own.e_rIsiK, ↓Own.e_rSlS, ↓Own.e_rIxS, Own.tyK_int, Own.tyK_bl, Own.tyK_str, Own.tyK_non, Own.tyK_ref, Own.tyO_lst, Own.tyO_tup, Own.kit1, Own.kit2, Own.kit3, Own.kit4, Own.kit5, Own.kit6, Own.kit7, Own.kit8, Own.kit9, Own.hlst_inj, Own.htup_inj, Own.vty_inj, Own.ivs_inj, Own.bz_inj, Own.ivs_len, Own.bz_len, Own.ivs_app, Own.ivs_set, Own.ivs_bset, Own.bz_app, Own.ivs_snoc, Own.bz_snoc, Own.atI_ints, Own.atI_bz, Own.isLst_some, Own.ty_lst, L2.upd_same, L2.upd_upd, Own.b2_xor, Own.b2_mod2, Own.b2_mod3, Own.b2_mod4, Own.b2_flip, Option.map_some, Option.isSome_some, ne_eq, eq_self, not_false_eq_true, not_true_eq_false, String.reduceEq, ↓Own.e_BM, ↓Own.e_BM0, ↓Own.e_rAppend, ↓Own.e_rCat, ↓Own.e_rRep, ↓Own.e_sl, ↓Own.e_noPart, ↓Own.e_part, ↓Own.e_rSlL, ↓Own.e_gSub, ↓Own.e_rSetL, ↓Own.e_bits, ↓Own.e_yes, ↓Own.e_gTup, ↓Own.e_gNil, ↓Own.e_gCons, ↓Own.e_aug, ↓Own.e_ipI, ↓Own.e_for, ↓Own.e_lc, ↓Own.e_iList, ↓Own.e_iTup, ↓Own.e_iRng1, ↓Own.e_iRng2, ↓Own.e_iRng3, ↓Own.e_iAny, ↓Own.e_rListA, ↓Own.e_rLenA, ↓Own.e_rIsiX, ↓Own.e_rIsB, ↓Own.e_revL, ↓Own.e_rNotB, ↓Own.e_iEnum, ↓Own.e_iZip, L2.start, L2.wipe, List.map_cons, List.map_nil, List.replicate_succ, List.replicate_zero, List.length_cons, List.length_nil, Nat.reduceAdd, Nat.reduceSub, Nat.zero_add, List.getElem?_cons_zero, List.getElem?_cons_succ, List.set_cons_zero, List.set_cons_succ, Option.some.injEq, L2.V.int.injEq, L2.V.bl.injEq, L2.V.str.injEq, L2.V.ref.injEq, List.cons.injEq, List.cons_append, List.nil_append, List.append_nil, exists_eq_left', exists_eq_left, exists_and_left, exists_and_right, exists_eq, and_true, true_and, reduceCtorEq, false_and, and_false, exists_false, or_false, false_or, true_or, or_true, decide_eq_true_eq, Bool.not_true, Bool.not_false, Bool.not_eq_true', Bool.not_eq_false', decide_eq_false_iff_not, ite_not, if_true, if_false, ite_true, ite_false, Bool.false_eq_true, if_pos trivial, decide_true, decide_false, PySem.sizeLine_eq, eq_self, Int.reduceNeg, Int.reducePow, Int.reduceLT, Int.reduceLE, Int.reduceToNat, Nat.reduceLeDiff, Int.reduceSub, Int.reduceAdd, Int.reduceMul, Int.reduceDiv, Int.reduceMod, Int.reduceEq, Nat.reduceMul, Nat.reduceEqDiff, ↓reduceIte, ↓Own.e_raiseO, ↓Own.e_callS, ↓Own.e_what, Own.hxd_inj, ha1, ax])
      refine loop_it walk_range (fun j σ H2 => ∃ y4 : Option V, σ = [some (.ref a), some (.ref p1), some (.int (0 + (i : Int))), some (.int ((m / 2 ^ j : Nat) : Int)), y4, y5, y6] ∧ H2 = H'') ⟨y4, by rw [Nat.pow_zero, Nat.div_one], rfl⟩ (fun _ _ _ _ _ => trivial) ?_ ?_
      · rintro j x σ H2 H3 hj ⟨y4, rfl, e3⟩ ⟨e4, rfl⟩
        subst e4
        subst e3
        have gb := obs_get l i j _ g hj
        have ec : (m : Int) / 2 ^ j = ((m / 2 ^ j : Nat) : Int) := by rw [← PySem.W.kbt_cast, ← Int.natCast_ediv]
        rw [ec] at gb
        have ax2 : atI (obs l) (8 * (0 + (i : Int)) + (0 + (j : Int))) = some (decide (((m / 2 ^ j : Nat) : Int) % 2 = 1)) := by rw [atI_at (by omega), show (8 * (0 + (i : Int)) + (0 + (j : Int))).toNat = i * 8 + j by omega]; exact gb
        have eb : ((m / 2 ^ j : Nat) : Int) % 2 = b2 (decide (((m / 2 ^ j : Nat) : Int) % 2 = 1)) := b2_odd _
        have eh : ((m / 2 ^ j : Nat) : Int) / 2 = ((m / 2 ^ (j + 1) : Nat) : Int) := by rw [Nat.pow_succ, ← Nat.div_div_eq_div_mul]; omega
        (try simp -dsimp only [↓Own.e_seq, ↓Own.e_cxK, ↓Own.e_wishK, ↓Own.e_noxK, ↓Own.e_asg, ↓Own.e_gName, ↓Own.e_var, Own.e_C, ↓Own.e_op, ↓Own.e_un, ↓Own.e_rI, ↓Own.e_rI0, ↓Own.e_rU, Own.e_CMul, Own.e_CDiv, Own.e_CPow, ↓Own.e_rEq, ↓Own.e_rNe, Own.e_scal_int, Own.e_scal_str, Own.e_scal_bl, ↓Own.e_ifS, ↓Own.e_test, ↓Own.e_tB, ↓Own.e_ret, ↓Own.e_retN, ↓Own.e_next, ↓Own.e_brk, ↓Own.e_cnt, ↓Own.e_cons, ↓Own.e_nil, ↓Own.e_lst, ↓Own.e_tup, ↓Own.e_drop, ↓Own.e_and, ↓Own.e_or, ↓Own.e_not, ↓Own.e_andV, ↓Own.e_orV, ↓Own.e_notV, ↓Own.e_if, ↓Own.e_chain, Own.e_CB, ↓Own.e_call, ↓Own.e_rIxL, ↓Own.e_rIxT, ↓Own.e_rIxK, ↓Own.e_rIxKT, ↓Own.e_rSlK, ↓Own.e_rLenK, ↓Own.e_rListK, ↓Own.e_rTupleK, ↓Own.e_rSumK, ↓Own.e_rDivK, ↓Own.e_rNeK, ↓Own.e_rEqK, ↓Own.e_rNeKT, ↓Own.e_rEqKT, ↓Own.e_rIsiK, ↓Own.e_rSlS, ↓Own.e_rIxS, Own.tyK_int, Own.tyK_bl, Own.tyK_str, Own.tyK_non, Own.tyK_ref, Own.tyO_lst, Own.tyO_tup, Own.kit1, Own.kit2, Own.kit3, Own.kit4, Own.kit5, Own.kit6, Own.kit7, Own.kit8, Own.kit9, Own.hlst_inj, Own.htup_inj, Own.vty_inj, Own.ivs_inj, Own.bz_inj, Own.ivs_len, Own.bz_len, Own.ivs_app, Own.ivs_set, Own.ivs_bset, Own.bz_app, Own.ivs_snoc, Own.bz_snoc, Own.atI_ints, Own.atI_bz, Own.isLst_some, Own.ty_lst, L2.upd_same, L2.upd_upd, Own.b2_xor, Own.b2_mod2, Own.b2_mod3, Own.b2_mod4, Own.b2_flip, Option.map_some, Option.isSome_some, ne_eq, eq_self, not_false_eq_true, not_true_eq_false, String.reduceEq, ↓Own.e_BM, ↓Own.e_BM0, ↓Own.e_rAppend, ↓Own.e_rCat, ↓Own.e_rRep, ↓Own.e_sl, ↓Own.e_noPart, ↓Own.e_part, ↓Own.e_rSlL, ↓Own.e_gSub, ↓Own.e_rSetL, ↓Own.e_bits, ↓Own.e_yes, ↓Own.e_gTup, ↓Own.e_gNil, ↓Own.e_gCons, ↓Own.e_aug, ↓Own.e_ipI, ↓Own.e_for, ↓Own.e_lc, ↓Own.e_iList, ↓Own.e_iTup, ↓Own.e_iRng1, ↓Own.e_iRng2, ↓Own.e_iRng3, ↓Own.e_iAny, ↓Own.e_rListA, ↓Own.e_rLenA, ↓Own.e_rIsiX, ↓Own.e_rIsB, ↓Own.e_revL, ↓Own.e_rNotB, ↓Own.e_iEnum, ↓Own.e_iZip, L2.start, L2.wipe, List.map_cons, List.map_nil, List.replicate_succ, List.replicate_zero, List.length_cons, List.length_nil, Nat.reduceAdd, Nat.reduceSub, Nat.zero_add, List.getElem?_cons_zero, List.getElem?_cons_succ, List.set_cons_zero, List.set_cons_succ, Option.some.injEq, L2.V.int.injEq, L2.V.bl.injEq, L2.V.str.injEq, L2.V.ref.injEq, List.cons.injEq, List.cons_append, List.nil_append, List.append_nil, exists_eq_left', exists_eq_left, exists_and_left, exists_and_right, exists_eq, and_true, true_and, reduceCtorEq, false_and, and_false, exists_false, or_false, false_or, true_or, or_true, decide_eq_true_eq, Bool.not_true, Bool.not_false, Bool.not_eq_true', Bool.not_eq_false', decide_eq_false_iff_not, ite_not, if_true, if_false, ite_true, ite_false, Bool.false_eq_true, if_pos trivial, decide_true, decide_false, PySem.sizeLine_eq, eq_self, Int.reduceNeg, Int.reducePow, Int.reduceLT, Int.reduceLE, Int.reduceToNat, Nat.reduceLeDiff, Int.reduceSub, Int.reduceAdd, Int.reduceMul, Int.reduceDiv, Int.reduceMod, Int.reduceEq, Nat.reduceMul, Nat.reduceEqDiff, ↓reduceIte, ↓Own.e_raiseO, ↓Own.e_callS, ↓Own.e_what, Own.hxd_inj, hp1, ax2])
        refine ite2 (fun _ => ?_) (fun h => absurd eb.symm h)
        refine at_is ?_
        exact ⟨some (.int (0 + (j : Int))), by rw [← eh], rfl⟩
      · rintro σ H2 ⟨y4, rfl, e3⟩
        subst e3
        (try simp -dsimp only [↓Own.e_seq, ↓Own.e_cxK, ↓Own.e_wishK, ↓Own.e_noxK, ↓Own.e_asg, ↓Own.e_gName, ↓Own.e_var, Own.e_C, ↓Own.e_op, ↓Own.e_un, ↓Own.e_rI, ↓Own.e_rI0, ↓Own.e_rU, Own.e_CMul, Own.e_CDiv, Own.e_CPow, ↓Own.e_rEq, ↓Own.e_rNe, Own.e_scal_int, Own.e_scal_str, Own.e_scal_bl, ↓Own.e_ifS, ↓Own.e_test, ↓Own.e_tB, ↓Own.e_ret, ↓Own.e_retN, ↓Own.e_next, ↓Own.e_brk, ↓Own.e_cnt, ↓Own.e_cons, ↓Own.e_nil, ↓Own.e_lst, ↓Own.e_tup, ↓Own.e_drop, ↓Own.e_and, ↓Own.e_or, ↓Own.e_not, ↓Own.e_andV, ↓Own.e_orV, ↓Own.e_notV, ↓Own.e_if, ↓Own.e_chain, Own.e_CB, ↓Own.e_call, ↓Own.e_rIxL, ↓Own.e_rIxT, ↓Own.e_rIxK, ↓Own.e_rIxKT, ↓Own.e_rSlK, ↓Own.e_rLenK, ↓Own.e_rListK, ↓Own.e_rTupleK, ↓Own.e_rSumK, ↓Own.e_rDivK, ↓Own.e_rNeK, ↓Own.e_rEqK, ↓Own.e_rNeKT, ↓Own.e_rEqKT, ↓Own.e_rIsiK, ↓Own.e_rSlS, ↓Own.e_rIxS, Own.tyK_int, Own.tyK_bl, Own.tyK_str, Own.tyK_non, Own.tyK_ref, Own.tyO_lst, Own.tyO_tup, Own.kit1, Own.kit2, Own.kit3, Own.kit4, Own.kit5, Own.kit6, Own.kit7, Own.kit8, Own.kit9, Own.hlst_inj, Own.htup_inj, Own.vty_inj, Own.ivs_inj, Own.bz_inj, Own.ivs_len, Own.bz_len, Own.ivs_app, Own.ivs_set, Own.ivs_bset, Own.bz_app, Own.ivs_snoc, Own.bz_snoc, Own.atI_ints, Own.atI_bz, Own.isLst_some, Own.ty_lst, L2.upd_same, L2.upd_upd, Own.b2_xor, Own.b2_mod2, Own.b2_mod3, Own.b2_mod4, Own.b2_flip, Option.map_some, Option.isSome_some, ne_eq, eq_self, not_false_eq_true, not_true_eq_false, String.reduceEq, ↓Own.e_BM, ↓Own.e_BM0, ↓Own.e_rAppend, ↓Own.e_rCat, ↓Own.e_rRep, ↓Own.e_sl, ↓Own.e_noPart, ↓Own.e_part, ↓Own.e_rSlL, ↓Own.e_gSub, ↓Own.e_rSetL, ↓Own.e_bits, ↓Own.e_yes, ↓Own.e_gTup, ↓Own.e_gNil, ↓Own.e_gCons, ↓Own.e_aug, ↓Own.e_ipI, ↓Own.e_for, ↓Own.e_lc, ↓Own.e_iList, ↓Own.e_iTup, ↓Own.e_iRng1, ↓Own.e_iRng2, ↓Own.e_iRng3, ↓Own.e_iAny, ↓Own.e_rListA, ↓Own.e_rLenA, ↓Own.e_rIsiX, ↓Own.e_rIsB, ↓Own.e_revL, ↓Own.e_rNotB, ↓Own.e_iEnum, ↓Own.e_iZip, L2.start, L2.wipe, List.map_cons, List.map_nil, List.replicate_succ, List.replicate_zero, List.length_cons, List.length_nil, Nat.reduceAdd, Nat.reduceSub, Nat.zero_add, List.getElem?_cons_zero, List.getElem?_cons_succ, List.set_cons_zero, List.set_cons_succ, Option.some.injEq, L2.V.int.injEq, L2.V.bl.injEq, L2.V.str.injEq, L2.V.ref.injEq, List.cons.injEq, List.cons_append, List.nil_append, List.append_nil, exists_eq_left', exists_eq_left, exists_and_left, exists_and_right, exists_eq, and_true, true_and, reduceCtorEq, false_and, and_false, exists_false, or_false, false_or, true_or, or_true, decide_eq_true_eq, Bool.not_true, Bool.not_false, Bool.not_eq_true', Bool.not_eq_false', decide_eq_false_iff_not, ite_not, if_true, if_false, ite_true, ite_false, Bool.false_eq_true, if_pos trivial, decide_true, decide_false, PySem.sizeLine_eq, eq_self, Int.reduceNeg, Int.reducePow, Int.reduceLT, Int.reduceLE, Int.reduceToNat, Nat.reduceLeDiff, Int.reduceSub, Int.reduceAdd, Int.reduceMul, Int.reduceDiv, Int.reduceMod, Int.reduceEq, Nat.reduceMul, Nat.reduceEqDiff, ↓reduceIte, ↓Own.e_raiseO, ↓Own.e_callS, ↓Own.e_what, Own.hxd_inj])
        exact at_is ⟨_, _, _, _, _, rfl, rfl⟩
    · rintro σ H' ⟨y2, y3, y4, y5, y6, rfl, e1⟩
      subst e1
      (try simp -dsimp only [↓Own.e_seq, ↓Own.e_cxK, ↓Own.e_wishK, ↓Own.e_noxK, ↓Own.e_asg, ↓Own.e_gName, ↓Own.e_var, Own.e_C, ↓Own.e_op, ↓Own.e_un, ↓Own.e_rI, ↓Own.e_rI0, ↓Own.e_rU, Own.e_CMul, Own.e_CDiv, Own.e_CPow, ↓Own.e_rEq, ↓Own.e_rNe, Own.e_scal_int, Own.e_scal_str, Own.e_scal_bl, ↓Own.e_ifS, ↓Own.e_test, ↓Own.e_tB, ↓Own.e_ret, ↓Own.e_retN, ↓Own.e_next, ↓Own.e_brk, ↓Own.e_cnt, ↓Own.e_cons, ↓Own.e_nil, ↓Own.e_lst, ↓Own.e_tup, ↓Own.e_drop, ↓Own.e_and, ↓Own.e_or, ↓Own.e_not, ↓Own.e_andV, ↓Own.e_orV, ↓Own.e_notV, ↓Own.e_if, ↓Own.e_chain, Own.e_CB, ↓Own.e_call, ↓Own.e_rIxL, ↓Own.e_rIxT, ↓Own.e_rIxK, ↓Own.e_rIxKT, ↓Own.e_rSlK, ↓Own.e_rLenK, ↓Own.e_rListK, ↓Own.e_rTupleK, ↓Own.e_rSumK, ↓Own.e_rDivK, ↓Own.e_rNeK, ↓Own.e_rEqK, ↓Own.e_rNeKT, ↓Own.e_rEqKT, ↓Own.e_rIsiK, ↓Own.e_rSlS, ↓Own.e_rIxS, Own.tyK_int, Own.tyK_bl, Own.tyK_str, Own.tyK_non, Own.tyK_ref, Own.tyO_lst, Own.tyO_tup, Own.kit1, Own.kit2, Own.kit3, Own.kit4, Own.kit5, Own.kit6, Own.kit7, Own.kit8, Own.kit9, Own.hlst_inj, Own.htup_inj, Own.vty_inj, Own.ivs_inj, Own.bz_inj, Own.ivs_len, Own.bz_len, Own.ivs_app, Own.ivs_set, Own.ivs_bset, Own.bz_app, Own.ivs_snoc, Own.bz_snoc, Own.atI_ints, Own.atI_bz, Own.isLst_some, Own.ty_lst, L2.upd_same, L2.upd_upd, Own.b2_xor, Own.b2_mod2, Own.b2_mod3, Own.b2_mod4, Own.b2_flip, Option.map_some, Option.isSome_some, ne_eq, eq_self, not_false_eq_true, not_true_eq_false, String.reduceEq, ↓Own.e_BM, ↓Own.e_BM0, ↓Own.e_rAppend, ↓Own.e_rCat, ↓Own.e_rRep, ↓Own.e_sl, ↓Own.e_noPart, ↓Own.e_part, ↓Own.e_rSlL, ↓Own.e_gSub, ↓Own.e_rSetL, ↓Own.e_bits, ↓Own.e_yes, ↓Own.e_gTup, ↓Own.e_gNil, ↓Own.e_gCons, ↓Own.e_aug, ↓Own.e_ipI, ↓Own.e_for, ↓Own.e_lc, ↓Own.e_iList, ↓Own.e_iTup, ↓Own.e_iRng1, ↓Own.e_iRng2, ↓Own.e_iRng3, ↓Own.e_iAny, ↓Own.e_rListA, ↓Own.e_rLenA, ↓Own.e_rIsiX, ↓Own.e_rIsB, ↓Own.e_revL, ↓Own.e_rNotB, ↓Own.e_iEnum, ↓Own.e_iZip, L2.start, L2.wipe, List.map_cons, List.map_nil, List.replicate_succ, List.replicate_zero, List.length_cons, List.length_nil, Nat.reduceAdd, Nat.reduceSub, Nat.zero_add, List.getElem?_cons_zero, List.getElem?_cons_succ, List.set_cons_zero, List.set_cons_succ, Option.some.injEq, L2.V.int.injEq, L2.V.bl.injEq, L2.V.str.injEq, L2.V.ref.injEq, List.cons.injEq, List.cons_append, List.nil_append, List.append_nil, exists_eq_left', exists_eq_left, exists_and_left, exists_and_right, exists_eq, and_true, true_and, reduceCtorEq, false_and, and_false, exists_false, or_false, false_or, true_or, or_true, decide_eq_true_eq, Bool.not_true, Bool.not_false, Bool.not_eq_true', Bool.not_eq_false', decide_eq_false_iff_not, ite_not, if_true, if_false, ite_true, ite_false, Bool.false_eq_true, if_pos trivial, decide_true, decide_false, PySem.sizeLine_eq, eq_self, Int.reduceNeg, Int.reducePow, Int.reduceLT, Int.reduceLE, Int.reduceToNat, Nat.reduceLeDiff, Int.reduceSub, Int.reduceAdd, Int.reduceMul, Int.reduceDiv, Int.reduceMod, Int.reduceEq, Nat.reduceMul, Nat.reduceEqDiff, ↓reduceIte, ↓Own.e_raiseO, ↓Own.e_callS, ↓Own.e_what, Own.hxd_inj, hp1])
      refine new_of fun p2 H2 np2 sm2 hp2 => ?_
      (try simp -dsimp only [↓Own.e_seq, ↓Own.e_cxK, ↓Own.e_wishK, ↓Own.e_noxK, ↓Own.e_asg, ↓Own.e_gName, ↓Own.e_var, Own.e_C, ↓Own.e_op, ↓Own.e_un, ↓Own.e_rI, ↓Own.e_rI0, ↓Own.e_rU, Own.e_CMul, Own.e_CDiv, Own.e_CPow, ↓Own.e_rEq, ↓Own.e_rNe, Own.e_scal_int, Own.e_scal_str, Own.e_scal_bl, ↓Own.e_ifS, ↓Own.e_test, ↓Own.e_tB, ↓Own.e_ret, ↓Own.e_retN, ↓Own.e_next, ↓Own.e_brk, ↓Own.e_cnt, ↓Own.e_cons, ↓Own.e_nil, ↓Own.e_lst, ↓Own.e_tup, ↓Own.e_drop, ↓Own.e_and, ↓Own.e_or, ↓Own.e_not, ↓Own.e_andV, ↓Own.e_orV, ↓Own.e_notV, ↓Own.e_if, ↓Own.e_chain, Own.e_CB, ↓Own.e_call, ↓Own.e_rIxL, ↓Own.e_rIxT, ↓Own.e_rIxK, ↓Own.e_rIxKT, ↓Own.e_rSlK, ↓Own.e_rLenK, ↓Own.e_rListK, ↓Own.e_rTupleK, ↓Own.e_rSumK, ↓Own.e_rDivK, ↓Own.e_rNeK, ↓Own.e_rEqK, ↓Own.e_rNeKT, ↓Own.e_rEqKT, ↓Own.e_rIsiK, ↓Own.e_rSlS, ↓Own.e_rIxS, Own.tyK_int, Own.tyK_bl, Own.tyK_str, Own.tyK_non, Own.tyK_ref, Own.tyO_lst, Own.tyO_tup, Own.kit1, Own.kit2, Own.kit3, Own.kit4, Own.kit5, Own.kit6, Own.kit7, Own.kit8, Own.kit9, Own.hlst_inj, Own.htup_inj, Own.vty_inj, Own.ivs_inj, Own.bz_inj, Own.ivs_len, Own.bz_len, Own.ivs_app, Own.ivs_set, Own.ivs_bset, Own.bz_app, Own.ivs_snoc, Own.bz_snoc, Own.atI_ints, Own.atI_bz, Own.isLst_some, Own.ty_lst, L2.upd_same, L2.upd_upd, Own.b2_xor, Own.b2_mod2, Own.b2_mod3, Own.b2_mod4, Own.b2_flip, Option.map_some, Option.isSome_some, ne_eq, eq_self, not_false_eq_true, not_true_eq_false, String.reduceEq, ↓Own.e_BM, ↓Own.e_BM0, ↓Own.e_rAppend, ↓Own.e_rCat, ↓Own.e_rRep, ↓Own.e_sl, ↓Own.e_noPart, ↓Own.e_part, ↓Own.e_rSlL, ↓Own.e_gSub, ↓Own.e_rSetL, ↓Own.e_bits, ↓Own.e_yes, ↓Own.e_gTup, ↓Own.e_gNil, ↓Own.e_gCons, ↓Own.e_aug, ↓Own.e_ipI, ↓Own.e_for, ↓Own.e_lc, ↓Own.e_iList, ↓Own.e_iTup, ↓Own.e_iRng1, ↓Own.e_iRng2, ↓Own.e_iRng3, ↓Own.e_iAny, ↓Own.e_rListA, ↓Own.e_rLenA, ↓Own.e_rIsiX, ↓Own.e_rIsB, ↓Own.e_revL, ↓Own.e_rNotB, ↓Own.e_iEnum, ↓Own.e_iZip, L2.start, L2.wipe, List.map_cons, List.map_nil, List.replicate_succ, List.replicate_zero, List.length_cons, List.length_nil, Nat.reduceAdd, Nat.reduceSub, Nat.zero_add, List.getElem?_cons_zero, List.getElem?_cons_succ, List.set_cons_zero, List.set_cons_succ, Option.some.injEq, L2.V.int.injEq, L2.V.bl.injEq, L2.V.str.injEq, L2.V.ref.injEq, List.cons.injEq, List.cons_append, List.nil_append, List.append_nil, exists_eq_left', exists_eq_left, exists_and_left, exists_and_right, exists_eq, and_true, true_and, reduceCtorEq, false_and, and_false, exists_false, or_false, false_or, true_or, or_true, decide_eq_true_eq, Bool.not_true, Bool.not_false, Bool.not_eq_true', Bool.not_eq_false', decide_eq_false_iff_not, ite_not, if_true, if_false, ite_true, ite_false, Bool.false_eq_true, if_pos trivial, decide_true, decide_false, PySem.sizeLine_eq, eq_self, Int.reduceNeg, Int.reducePow, Int.reduceLT, Int.reduceLE, Int.reduceToNat, Nat.reduceLeDiff, Int.reduceSub, Int.reduceAdd, Int.reduceMul, Int.reduceDiv, Int.reduceMod, Int.reduceEq, Nat.reduceMul, Nat.reduceEqDiff, ↓reduceIte, ↓Own.e_raiseO, ↓Own.e_callS, ↓Own.e_what, Own.hxd_inj])
      have hp12 := sm2 _ _ hp1
      refine call_to ⟨_, obs l, rfl, hp12, by omega, fun h => absurd (by omega) h, fun _ H3 p3 sm3 np3 hp3 => ?_⟩
      rw [ol, show 8 * l.length / 8 = l.length by omega, octs_obs hrange] at hp3
      have x1 := sm3 _ _ hp12
      have x2 := sm3 _ _ hp2
      have x3 := sm3 _ _ (sm2 _ _ ha1)
      (try simp -dsimp only [↓Own.e_seq, ↓Own.e_cxK, ↓Own.e_wishK, ↓Own.e_noxK, ↓Own.e_asg, ↓Own.e_gName, ↓Own.e_var, Own.e_C, ↓Own.e_op, ↓Own.e_un, ↓Own.e_rI, ↓Own.e_rI0, ↓Own.e_rU, Own.e_CMul, Own.e_CDiv, Own.e_CPow, ↓Own.e_rEq, ↓Own.e_rNe, Own.e_scal_int, Own.e_scal_str, Own.e_scal_bl, ↓Own.e_ifS, ↓Own.e_test, ↓Own.e_tB, ↓Own.e_ret, ↓Own.e_retN, ↓Own.e_next, ↓Own.e_brk, ↓Own.e_cnt, ↓Own.e_cons, ↓Own.e_nil, ↓Own.e_lst, ↓Own.e_tup, ↓Own.e_drop, ↓Own.e_and, ↓Own.e_or, ↓Own.e_not, ↓Own.e_andV, ↓Own.e_orV, ↓Own.e_notV, ↓Own.e_if, ↓Own.e_chain, Own.e_CB, ↓Own.e_call, ↓Own.e_rIxL, ↓Own.e_rIxT, ↓Own.e_rIxK, ↓Own.e_rIxKT, ↓Own.e_rSlK, ↓Own.e_rLenK, ↓Own.e_rListK, ↓Own.e_rTupleK, ↓Own.e_rSumK, ↓Own.e_rDivK, ↓Own.e_rNeK, ↓Own.e_rEqK, ↓Own.e_rNeKT, ↓Own.e_rEqKT, ↓Own.e_rIsiK, ↓Own.e_rSlS, ↓Own.e_rIxS, Own.tyK_int, Own.tyK_bl, Own.tyK_str, Own.tyK_non, Own.tyK_ref, Own.tyO_lst, Own.tyO_tup, Own.kit1, Own.kit2, Own.kit3, Own.kit4, Own.kit5, Own.kit6, Own.kit7, Own.kit8, Own.kit9, Own.hlst_inj, Own.htup_inj, Own.vty_inj, Own.ivs_inj, Own.bz_inj, Own.ivs_len, Own.bz_len, Own.ivs_app, Own.ivs_set, Own.ivs_bset, Own.bz_app, Own.ivs_snoc, Own.bz_snoc, Own.atI_ints, Own.atI_bz, Own.isLst_some, Own.ty_lst, L2.upd_same, L2.upd_upd, Own.b2_xor, Own.b2_mod2, Own.b2_mod3, Own.b2_mod4, Own.b2_flip, Option.map_some, Option.isSome_some, ne_eq, eq_self, not_false_eq_true, not_true_eq_false, String.reduceEq, ↓Own.e_BM, ↓Own.e_BM0, ↓Own.e_rAppend, ↓Own.e_rCat, ↓Own.e_rRep, ↓Own.e_sl, ↓Own.e_noPart, ↓Own.e_part, ↓Own.e_rSlL, ↓Own.e_gSub, ↓Own.e_rSetL, ↓Own.e_bits, ↓Own.e_yes, ↓Own.e_gTup, ↓Own.e_gNil, ↓Own.e_gCons, ↓Own.e_aug, ↓Own.e_ipI, ↓Own.e_for, ↓Own.e_lc, ↓Own.e_iList, ↓Own.e_iTup, ↓Own.e_iRng1, ↓Own.e_iRng2, ↓Own.e_iRng3, ↓Own.e_iAny, ↓Own.e_rListA, ↓Own.e_rLenA, ↓Own.e_rIsiX, ↓Own.e_rIsB, ↓Own.e_revL, ↓Own.e_rNotB, ↓Own.e_iEnum, ↓Own.e_iZip, L2.start, L2.wipe, List.map_cons, List.map_nil, List.replicate_succ, List.replicate_zero, List.length_cons, List.length_nil, Nat.reduceAdd, Nat.reduceSub, Nat.zero_add, List.getElem?_cons_zero, List.getElem?_cons_succ, List.set_cons_zero, List.set_cons_succ, Option.some.injEq, L2.V.int.injEq, L2.V.bl.injEq, L2.V.str.injEq, L2.V.ref.injEq, List.cons.injEq, List.cons_append, List.nil_append, List.append_nil, exists_eq_left', exists_eq_left, exists_and_left, exists_and_right, exists_eq, and_true, true_and, reduceCtorEq, false_and, and_false, exists_false, or_false, false_or, true_or, or_true, decide_eq_true_eq, Bool.not_true, Bool.not_false, Bool.not_eq_true', Bool.not_eq_false', decide_eq_false_iff_not, ite_not, if_true, if_false, ite_true, ite_false, Bool.false_eq_true, if_pos trivial, decide_true, decide_false, PySem.sizeLine_eq, eq_self, Int.reduceNeg, Int.reducePow, Int.reduceLT, Int.reduceLE, Int.reduceToNat, Nat.reduceLeDiff, Int.reduceSub, Int.reduceAdd, Int.reduceMul, Int.reduceDiv, Int.reduceMod, Int.reduceEq, Nat.reduceMul, Nat.reduceEqDiff, ↓reduceIte, ↓Own.e_raiseO, ↓Own.e_callS, ↓Own.e_what, Own.hxd_inj, hp3, x1, x2, x3])
      exact q H3 ((sm1.trans sm2).trans sm3)
def osq (v : Int) (n : Nat) : List Int := (List.range n).map fun (k : Nat) => (v / (0 + (k : Int) + 1) + 37 * (0 + (k : Int))) % 256
theorem osq_get {v : Int} {n i : Nat} (h : i < n) : (osq v n)[i]? = some ((v / (0 + (i : Int) + 1) + 37 * (0 + (i : Int))) % 256) := by
  unfold osq
  rw [List.getElem?_map, List.getElem?_range h]
  rfl
theorem osq_len (v : Int) (n : Nat) : (osq v n).length = n := by unfold osq; simp
theorem osq_in {v : Int} {n : Nat} : ∀ k ∈ osq v n, 0 ≤ k ∧ k < 256 := by
  intro k hk
  unfold osq at hk
  obtain ⟨j, _, rfl⟩ := List.mem_map.mp hk
  omega
theorem half_step {x c : Nat} (h : 0 < x / 2 ^ c) : 2 ^ c ≤ x := by
  by_cases z : 2 ^ c ≤ x
  · exact z
  · rw [Nat.div_eq_of_lt (by omega)] at h; omega
theorem div_zero_lt {x c : Nat} (h : x / 2 ^ c = 0) : x < 2 ^ c := by
  by_cases z : x < 2 ^ c
  · exact z
  · have := Nat.div_pos (by omega : 2 ^ c ≤ x) (Nat.two_pow_pos c); omega

def sp_law (K : PySem.W.Frag) : Sp := fun vs H Q _ => ∃ (a : Addr) (ns : List Int), vs = [.ref a] ∧ SqL K H a (ns.map V.int) ∧ ns.length ≤ 63 ∧ ∀ H', Q (.bl true) H'

theorem ok_law {f : Addr} {fd : FuncData} {f__law_refused : Addr} {fd__law_refused : FuncData} {f_bits_number : Addr} {fd_bits_number : FuncData} {f__law_mixed : Addr} {fd__law_mixed : FuncData} {f__law_number_right : Addr} {fd__law_number_right : FuncData} {f__law_octets_right : Addr} {fd__law_octets_right : FuncData} {f_octet_bits : Addr} {fd_octet_bits : FuncData} {f_bits_octets : Addr} {fd_bits_octets : FuncData} (F : Fun K "law" "law" s_law f fd) (B : BI mg) (X_BadBits : OwnErr K mg "BadBits" C_BadBits) (c__law_refused : Cal P w K mg base CX0 2 "_law_refused" f__law_refused fd__law_refused ["number", "count"] (sp__law_refused K C_OutOfRange)) (c_bits_number : Cal P w K mg base CX0 1 "bits_number" f_bits_number fd_bits_number ["bits"] (sp_bits_number K)) (c__law_mixed : Cal P w K mg base CX0 1 "_law_mixed" f__law_mixed fd__law_mixed ["cell", "turn"] (sp__law_mixed K)) (c__law_number_right : Cal P w K mg base CX0 2 "_law_number_right" f__law_number_right fd__law_number_right ["number", "count"] (sp__law_number_right K C_OutOfRange)) (c__law_octets_right : Cal P w K mg base CX0 3 "_law_octets_right" f__law_octets_right fd__law_octets_right ["octets"] (sp__law_octets_right K C_BadBits)) (c_octet_bits : Cal P w K mg base CX0 1 "octet_bits" f_octet_bits fd_octet_bits ["octets"] (sp_octet_bits K)) (c_bits_octets : Cal P w K mg base (L2.CX P w) 2 "bits_octets" f_bits_octets fd_bits_octets ["bits"] (sp_bits_octets K C_BadBits)) : FnOk P w K mg base CX0 4 f fd ["script"] (sp_law K) := by
  refine F.ok sc_law (fun vs H Q E h => ?_) (fun cdv A outer s H vs Q E hr h => ?_)
  · obtain ⟨a, ns, rfl, hS, hlen, q⟩ := h
    rfl
  · obtain ⟨a, ns, rfl, hS, hlen, q⟩ := h
    refine ⟨_, (pss_cons (ps_if (PW.pt (pw_or (pt_cmpR op_ne (pe_call c_bits_number.ok (hr.mono (by decide)) (by rfl) c_bits_number.g c_bits_number.kp c_bits_number.b .nil pass0 (pa_cons (pe_lst pa_nil) pa_nil)) pe_int (nomark _)) (pw_or (pt_not (pt_val (pe_call c__law_refused.ok (hr.mono (by decide)) (by rfl) c__law_refused.g c__law_refused.kp c__law_refused.b .nil pass0 (pa_cons (pe_un un_neg pe_int) (pa_cons pe_int pa_nil))))) (pw_or1 (pt_not (pt_val (pe_call c__law_refused.ok (hr.mono (by decide)) (by rfl) c__law_refused.g c__law_refused.kp c__law_refused.b .nil pass0 (pa_cons pe_int (pa_cons pe_int pa_nil))))))))) (pss_one (ps_ret pe_bl)) pss_nil)
      (pss_cons (ps_for PassesOwn.never rfl (pi_enum (by rfl) B.enumerate_ (pa_cons (pe_slice sl_list (pv 0) po_none (po_some pe_int)) pa_nil)) (pg_tup rfl (pgs_cons (pg_name (i := 1) sc_law.nd rfl (Or.inl rfl)) (pgs_cons (pg_name (i := 2) sc_law.nd rfl (Or.inl rfl)) pgs_nil)))
      (pss_cons (ps_set (i := 3) sc_law.nd rfl (Or.inr rfl) (pe_call c__law_mixed.ok (hr.mono (by decide)) (by rfl) c__law_mixed.g c__law_mixed.kp c__law_mixed.b .nil pass0 (pa_cons (pv 2) (pa_cons (pv 1) pa_nil))))
      (pss_cons (ps_set (i := 4) sc_law.nd rfl (Or.inl rfl) (pe_op op_mod (pv 3) pe_int))
      (pss_cons (ps_set (i := 5) sc_law.nd rfl (Or.inl rfl) (pe_op op_mod (pe_op op_fdiv (pv 3) pe_int) (pe_op op_pow pe_int pe_int)))
      (pss_cons (ps_for PassesOwn.never rfl (pi_range1 (by rfl) B.range_ (pa_cons (pe_op op_sub pe_int (pv 4)) pa_nil)) (pg_name (i := 6) sc_law.nd rfl (Or.inl rfl))
      (pss_one (ps_set (i := 5) sc_law.nd rfl (Or.inl rfl) (pe_op op_fdiv (pv 5) pe_int))))
      (pss_cons (ps_set (i := 7) sc_law.nd rfl (Or.inl rfl) pe_int)
      (pss_cons (ps_set (i := 8) sc_law.nd rfl (Or.inl rfl) (pv 5))
      (pss_cons (ps_for PassesOwn.never rfl (pi_range1 (by rfl) B.range_ (pa_cons pe_int pa_nil)) (pg_name (i := 6) sc_law.nd rfl (Or.inl rfl))
      (pss_one (ps_if (pt_cmpR op_gt (pv 8) pe_int (nomark _)) (pss_cons (ps_set (i := 7) sc_law.nd rfl (Or.inl rfl) (pe_op op_add (pv 7) pe_int))
      (pss_one (ps_set (i := 8) sc_law.nd rfl (Or.inl rfl) (pe_op op_fdiv (pv 8) pe_int)))) pss_nil)))
      (pss_cons (ps_set (i := 9) sc_law.nd rfl (Or.inl rfl) (pe_op op_add (pv 7) (pe_op op_mod (pe_op op_fdiv (pv 3) pe_int) (pe_op op_sub pe_int (pv 7)))))
      (pss_cons (ps_if (PW.pt (pw_or (pt_not (pt_val (pe_call c__law_number_right.ok (hr.mono (by decide)) (by rfl) c__law_number_right.g c__law_number_right.kp c__law_number_right.b .nil pass0 (pa_cons (pv 5) (pa_cons (pv 7) pa_nil))))) (pw_or1 (pt_not (pt_val (pe_call c__law_number_right.ok (hr.mono (by decide)) (by rfl) c__law_number_right.g c__law_number_right.kp c__law_number_right.b .nil pass0 (pa_cons (pv 5) (pa_cons (pv 9) pa_nil)))))))) (pss_one (ps_ret pe_bl)) pss_nil)
      (pss_cons (ps_ifJ (PW.pt (pw_and (pt_cmpR op_gt (pv 7) pe_int (nomark _)) (pw_and1 (pt_not (pt_val (pe_call c__law_refused.ok (hr.mono (by decide)) (by rfl) c__law_refused.g c__law_refused.kp c__law_refused.b .nil pass0 (pa_cons (pv 5) (pa_cons (pe_op op_mod (pe_op op_fdiv (pv 3) pe_int) (pv 7)) pa_nil)))))))) (pss_one (ps_ret pe_bl)) pss_nil)
      (pss_cons (ps_if (pt_not (pt_val (pe_call c__law_refused.ok (hr.mono (by decide)) (by rfl) c__law_refused.g c__law_refused.kp c__law_refused.b .nil pass0 (pa_cons (pe_op op_add (pv 5) (pe_op op_pow pe_int pe_int)) (pa_cons (pv 9) pa_nil))))) (pss_one (ps_ret pe_bl)) pss_nil)
      (pss_cons (ps_if (PW.pt (pw_or (pt_not (pt_val (pe_call c__law_refused.ok (hr.mono (by decide)) (by rfl) c__law_refused.g c__law_refused.kp c__law_refused.b .nil pass0 (pa_cons (pe_op op_sub (pe_un un_neg pe_int) (pv 5)) (pa_cons (pv 9) pa_nil))))) (pw_or1 (pt_not (pt_val (pe_call c__law_number_right.ok (hr.mono (by decide)) (by rfl) c__law_number_right.g c__law_number_right.kp c__law_number_right.b .nil pass0 (pa_cons (pv 5) (pa_cons pe_int pa_nil)))))))) (pss_one (ps_ret pe_bl)) pss_nil)
      (pss_cons (ps_set (i := 10) sc_law.nd rfl (Or.inl rfl) (pe_callTy callk_tuple (by rfl) B.tuple_ boot_tuple (pa_cons (pe_lc (own := [("k", 11)]) (g := gName 11) (tt := tYes) rfl sc_law.nd (pi_range1 (by rfl) B.range_ (pa_cons (pe_op op_mod (pe_op op_fdiv (pv 3) pe_int) pe_int) pa_nil)) (blkOk_by (own := [("k", 11)]) (N := ["script", "turn", "cell", "value", "size", "number", "spare", "need", "left", "between", "octets", "k", "bits"]) (sc := (defScope s_law)) (by decide +kernel)) (fun _ _ _ _ _ => pg_name (i := 11) sc_law.nd rfl (Or.inl rfl)) (fun _ _ _ _ _ => pts_nil) (fun _ _ _ _ _ => (pe_op op_mod (pe_op op_add (pe_op op_fdiv (pv 3) (pe_op op_add (pv 11) pe_int)) (pe_op op_mul pe_int (pv 11))) pe_int))) pa_nil)))
      (pss_cons (ps_if (pt_not (pt_val (pe_call c__law_octets_right.ok (hr.mono (by decide)) (by rfl) c__law_octets_right.g c__law_octets_right.kp c__law_octets_right.b .nil pass0 (pa_cons (pv 10) pa_nil)))) (pss_one (ps_ret pe_bl)) pss_nil)
      (pss_cons (ps_set (i := 12) sc_law.nd rfl (Or.inl rfl) (pe_op op_cat (pe_call c_octet_bits.ok (hr.mono (by decide)) (by rfl) c_octet_bits.g c_octet_bits.kp c_octet_bits.b .nil pass0 (pa_cons (pv 10) pa_nil)) (pe_lc (own := [("spare", 6)]) (g := gName 6) (tt := tYes) rfl sc_law.nd (pi_range1 (by rfl) B.range_ (pa_cons (pe_op op_add pe_int (pe_op op_mod (pv 3) pe_int)) pa_nil)) (blkOk_by (own := [("spare", 6)]) (N := ["script", "turn", "cell", "value", "size", "number", "spare", "need", "left", "between", "octets", "k", "bits"]) (sc := (defScope s_law)) (by decide +kernel)) (fun _ _ _ _ _ => pg_name (i := 6) sc_law.nd rfl (Or.inl rfl)) (fun _ _ _ _ _ => pts_nil) (fun _ _ _ _ _ => (pe_op op_mod (pe_op op_fdiv (pv 3) pe_int) pe_int)))))
      (pss_one (ps_try_only (Wout := fun _ _ _ _ => False) rfl rfl ⟨rfl, by decide, Or.inl X_BadBits.gC⟩ takes0 (fun W pn xe tk _ => (pss_cons (ps_expr (pe_callS c_bits_octets.ok (hr.mono (by decide)) (by rfl) c_bits_octets.g c_bits_octets.kp c_bits_octets.b (fun σ => passAt tk σ) (by exact (pa_cons (pv 12) pa_nil))))
      (pss_one (ps_ret pe_bl)))) (fun a oe cls d pn _ _ => (pss_one (ps_set (i := 5) sc_law.nd rfl (Or.inl rfl) pe_int)))))))))))))))))))))
      (pss_one (ps_ret pe_bl)))), ?_⟩
    (try simp -dsimp only [↓Own.e_seq, ↓Own.e_cxK, ↓Own.e_wishK, ↓Own.e_noxK, ↓Own.e_asg, ↓Own.e_gName, ↓Own.e_var, Own.e_C, ↓Own.e_op, ↓Own.e_un, ↓Own.e_rI, ↓Own.e_rI0, ↓Own.e_rU, Own.e_CMul, Own.e_CDiv, Own.e_CPow, ↓Own.e_rEq, ↓Own.e_rNe, Own.e_scal_int, Own.e_scal_str, Own.e_scal_bl, ↓Own.e_ifS, ↓Own.e_test, ↓Own.e_tB, ↓Own.e_ret, ↓Own.e_retN, ↓Own.e_next, ↓Own.e_brk, ↓Own.e_cnt, ↓Own.e_cons, ↓Own.e_nil, ↓Own.e_lst, ↓Own.e_tup, ↓Own.e_drop, ↓Own.e_and, ↓Own.e_or, ↓Own.e_not, ↓Own.e_andV, ↓Own.e_orV, ↓Own.e_notV, ↓Own.e_if, ↓Own.e_chain, Own.e_CB, ↓Own.e_call, ↓Own.e_rIxL, ↓Own.e_rIxT, ↓Own.e_rIxK, ↓Own.e_rIxKT, ↓Own.e_rSlK, ↓Own.e_rLenK, ↓Own.e_rListK, ↓Own.e_rTupleK, ↓Own.e_rSumK, ↓Own.e_rDivK, ↓Own.e_rNeK, ↓Own.e_rEqK, ↓Own.e_rNeKT, ↓Own.e_rEqKT, ↓Own.e_rIsiK, ↓Own.e_rSlS, ↓Own.e_rIxS, Own.tyK_int, Own.tyK_bl, Own.tyK_str, Own.tyK_non, Own.tyK_ref, Own.tyO_lst, Own.tyO_tup, Own.kit1, Own.kit2, Own.kit3, Own.kit4, Own.kit5, Own.kit6, Own.kit7, Own.kit8, Own.kit9, Own.hlst_inj, Own.htup_inj, Own.vty_inj, Own.ivs_inj, Own.bz_inj, Own.ivs_len, Own.bz_len, Own.ivs_app, Own.ivs_set, Own.ivs_bset, Own.bz_app, Own.ivs_snoc, Own.bz_snoc, Own.atI_ints, Own.atI_bz, Own.isLst_some, Own.ty_lst, L2.upd_same, L2.upd_upd, Own.b2_xor, Own.b2_mod2, Own.b2_mod3, Own.b2_mod4, Own.b2_flip, Option.map_some, Option.isSome_some, ne_eq, eq_self, not_false_eq_true, not_true_eq_false, String.reduceEq, ↓Own.e_BM, ↓Own.e_BM0, ↓Own.e_rAppend, ↓Own.e_rCat, ↓Own.e_rRep, ↓Own.e_sl, ↓Own.e_noPart, ↓Own.e_part, ↓Own.e_rSlL, ↓Own.e_gSub, ↓Own.e_rSetL, ↓Own.e_bits, ↓Own.e_yes, ↓Own.e_gTup, ↓Own.e_gNil, ↓Own.e_gCons, ↓Own.e_aug, ↓Own.e_ipI, ↓Own.e_for, ↓Own.e_lc, ↓Own.e_iList, ↓Own.e_iTup, ↓Own.e_iRng1, ↓Own.e_iRng2, ↓Own.e_iRng3, ↓Own.e_iAny, ↓Own.e_rListA, ↓Own.e_rLenA, ↓Own.e_rIsiX, ↓Own.e_rIsB, ↓Own.e_revL, ↓Own.e_rNotB, ↓Own.e_iEnum, ↓Own.e_iZip, L2.start, L2.wipe, List.map_cons, List.map_nil, List.replicate_succ, List.replicate_zero, List.length_cons, List.length_nil, Nat.reduceAdd, Nat.reduceSub, Nat.zero_add, List.getElem?_cons_zero, List.getElem?_cons_succ, List.set_cons_zero, List.set_cons_succ, Option.some.injEq, L2.V.int.injEq, L2.V.bl.injEq, L2.V.str.injEq, L2.V.ref.injEq, List.cons.injEq, List.cons_append, List.nil_append, List.append_nil, exists_eq_left', exists_eq_left, exists_and_left, exists_and_right, exists_eq, and_true, true_and, reduceCtorEq, false_and, and_false, exists_false, or_false, false_or, true_or, or_true, decide_eq_true_eq, Bool.not_true, Bool.not_false, Bool.not_eq_true', Bool.not_eq_false', decide_eq_false_iff_not, ite_not, if_true, if_false, ite_true, ite_false, Bool.false_eq_true, if_pos trivial, decide_true, decide_false, PySem.sizeLine_eq, eq_self, Int.reduceNeg, Int.reducePow, Int.reduceLT, Int.reduceLE, Int.reduceToNat, Nat.reduceLeDiff, Int.reduceSub, Int.reduceAdd, Int.reduceMul, Int.reduceDiv, Int.reduceMod, Int.reduceEq, Nat.reduceMul, Nat.reduceEqDiff, ↓reduceIte, ↓Own.e_raiseO, ↓Own.e_callS, ↓Own.e_what, Own.hxd_inj])
    refine new_of fun p1 H1 np1 sm1 hp1 => ?_
    have hp1' : H1 p1 = some (.lst (ivs (bz []))) := hp1
    (try simp -dsimp only [↓Own.e_seq, ↓Own.e_cxK, ↓Own.e_wishK, ↓Own.e_noxK, ↓Own.e_asg, ↓Own.e_gName, ↓Own.e_var, Own.e_C, ↓Own.e_op, ↓Own.e_un, ↓Own.e_rI, ↓Own.e_rI0, ↓Own.e_rU, Own.e_CMul, Own.e_CDiv, Own.e_CPow, ↓Own.e_rEq, ↓Own.e_rNe, Own.e_scal_int, Own.e_scal_str, Own.e_scal_bl, ↓Own.e_ifS, ↓Own.e_test, ↓Own.e_tB, ↓Own.e_ret, ↓Own.e_retN, ↓Own.e_next, ↓Own.e_brk, ↓Own.e_cnt, ↓Own.e_cons, ↓Own.e_nil, ↓Own.e_lst, ↓Own.e_tup, ↓Own.e_drop, ↓Own.e_and, ↓Own.e_or, ↓Own.e_not, ↓Own.e_andV, ↓Own.e_orV, ↓Own.e_notV, ↓Own.e_if, ↓Own.e_chain, Own.e_CB, ↓Own.e_call, ↓Own.e_rIxL, ↓Own.e_rIxT, ↓Own.e_rIxK, ↓Own.e_rIxKT, ↓Own.e_rSlK, ↓Own.e_rLenK, ↓Own.e_rListK, ↓Own.e_rTupleK, ↓Own.e_rSumK, ↓Own.e_rDivK, ↓Own.e_rNeK, ↓Own.e_rEqK, ↓Own.e_rNeKT, ↓Own.e_rEqKT, ↓Own.e_rIsiK, ↓Own.e_rSlS, ↓Own.e_rIxS, Own.tyK_int, Own.tyK_bl, Own.tyK_str, Own.tyK_non, Own.tyK_ref, Own.tyO_lst, Own.tyO_tup, Own.kit1, Own.kit2, Own.kit3, Own.kit4, Own.kit5, Own.kit6, Own.kit7, Own.kit8, Own.kit9, Own.hlst_inj, Own.htup_inj, Own.vty_inj, Own.ivs_inj, Own.bz_inj, Own.ivs_len, Own.bz_len, Own.ivs_app, Own.ivs_set, Own.ivs_bset, Own.bz_app, Own.ivs_snoc, Own.bz_snoc, Own.atI_ints, Own.atI_bz, Own.isLst_some, Own.ty_lst, L2.upd_same, L2.upd_upd, Own.b2_xor, Own.b2_mod2, Own.b2_mod3, Own.b2_mod4, Own.b2_flip, Option.map_some, Option.isSome_some, ne_eq, eq_self, not_false_eq_true, not_true_eq_false, String.reduceEq, ↓Own.e_BM, ↓Own.e_BM0, ↓Own.e_rAppend, ↓Own.e_rCat, ↓Own.e_rRep, ↓Own.e_sl, ↓Own.e_noPart, ↓Own.e_part, ↓Own.e_rSlL, ↓Own.e_gSub, ↓Own.e_rSetL, ↓Own.e_bits, ↓Own.e_yes, ↓Own.e_gTup, ↓Own.e_gNil, ↓Own.e_gCons, ↓Own.e_aug, ↓Own.e_ipI, ↓Own.e_for, ↓Own.e_lc, ↓Own.e_iList, ↓Own.e_iTup, ↓Own.e_iRng1, ↓Own.e_iRng2, ↓Own.e_iRng3, ↓Own.e_iAny, ↓Own.e_rListA, ↓Own.e_rLenA, ↓Own.e_rIsiX, ↓Own.e_rIsB, ↓Own.e_revL, ↓Own.e_rNotB, ↓Own.e_iEnum, ↓Own.e_iZip, L2.start, L2.wipe, List.map_cons, List.map_nil, List.replicate_succ, List.replicate_zero, List.length_cons, List.length_nil, Nat.reduceAdd, Nat.reduceSub, Nat.zero_add, List.getElem?_cons_zero, List.getElem?_cons_succ, List.set_cons_zero, List.set_cons_succ, Option.some.injEq, L2.V.int.injEq, L2.V.bl.injEq, L2.V.str.injEq, L2.V.ref.injEq, List.cons.injEq, List.cons_append, List.nil_append, List.append_nil, exists_eq_left', exists_eq_left, exists_and_left, exists_and_right, exists_eq, and_true, true_and, reduceCtorEq, false_and, and_false, exists_false, or_false, false_or, true_or, or_true, decide_eq_true_eq, Bool.not_true, Bool.not_false, Bool.not_eq_true', Bool.not_eq_false', decide_eq_false_iff_not, ite_not, if_true, if_false, ite_true, ite_false, Bool.false_eq_true, if_pos trivial, decide_true, decide_false, PySem.sizeLine_eq, eq_self, Int.reduceNeg, Int.reducePow, Int.reduceLT, Int.reduceLE, Int.reduceToNat, Nat.reduceLeDiff, Int.reduceSub, Int.reduceAdd, Int.reduceMul, Int.reduceDiv, Int.reduceMod, Int.reduceEq, Nat.reduceMul, Nat.reduceEqDiff, ↓reduceIte, ↓Own.e_raiseO, ↓Own.e_callS, ↓Own.e_what, Own.hxd_inj])
    refine call_to ⟨_, [], rfl, .inl (.of hp1'), ?_⟩
    have n0 : ((nu [] : Nat) : Int) = 0 := rfl
    (try simp -dsimp only [↓Own.e_seq, ↓Own.e_cxK, ↓Own.e_wishK, ↓Own.e_noxK, ↓Own.e_asg, ↓Own.e_gName, ↓Own.e_var, Own.e_C, ↓Own.e_op, ↓Own.e_un, ↓Own.e_rI, ↓Own.e_rI0, ↓Own.e_rU, Own.e_CMul, Own.e_CDiv, Own.e_CPow, ↓Own.e_rEq, ↓Own.e_rNe, Own.e_scal_int, Own.e_scal_str, Own.e_scal_bl, ↓Own.e_ifS, ↓Own.e_test, ↓Own.e_tB, ↓Own.e_ret, ↓Own.e_retN, ↓Own.e_next, ↓Own.e_brk, ↓Own.e_cnt, ↓Own.e_cons, ↓Own.e_nil, ↓Own.e_lst, ↓Own.e_tup, ↓Own.e_drop, ↓Own.e_and, ↓Own.e_or, ↓Own.e_not, ↓Own.e_andV, ↓Own.e_orV, ↓Own.e_notV, ↓Own.e_if, ↓Own.e_chain, Own.e_CB, ↓Own.e_call, ↓Own.e_rIxL, ↓Own.e_rIxT, ↓Own.e_rIxK, ↓Own.e_rIxKT, ↓Own.e_rSlK, ↓Own.e_rLenK, ↓Own.e_rListK, ↓Own.e_rTupleK, ↓Own.e_rSumK, ↓Own.e_rDivK, ↓Own.e_rNeK, ↓Own.e_rEqK, ↓Own.e_rNeKT, ↓Own.e_rEqKT, ↓Own.e_rIsiK, ↓Own.e_rSlS, ↓Own.e_rIxS, Own.tyK_int, Own.tyK_bl, Own.tyK_str, Own.tyK_non, Own.tyK_ref, Own.tyO_lst, Own.tyO_tup, Own.kit1, Own.kit2, Own.kit3, Own.kit4, Own.kit5, Own.kit6, Own.kit7, Own.kit8, Own.kit9, Own.hlst_inj, Own.htup_inj, Own.vty_inj, Own.ivs_inj, Own.bz_inj, Own.ivs_len, Own.bz_len, Own.ivs_app, Own.ivs_set, Own.ivs_bset, Own.bz_app, Own.ivs_snoc, Own.bz_snoc, Own.atI_ints, Own.atI_bz, Own.isLst_some, Own.ty_lst, L2.upd_same, L2.upd_upd, Own.b2_xor, Own.b2_mod2, Own.b2_mod3, Own.b2_mod4, Own.b2_flip, Option.map_some, Option.isSome_some, ne_eq, eq_self, not_false_eq_true, not_true_eq_false, String.reduceEq, ↓Own.e_BM, ↓Own.e_BM0, ↓Own.e_rAppend, ↓Own.e_rCat, ↓Own.e_rRep, ↓Own.e_sl, ↓Own.e_noPart, ↓Own.e_part, ↓Own.e_rSlL, ↓Own.e_gSub, ↓Own.e_rSetL, ↓Own.e_bits, ↓Own.e_yes, ↓Own.e_gTup, ↓Own.e_gNil, ↓Own.e_gCons, ↓Own.e_aug, ↓Own.e_ipI, ↓Own.e_for, ↓Own.e_lc, ↓Own.e_iList, ↓Own.e_iTup, ↓Own.e_iRng1, ↓Own.e_iRng2, ↓Own.e_iRng3, ↓Own.e_iAny, ↓Own.e_rListA, ↓Own.e_rLenA, ↓Own.e_rIsiX, ↓Own.e_rIsB, ↓Own.e_revL, ↓Own.e_rNotB, ↓Own.e_iEnum, ↓Own.e_iZip, L2.start, L2.wipe, List.map_cons, List.map_nil, List.replicate_succ, List.replicate_zero, List.length_cons, List.length_nil, Nat.reduceAdd, Nat.reduceSub, Nat.zero_add, List.getElem?_cons_zero, List.getElem?_cons_succ, List.set_cons_zero, List.set_cons_succ, Option.some.injEq, L2.V.int.injEq, L2.V.bl.injEq, L2.V.str.injEq, L2.V.ref.injEq, List.cons.injEq, List.cons_append, List.nil_append, List.append_nil, exists_eq_left', exists_eq_left, exists_and_left, exists_and_right, exists_eq, and_true, true_and, reduceCtorEq, false_and, and_false, exists_false, or_false, false_or, true_or, or_true, decide_eq_true_eq, Bool.not_true, Bool.not_false, Bool.not_eq_true', Bool.not_eq_false', decide_eq_false_iff_not, ite_not, if_true, if_false, ite_true, ite_false, Bool.false_eq_true, if_pos trivial, decide_true, decide_false, PySem.sizeLine_eq, eq_self, Int.reduceNeg, Int.reducePow, Int.reduceLT, Int.reduceLE, Int.reduceToNat, Nat.reduceLeDiff, Int.reduceSub, Int.reduceAdd, Int.reduceMul, Int.reduceDiv, Int.reduceMod, Int.reduceEq, Nat.reduceMul, Nat.reduceEqDiff, ↓reduceIte, ↓Own.e_raiseO, ↓Own.e_callS, ↓Own.e_what, Own.hxd_inj, n0])
    refine call_to ⟨_, _, rfl, by omega, by omega, fun H2 s2 => ?_⟩
    (try simp -dsimp only [↓Own.e_seq, ↓Own.e_cxK, ↓Own.e_wishK, ↓Own.e_noxK, ↓Own.e_asg, ↓Own.e_gName, ↓Own.e_var, Own.e_C, ↓Own.e_op, ↓Own.e_un, ↓Own.e_rI, ↓Own.e_rI0, ↓Own.e_rU, Own.e_CMul, Own.e_CDiv, Own.e_CPow, ↓Own.e_rEq, ↓Own.e_rNe, Own.e_scal_int, Own.e_scal_str, Own.e_scal_bl, ↓Own.e_ifS, ↓Own.e_test, ↓Own.e_tB, ↓Own.e_ret, ↓Own.e_retN, ↓Own.e_next, ↓Own.e_brk, ↓Own.e_cnt, ↓Own.e_cons, ↓Own.e_nil, ↓Own.e_lst, ↓Own.e_tup, ↓Own.e_drop, ↓Own.e_and, ↓Own.e_or, ↓Own.e_not, ↓Own.e_andV, ↓Own.e_orV, ↓Own.e_notV, ↓Own.e_if, ↓Own.e_chain, Own.e_CB, ↓Own.e_call, ↓Own.e_rIxL, ↓Own.e_rIxT, ↓Own.e_rIxK, ↓Own.e_rIxKT, ↓Own.e_rSlK, ↓Own.e_rLenK, ↓Own.e_rListK, ↓Own.e_rTupleK, ↓Own.e_rSumK, ↓Own.e_rDivK, ↓Own.e_rNeK, ↓Own.e_rEqK, ↓Own.e_rNeKT, ↓Own.e_rEqKT, ↓Own.e_rIsiK, ↓Own.e_rSlS, ↓Own.e_rIxS, Own.tyK_int, Own.tyK_bl, Own.tyK_str, Own.tyK_non, Own.tyK_ref, Own.tyO_lst, Own.tyO_tup, Own.kit1, Own.kit2, Own.kit3, Own.kit4, Own.kit5, Own.kit6, Own.kit7, Own.kit8, Own.kit9, Own.hlst_inj, Own.htup_inj, Own.vty_inj, Own.ivs_inj, Own.bz_inj, Own.ivs_len, Own.bz_len, Own.ivs_app, Own.ivs_set, Own.ivs_bset, Own.bz_app, Own.ivs_snoc, Own.bz_snoc, Own.atI_ints, Own.atI_bz, Own.isLst_some, Own.ty_lst, L2.upd_same, L2.upd_upd, Own.b2_xor, Own.b2_mod2, Own.b2_mod3, Own.b2_mod4, Own.b2_flip, Option.map_some, Option.isSome_some, ne_eq, eq_self, not_false_eq_true, not_true_eq_false, String.reduceEq, ↓Own.e_BM, ↓Own.e_BM0, ↓Own.e_rAppend, ↓Own.e_rCat, ↓Own.e_rRep, ↓Own.e_sl, ↓Own.e_noPart, ↓Own.e_part, ↓Own.e_rSlL, ↓Own.e_gSub, ↓Own.e_rSetL, ↓Own.e_bits, ↓Own.e_yes, ↓Own.e_gTup, ↓Own.e_gNil, ↓Own.e_gCons, ↓Own.e_aug, ↓Own.e_ipI, ↓Own.e_for, ↓Own.e_lc, ↓Own.e_iList, ↓Own.e_iTup, ↓Own.e_iRng1, ↓Own.e_iRng2, ↓Own.e_iRng3, ↓Own.e_iAny, ↓Own.e_rListA, ↓Own.e_rLenA, ↓Own.e_rIsiX, ↓Own.e_rIsB, ↓Own.e_revL, ↓Own.e_rNotB, ↓Own.e_iEnum, ↓Own.e_iZip, L2.start, L2.wipe, List.map_cons, List.map_nil, List.replicate_succ, List.replicate_zero, List.length_cons, List.length_nil, Nat.reduceAdd, Nat.reduceSub, Nat.zero_add, List.getElem?_cons_zero, List.getElem?_cons_succ, List.set_cons_zero, List.set_cons_succ, Option.some.injEq, L2.V.int.injEq, L2.V.bl.injEq, L2.V.str.injEq, L2.V.ref.injEq, List.cons.injEq, List.cons_append, List.nil_append, List.append_nil, exists_eq_left', exists_eq_left, exists_and_left, exists_and_right, exists_eq, and_true, true_and, reduceCtorEq, false_and, and_false, exists_false, or_false, false_or, true_or, or_true, decide_eq_true_eq, Bool.not_true, Bool.not_false, Bool.not_eq_true', Bool.not_eq_false', decide_eq_false_iff_not, ite_not, if_true, if_false, ite_true, ite_false, Bool.false_eq_true, if_pos trivial, decide_true, decide_false, PySem.sizeLine_eq, eq_self, Int.reduceNeg, Int.reducePow, Int.reduceLT, Int.reduceLE, Int.reduceToNat, Nat.reduceLeDiff, Int.reduceSub, Int.reduceAdd, Int.reduceMul, Int.reduceDiv, Int.reduceMod, Int.reduceEq, Nat.reduceMul, Nat.reduceEqDiff, ↓reduceIte, ↓Own.e_raiseO, ↓Own.e_callS, ↓Own.e_what, Own.hxd_inj])
    refine call_to ⟨_, _, rfl, by omega, by decide, fun H3 s3 => ?_⟩
    (try simp -dsimp only [↓Own.e_seq, ↓Own.e_cxK, ↓Own.e_wishK, ↓Own.e_noxK, ↓Own.e_asg, ↓Own.e_gName, ↓Own.e_var, Own.e_C, ↓Own.e_op, ↓Own.e_un, ↓Own.e_rI, ↓Own.e_rI0, ↓Own.e_rU, Own.e_CMul, Own.e_CDiv, Own.e_CPow, ↓Own.e_rEq, ↓Own.e_rNe, Own.e_scal_int, Own.e_scal_str, Own.e_scal_bl, ↓Own.e_ifS, ↓Own.e_test, ↓Own.e_tB, ↓Own.e_ret, ↓Own.e_retN, ↓Own.e_next, ↓Own.e_brk, ↓Own.e_cnt, ↓Own.e_cons, ↓Own.e_nil, ↓Own.e_lst, ↓Own.e_tup, ↓Own.e_drop, ↓Own.e_and, ↓Own.e_or, ↓Own.e_not, ↓Own.e_andV, ↓Own.e_orV, ↓Own.e_notV, ↓Own.e_if, ↓Own.e_chain, Own.e_CB, ↓Own.e_call, ↓Own.e_rIxL, ↓Own.e_rIxT, ↓Own.e_rIxK, ↓Own.e_rIxKT, ↓Own.e_rSlK, ↓Own.e_rLenK, ↓Own.e_rListK, ↓Own.e_rTupleK, ↓Own.e_rSumK, ↓Own.e_rDivK, ↓Own.e_rNeK, ↓Own.e_rEqK, ↓Own.e_rNeKT, ↓Own.e_rEqKT, ↓Own.e_rIsiK, ↓Own.e_rSlS, ↓Own.e_rIxS, Own.tyK_int, Own.tyK_bl, Own.tyK_str, Own.tyK_non, Own.tyK_ref, Own.tyO_lst, Own.tyO_tup, Own.kit1, Own.kit2, Own.kit3, Own.kit4, Own.kit5, Own.kit6, Own.kit7, Own.kit8, Own.kit9, Own.hlst_inj, Own.htup_inj, Own.vty_inj, Own.ivs_inj, Own.bz_inj, Own.ivs_len, Own.bz_len, Own.ivs_app, Own.ivs_set, Own.ivs_bset, Own.bz_app, Own.ivs_snoc, Own.bz_snoc, Own.atI_ints, Own.atI_bz, Own.isLst_some, Own.ty_lst, L2.upd_same, L2.upd_upd, Own.b2_xor, Own.b2_mod2, Own.b2_mod3, Own.b2_mod4, Own.b2_flip, Option.map_some, Option.isSome_some, ne_eq, eq_self, not_false_eq_true, not_true_eq_false, String.reduceEq, ↓Own.e_BM, ↓Own.e_BM0, ↓Own.e_rAppend, ↓Own.e_rCat, ↓Own.e_rRep, ↓Own.e_sl, ↓Own.e_noPart, ↓Own.e_part, ↓Own.e_rSlL, ↓Own.e_gSub, ↓Own.e_rSetL, ↓Own.e_bits, ↓Own.e_yes, ↓Own.e_gTup, ↓Own.e_gNil, ↓Own.e_gCons, ↓Own.e_aug, ↓Own.e_ipI, ↓Own.e_for, ↓Own.e_lc, ↓Own.e_iList, ↓Own.e_iTup, ↓Own.e_iRng1, ↓Own.e_iRng2, ↓Own.e_iRng3, ↓Own.e_iAny, ↓Own.e_rListA, ↓Own.e_rLenA, ↓Own.e_rIsiX, ↓Own.e_rIsB, ↓Own.e_revL, ↓Own.e_rNotB, ↓Own.e_iEnum, ↓Own.e_iZip, L2.start, L2.wipe, List.map_cons, List.map_nil, List.replicate_succ, List.replicate_zero, List.length_cons, List.length_nil, Nat.reduceAdd, Nat.reduceSub, Nat.zero_add, List.getElem?_cons_zero, List.getElem?_cons_succ, List.set_cons_zero, List.set_cons_succ, Option.some.injEq, L2.V.int.injEq, L2.V.bl.injEq, L2.V.str.injEq, L2.V.ref.injEq, List.cons.injEq, List.cons_append, List.nil_append, List.append_nil, exists_eq_left', exists_eq_left, exists_and_left, exists_and_right, exists_eq, and_true, true_and, reduceCtorEq, false_and, and_false, exists_false, or_false, false_or, true_or, or_true, decide_eq_true_eq, Bool.not_true, Bool.not_false, Bool.not_eq_true', Bool.not_eq_false', decide_eq_false_iff_not, ite_not, if_true, if_false, ite_true, ite_false, Bool.false_eq_true, if_pos trivial, decide_true, decide_false, PySem.sizeLine_eq, eq_self, Int.reduceNeg, Int.reducePow, Int.reduceLT, Int.reduceLE, Int.reduceToNat, Nat.reduceLeDiff, Int.reduceSub, Int.reduceAdd, Int.reduceMul, Int.reduceDiv, Int.reduceMod, Int.reduceEq, Nat.reduceMul, Nat.reduceEqDiff, ↓reduceIte, ↓Own.e_raiseO, ↓Own.e_callS, ↓Own.e_what, Own.hxd_inj])
    have t3 := (sm1.trans s2).trans s3
    refine ⟨_, t3.seq hS, new_of fun p4 H4 np4 sm4 hp4 => ?_⟩
    (try simp -dsimp only [↓Own.e_seq, ↓Own.e_cxK, ↓Own.e_wishK, ↓Own.e_noxK, ↓Own.e_asg, ↓Own.e_gName, ↓Own.e_var, Own.e_C, ↓Own.e_op, ↓Own.e_un, ↓Own.e_rI, ↓Own.e_rI0, ↓Own.e_rU, Own.e_CMul, Own.e_CDiv, Own.e_CPow, ↓Own.e_rEq, ↓Own.e_rNe, Own.e_scal_int, Own.e_scal_str, Own.e_scal_bl, ↓Own.e_ifS, ↓Own.e_test, ↓Own.e_tB, ↓Own.e_ret, ↓Own.e_retN, ↓Own.e_next, ↓Own.e_brk, ↓Own.e_cnt, ↓Own.e_cons, ↓Own.e_nil, ↓Own.e_lst, ↓Own.e_tup, ↓Own.e_drop, ↓Own.e_and, ↓Own.e_or, ↓Own.e_not, ↓Own.e_andV, ↓Own.e_orV, ↓Own.e_notV, ↓Own.e_if, ↓Own.e_chain, Own.e_CB, ↓Own.e_call, ↓Own.e_rIxL, ↓Own.e_rIxT, ↓Own.e_rIxK, ↓Own.e_rIxKT, ↓Own.e_rSlK, ↓Own.e_rLenK, ↓Own.e_rListK, ↓Own.e_rTupleK, ↓Own.e_rSumK, ↓Own.e_rDivK, ↓Own.e_rNeK, ↓Own.e_rEqK, ↓Own.e_rNeKT, ↓Own.e_rEqKT, ↓Own.e_rIsiK, ↓Own.e_rSlS, ↓Own.e_rIxS, Own.tyK_int, Own.tyK_bl, Own.tyK_str, Own.tyK_non, Own.tyK_ref, Own.tyO_lst, Own.tyO_tup, Own.kit1, Own.kit2, Own.kit3, Own.kit4, Own.kit5, Own.kit6, Own.kit7, Own.kit8, Own.kit9, Own.hlst_inj, Own.htup_inj, Own.vty_inj, Own.ivs_inj, Own.bz_inj, Own.ivs_len, Own.bz_len, Own.ivs_app, Own.ivs_set, Own.ivs_bset, Own.bz_app, Own.ivs_snoc, Own.bz_snoc, Own.atI_ints, Own.atI_bz, Own.isLst_some, Own.ty_lst, L2.upd_same, L2.upd_upd, Own.b2_xor, Own.b2_mod2, Own.b2_mod3, Own.b2_mod4, Own.b2_flip, Option.map_some, Option.isSome_some, ne_eq, eq_self, not_false_eq_true, not_true_eq_false, String.reduceEq, ↓Own.e_BM, ↓Own.e_BM0, ↓Own.e_rAppend, ↓Own.e_rCat, ↓Own.e_rRep, ↓Own.e_sl, ↓Own.e_noPart, ↓Own.e_part, ↓Own.e_rSlL, ↓Own.e_gSub, ↓Own.e_rSetL, ↓Own.e_bits, ↓Own.e_yes, ↓Own.e_gTup, ↓Own.e_gNil, ↓Own.e_gCons, ↓Own.e_aug, ↓Own.e_ipI, ↓Own.e_for, ↓Own.e_lc, ↓Own.e_iList, ↓Own.e_iTup, ↓Own.e_iRng1, ↓Own.e_iRng2, ↓Own.e_iRng3, ↓Own.e_iAny, ↓Own.e_rListA, ↓Own.e_rLenA, ↓Own.e_rIsiX, ↓Own.e_rIsB, ↓Own.e_revL, ↓Own.e_rNotB, ↓Own.e_iEnum, ↓Own.e_iZip, L2.start, L2.wipe, List.map_cons, List.map_nil, List.replicate_succ, List.replicate_zero, List.length_cons, List.length_nil, Nat.reduceAdd, Nat.reduceSub, Nat.zero_add, List.getElem?_cons_zero, List.getElem?_cons_succ, List.set_cons_zero, List.set_cons_succ, Option.some.injEq, L2.V.int.injEq, L2.V.bl.injEq, L2.V.str.injEq, L2.V.ref.injEq, List.cons.injEq, List.cons_append, List.nil_append, List.append_nil, exists_eq_left', exists_eq_left, exists_and_left, exists_and_right, exists_eq, and_true, true_and, reduceCtorEq, false_and, and_false, exists_false, or_false, false_or, true_or, or_true, decide_eq_true_eq, Bool.not_true, Bool.not_false, Bool.not_eq_true', Bool.not_eq_false', decide_eq_false_iff_not, ite_not, if_true, if_false, ite_true, ite_false, Bool.false_eq_true, if_pos trivial, decide_true, decide_false, PySem.sizeLine_eq, eq_self, Int.reduceNeg, Int.reducePow, Int.reduceLT, Int.reduceLE, Int.reduceToNat, Nat.reduceLeDiff, Int.reduceSub, Int.reduceAdd, Int.reduceMul, Int.reduceDiv, Int.reduceMod, Int.reduceEq, Nat.reduceMul, Nat.reduceEqDiff, ↓reduceIte, ↓Own.e_raiseO, ↓Own.e_callS, ↓Own.e_what, Own.hxd_inj])
    have e4 : cutV (ns.map V.int) none (some 40) = ivs (ns.take 40) := by rw [cut_to _ (by decide)]; exact ivs_take
    rw [e4] at hp4
    refine ⟨⟨_, .of hp4⟩, loop_enum rfl (fun i σ H' => ∃ y1 y2 y3 y4 y5 y6 y7 y8 y9 y10 y11 y12 : Option V, σ = [some (.ref a), y1, y2, y3, y4, y5, y6, y7, y8, y9, y10, y11, y12] ∧ Same H4 H') ⟨none, none, none, none, none, none, none, none, none, none, none, none, rfl, Same.refl _⟩ (fun i σ H' ⟨_, _, _, _, _, _, _, _, _, _, _, _, _, sm⟩ => sm _ _ hp4) ?_ ?_⟩
    · rintro i z σ H' H5 hz hi ⟨y1, y2, y3, y4, y5, y6, y7, y8, y9, y10, y11, y12, rfl, smx⟩ smy
      have sm5 : Same H4 H5 := smx.trans smy
      (try simp -dsimp only [↓Own.e_seq, ↓Own.e_cxK, ↓Own.e_wishK, ↓Own.e_noxK, ↓Own.e_asg, ↓Own.e_gName, ↓Own.e_var, Own.e_C, ↓Own.e_op, ↓Own.e_un, ↓Own.e_rI, ↓Own.e_rI0, ↓Own.e_rU, Own.e_CMul, Own.e_CDiv, Own.e_CPow, ↓Own.e_rEq, ↓Own.e_rNe, Own.e_scal_int, Own.e_scal_str, Own.e_scal_bl, ↓Own.e_ifS, ↓Own.e_test, ↓Own.e_tB, ↓Own.e_ret, ↓Own.e_retN, ↓Own.e_next, ↓Own.e_brk, ↓Own.e_cnt, ↓Own.e_cons, ↓Own.e_nil, ↓Own.e_lst, ↓Own.e_tup, ↓Own.e_drop, ↓Own.e_and, ↓Own.e_or, ↓Own.e_not, ↓Own.e_andV, ↓Own.e_orV, ↓Own.e_notV, ↓Own.e_if, ↓Own.e_chain, Own.e_CB, ↓Own.e_call, ↓Own.e_rIxL, ↓Own.e_rIxT, ↓Own.e_rIxK, ↓Own.e_rIxKT, ↓Own.e_rSlK, ↓Own.e_rLenK, ↓Own.e_rListK, ↓Own.e_rTupleK, ↓Own.e_rSumK, ↓Own.e_rDivK, ↓Own.e_rNeK, ↓Own.e_rEqK, ↓Own.e_rNeKT, ↓Own.e_rEqKT, ↓Own.e_rIsiK, ↓Own.e_rSlS, ↓Own.e_rIxS, Own.tyK_int, Own.tyK_bl, Own.tyK_str, Own.tyK_non, Own.tyK_ref, Own.tyO_lst, Own.tyO_tup, Own.kit1, Own.kit2, Own.kit3, Own.kit4, Own.kit5, Own.kit6, Own.kit7, Own.kit8, Own.kit9, Own.hlst_inj, Own.htup_inj, Own.vty_inj, Own.ivs_inj, Own.bz_inj, Own.ivs_len, Own.bz_len, Own.ivs_app, Own.ivs_set, Own.ivs_bset, Own.bz_app, Own.ivs_snoc, Own.bz_snoc, Own.atI_ints, Own.atI_bz, Own.isLst_some, Own.ty_lst, L2.upd_same, L2.upd_upd, Own.b2_xor, Own.b2_mod2, Own.b2_mod3, Own.b2_mod4, Own.b2_flip, Option.map_some, Option.isSome_some, ne_eq, eq_self, not_false_eq_true, not_true_eq_false, String.reduceEq, ↓Own.e_BM, ↓Own.e_BM0, ↓Own.e_rAppend, ↓Own.e_rCat, ↓Own.e_rRep, ↓Own.e_sl, ↓Own.e_noPart, ↓Own.e_part, ↓Own.e_rSlL, ↓Own.e_gSub, ↓Own.e_rSetL, ↓Own.e_bits, ↓Own.e_yes, ↓Own.e_gTup, ↓Own.e_gNil, ↓Own.e_gCons, ↓Own.e_aug, ↓Own.e_ipI, ↓Own.e_for, ↓Own.e_lc, ↓Own.e_iList, ↓Own.e_iTup, ↓Own.e_iRng1, ↓Own.e_iRng2, ↓Own.e_iRng3, ↓Own.e_iAny, ↓Own.e_rListA, ↓Own.e_rLenA, ↓Own.e_rIsiX, ↓Own.e_rIsB, ↓Own.e_revL, ↓Own.e_rNotB, ↓Own.e_iEnum, ↓Own.e_iZip, L2.start, L2.wipe, List.map_cons, List.map_nil, List.replicate_succ, List.replicate_zero, List.length_cons, List.length_nil, Nat.reduceAdd, Nat.reduceSub, Nat.zero_add, List.getElem?_cons_zero, List.getElem?_cons_succ, List.set_cons_zero, List.set_cons_succ, Option.some.injEq, L2.V.int.injEq, L2.V.bl.injEq, L2.V.str.injEq, L2.V.ref.injEq, List.cons.injEq, List.cons_append, List.nil_append, List.append_nil, exists_eq_left', exists_eq_left, exists_and_left, exists_and_right, exists_eq, and_true, true_and, reduceCtorEq, false_and, and_false, exists_false, or_false, false_or, true_or, or_true, decide_eq_true_eq, Bool.not_true, Bool.not_false, Bool.not_eq_true', Bool.not_eq_false', decide_eq_false_iff_not, ite_not, if_true, if_false, ite_true, ite_false, Bool.false_eq_true, if_pos trivial, decide_true, decide_false, PySem.sizeLine_eq, eq_self, Int.reduceNeg, Int.reducePow, Int.reduceLT, Int.reduceLE, Int.reduceToNat, Nat.reduceLeDiff, Int.reduceSub, Int.reduceAdd, Int.reduceMul, Int.reduceDiv, Int.reduceMod, Int.reduceEq, Nat.reduceMul, Nat.reduceEqDiff, ↓reduceIte, ↓Own.e_raiseO, ↓Own.e_callS, ↓Own.e_what, Own.hxd_inj])
      refine call_to ⟨_, _, rfl, fun v hv => ?_⟩
      (try simp -dsimp only [↓Own.e_seq, ↓Own.e_cxK, ↓Own.e_wishK, ↓Own.e_noxK, ↓Own.e_asg, ↓Own.e_gName, ↓Own.e_var, Own.e_C, ↓Own.e_op, ↓Own.e_un, ↓Own.e_rI, ↓Own.e_rI0, ↓Own.e_rU, Own.e_CMul, Own.e_CDiv, Own.e_CPow, ↓Own.e_rEq, ↓Own.e_rNe, Own.e_scal_int, Own.e_scal_str, Own.e_scal_bl, ↓Own.e_ifS, ↓Own.e_test, ↓Own.e_tB, ↓Own.e_ret, ↓Own.e_retN, ↓Own.e_next, ↓Own.e_brk, ↓Own.e_cnt, ↓Own.e_cons, ↓Own.e_nil, ↓Own.e_lst, ↓Own.e_tup, ↓Own.e_drop, ↓Own.e_and, ↓Own.e_or, ↓Own.e_not, ↓Own.e_andV, ↓Own.e_orV, ↓Own.e_notV, ↓Own.e_if, ↓Own.e_chain, Own.e_CB, ↓Own.e_call, ↓Own.e_rIxL, ↓Own.e_rIxT, ↓Own.e_rIxK, ↓Own.e_rIxKT, ↓Own.e_rSlK, ↓Own.e_rLenK, ↓Own.e_rListK, ↓Own.e_rTupleK, ↓Own.e_rSumK, ↓Own.e_rDivK, ↓Own.e_rNeK, ↓Own.e_rEqK, ↓Own.e_rNeKT, ↓Own.e_rEqKT, ↓Own.e_rIsiK, ↓Own.e_rSlS, ↓Own.e_rIxS, Own.tyK_int, Own.tyK_bl, Own.tyK_str, Own.tyK_non, Own.tyK_ref, Own.tyO_lst, Own.tyO_tup, Own.kit1, Own.kit2, Own.kit3, Own.kit4, Own.kit5, Own.kit6, Own.kit7, Own.kit8, Own.kit9, Own.hlst_inj, Own.htup_inj, Own.vty_inj, Own.ivs_inj, Own.bz_inj, Own.ivs_len, Own.bz_len, Own.ivs_app, Own.ivs_set, Own.ivs_bset, Own.bz_app, Own.ivs_snoc, Own.bz_snoc, Own.atI_ints, Own.atI_bz, Own.isLst_some, Own.ty_lst, L2.upd_same, L2.upd_upd, Own.b2_xor, Own.b2_mod2, Own.b2_mod3, Own.b2_mod4, Own.b2_flip, Option.map_some, Option.isSome_some, ne_eq, eq_self, not_false_eq_true, not_true_eq_false, String.reduceEq, ↓Own.e_BM, ↓Own.e_BM0, ↓Own.e_rAppend, ↓Own.e_rCat, ↓Own.e_rRep, ↓Own.e_sl, ↓Own.e_noPart, ↓Own.e_part, ↓Own.e_rSlL, ↓Own.e_gSub, ↓Own.e_rSetL, ↓Own.e_bits, ↓Own.e_yes, ↓Own.e_gTup, ↓Own.e_gNil, ↓Own.e_gCons, ↓Own.e_aug, ↓Own.e_ipI, ↓Own.e_for, ↓Own.e_lc, ↓Own.e_iList, ↓Own.e_iTup, ↓Own.e_iRng1, ↓Own.e_iRng2, ↓Own.e_iRng3, ↓Own.e_iAny, ↓Own.e_rListA, ↓Own.e_rLenA, ↓Own.e_rIsiX, ↓Own.e_rIsB, ↓Own.e_revL, ↓Own.e_rNotB, ↓Own.e_iEnum, ↓Own.e_iZip, L2.start, L2.wipe, List.map_cons, List.map_nil, List.replicate_succ, List.replicate_zero, List.length_cons, List.length_nil, Nat.reduceAdd, Nat.reduceSub, Nat.zero_add, List.getElem?_cons_zero, List.getElem?_cons_succ, List.set_cons_zero, List.set_cons_succ, Option.some.injEq, L2.V.int.injEq, L2.V.bl.injEq, L2.V.str.injEq, L2.V.ref.injEq, List.cons.injEq, List.cons_append, List.nil_append, List.append_nil, exists_eq_left', exists_eq_left, exists_and_left, exists_and_right, exists_eq, and_true, true_and, reduceCtorEq, false_and, and_false, exists_false, or_false, false_or, true_or, or_true, decide_eq_true_eq, Bool.not_true, Bool.not_false, Bool.not_eq_true', Bool.not_eq_false', decide_eq_false_iff_not, ite_not, if_true, if_false, ite_true, ite_false, Bool.false_eq_true, if_pos trivial, decide_true, decide_false, PySem.sizeLine_eq, eq_self, Int.reduceNeg, Int.reducePow, Int.reduceLT, Int.reduceLE, Int.reduceToNat, Nat.reduceLeDiff, Int.reduceSub, Int.reduceAdd, Int.reduceMul, Int.reduceDiv, Int.reduceMod, Int.reduceEq, Nat.reduceMul, Nat.reduceEqDiff, ↓reduceIte, ↓Own.e_raiseO, ↓Own.e_callS, ↓Own.e_what, Own.hxd_inj])
      have hs : 0 ≤ v % 65 ∧ v % 65 ≤ 64 := by omega
      have hN : 0 ≤ v / 65 % 18446744073709551616 ∧ v / 65 % 18446744073709551616 < 18446744073709551616 := by omega
      refine ⟨by omega, by omega, by omega, loop_it walk_range (fun k σ H' => ∃ (x : Nat) (y6 : Option V), x < 2 ^ 64 ∧ σ = [some (.ref a), some (.int i), some (.int z), some (.int v), some (.int (v % 65)), some (.int x), y6, y7, y8, y9, y10, y11, y12] ∧ H' = H5) ⟨(v / 65 % 18446744073709551616).toNat, y6, by omega, by rw [Int.toNat_of_nonneg hN.1], rfl⟩ (fun _ _ _ _ _ => trivial) ?_ ?_⟩
      · rintro k x σ H6 H7 hk ⟨x, y6, lx, rfl, e1⟩ ⟨e2, rfl⟩
        (try simp -dsimp only [↓Own.e_seq, ↓Own.e_cxK, ↓Own.e_wishK, ↓Own.e_noxK, ↓Own.e_asg, ↓Own.e_gName, ↓Own.e_var, Own.e_C, ↓Own.e_op, ↓Own.e_un, ↓Own.e_rI, ↓Own.e_rI0, ↓Own.e_rU, Own.e_CMul, Own.e_CDiv, Own.e_CPow, ↓Own.e_rEq, ↓Own.e_rNe, Own.e_scal_int, Own.e_scal_str, Own.e_scal_bl, ↓Own.e_ifS, ↓Own.e_test, ↓Own.e_tB, ↓Own.e_ret, ↓Own.e_retN, ↓Own.e_next, ↓Own.e_brk, ↓Own.e_cnt, ↓Own.e_cons, ↓Own.e_nil, ↓Own.e_lst, ↓Own.e_tup, ↓Own.e_drop, ↓Own.e_and, ↓Own.e_or, ↓Own.e_not, ↓Own.e_andV, ↓Own.e_orV, ↓Own.e_notV, ↓Own.e_if, ↓Own.e_chain, Own.e_CB, ↓Own.e_call, ↓Own.e_rIxL, ↓Own.e_rIxT, ↓Own.e_rIxK, ↓Own.e_rIxKT, ↓Own.e_rSlK, ↓Own.e_rLenK, ↓Own.e_rListK, ↓Own.e_rTupleK, ↓Own.e_rSumK, ↓Own.e_rDivK, ↓Own.e_rNeK, ↓Own.e_rEqK, ↓Own.e_rNeKT, ↓Own.e_rEqKT, ↓Own.e_rIsiK, ↓Own.e_rSlS, ↓Own.e_rIxS, Own.tyK_int, Own.tyK_bl, Own.tyK_str, Own.tyK_non, Own.tyK_ref, Own.tyO_lst, Own.tyO_tup, Own.kit1, Own.kit2, Own.kit3, Own.kit4, Own.kit5, Own.kit6, Own.kit7, Own.kit8, Own.kit9, Own.hlst_inj, Own.htup_inj, Own.vty_inj, Own.ivs_inj, Own.bz_inj, Own.ivs_len, Own.bz_len, Own.ivs_app, Own.ivs_set, Own.ivs_bset, Own.bz_app, Own.ivs_snoc, Own.bz_snoc, Own.atI_ints, Own.atI_bz, Own.isLst_some, Own.ty_lst, L2.upd_same, L2.upd_upd, Own.b2_xor, Own.b2_mod2, Own.b2_mod3, Own.b2_mod4, Own.b2_flip, Option.map_some, Option.isSome_some, ne_eq, eq_self, not_false_eq_true, not_true_eq_false, String.reduceEq, ↓Own.e_BM, ↓Own.e_BM0, ↓Own.e_rAppend, ↓Own.e_rCat, ↓Own.e_rRep, ↓Own.e_sl, ↓Own.e_noPart, ↓Own.e_part, ↓Own.e_rSlL, ↓Own.e_gSub, ↓Own.e_rSetL, ↓Own.e_bits, ↓Own.e_yes, ↓Own.e_gTup, ↓Own.e_gNil, ↓Own.e_gCons, ↓Own.e_aug, ↓Own.e_ipI, ↓Own.e_for, ↓Own.e_lc, ↓Own.e_iList, ↓Own.e_iTup, ↓Own.e_iRng1, ↓Own.e_iRng2, ↓Own.e_iRng3, ↓Own.e_iAny, ↓Own.e_rListA, ↓Own.e_rLenA, ↓Own.e_rIsiX, ↓Own.e_rIsB, ↓Own.e_revL, ↓Own.e_rNotB, ↓Own.e_iEnum, ↓Own.e_iZip, L2.start, L2.wipe, List.map_cons, List.map_nil, List.replicate_succ, List.replicate_zero, List.length_cons, List.length_nil, Nat.reduceAdd, Nat.reduceSub, Nat.zero_add, List.getElem?_cons_zero, List.getElem?_cons_succ, List.set_cons_zero, List.set_cons_succ, Option.some.injEq, L2.V.int.injEq, L2.V.bl.injEq, L2.V.str.injEq, L2.V.ref.injEq, List.cons.injEq, List.cons_append, List.nil_append, List.append_nil, exists_eq_left', exists_eq_left, exists_and_left, exists_and_right, exists_eq, and_true, true_and, reduceCtorEq, false_and, and_false, exists_false, or_false, false_or, true_or, or_true, decide_eq_true_eq, Bool.not_true, Bool.not_false, Bool.not_eq_true', Bool.not_eq_false', decide_eq_false_iff_not, ite_not, if_true, if_false, ite_true, ite_false, Bool.false_eq_true, if_pos trivial, decide_true, decide_false, PySem.sizeLine_eq, eq_self, Int.reduceNeg, Int.reducePow, Int.reduceLT, Int.reduceLE, Int.reduceToNat, Nat.reduceLeDiff, Int.reduceSub, Int.reduceAdd, Int.reduceMul, Int.reduceDiv, Int.reduceMod, Int.reduceEq, Nat.reduceMul, Nat.reduceEqDiff, ↓reduceIte, ↓Own.e_raiseO, ↓Own.e_callS, ↓Own.e_what, Own.hxd_inj])
        refine at_is ?_
        exact ⟨x / 2, _, by omega, by rw [show ((x / 2 : Nat) : Int) = (x : Int) / 2 by omega], by rw [e2, e1]⟩
      rintro σ H6 ⟨x, y6, lx, rfl, e1⟩
      subst e1
      (try simp -dsimp only [↓Own.e_seq, ↓Own.e_cxK, ↓Own.e_wishK, ↓Own.e_noxK, ↓Own.e_asg, ↓Own.e_gName, ↓Own.e_var, Own.e_C, ↓Own.e_op, ↓Own.e_un, ↓Own.e_rI, ↓Own.e_rI0, ↓Own.e_rU, Own.e_CMul, Own.e_CDiv, Own.e_CPow, ↓Own.e_rEq, ↓Own.e_rNe, Own.e_scal_int, Own.e_scal_str, Own.e_scal_bl, ↓Own.e_ifS, ↓Own.e_test, ↓Own.e_tB, ↓Own.e_ret, ↓Own.e_retN, ↓Own.e_next, ↓Own.e_brk, ↓Own.e_cnt, ↓Own.e_cons, ↓Own.e_nil, ↓Own.e_lst, ↓Own.e_tup, ↓Own.e_drop, ↓Own.e_and, ↓Own.e_or, ↓Own.e_not, ↓Own.e_andV, ↓Own.e_orV, ↓Own.e_notV, ↓Own.e_if, ↓Own.e_chain, Own.e_CB, ↓Own.e_call, ↓Own.e_rIxL, ↓Own.e_rIxT, ↓Own.e_rIxK, ↓Own.e_rIxKT, ↓Own.e_rSlK, ↓Own.e_rLenK, ↓Own.e_rListK, ↓Own.e_rTupleK, ↓Own.e_rSumK, ↓Own.e_rDivK, ↓Own.e_rNeK, ↓Own.e_rEqK, ↓Own.e_rNeKT, ↓Own.e_rEqKT, ↓Own.e_rIsiK, ↓Own.e_rSlS, ↓Own.e_rIxS, Own.tyK_int, Own.tyK_bl, Own.tyK_str, Own.tyK_non, Own.tyK_ref, Own.tyO_lst, Own.tyO_tup, Own.kit1, Own.kit2, Own.kit3, Own.kit4, Own.kit5, Own.kit6, Own.kit7, Own.kit8, Own.kit9, Own.hlst_inj, Own.htup_inj, Own.vty_inj, Own.ivs_inj, Own.bz_inj, Own.ivs_len, Own.bz_len, Own.ivs_app, Own.ivs_set, Own.ivs_bset, Own.bz_app, Own.ivs_snoc, Own.bz_snoc, Own.atI_ints, Own.atI_bz, Own.isLst_some, Own.ty_lst, L2.upd_same, L2.upd_upd, Own.b2_xor, Own.b2_mod2, Own.b2_mod3, Own.b2_mod4, Own.b2_flip, Option.map_some, Option.isSome_some, ne_eq, eq_self, not_false_eq_true, not_true_eq_false, String.reduceEq, ↓Own.e_BM, ↓Own.e_BM0, ↓Own.e_rAppend, ↓Own.e_rCat, ↓Own.e_rRep, ↓Own.e_sl, ↓Own.e_noPart, ↓Own.e_part, ↓Own.e_rSlL, ↓Own.e_gSub, ↓Own.e_rSetL, ↓Own.e_bits, ↓Own.e_yes, ↓Own.e_gTup, ↓Own.e_gNil, ↓Own.e_gCons, ↓Own.e_aug, ↓Own.e_ipI, ↓Own.e_for, ↓Own.e_lc, ↓Own.e_iList, ↓Own.e_iTup, ↓Own.e_iRng1, ↓Own.e_iRng2, ↓Own.e_iRng3, ↓Own.e_iAny, ↓Own.e_rListA, ↓Own.e_rLenA, ↓Own.e_rIsiX, ↓Own.e_rIsB, ↓Own.e_revL, ↓Own.e_rNotB, ↓Own.e_iEnum, ↓Own.e_iZip, L2.start, L2.wipe, List.map_cons, List.map_nil, List.replicate_succ, List.replicate_zero, List.length_cons, List.length_nil, Nat.reduceAdd, Nat.reduceSub, Nat.zero_add, List.getElem?_cons_zero, List.getElem?_cons_succ, List.set_cons_zero, List.set_cons_succ, Option.some.injEq, L2.V.int.injEq, L2.V.bl.injEq, L2.V.str.injEq, L2.V.ref.injEq, List.cons.injEq, List.cons_append, List.nil_append, List.append_nil, exists_eq_left', exists_eq_left, exists_and_left, exists_and_right, exists_eq, and_true, true_and, reduceCtorEq, false_and, and_false, exists_false, or_false, false_or, true_or, or_true, decide_eq_true_eq, Bool.not_true, Bool.not_false, Bool.not_eq_true', Bool.not_eq_false', decide_eq_false_iff_not, ite_not, if_true, if_false, ite_true, ite_false, Bool.false_eq_true, if_pos trivial, decide_true, decide_false, PySem.sizeLine_eq, eq_self, Int.reduceNeg, Int.reducePow, Int.reduceLT, Int.reduceLE, Int.reduceToNat, Nat.reduceLeDiff, Int.reduceSub, Int.reduceAdd, Int.reduceMul, Int.reduceDiv, Int.reduceMod, Int.reduceEq, Nat.reduceMul, Nat.reduceEqDiff, ↓reduceIte, ↓Own.e_raiseO, ↓Own.e_callS, ↓Own.e_what, Own.hxd_inj])
      refine loop_it walk_range (fun k σ H' => ∃ (c : Nat) (y6 : Option V), c ≤ k ∧ (0 < x / 2 ^ c → c = k) ∧ (0 < c → 2 ^ (c - 1) ≤ x) ∧ σ = [some (.ref a), some (.int i), some (.int z), some (.int v), some (.int (v % 65)), some (.int x), y6, some (.int c), some (.int ((x / 2 ^ c : Nat) : Int)), y9, y10, y11, y12] ∧ H' = H6) ⟨0, y6, by omega, fun _ => rfl, fun h => absurd h (by omega), by rw [Nat.pow_zero, Nat.div_one]; rfl, rfl⟩ (fun _ _ _ _ _ => trivial) ?_ ?_
      · rintro k x1 σ H7 H8 hk ⟨c, y6, i1, i2, i3, rfl, e1⟩ ⟨e2, rfl⟩
        (try simp -dsimp only [↓Own.e_seq, ↓Own.e_cxK, ↓Own.e_wishK, ↓Own.e_noxK, ↓Own.e_asg, ↓Own.e_gName, ↓Own.e_var, Own.e_C, ↓Own.e_op, ↓Own.e_un, ↓Own.e_rI, ↓Own.e_rI0, ↓Own.e_rU, Own.e_CMul, Own.e_CDiv, Own.e_CPow, ↓Own.e_rEq, ↓Own.e_rNe, Own.e_scal_int, Own.e_scal_str, Own.e_scal_bl, ↓Own.e_ifS, ↓Own.e_test, ↓Own.e_tB, ↓Own.e_ret, ↓Own.e_retN, ↓Own.e_next, ↓Own.e_brk, ↓Own.e_cnt, ↓Own.e_cons, ↓Own.e_nil, ↓Own.e_lst, ↓Own.e_tup, ↓Own.e_drop, ↓Own.e_and, ↓Own.e_or, ↓Own.e_not, ↓Own.e_andV, ↓Own.e_orV, ↓Own.e_notV, ↓Own.e_if, ↓Own.e_chain, Own.e_CB, ↓Own.e_call, ↓Own.e_rIxL, ↓Own.e_rIxT, ↓Own.e_rIxK, ↓Own.e_rIxKT, ↓Own.e_rSlK, ↓Own.e_rLenK, ↓Own.e_rListK, ↓Own.e_rTupleK, ↓Own.e_rSumK, ↓Own.e_rDivK, ↓Own.e_rNeK, ↓Own.e_rEqK, ↓Own.e_rNeKT, ↓Own.e_rEqKT, ↓Own.e_rIsiK, ↓Own.e_rSlS, ↓Own.e_rIxS, Own.tyK_int, Own.tyK_bl, Own.tyK_str, Own.tyK_non, Own.tyK_ref, Own.tyO_lst, Own.tyO_tup, Own.kit1, Own.kit2, Own.kit3, Own.kit4, Own.kit5, Own.kit6, Own.kit7, Own.kit8, Own.kit9, Own.hlst_inj, Own.htup_inj, Own.vty_inj, Own.ivs_inj, Own.bz_inj, Own.ivs_len, Own.bz_len, Own.ivs_app, Own.ivs_set, Own.ivs_bset, Own.bz_app, Own.ivs_snoc, Own.bz_snoc, Own.atI_ints, Own.atI_bz, Own.isLst_some, Own.ty_lst, L2.upd_same, L2.upd_upd, Own.b2_xor, Own.b2_mod2, Own.b2_mod3, Own.b2_mod4, Own.b2_flip, Option.map_some, Option.isSome_some, ne_eq, eq_self, not_false_eq_true, not_true_eq_false, String.reduceEq, ↓Own.e_BM, ↓Own.e_BM0, ↓Own.e_rAppend, ↓Own.e_rCat, ↓Own.e_rRep, ↓Own.e_sl, ↓Own.e_noPart, ↓Own.e_part, ↓Own.e_rSlL, ↓Own.e_gSub, ↓Own.e_rSetL, ↓Own.e_bits, ↓Own.e_yes, ↓Own.e_gTup, ↓Own.e_gNil, ↓Own.e_gCons, ↓Own.e_aug, ↓Own.e_ipI, ↓Own.e_for, ↓Own.e_lc, ↓Own.e_iList, ↓Own.e_iTup, ↓Own.e_iRng1, ↓Own.e_iRng2, ↓Own.e_iRng3, ↓Own.e_iAny, ↓Own.e_rListA, ↓Own.e_rLenA, ↓Own.e_rIsiX, ↓Own.e_rIsB, ↓Own.e_revL, ↓Own.e_rNotB, ↓Own.e_iEnum, ↓Own.e_iZip, L2.start, L2.wipe, List.map_cons, List.map_nil, List.replicate_succ, List.replicate_zero, List.length_cons, List.length_nil, Nat.reduceAdd, Nat.reduceSub, Nat.zero_add, List.getElem?_cons_zero, List.getElem?_cons_succ, List.set_cons_zero, List.set_cons_succ, Option.some.injEq, L2.V.int.injEq, L2.V.bl.injEq, L2.V.str.injEq, L2.V.ref.injEq, List.cons.injEq, List.cons_append, List.nil_append, List.append_nil, exists_eq_left', exists_eq_left, exists_and_left, exists_and_right, exists_eq, and_true, true_and, reduceCtorEq, false_and, and_false, exists_false, or_false, false_or, true_or, or_true, decide_eq_true_eq, Bool.not_true, Bool.not_false, Bool.not_eq_true', Bool.not_eq_false', decide_eq_false_iff_not, ite_not, if_true, if_false, ite_true, ite_false, Bool.false_eq_true, if_pos trivial, decide_true, decide_false, PySem.sizeLine_eq, eq_self, Int.reduceNeg, Int.reducePow, Int.reduceLT, Int.reduceLE, Int.reduceToNat, Nat.reduceLeDiff, Int.reduceSub, Int.reduceAdd, Int.reduceMul, Int.reduceDiv, Int.reduceMod, Int.reduceEq, Nat.reduceMul, Nat.reduceEqDiff, ↓reduceIte, ↓Own.e_raiseO, ↓Own.e_callS, ↓Own.e_what, Own.hxd_inj])
        refine ite2 (fun h => ?_) (fun h => ?_)
        · have hc : 0 < x / 2 ^ c := by omega
          have ck := i2 hc
          refine at_is ?_
          exact ⟨c + 1, _, by omega, fun _ => by omega, fun _ => by rw [show c + 1 - 1 = c by omega]; exact half_step hc, by rw [show ((x / 2 ^ (c + 1) : Nat) : Int) = ((x / 2 ^ c : Nat) : Int) / 2 by rw [Nat.pow_succ, ← Nat.div_div_eq_div_mul]; omega, show ((c + 1 : Nat) : Int) = (c : Int) + 1 by omega], by rw [e2, e1]⟩
        · refine at_is ?_
          exact ⟨c, _, by omega, fun hh => absurd hh (by omega), i3, rfl, by rw [e2, e1]⟩
      rintro σ H7 ⟨c, y6', i1, i2, i3, rfl, e1⟩
      subst e1
      have c64 : c ≤ 64 := by omega
      have hx0 : x / 2 ^ c = 0 := by
        by_cases h : 0 < x / 2 ^ c
        · have ck := i2 h
          have c6 : c = 64 := by omega
          rw [c6, Nat.div_eq_of_lt lx] at h
          omega
        · exact Nat.eq_zero_of_not_pos h
      have lxc := div_zero_lt hx0
      (try simp -dsimp only [↓Own.e_seq, ↓Own.e_cxK, ↓Own.e_wishK, ↓Own.e_noxK, ↓Own.e_asg, ↓Own.e_gName, ↓Own.e_var, Own.e_C, ↓Own.e_op, ↓Own.e_un, ↓Own.e_rI, ↓Own.e_rI0, ↓Own.e_rU, Own.e_CMul, Own.e_CDiv, Own.e_CPow, ↓Own.e_rEq, ↓Own.e_rNe, Own.e_scal_int, Own.e_scal_str, Own.e_scal_bl, ↓Own.e_ifS, ↓Own.e_test, ↓Own.e_tB, ↓Own.e_ret, ↓Own.e_retN, ↓Own.e_next, ↓Own.e_brk, ↓Own.e_cnt, ↓Own.e_cons, ↓Own.e_nil, ↓Own.e_lst, ↓Own.e_tup, ↓Own.e_drop, ↓Own.e_and, ↓Own.e_or, ↓Own.e_not, ↓Own.e_andV, ↓Own.e_orV, ↓Own.e_notV, ↓Own.e_if, ↓Own.e_chain, Own.e_CB, ↓Own.e_call, ↓Own.e_rIxL, ↓Own.e_rIxT, ↓Own.e_rIxK, ↓Own.e_rIxKT, ↓Own.e_rSlK, ↓Own.e_rLenK, ↓Own.e_rListK, ↓Own.e_rTupleK, ↓Own.e_rSumK, ↓Own.e_rDivK, ↓Own.e_rNeK, ↓Own.e_rEqK, ↓Own.e_rNeKT, ↓Own.e_rEqKT, ↓Own.e_rIsiK, ↓Own.e_rSlS, ↓Own.e_rIxS, Own.tyK_int, Own.tyK_bl, Own.tyK_str, Own.tyK_non, Own.tyK_ref, Own.tyO_lst, Own.tyO_tup, Own.kit1, Own.kit2, Own.kit3, Own.kit4, Own.kit5, Own.kit6, Own.kit7, Own.kit8, Own.kit9, Own.hlst_inj, Own.htup_inj, Own.vty_inj, Own.ivs_inj, Own.bz_inj, Own.ivs_len, Own.bz_len, Own.ivs_app, Own.ivs_set, Own.ivs_bset, Own.bz_app, Own.ivs_snoc, Own.bz_snoc, Own.atI_ints, Own.atI_bz, Own.isLst_some, Own.ty_lst, L2.upd_same, L2.upd_upd, Own.b2_xor, Own.b2_mod2, Own.b2_mod3, Own.b2_mod4, Own.b2_flip, Option.map_some, Option.isSome_some, ne_eq, eq_self, not_false_eq_true, not_true_eq_false, String.reduceEq, ↓Own.e_BM, ↓Own.e_BM0, ↓Own.e_rAppend, ↓Own.e_rCat, ↓Own.e_rRep, ↓Own.e_sl, ↓Own.e_noPart, ↓Own.e_part, ↓Own.e_rSlL, ↓Own.e_gSub, ↓Own.e_rSetL, ↓Own.e_bits, ↓Own.e_yes, ↓Own.e_gTup, ↓Own.e_gNil, ↓Own.e_gCons, ↓Own.e_aug, ↓Own.e_ipI, ↓Own.e_for, ↓Own.e_lc, ↓Own.e_iList, ↓Own.e_iTup, ↓Own.e_iRng1, ↓Own.e_iRng2, ↓Own.e_iRng3, ↓Own.e_iAny, ↓Own.e_rListA, ↓Own.e_rLenA, ↓Own.e_rIsiX, ↓Own.e_rIsB, ↓Own.e_revL, ↓Own.e_rNotB, ↓Own.e_iEnum, ↓Own.e_iZip, L2.start, L2.wipe, List.map_cons, List.map_nil, List.replicate_succ, List.replicate_zero, List.length_cons, List.length_nil, Nat.reduceAdd, Nat.reduceSub, Nat.zero_add, List.getElem?_cons_zero, List.getElem?_cons_succ, List.set_cons_zero, List.set_cons_succ, Option.some.injEq, L2.V.int.injEq, L2.V.bl.injEq, L2.V.str.injEq, L2.V.ref.injEq, List.cons.injEq, List.cons_append, List.nil_append, List.append_nil, exists_eq_left', exists_eq_left, exists_and_left, exists_and_right, exists_eq, and_true, true_and, reduceCtorEq, false_and, and_false, exists_false, or_false, false_or, true_or, or_true, decide_eq_true_eq, Bool.not_true, Bool.not_false, Bool.not_eq_true', Bool.not_eq_false', decide_eq_false_iff_not, ite_not, if_true, if_false, ite_true, ite_false, Bool.false_eq_true, if_pos trivial, decide_true, decide_false, PySem.sizeLine_eq, eq_self, Int.reduceNeg, Int.reducePow, Int.reduceLT, Int.reduceLE, Int.reduceToNat, Nat.reduceLeDiff, Int.reduceSub, Int.reduceAdd, Int.reduceMul, Int.reduceDiv, Int.reduceMod, Int.reduceEq, Nat.reduceMul, Nat.reduceEqDiff, ↓reduceIte, ↓Own.e_raiseO, ↓Own.e_callS, ↓Own.e_what, Own.hxd_inj])
      have hm0 : 0 ≤ v / 3 % (65 - (c : Int)) := Int.emod_nonneg _ (by omega)
      have hm1 : v / 3 % (65 - (c : Int)) < 65 - (c : Int) := Int.emod_lt_of_pos _ (by omega)
      obtain ⟨b, hb⟩ : ∃ b : Nat, (c : Int) + v / 3 % (65 - (c : Int)) = b := ⟨_, (Int.toNat_of_nonneg (by omega)).symm⟩
      have lxb : x < 2 ^ b := Nat.lt_of_lt_of_le lxc (Nat.pow_le_pow_right (by decide) (by omega))
      refine ⟨by omega, ?_⟩
      refine call_to ⟨x, c, rfl, lxc, by omega, fun Ha sa => ?_⟩
      (try simp -dsimp only [↓Own.e_seq, ↓Own.e_cxK, ↓Own.e_wishK, ↓Own.e_noxK, ↓Own.e_asg, ↓Own.e_gName, ↓Own.e_var, Own.e_C, ↓Own.e_op, ↓Own.e_un, ↓Own.e_rI, ↓Own.e_rI0, ↓Own.e_rU, Own.e_CMul, Own.e_CDiv, Own.e_CPow, ↓Own.e_rEq, ↓Own.e_rNe, Own.e_scal_int, Own.e_scal_str, Own.e_scal_bl, ↓Own.e_ifS, ↓Own.e_test, ↓Own.e_tB, ↓Own.e_ret, ↓Own.e_retN, ↓Own.e_next, ↓Own.e_brk, ↓Own.e_cnt, ↓Own.e_cons, ↓Own.e_nil, ↓Own.e_lst, ↓Own.e_tup, ↓Own.e_drop, ↓Own.e_and, ↓Own.e_or, ↓Own.e_not, ↓Own.e_andV, ↓Own.e_orV, ↓Own.e_notV, ↓Own.e_if, ↓Own.e_chain, Own.e_CB, ↓Own.e_call, ↓Own.e_rIxL, ↓Own.e_rIxT, ↓Own.e_rIxK, ↓Own.e_rIxKT, ↓Own.e_rSlK, ↓Own.e_rLenK, ↓Own.e_rListK, ↓Own.e_rTupleK, ↓Own.e_rSumK, ↓Own.e_rDivK, ↓Own.e_rNeK, ↓Own.e_rEqK, ↓Own.e_rNeKT, ↓Own.e_rEqKT, ↓Own.e_rIsiK, ↓Own.e_rSlS, ↓Own.e_rIxS, Own.tyK_int, Own.tyK_bl, Own.tyK_str, Own.tyK_non, Own.tyK_ref, Own.tyO_lst, Own.tyO_tup, Own.kit1, Own.kit2, Own.kit3, Own.kit4, Own.kit5, Own.kit6, Own.kit7, Own.kit8, Own.kit9, Own.hlst_inj, Own.htup_inj, Own.vty_inj, Own.ivs_inj, Own.bz_inj, Own.ivs_len, Own.bz_len, Own.ivs_app, Own.ivs_set, Own.ivs_bset, Own.bz_app, Own.ivs_snoc, Own.bz_snoc, Own.atI_ints, Own.atI_bz, Own.isLst_some, Own.ty_lst, L2.upd_same, L2.upd_upd, Own.b2_xor, Own.b2_mod2, Own.b2_mod3, Own.b2_mod4, Own.b2_flip, Option.map_some, Option.isSome_some, ne_eq, eq_self, not_false_eq_true, not_true_eq_false, String.reduceEq, ↓Own.e_BM, ↓Own.e_BM0, ↓Own.e_rAppend, ↓Own.e_rCat, ↓Own.e_rRep, ↓Own.e_sl, ↓Own.e_noPart, ↓Own.e_part, ↓Own.e_rSlL, ↓Own.e_gSub, ↓Own.e_rSetL, ↓Own.e_bits, ↓Own.e_yes, ↓Own.e_gTup, ↓Own.e_gNil, ↓Own.e_gCons, ↓Own.e_aug, ↓Own.e_ipI, ↓Own.e_for, ↓Own.e_lc, ↓Own.e_iList, ↓Own.e_iTup, ↓Own.e_iRng1, ↓Own.e_iRng2, ↓Own.e_iRng3, ↓Own.e_iAny, ↓Own.e_rListA, ↓Own.e_rLenA, ↓Own.e_rIsiX, ↓Own.e_rIsB, ↓Own.e_revL, ↓Own.e_rNotB, ↓Own.e_iEnum, ↓Own.e_iZip, L2.start, L2.wipe, List.map_cons, List.map_nil, List.replicate_succ, List.replicate_zero, List.length_cons, List.length_nil, Nat.reduceAdd, Nat.reduceSub, Nat.zero_add, List.getElem?_cons_zero, List.getElem?_cons_succ, List.set_cons_zero, List.set_cons_succ, Option.some.injEq, L2.V.int.injEq, L2.V.bl.injEq, L2.V.str.injEq, L2.V.ref.injEq, List.cons.injEq, List.cons_append, List.nil_append, List.append_nil, exists_eq_left', exists_eq_left, exists_and_left, exists_and_right, exists_eq, and_true, true_and, reduceCtorEq, false_and, and_false, exists_false, or_false, false_or, true_or, or_true, decide_eq_true_eq, Bool.not_true, Bool.not_false, Bool.not_eq_true', Bool.not_eq_false', decide_eq_false_iff_not, ite_not, if_true, if_false, ite_true, ite_false, Bool.false_eq_true, if_pos trivial, decide_true, decide_false, PySem.sizeLine_eq, eq_self, Int.reduceNeg, Int.reducePow, Int.reduceLT, Int.reduceLE, Int.reduceToNat, Nat.reduceLeDiff, Int.reduceSub, Int.reduceAdd, Int.reduceMul, Int.reduceDiv, Int.reduceMod, Int.reduceEq, Nat.reduceMul, Nat.reduceEqDiff, ↓reduceIte, ↓Own.e_raiseO, ↓Own.e_callS, ↓Own.e_what, Own.hxd_inj])
      refine call_to ⟨x, b, by rw [hb], lxb, by omega, fun Hb sb => ?_⟩
      (try simp -dsimp only [↓Own.e_seq, ↓Own.e_cxK, ↓Own.e_wishK, ↓Own.e_noxK, ↓Own.e_asg, ↓Own.e_gName, ↓Own.e_var, Own.e_C, ↓Own.e_op, ↓Own.e_un, ↓Own.e_rI, ↓Own.e_rI0, ↓Own.e_rU, Own.e_CMul, Own.e_CDiv, Own.e_CPow, ↓Own.e_rEq, ↓Own.e_rNe, Own.e_scal_int, Own.e_scal_str, Own.e_scal_bl, ↓Own.e_ifS, ↓Own.e_test, ↓Own.e_tB, ↓Own.e_ret, ↓Own.e_retN, ↓Own.e_next, ↓Own.e_brk, ↓Own.e_cnt, ↓Own.e_cons, ↓Own.e_nil, ↓Own.e_lst, ↓Own.e_tup, ↓Own.e_drop, ↓Own.e_and, ↓Own.e_or, ↓Own.e_not, ↓Own.e_andV, ↓Own.e_orV, ↓Own.e_notV, ↓Own.e_if, ↓Own.e_chain, Own.e_CB, ↓Own.e_call, ↓Own.e_rIxL, ↓Own.e_rIxT, ↓Own.e_rIxK, ↓Own.e_rIxKT, ↓Own.e_rSlK, ↓Own.e_rLenK, ↓Own.e_rListK, ↓Own.e_rTupleK, ↓Own.e_rSumK, ↓Own.e_rDivK, ↓Own.e_rNeK, ↓Own.e_rEqK, ↓Own.e_rNeKT, ↓Own.e_rEqKT, ↓Own.e_rIsiK, ↓Own.e_rSlS, ↓Own.e_rIxS, Own.tyK_int, Own.tyK_bl, Own.tyK_str, Own.tyK_non, Own.tyK_ref, Own.tyO_lst, Own.tyO_tup, Own.kit1, Own.kit2, Own.kit3, Own.kit4, Own.kit5, Own.kit6, Own.kit7, Own.kit8, Own.kit9, Own.hlst_inj, Own.htup_inj, Own.vty_inj, Own.ivs_inj, Own.bz_inj, Own.ivs_len, Own.bz_len, Own.ivs_app, Own.ivs_set, Own.ivs_bset, Own.bz_app, Own.ivs_snoc, Own.bz_snoc, Own.atI_ints, Own.atI_bz, Own.isLst_some, Own.ty_lst, L2.upd_same, L2.upd_upd, Own.b2_xor, Own.b2_mod2, Own.b2_mod3, Own.b2_mod4, Own.b2_flip, Option.map_some, Option.isSome_some, ne_eq, eq_self, not_false_eq_true, not_true_eq_false, String.reduceEq, ↓Own.e_BM, ↓Own.e_BM0, ↓Own.e_rAppend, ↓Own.e_rCat, ↓Own.e_rRep, ↓Own.e_sl, ↓Own.e_noPart, ↓Own.e_part, ↓Own.e_rSlL, ↓Own.e_gSub, ↓Own.e_rSetL, ↓Own.e_bits, ↓Own.e_yes, ↓Own.e_gTup, ↓Own.e_gNil, ↓Own.e_gCons, ↓Own.e_aug, ↓Own.e_ipI, ↓Own.e_for, ↓Own.e_lc, ↓Own.e_iList, ↓Own.e_iTup, ↓Own.e_iRng1, ↓Own.e_iRng2, ↓Own.e_iRng3, ↓Own.e_iAny, ↓Own.e_rListA, ↓Own.e_rLenA, ↓Own.e_rIsiX, ↓Own.e_rIsB, ↓Own.e_revL, ↓Own.e_rNotB, ↓Own.e_iEnum, ↓Own.e_iZip, L2.start, L2.wipe, List.map_cons, List.map_nil, List.replicate_succ, List.replicate_zero, List.length_cons, List.length_nil, Nat.reduceAdd, Nat.reduceSub, Nat.zero_add, List.getElem?_cons_zero, List.getElem?_cons_succ, List.set_cons_zero, List.set_cons_succ, Option.some.injEq, L2.V.int.injEq, L2.V.bl.injEq, L2.V.str.injEq, L2.V.ref.injEq, List.cons.injEq, List.cons_append, List.nil_append, List.append_nil, exists_eq_left', exists_eq_left, exists_and_left, exists_and_right, exists_eq, and_true, true_and, reduceCtorEq, false_and, and_false, exists_false, or_false, false_or, true_or, or_true, decide_eq_true_eq, Bool.not_true, Bool.not_false, Bool.not_eq_true', Bool.not_eq_false', decide_eq_false_iff_not, ite_not, if_true, if_false, ite_true, ite_false, Bool.false_eq_true, if_pos trivial, decide_true, decide_false, PySem.sizeLine_eq, eq_self, Int.reduceNeg, Int.reducePow, Int.reduceLT, Int.reduceLE, Int.reduceToNat, Nat.reduceLeDiff, Int.reduceSub, Int.reduceAdd, Int.reduceMul, Int.reduceDiv, Int.reduceMod, Int.reduceEq, Nat.reduceMul, Nat.reduceEqDiff, ↓reduceIte, ↓Own.e_raiseO, ↓Own.e_callS, ↓Own.e_what, Own.hxd_inj])
      have Sb : Same H4 Hb := (sm5.trans sa).trans sb
      refine if_join (fun σ H' => σ = [some (.ref a), some (.int i), some (.int z), some (.int v), some (.int (v % 65)), some (.int x), y6', some (.int c), some (.int ((x / 2 ^ c : Nat) : Int)), some (.int (b : Nat)), y10, y11, y12] ∧ Same H4 H') ?_ ?_
      · rintro σ Hc ⟨rfl, Sc⟩
        have p64 : (18446744073709551616 : Int) = 2 ^ 64 := by decide
        (try simp -dsimp only [↓Own.e_seq, ↓Own.e_cxK, ↓Own.e_wishK, ↓Own.e_noxK, ↓Own.e_asg, ↓Own.e_gName, ↓Own.e_var, Own.e_C, ↓Own.e_op, ↓Own.e_un, ↓Own.e_rI, ↓Own.e_rI0, ↓Own.e_rU, Own.e_CMul, Own.e_CDiv, Own.e_CPow, ↓Own.e_rEq, ↓Own.e_rNe, Own.e_scal_int, Own.e_scal_str, Own.e_scal_bl, ↓Own.e_ifS, ↓Own.e_test, ↓Own.e_tB, ↓Own.e_ret, ↓Own.e_retN, ↓Own.e_next, ↓Own.e_brk, ↓Own.e_cnt, ↓Own.e_cons, ↓Own.e_nil, ↓Own.e_lst, ↓Own.e_tup, ↓Own.e_drop, ↓Own.e_and, ↓Own.e_or, ↓Own.e_not, ↓Own.e_andV, ↓Own.e_orV, ↓Own.e_notV, ↓Own.e_if, ↓Own.e_chain, Own.e_CB, ↓Own.e_call, ↓Own.e_rIxL, ↓Own.e_rIxT, ↓Own.e_rIxK, ↓Own.e_rIxKT, ↓Own.e_rSlK, ↓Own.e_rLenK, ↓Own.e_rListK, ↓Own.e_rTupleK, ↓Own.e_rSumK, ↓Own.e_rDivK, ↓Own.e_rNeK, ↓Own.e_rEqK, ↓Own.e_rNeKT, ↓Own.e_rEqKT, ↓Own.e_rIsiK, ↓Own.e_rSlS, ↓Own.e_rIxS, Own.tyK_int, Own.tyK_bl, Own.tyK_str, Own.tyK_non, Own.tyK_ref, Own.tyO_lst, Own.tyO_tup, Own.kit1, Own.kit2, Own.kit3, Own.kit4, Own.kit5, Own.kit6, Own.kit7, Own.kit8, Own.kit9, Own.hlst_inj, Own.htup_inj, Own.vty_inj, Own.ivs_inj, Own.bz_inj, Own.ivs_len, Own.bz_len, Own.ivs_app, Own.ivs_set, Own.ivs_bset, Own.bz_app, Own.ivs_snoc, Own.bz_snoc, Own.atI_ints, Own.atI_bz, Own.isLst_some, Own.ty_lst, L2.upd_same, L2.upd_upd, Own.b2_xor, Own.b2_mod2, Own.b2_mod3, Own.b2_mod4, Own.b2_flip, Option.map_some, Option.isSome_some, ne_eq, eq_self, not_false_eq_true, not_true_eq_false, String.reduceEq, ↓Own.e_BM, ↓Own.e_BM0, ↓Own.e_rAppend, ↓Own.e_rCat, ↓Own.e_rRep, ↓Own.e_sl, ↓Own.e_noPart, ↓Own.e_part, ↓Own.e_rSlL, ↓Own.e_gSub, ↓Own.e_rSetL, ↓Own.e_bits, ↓Own.e_yes, ↓Own.e_gTup, ↓Own.e_gNil, ↓Own.e_gCons, ↓Own.e_aug, ↓Own.e_ipI, ↓Own.e_for, ↓Own.e_lc, ↓Own.e_iList, ↓Own.e_iTup, ↓Own.e_iRng1, ↓Own.e_iRng2, ↓Own.e_iRng3, ↓Own.e_iAny, ↓Own.e_rListA, ↓Own.e_rLenA, ↓Own.e_rIsiX, ↓Own.e_rIsB, ↓Own.e_revL, ↓Own.e_rNotB, ↓Own.e_iEnum, ↓Own.e_iZip, L2.start, L2.wipe, List.map_cons, List.map_nil, List.replicate_succ, List.replicate_zero, List.length_cons, List.length_nil, Nat.reduceAdd, Nat.reduceSub, Nat.zero_add, List.getElem?_cons_zero, List.getElem?_cons_succ, List.set_cons_zero, List.set_cons_succ, Option.some.injEq, L2.V.int.injEq, L2.V.bl.injEq, L2.V.str.injEq, L2.V.ref.injEq, List.cons.injEq, List.cons_append, List.nil_append, List.append_nil, exists_eq_left', exists_eq_left, exists_and_left, exists_and_right, exists_eq, and_true, true_and, reduceCtorEq, false_and, and_false, exists_false, or_false, false_or, true_or, or_true, decide_eq_true_eq, Bool.not_true, Bool.not_false, Bool.not_eq_true', Bool.not_eq_false', decide_eq_false_iff_not, ite_not, if_true, if_false, ite_true, ite_false, Bool.false_eq_true, if_pos trivial, decide_true, decide_false, PySem.sizeLine_eq, eq_self, Int.reduceNeg, Int.reducePow, Int.reduceLT, Int.reduceLE, Int.reduceToNat, Nat.reduceLeDiff, Int.reduceSub, Int.reduceAdd, Int.reduceMul, Int.reduceDiv, Int.reduceMod, Int.reduceEq, Nat.reduceMul, Nat.reduceEqDiff, ↓reduceIte, ↓Own.e_raiseO, ↓Own.e_callS, ↓Own.e_what, Own.hxd_inj])
        refine ⟨by decide, ?_⟩
        refine call_to ⟨_, _, rfl, by omega, fun h => ?_, fun Hd sd => ?_⟩
        · have h2 := h.2.1
          rw [Int.toNat_natCast, ← PySem.W.kbt_cast] at h2
          have h3 : 2 ^ b ≤ 2 ^ 64 := Nat.pow_le_pow_right (by decide) (by omega)
          have h4 : (2 : Nat) ^ 64 = 18446744073709551616 := by decide
          omega
        (try simp -dsimp only [↓Own.e_seq, ↓Own.e_cxK, ↓Own.e_wishK, ↓Own.e_noxK, ↓Own.e_asg, ↓Own.e_gName, ↓Own.e_var, Own.e_C, ↓Own.e_op, ↓Own.e_un, ↓Own.e_rI, ↓Own.e_rI0, ↓Own.e_rU, Own.e_CMul, Own.e_CDiv, Own.e_CPow, ↓Own.e_rEq, ↓Own.e_rNe, Own.e_scal_int, Own.e_scal_str, Own.e_scal_bl, ↓Own.e_ifS, ↓Own.e_test, ↓Own.e_tB, ↓Own.e_ret, ↓Own.e_retN, ↓Own.e_next, ↓Own.e_brk, ↓Own.e_cnt, ↓Own.e_cons, ↓Own.e_nil, ↓Own.e_lst, ↓Own.e_tup, ↓Own.e_drop, ↓Own.e_and, ↓Own.e_or, ↓Own.e_not, ↓Own.e_andV, ↓Own.e_orV, ↓Own.e_notV, ↓Own.e_if, ↓Own.e_chain, Own.e_CB, ↓Own.e_call, ↓Own.e_rIxL, ↓Own.e_rIxT, ↓Own.e_rIxK, ↓Own.e_rIxKT, ↓Own.e_rSlK, ↓Own.e_rLenK, ↓Own.e_rListK, ↓Own.e_rTupleK, ↓Own.e_rSumK, ↓Own.e_rDivK, ↓Own.e_rNeK, ↓Own.e_rEqK, ↓Own.e_rNeKT, ↓Own.e_rEqKT, ↓Own.e_rIsiK, ↓Own.e_rSlS, ↓Own.e_rIxS, Own.tyK_int, Own.tyK_bl, Own.tyK_str, Own.tyK_non, Own.tyK_ref, Own.tyO_lst, Own.tyO_tup, Own.kit1, Own.kit2, Own.kit3, Own.kit4, Own.kit5, Own.kit6, Own.kit7, Own.kit8, Own.kit9, Own.hlst_inj, Own.htup_inj, Own.vty_inj, Own.ivs_inj, Own.bz_inj, Own.ivs_len, Own.bz_len, Own.ivs_app, Own.ivs_set, Own.ivs_bset, Own.bz_app, Own.ivs_snoc, Own.bz_snoc, Own.atI_ints, Own.atI_bz, Own.isLst_some, Own.ty_lst, L2.upd_same, L2.upd_upd, Own.b2_xor, Own.b2_mod2, Own.b2_mod3, Own.b2_mod4, Own.b2_flip, Option.map_some, Option.isSome_some, ne_eq, eq_self, not_false_eq_true, not_true_eq_false, String.reduceEq, ↓Own.e_BM, ↓Own.e_BM0, ↓Own.e_rAppend, ↓Own.e_rCat, ↓Own.e_rRep, ↓Own.e_sl, ↓Own.e_noPart, ↓Own.e_part, ↓Own.e_rSlL, ↓Own.e_gSub, ↓Own.e_rSetL, ↓Own.e_bits, ↓Own.e_yes, ↓Own.e_gTup, ↓Own.e_gNil, ↓Own.e_gCons, ↓Own.e_aug, ↓Own.e_ipI, ↓Own.e_for, ↓Own.e_lc, ↓Own.e_iList, ↓Own.e_iTup, ↓Own.e_iRng1, ↓Own.e_iRng2, ↓Own.e_iRng3, ↓Own.e_iAny, ↓Own.e_rListA, ↓Own.e_rLenA, ↓Own.e_rIsiX, ↓Own.e_rIsB, ↓Own.e_revL, ↓Own.e_rNotB, ↓Own.e_iEnum, ↓Own.e_iZip, L2.start, L2.wipe, List.map_cons, List.map_nil, List.replicate_succ, List.replicate_zero, List.length_cons, List.length_nil, Nat.reduceAdd, Nat.reduceSub, Nat.zero_add, List.getElem?_cons_zero, List.getElem?_cons_succ, List.set_cons_zero, List.set_cons_succ, Option.some.injEq, L2.V.int.injEq, L2.V.bl.injEq, L2.V.str.injEq, L2.V.ref.injEq, List.cons.injEq, List.cons_append, List.nil_append, List.append_nil, exists_eq_left', exists_eq_left, exists_and_left, exists_and_right, exists_eq, and_true, true_and, reduceCtorEq, false_and, and_false, exists_false, or_false, false_or, true_or, or_true, decide_eq_true_eq, Bool.not_true, Bool.not_false, Bool.not_eq_true', Bool.not_eq_false', decide_eq_false_iff_not, ite_not, if_true, if_false, ite_true, ite_false, Bool.false_eq_true, if_pos trivial, decide_true, decide_false, PySem.sizeLine_eq, eq_self, Int.reduceNeg, Int.reducePow, Int.reduceLT, Int.reduceLE, Int.reduceToNat, Nat.reduceLeDiff, Int.reduceSub, Int.reduceAdd, Int.reduceMul, Int.reduceDiv, Int.reduceMod, Int.reduceEq, Nat.reduceMul, Nat.reduceEqDiff, ↓reduceIte, ↓Own.e_raiseO, ↓Own.e_callS, ↓Own.e_what, Own.hxd_inj])
        refine call_to ⟨_, _, rfl, by omega, fun h => absurd h.1 (by omega), fun He se => ?_⟩
        (try simp -dsimp only [↓Own.e_seq, ↓Own.e_cxK, ↓Own.e_wishK, ↓Own.e_noxK, ↓Own.e_asg, ↓Own.e_gName, ↓Own.e_var, Own.e_C, ↓Own.e_op, ↓Own.e_un, ↓Own.e_rI, ↓Own.e_rI0, ↓Own.e_rU, Own.e_CMul, Own.e_CDiv, Own.e_CPow, ↓Own.e_rEq, ↓Own.e_rNe, Own.e_scal_int, Own.e_scal_str, Own.e_scal_bl, ↓Own.e_ifS, ↓Own.e_test, ↓Own.e_tB, ↓Own.e_ret, ↓Own.e_retN, ↓Own.e_next, ↓Own.e_brk, ↓Own.e_cnt, ↓Own.e_cons, ↓Own.e_nil, ↓Own.e_lst, ↓Own.e_tup, ↓Own.e_drop, ↓Own.e_and, ↓Own.e_or, ↓Own.e_not, ↓Own.e_andV, ↓Own.e_orV, ↓Own.e_notV, ↓Own.e_if, ↓Own.e_chain, Own.e_CB, ↓Own.e_call, ↓Own.e_rIxL, ↓Own.e_rIxT, ↓Own.e_rIxK, ↓Own.e_rIxKT, ↓Own.e_rSlK, ↓Own.e_rLenK, ↓Own.e_rListK, ↓Own.e_rTupleK, ↓Own.e_rSumK, ↓Own.e_rDivK, ↓Own.e_rNeK, ↓Own.e_rEqK, ↓Own.e_rNeKT, ↓Own.e_rEqKT, ↓Own.e_rIsiK, ↓Own.e_rSlS, ↓Own.e_rIxS, Own.tyK_int, Own.tyK_bl, Own.tyK_str, Own.tyK_non, Own.tyK_ref, Own.tyO_lst, Own.tyO_tup, Own.kit1, Own.kit2, Own.kit3, Own.kit4, Own.kit5, Own.kit6, Own.kit7, Own.kit8, Own.kit9, Own.hlst_inj, Own.htup_inj, Own.vty_inj, Own.ivs_inj, Own.bz_inj, Own.ivs_len, Own.bz_len, Own.ivs_app, Own.ivs_set, Own.ivs_bset, Own.bz_app, Own.ivs_snoc, Own.bz_snoc, Own.atI_ints, Own.atI_bz, Own.isLst_some, Own.ty_lst, L2.upd_same, L2.upd_upd, Own.b2_xor, Own.b2_mod2, Own.b2_mod3, Own.b2_mod4, Own.b2_flip, Option.map_some, Option.isSome_some, ne_eq, eq_self, not_false_eq_true, not_true_eq_false, String.reduceEq, ↓Own.e_BM, ↓Own.e_BM0, ↓Own.e_rAppend, ↓Own.e_rCat, ↓Own.e_rRep, ↓Own.e_sl, ↓Own.e_noPart, ↓Own.e_part, ↓Own.e_rSlL, ↓Own.e_gSub, ↓Own.e_rSetL, ↓Own.e_bits, ↓Own.e_yes, ↓Own.e_gTup, ↓Own.e_gNil, ↓Own.e_gCons, ↓Own.e_aug, ↓Own.e_ipI, ↓Own.e_for, ↓Own.e_lc, ↓Own.e_iList, ↓Own.e_iTup, ↓Own.e_iRng1, ↓Own.e_iRng2, ↓Own.e_iRng3, ↓Own.e_iAny, ↓Own.e_rListA, ↓Own.e_rLenA, ↓Own.e_rIsiX, ↓Own.e_rIsB, ↓Own.e_revL, ↓Own.e_rNotB, ↓Own.e_iEnum, ↓Own.e_iZip, L2.start, L2.wipe, List.map_cons, List.map_nil, List.replicate_succ, List.replicate_zero, List.length_cons, List.length_nil, Nat.reduceAdd, Nat.reduceSub, Nat.zero_add, List.getElem?_cons_zero, List.getElem?_cons_succ, List.set_cons_zero, List.set_cons_succ, Option.some.injEq, L2.V.int.injEq, L2.V.bl.injEq, L2.V.str.injEq, L2.V.ref.injEq, List.cons.injEq, List.cons_append, List.nil_append, List.append_nil, exists_eq_left', exists_eq_left, exists_and_left, exists_and_right, exists_eq, and_true, true_and, reduceCtorEq, false_and, and_false, exists_false, or_false, false_or, true_or, or_true, decide_eq_true_eq, Bool.not_true, Bool.not_false, Bool.not_eq_true', Bool.not_eq_false', decide_eq_false_iff_not, ite_not, if_true, if_false, ite_true, ite_false, Bool.false_eq_true, if_pos trivial, decide_true, decide_false, PySem.sizeLine_eq, eq_self, Int.reduceNeg, Int.reducePow, Int.reduceLT, Int.reduceLE, Int.reduceToNat, Nat.reduceLeDiff, Int.reduceSub, Int.reduceAdd, Int.reduceMul, Int.reduceDiv, Int.reduceMod, Int.reduceEq, Nat.reduceMul, Nat.reduceEqDiff, ↓reduceIte, ↓Own.e_raiseO, ↓Own.e_callS, ↓Own.e_what, Own.hxd_inj])
        refine call_to ⟨x, 64, rfl, lx, by omega, fun Hf sf => ?_⟩
        have Sf := ((Sc.trans sd).trans se).trans sf
        (try simp -dsimp only [↓Own.e_seq, ↓Own.e_cxK, ↓Own.e_wishK, ↓Own.e_noxK, ↓Own.e_asg, ↓Own.e_gName, ↓Own.e_var, Own.e_C, ↓Own.e_op, ↓Own.e_un, ↓Own.e_rI, ↓Own.e_rI0, ↓Own.e_rU, Own.e_CMul, Own.e_CDiv, Own.e_CPow, ↓Own.e_rEq, ↓Own.e_rNe, Own.e_scal_int, Own.e_scal_str, Own.e_scal_bl, ↓Own.e_ifS, ↓Own.e_test, ↓Own.e_tB, ↓Own.e_ret, ↓Own.e_retN, ↓Own.e_next, ↓Own.e_brk, ↓Own.e_cnt, ↓Own.e_cons, ↓Own.e_nil, ↓Own.e_lst, ↓Own.e_tup, ↓Own.e_drop, ↓Own.e_and, ↓Own.e_or, ↓Own.e_not, ↓Own.e_andV, ↓Own.e_orV, ↓Own.e_notV, ↓Own.e_if, ↓Own.e_chain, Own.e_CB, ↓Own.e_call, ↓Own.e_rIxL, ↓Own.e_rIxT, ↓Own.e_rIxK, ↓Own.e_rIxKT, ↓Own.e_rSlK, ↓Own.e_rLenK, ↓Own.e_rListK, ↓Own.e_rTupleK, ↓Own.e_rSumK, ↓Own.e_rDivK, ↓Own.e_rNeK, ↓Own.e_rEqK, ↓Own.e_rNeKT, ↓Own.e_rEqKT, ↓Own.e_rIsiK, ↓Own.e_rSlS, ↓Own.e_rIxS, Own.tyK_int, Own.tyK_bl, Own.tyK_str, Own.tyK_non, Own.tyK_ref, Own.tyO_lst, Own.tyO_tup, Own.kit1, Own.kit2, Own.kit3, Own.kit4, Own.kit5, Own.kit6, Own.kit7, Own.kit8, Own.kit9, Own.hlst_inj, Own.htup_inj, Own.vty_inj, Own.ivs_inj, Own.bz_inj, Own.ivs_len, Own.bz_len, Own.ivs_app, Own.ivs_set, Own.ivs_bset, Own.bz_app, Own.ivs_snoc, Own.bz_snoc, Own.atI_ints, Own.atI_bz, Own.isLst_some, Own.ty_lst, L2.upd_same, L2.upd_upd, Own.b2_xor, Own.b2_mod2, Own.b2_mod3, Own.b2_mod4, Own.b2_flip, Option.map_some, Option.isSome_some, ne_eq, eq_self, not_false_eq_true, not_true_eq_false, String.reduceEq, ↓Own.e_BM, ↓Own.e_BM0, ↓Own.e_rAppend, ↓Own.e_rCat, ↓Own.e_rRep, ↓Own.e_sl, ↓Own.e_noPart, ↓Own.e_part, ↓Own.e_rSlL, ↓Own.e_gSub, ↓Own.e_rSetL, ↓Own.e_bits, ↓Own.e_yes, ↓Own.e_gTup, ↓Own.e_gNil, ↓Own.e_gCons, ↓Own.e_aug, ↓Own.e_ipI, ↓Own.e_for, ↓Own.e_lc, ↓Own.e_iList, ↓Own.e_iTup, ↓Own.e_iRng1, ↓Own.e_iRng2, ↓Own.e_iRng3, ↓Own.e_iAny, ↓Own.e_rListA, ↓Own.e_rLenA, ↓Own.e_rIsiX, ↓Own.e_rIsB, ↓Own.e_revL, ↓Own.e_rNotB, ↓Own.e_iEnum, ↓Own.e_iZip, L2.start, L2.wipe, List.map_cons, List.map_nil, List.replicate_succ, List.replicate_zero, List.length_cons, List.length_nil, Nat.reduceAdd, Nat.reduceSub, Nat.zero_add, List.getElem?_cons_zero, List.getElem?_cons_succ, List.set_cons_zero, List.set_cons_succ, Option.some.injEq, L2.V.int.injEq, L2.V.bl.injEq, L2.V.str.injEq, L2.V.ref.injEq, List.cons.injEq, List.cons_append, List.nil_append, List.append_nil, exists_eq_left', exists_eq_left, exists_and_left, exists_and_right, exists_eq, and_true, true_and, reduceCtorEq, false_and, and_false, exists_false, or_false, false_or, true_or, or_true, decide_eq_true_eq, Bool.not_true, Bool.not_false, Bool.not_eq_true', Bool.not_eq_false', decide_eq_false_iff_not, ite_not, if_true, if_false, ite_true, ite_false, Bool.false_eq_true, if_pos trivial, decide_true, decide_false, PySem.sizeLine_eq, eq_self, Int.reduceNeg, Int.reducePow, Int.reduceLT, Int.reduceLE, Int.reduceToNat, Nat.reduceLeDiff, Int.reduceSub, Int.reduceAdd, Int.reduceMul, Int.reduceDiv, Int.reduceMod, Int.reduceEq, Nat.reduceMul, Nat.reduceEqDiff, ↓reduceIte, ↓Own.e_raiseO, ↓Own.e_callS, ↓Own.e_what, Own.hxd_inj])
        have hq0 : 0 ≤ v / 7 % 41 ∧ v / 7 % 41 < 41 := by omega
        refine ⟨by omega, by omega, lc_rng (fun k => ivs ((osq v (v / 7 % 41).toNat).take k)) rfl ?_ ?_⟩
        · intro D k H' hD hk hp
          (try simp -dsimp only [↓Own.e_seq, ↓Own.e_cxK, ↓Own.e_wishK, ↓Own.e_noxK, ↓Own.e_asg, ↓Own.e_gName, ↓Own.e_var, Own.e_C, ↓Own.e_op, ↓Own.e_un, ↓Own.e_rI, ↓Own.e_rI0, ↓Own.e_rU, Own.e_CMul, Own.e_CDiv, Own.e_CPow, ↓Own.e_rEq, ↓Own.e_rNe, Own.e_scal_int, Own.e_scal_str, Own.e_scal_bl, ↓Own.e_ifS, ↓Own.e_test, ↓Own.e_tB, ↓Own.e_ret, ↓Own.e_retN, ↓Own.e_next, ↓Own.e_brk, ↓Own.e_cnt, ↓Own.e_cons, ↓Own.e_nil, ↓Own.e_lst, ↓Own.e_tup, ↓Own.e_drop, ↓Own.e_and, ↓Own.e_or, ↓Own.e_not, ↓Own.e_andV, ↓Own.e_orV, ↓Own.e_notV, ↓Own.e_if, ↓Own.e_chain, Own.e_CB, ↓Own.e_call, ↓Own.e_rIxL, ↓Own.e_rIxT, ↓Own.e_rIxK, ↓Own.e_rIxKT, ↓Own.e_rSlK, ↓Own.e_rLenK, ↓Own.e_rListK, ↓Own.e_rTupleK, ↓Own.e_rSumK, ↓Own.e_rDivK, ↓Own.e_rNeK, ↓Own.e_rEqK, ↓Own.e_rNeKT, ↓Own.e_rEqKT, ↓Own.e_rIsiK, ↓Own.e_rSlS, ↓Own.e_rIxS, Own.tyK_int, Own.tyK_bl, Own.tyK_str, Own.tyK_non, Own.tyK_ref, Own.tyO_lst, Own.tyO_tup, Own.kit1, Own.kit2, Own.kit3, Own.kit4, Own.kit5, Own.kit6, Own.kit7, Own.kit8, Own.kit9, Own.hlst_inj, Own.htup_inj, Own.vty_inj, Own.ivs_inj, Own.bz_inj, Own.ivs_len, Own.bz_len, Own.ivs_app, Own.ivs_set, Own.ivs_bset, Own.bz_app, Own.ivs_snoc, Own.bz_snoc, Own.atI_ints, Own.atI_bz, Own.isLst_some, Own.ty_lst, L2.upd_same, L2.upd_upd, Own.b2_xor, Own.b2_mod2, Own.b2_mod3, Own.b2_mod4, Own.b2_flip, Option.map_some, Option.isSome_some, ne_eq, eq_self, not_false_eq_true, not_true_eq_false, String.reduceEq, ↓Own.e_BM, ↓Own.e_BM0, ↓Own.e_rAppend, ↓Own.e_rCat, ↓Own.e_rRep, ↓Own.e_sl, ↓Own.e_noPart, ↓Own.e_part, ↓Own.e_rSlL, ↓Own.e_gSub, ↓Own.e_rSetL, ↓Own.e_bits, ↓Own.e_yes, ↓Own.e_gTup, ↓Own.e_gNil, ↓Own.e_gCons, ↓Own.e_aug, ↓Own.e_ipI, ↓Own.e_for, ↓Own.e_lc, ↓Own.e_iList, ↓Own.e_iTup, ↓Own.e_iRng1, ↓Own.e_iRng2, ↓Own.e_iRng3, ↓Own.e_iAny, ↓Own.e_rListA, ↓Own.e_rLenA, ↓Own.e_rIsiX, ↓Own.e_rIsB, ↓Own.e_revL, ↓Own.e_rNotB, ↓Own.e_iEnum, ↓Own.e_iZip, L2.start, L2.wipe, List.map_cons, List.map_nil, List.replicate_succ, List.replicate_zero, List.length_cons, List.length_nil, Nat.reduceAdd, Nat.reduceSub, Nat.zero_add, List.getElem?_cons_zero, List.getElem?_cons_succ, List.set_cons_zero, List.set_cons_succ, Option.some.injEq, L2.V.int.injEq, L2.V.bl.injEq, L2.V.str.injEq, L2.V.ref.injEq, List.cons.injEq, List.cons_append, List.nil_append, List.append_nil, exists_eq_left', exists_eq_left, exists_and_left, exists_and_right, exists_eq, and_true, true_and, reduceCtorEq, false_and, and_false, exists_false, or_false, false_or, true_or, or_true, decide_eq_true_eq, Bool.not_true, Bool.not_false, Bool.not_eq_true', Bool.not_eq_false', decide_eq_false_iff_not, ite_not, if_true, if_false, ite_true, ite_false, Bool.false_eq_true, if_pos trivial, decide_true, decide_false, PySem.sizeLine_eq, eq_self, Int.reduceNeg, Int.reducePow, Int.reduceLT, Int.reduceLE, Int.reduceToNat, Nat.reduceLeDiff, Int.reduceSub, Int.reduceAdd, Int.reduceMul, Int.reduceDiv, Int.reduceMod, Int.reduceEq, Nat.reduceMul, Nat.reduceEqDiff, ↓reduceIte, ↓Own.e_raiseO, ↓Own.e_callS, ↓Own.e_what, Own.hxd_inj])
          refine ⟨⟨by omega, by omega⟩, ?_⟩
          exact elt_is hD hp (Same.refl _) (ivs_take_snoc (osq_get hk)) (by rw [ivs_len, List.length_take, osq_len]; omega)
        intro D Hg hD sg hg
        rw [List.take_of_length_le (by rw [osq_len]; omega)] at hg
        (try simp -dsimp only [↓Own.e_seq, ↓Own.e_cxK, ↓Own.e_wishK, ↓Own.e_noxK, ↓Own.e_asg, ↓Own.e_gName, ↓Own.e_var, Own.e_C, ↓Own.e_op, ↓Own.e_un, ↓Own.e_rI, ↓Own.e_rI0, ↓Own.e_rU, Own.e_CMul, Own.e_CDiv, Own.e_CPow, ↓Own.e_rEq, ↓Own.e_rNe, Own.e_scal_int, Own.e_scal_str, Own.e_scal_bl, ↓Own.e_ifS, ↓Own.e_test, ↓Own.e_tB, ↓Own.e_ret, ↓Own.e_retN, ↓Own.e_next, ↓Own.e_brk, ↓Own.e_cnt, ↓Own.e_cons, ↓Own.e_nil, ↓Own.e_lst, ↓Own.e_tup, ↓Own.e_drop, ↓Own.e_and, ↓Own.e_or, ↓Own.e_not, ↓Own.e_andV, ↓Own.e_orV, ↓Own.e_notV, ↓Own.e_if, ↓Own.e_chain, Own.e_CB, ↓Own.e_call, ↓Own.e_rIxL, ↓Own.e_rIxT, ↓Own.e_rIxK, ↓Own.e_rIxKT, ↓Own.e_rSlK, ↓Own.e_rLenK, ↓Own.e_rListK, ↓Own.e_rTupleK, ↓Own.e_rSumK, ↓Own.e_rDivK, ↓Own.e_rNeK, ↓Own.e_rEqK, ↓Own.e_rNeKT, ↓Own.e_rEqKT, ↓Own.e_rIsiK, ↓Own.e_rSlS, ↓Own.e_rIxS, Own.tyK_int, Own.tyK_bl, Own.tyK_str, Own.tyK_non, Own.tyK_ref, Own.tyO_lst, Own.tyO_tup, Own.kit1, Own.kit2, Own.kit3, Own.kit4, Own.kit5, Own.kit6, Own.kit7, Own.kit8, Own.kit9, Own.hlst_inj, Own.htup_inj, Own.vty_inj, Own.ivs_inj, Own.bz_inj, Own.ivs_len, Own.bz_len, Own.ivs_app, Own.ivs_set, Own.ivs_bset, Own.bz_app, Own.ivs_snoc, Own.bz_snoc, Own.atI_ints, Own.atI_bz, Own.isLst_some, Own.ty_lst, L2.upd_same, L2.upd_upd, Own.b2_xor, Own.b2_mod2, Own.b2_mod3, Own.b2_mod4, Own.b2_flip, Option.map_some, Option.isSome_some, ne_eq, eq_self, not_false_eq_true, not_true_eq_false, String.reduceEq, ↓Own.e_BM, ↓Own.e_BM0, ↓Own.e_rAppend, ↓Own.e_rCat, ↓Own.e_rRep, ↓Own.e_sl, ↓Own.e_noPart, ↓Own.e_part, ↓Own.e_rSlL, ↓Own.e_gSub, ↓Own.e_rSetL, ↓Own.e_bits, ↓Own.e_yes, ↓Own.e_gTup, ↓Own.e_gNil, ↓Own.e_gCons, ↓Own.e_aug, ↓Own.e_ipI, ↓Own.e_for, ↓Own.e_lc, ↓Own.e_iList, ↓Own.e_iTup, ↓Own.e_iRng1, ↓Own.e_iRng2, ↓Own.e_iRng3, ↓Own.e_iAny, ↓Own.e_rListA, ↓Own.e_rLenA, ↓Own.e_rIsiX, ↓Own.e_rIsB, ↓Own.e_revL, ↓Own.e_rNotB, ↓Own.e_iEnum, ↓Own.e_iZip, L2.start, L2.wipe, List.map_cons, List.map_nil, List.replicate_succ, List.replicate_zero, List.length_cons, List.length_nil, Nat.reduceAdd, Nat.reduceSub, Nat.zero_add, List.getElem?_cons_zero, List.getElem?_cons_succ, List.set_cons_zero, List.set_cons_succ, Option.some.injEq, L2.V.int.injEq, L2.V.bl.injEq, L2.V.str.injEq, L2.V.ref.injEq, List.cons.injEq, List.cons_append, List.nil_append, List.append_nil, exists_eq_left', exists_eq_left, exists_and_left, exists_and_right, exists_eq, and_true, true_and, reduceCtorEq, false_and, and_false, exists_false, or_false, false_or, true_or, or_true, decide_eq_true_eq, Bool.not_true, Bool.not_false, Bool.not_eq_true', Bool.not_eq_false', decide_eq_false_iff_not, ite_not, if_true, if_false, ite_true, ite_false, Bool.false_eq_true, if_pos trivial, decide_true, decide_false, PySem.sizeLine_eq, eq_self, Int.reduceNeg, Int.reducePow, Int.reduceLT, Int.reduceLE, Int.reduceToNat, Nat.reduceLeDiff, Int.reduceSub, Int.reduceAdd, Int.reduceMul, Int.reduceDiv, Int.reduceMod, Int.reduceEq, Nat.reduceMul, Nat.reduceEqDiff, ↓reduceIte, ↓Own.e_raiseO, ↓Own.e_callS, ↓Own.e_what, Own.hxd_inj, hg])
        refine new_of fun po Hh npo sh ho => ?_
        (try simp -dsimp only [↓Own.e_seq, ↓Own.e_cxK, ↓Own.e_wishK, ↓Own.e_noxK, ↓Own.e_asg, ↓Own.e_gName, ↓Own.e_var, Own.e_C, ↓Own.e_op, ↓Own.e_un, ↓Own.e_rI, ↓Own.e_rI0, ↓Own.e_rU, Own.e_CMul, Own.e_CDiv, Own.e_CPow, ↓Own.e_rEq, ↓Own.e_rNe, Own.e_scal_int, Own.e_scal_str, Own.e_scal_bl, ↓Own.e_ifS, ↓Own.e_test, ↓Own.e_tB, ↓Own.e_ret, ↓Own.e_retN, ↓Own.e_next, ↓Own.e_brk, ↓Own.e_cnt, ↓Own.e_cons, ↓Own.e_nil, ↓Own.e_lst, ↓Own.e_tup, ↓Own.e_drop, ↓Own.e_and, ↓Own.e_or, ↓Own.e_not, ↓Own.e_andV, ↓Own.e_orV, ↓Own.e_notV, ↓Own.e_if, ↓Own.e_chain, Own.e_CB, ↓Own.e_call, ↓Own.e_rIxL, ↓Own.e_rIxT, ↓Own.e_rIxK, ↓Own.e_rIxKT, ↓Own.e_rSlK, ↓Own.e_rLenK, ↓Own.e_rListK, ↓Own.e_rTupleK, ↓Own.e_rSumK, ↓Own.e_rDivK, ↓Own.e_rNeK, ↓Own.e_rEqK, ↓Own.e_rNeKT, ↓Own.e_rEqKT, ↓Own.e_rIsiK, ↓Own.e_rSlS, ↓Own.e_rIxS, Own.tyK_int, Own.tyK_bl, Own.tyK_str, Own.tyK_non, Own.tyK_ref, Own.tyO_lst, Own.tyO_tup, Own.kit1, Own.kit2, Own.kit3, Own.kit4, Own.kit5, Own.kit6, Own.kit7, Own.kit8, Own.kit9, Own.hlst_inj, Own.htup_inj, Own.vty_inj, Own.ivs_inj, Own.bz_inj, Own.ivs_len, Own.bz_len, Own.ivs_app, Own.ivs_set, Own.ivs_bset, Own.bz_app, Own.ivs_snoc, Own.bz_snoc, Own.atI_ints, Own.atI_bz, Own.isLst_some, Own.ty_lst, L2.upd_same, L2.upd_upd, Own.b2_xor, Own.b2_mod2, Own.b2_mod3, Own.b2_mod4, Own.b2_flip, Option.map_some, Option.isSome_some, ne_eq, eq_self, not_false_eq_true, not_true_eq_false, String.reduceEq, ↓Own.e_BM, ↓Own.e_BM0, ↓Own.e_rAppend, ↓Own.e_rCat, ↓Own.e_rRep, ↓Own.e_sl, ↓Own.e_noPart, ↓Own.e_part, ↓Own.e_rSlL, ↓Own.e_gSub, ↓Own.e_rSetL, ↓Own.e_bits, ↓Own.e_yes, ↓Own.e_gTup, ↓Own.e_gNil, ↓Own.e_gCons, ↓Own.e_aug, ↓Own.e_ipI, ↓Own.e_for, ↓Own.e_lc, ↓Own.e_iList, ↓Own.e_iTup, ↓Own.e_iRng1, ↓Own.e_iRng2, ↓Own.e_iRng3, ↓Own.e_iAny, ↓Own.e_rListA, ↓Own.e_rLenA, ↓Own.e_rIsiX, ↓Own.e_rIsB, ↓Own.e_revL, ↓Own.e_rNotB, ↓Own.e_iEnum, ↓Own.e_iZip, L2.start, L2.wipe, List.map_cons, List.map_nil, List.replicate_succ, List.replicate_zero, List.length_cons, List.length_nil, Nat.reduceAdd, Nat.reduceSub, Nat.zero_add, List.getElem?_cons_zero, List.getElem?_cons_succ, List.set_cons_zero, List.set_cons_succ, Option.some.injEq, L2.V.int.injEq, L2.V.bl.injEq, L2.V.str.injEq, L2.V.ref.injEq, List.cons.injEq, List.cons_append, List.nil_append, List.append_nil, exists_eq_left', exists_eq_left, exists_and_left, exists_and_right, exists_eq, and_true, true_and, reduceCtorEq, false_and, and_false, exists_false, or_false, false_or, true_or, or_true, decide_eq_true_eq, Bool.not_true, Bool.not_false, Bool.not_eq_true', Bool.not_eq_false', decide_eq_false_iff_not, ite_not, if_true, if_false, ite_true, ite_false, Bool.false_eq_true, if_pos trivial, decide_true, decide_false, PySem.sizeLine_eq, eq_self, Int.reduceNeg, Int.reducePow, Int.reduceLT, Int.reduceLE, Int.reduceToNat, Nat.reduceLeDiff, Int.reduceSub, Int.reduceAdd, Int.reduceMul, Int.reduceDiv, Int.reduceMod, Int.reduceEq, Nat.reduceMul, Nat.reduceEqDiff, ↓reduceIte, ↓Own.e_raiseO, ↓Own.e_callS, ↓Own.e_what, Own.hxd_inj])
        refine call_to ⟨_, _, rfl, ho, by rw [osq_len]; omega, osq_in, fun Hi si => ?_⟩
        (try simp -dsimp only [↓Own.e_seq, ↓Own.e_cxK, ↓Own.e_wishK, ↓Own.e_noxK, ↓Own.e_asg, ↓Own.e_gName, ↓Own.e_var, Own.e_C, ↓Own.e_op, ↓Own.e_un, ↓Own.e_rI, ↓Own.e_rI0, ↓Own.e_rU, Own.e_CMul, Own.e_CDiv, Own.e_CPow, ↓Own.e_rEq, ↓Own.e_rNe, Own.e_scal_int, Own.e_scal_str, Own.e_scal_bl, ↓Own.e_ifS, ↓Own.e_test, ↓Own.e_tB, ↓Own.e_ret, ↓Own.e_retN, ↓Own.e_next, ↓Own.e_brk, ↓Own.e_cnt, ↓Own.e_cons, ↓Own.e_nil, ↓Own.e_lst, ↓Own.e_tup, ↓Own.e_drop, ↓Own.e_and, ↓Own.e_or, ↓Own.e_not, ↓Own.e_andV, ↓Own.e_orV, ↓Own.e_notV, ↓Own.e_if, ↓Own.e_chain, Own.e_CB, ↓Own.e_call, ↓Own.e_rIxL, ↓Own.e_rIxT, ↓Own.e_rIxK, ↓Own.e_rIxKT, ↓Own.e_rSlK, ↓Own.e_rLenK, ↓Own.e_rListK, ↓Own.e_rTupleK, ↓Own.e_rSumK, ↓Own.e_rDivK, ↓Own.e_rNeK, ↓Own.e_rEqK, ↓Own.e_rNeKT, ↓Own.e_rEqKT, ↓Own.e_rIsiK, ↓Own.e_rSlS, ↓Own.e_rIxS, Own.tyK_int, Own.tyK_bl, Own.tyK_str, Own.tyK_non, Own.tyK_ref, Own.tyO_lst, Own.tyO_tup, Own.kit1, Own.kit2, Own.kit3, Own.kit4, Own.kit5, Own.kit6, Own.kit7, Own.kit8, Own.kit9, Own.hlst_inj, Own.htup_inj, Own.vty_inj, Own.ivs_inj, Own.bz_inj, Own.ivs_len, Own.bz_len, Own.ivs_app, Own.ivs_set, Own.ivs_bset, Own.bz_app, Own.ivs_snoc, Own.bz_snoc, Own.atI_ints, Own.atI_bz, Own.isLst_some, Own.ty_lst, L2.upd_same, L2.upd_upd, Own.b2_xor, Own.b2_mod2, Own.b2_mod3, Own.b2_mod4, Own.b2_flip, Option.map_some, Option.isSome_some, ne_eq, eq_self, not_false_eq_true, not_true_eq_false, String.reduceEq, ↓Own.e_BM, ↓Own.e_BM0, ↓Own.e_rAppend, ↓Own.e_rCat, ↓Own.e_rRep, ↓Own.e_sl, ↓Own.e_noPart, ↓Own.e_part, ↓Own.e_rSlL, ↓Own.e_gSub, ↓Own.e_rSetL, ↓Own.e_bits, ↓Own.e_yes, ↓Own.e_gTup, ↓Own.e_gNil, ↓Own.e_gCons, ↓Own.e_aug, ↓Own.e_ipI, ↓Own.e_for, ↓Own.e_lc, ↓Own.e_iList, ↓Own.e_iTup, ↓Own.e_iRng1, ↓Own.e_iRng2, ↓Own.e_iRng3, ↓Own.e_iAny, ↓Own.e_rListA, ↓Own.e_rLenA, ↓Own.e_rIsiX, ↓Own.e_rIsB, ↓Own.e_revL, ↓Own.e_rNotB, ↓Own.e_iEnum, ↓Own.e_iZip, L2.start, L2.wipe, List.map_cons, List.map_nil, List.replicate_succ, List.replicate_zero, List.length_cons, List.length_nil, Nat.reduceAdd, Nat.reduceSub, Nat.zero_add, List.getElem?_cons_zero, List.getElem?_cons_succ, List.set_cons_zero, List.set_cons_succ, Option.some.injEq, L2.V.int.injEq, L2.V.bl.injEq, L2.V.str.injEq, L2.V.ref.injEq, List.cons.injEq, List.cons_append, List.nil_append, List.append_nil, exists_eq_left', exists_eq_left, exists_and_left, exists_and_right, exists_eq, and_true, true_and, reduceCtorEq, false_and, and_false, exists_false, or_false, false_or, true_or, or_true, decide_eq_true_eq, Bool.not_true, Bool.not_false, Bool.not_eq_true', Bool.not_eq_false', decide_eq_false_iff_not, ite_not, if_true, if_false, ite_true, ite_false, Bool.false_eq_true, if_pos trivial, decide_true, decide_false, PySem.sizeLine_eq, eq_self, Int.reduceNeg, Int.reducePow, Int.reduceLT, Int.reduceLE, Int.reduceToNat, Nat.reduceLeDiff, Int.reduceSub, Int.reduceAdd, Int.reduceMul, Int.reduceDiv, Int.reduceMod, Int.reduceEq, Nat.reduceMul, Nat.reduceEqDiff, ↓reduceIte, ↓Own.e_raiseO, ↓Own.e_callS, ↓Own.e_what, Own.hxd_inj])
        refine call_to ⟨_, _, rfl, .of (si _ _ ho), by rw [osq_len]; omega, fun Hj pb sj npb hj => ?_⟩
        (try simp -dsimp only [↓Own.e_seq, ↓Own.e_cxK, ↓Own.e_wishK, ↓Own.e_noxK, ↓Own.e_asg, ↓Own.e_gName, ↓Own.e_var, Own.e_C, ↓Own.e_op, ↓Own.e_un, ↓Own.e_rI, ↓Own.e_rI0, ↓Own.e_rU, Own.e_CMul, Own.e_CDiv, Own.e_CPow, ↓Own.e_rEq, ↓Own.e_rNe, Own.e_scal_int, Own.e_scal_str, Own.e_scal_bl, ↓Own.e_ifS, ↓Own.e_test, ↓Own.e_tB, ↓Own.e_ret, ↓Own.e_retN, ↓Own.e_next, ↓Own.e_brk, ↓Own.e_cnt, ↓Own.e_cons, ↓Own.e_nil, ↓Own.e_lst, ↓Own.e_tup, ↓Own.e_drop, ↓Own.e_and, ↓Own.e_or, ↓Own.e_not, ↓Own.e_andV, ↓Own.e_orV, ↓Own.e_notV, ↓Own.e_if, ↓Own.e_chain, Own.e_CB, ↓Own.e_call, ↓Own.e_rIxL, ↓Own.e_rIxT, ↓Own.e_rIxK, ↓Own.e_rIxKT, ↓Own.e_rSlK, ↓Own.e_rLenK, ↓Own.e_rListK, ↓Own.e_rTupleK, ↓Own.e_rSumK, ↓Own.e_rDivK, ↓Own.e_rNeK, ↓Own.e_rEqK, ↓Own.e_rNeKT, ↓Own.e_rEqKT, ↓Own.e_rIsiK, ↓Own.e_rSlS, ↓Own.e_rIxS, Own.tyK_int, Own.tyK_bl, Own.tyK_str, Own.tyK_non, Own.tyK_ref, Own.tyO_lst, Own.tyO_tup, Own.kit1, Own.kit2, Own.kit3, Own.kit4, Own.kit5, Own.kit6, Own.kit7, Own.kit8, Own.kit9, Own.hlst_inj, Own.htup_inj, Own.vty_inj, Own.ivs_inj, Own.bz_inj, Own.ivs_len, Own.bz_len, Own.ivs_app, Own.ivs_set, Own.ivs_bset, Own.bz_app, Own.ivs_snoc, Own.bz_snoc, Own.atI_ints, Own.atI_bz, Own.isLst_some, Own.ty_lst, L2.upd_same, L2.upd_upd, Own.b2_xor, Own.b2_mod2, Own.b2_mod3, Own.b2_mod4, Own.b2_flip, Option.map_some, Option.isSome_some, ne_eq, eq_self, not_false_eq_true, not_true_eq_false, String.reduceEq, ↓Own.e_BM, ↓Own.e_BM0, ↓Own.e_rAppend, ↓Own.e_rCat, ↓Own.e_rRep, ↓Own.e_sl, ↓Own.e_noPart, ↓Own.e_part, ↓Own.e_rSlL, ↓Own.e_gSub, ↓Own.e_rSetL, ↓Own.e_bits, ↓Own.e_yes, ↓Own.e_gTup, ↓Own.e_gNil, ↓Own.e_gCons, ↓Own.e_aug, ↓Own.e_ipI, ↓Own.e_for, ↓Own.e_lc, ↓Own.e_iList, ↓Own.e_iTup, ↓Own.e_iRng1, ↓Own.e_iRng2, ↓Own.e_iRng3, ↓Own.e_iAny, ↓Own.e_rListA, ↓Own.e_rLenA, ↓Own.e_rIsiX, ↓Own.e_rIsB, ↓Own.e_revL, ↓Own.e_rNotB, ↓Own.e_iEnum, ↓Own.e_iZip, L2.start, L2.wipe, List.map_cons, List.map_nil, List.replicate_succ, List.replicate_zero, List.length_cons, List.length_nil, Nat.reduceAdd, Nat.reduceSub, Nat.zero_add, List.getElem?_cons_zero, List.getElem?_cons_succ, List.set_cons_zero, List.set_cons_succ, Option.some.injEq, L2.V.int.injEq, L2.V.bl.injEq, L2.V.str.injEq, L2.V.ref.injEq, List.cons.injEq, List.cons_append, List.nil_append, List.append_nil, exists_eq_left', exists_eq_left, exists_and_left, exists_and_right, exists_eq, and_true, true_and, reduceCtorEq, false_and, and_false, exists_false, or_false, false_or, true_or, or_true, decide_eq_true_eq, Bool.not_true, Bool.not_false, Bool.not_eq_true', Bool.not_eq_false', decide_eq_false_iff_not, ite_not, if_true, if_false, ite_true, ite_false, Bool.false_eq_true, if_pos trivial, decide_true, decide_false, PySem.sizeLine_eq, eq_self, Int.reduceNeg, Int.reducePow, Int.reduceLT, Int.reduceLE, Int.reduceToNat, Nat.reduceLeDiff, Int.reduceSub, Int.reduceAdd, Int.reduceMul, Int.reduceDiv, Int.reduceMod, Int.reduceEq, Nat.reduceMul, Nat.reduceEqDiff, ↓reduceIte, ↓Own.e_raiseO, ↓Own.e_callS, ↓Own.e_what, Own.hxd_inj])
        refine ⟨by omega, by omega, lc_rng (fun k => ivs (bz (List.replicate k (decide (v / 11 % 2 = 1))))) rfl ?_ ?_⟩
        · intro D k H' hD hk hp
          (try simp -dsimp only [↓Own.e_seq, ↓Own.e_cxK, ↓Own.e_wishK, ↓Own.e_noxK, ↓Own.e_asg, ↓Own.e_gName, ↓Own.e_var, Own.e_C, ↓Own.e_op, ↓Own.e_un, ↓Own.e_rI, ↓Own.e_rI0, ↓Own.e_rU, Own.e_CMul, Own.e_CDiv, Own.e_CPow, ↓Own.e_rEq, ↓Own.e_rNe, Own.e_scal_int, Own.e_scal_str, Own.e_scal_bl, ↓Own.e_ifS, ↓Own.e_test, ↓Own.e_tB, ↓Own.e_ret, ↓Own.e_retN, ↓Own.e_next, ↓Own.e_brk, ↓Own.e_cnt, ↓Own.e_cons, ↓Own.e_nil, ↓Own.e_lst, ↓Own.e_tup, ↓Own.e_drop, ↓Own.e_and, ↓Own.e_or, ↓Own.e_not, ↓Own.e_andV, ↓Own.e_orV, ↓Own.e_notV, ↓Own.e_if, ↓Own.e_chain, Own.e_CB, ↓Own.e_call, ↓Own.e_rIxL, ↓Own.e_rIxT, ↓Own.e_rIxK, ↓Own.e_rIxKT, ↓Own.e_rSlK, ↓Own.e_rLenK, ↓Own.e_rListK, ↓Own.e_rTupleK, ↓Own.e_rSumK, ↓Own.e_rDivK, ↓Own.e_rNeK, ↓Own.e_rEqK, ↓Own.e_rNeKT, ↓Own.e_rEqKT, ↓Own.e_rIsiK, ↓Own.e_rSlS, ↓Own.e_rIxS, Own.tyK_int, Own.tyK_bl, Own.tyK_str, Own.tyK_non, Own.tyK_ref, Own.tyO_lst, Own.tyO_tup, Own.kit1, Own.kit2, Own.kit3, Own.kit4, Own.kit5, Own.kit6, Own.kit7, Own.kit8, Own.kit9, Own.hlst_inj, Own.htup_inj, Own.vty_inj, Own.ivs_inj, Own.bz_inj, Own.ivs_len, Own.bz_len, Own.ivs_app, Own.ivs_set, Own.ivs_bset, Own.bz_app, Own.ivs_snoc, Own.bz_snoc, Own.atI_ints, Own.atI_bz, Own.isLst_some, Own.ty_lst, L2.upd_same, L2.upd_upd, Own.b2_xor, Own.b2_mod2, Own.b2_mod3, Own.b2_mod4, Own.b2_flip, Option.map_some, Option.isSome_some, ne_eq, eq_self, not_false_eq_true, not_true_eq_false, String.reduceEq, ↓Own.e_BM, ↓Own.e_BM0, ↓Own.e_rAppend, ↓Own.e_rCat, ↓Own.e_rRep, ↓Own.e_sl, ↓Own.e_noPart, ↓Own.e_part, ↓Own.e_rSlL, ↓Own.e_gSub, ↓Own.e_rSetL, ↓Own.e_bits, ↓Own.e_yes, ↓Own.e_gTup, ↓Own.e_gNil, ↓Own.e_gCons, ↓Own.e_aug, ↓Own.e_ipI, ↓Own.e_for, ↓Own.e_lc, ↓Own.e_iList, ↓Own.e_iTup, ↓Own.e_iRng1, ↓Own.e_iRng2, ↓Own.e_iRng3, ↓Own.e_iAny, ↓Own.e_rListA, ↓Own.e_rLenA, ↓Own.e_rIsiX, ↓Own.e_rIsB, ↓Own.e_revL, ↓Own.e_rNotB, ↓Own.e_iEnum, ↓Own.e_iZip, L2.start, L2.wipe, List.map_cons, List.map_nil, List.replicate_succ, List.replicate_zero, List.length_cons, List.length_nil, Nat.reduceAdd, Nat.reduceSub, Nat.zero_add, List.getElem?_cons_zero, List.getElem?_cons_succ, List.set_cons_zero, List.set_cons_succ, Option.some.injEq, L2.V.int.injEq, L2.V.bl.injEq, L2.V.str.injEq, L2.V.ref.injEq, List.cons.injEq, List.cons_append, List.nil_append, List.append_nil, exists_eq_left', exists_eq_left, exists_and_left, exists_and_right, exists_eq, and_true, true_and, reduceCtorEq, false_and, and_false, exists_false, or_false, false_or, true_or, or_true, decide_eq_true_eq, Bool.not_true, Bool.not_false, Bool.not_eq_true', Bool.not_eq_false', decide_eq_false_iff_not, ite_not, if_true, if_false, ite_true, ite_false, Bool.false_eq_true, if_pos trivial, decide_true, decide_false, PySem.sizeLine_eq, eq_self, Int.reduceNeg, Int.reducePow, Int.reduceLT, Int.reduceLE, Int.reduceToNat, Nat.reduceLeDiff, Int.reduceSub, Int.reduceAdd, Int.reduceMul, Int.reduceDiv, Int.reduceMod, Int.reduceEq, Nat.reduceMul, Nat.reduceEqDiff, ↓reduceIte, ↓Own.e_raiseO, ↓Own.e_callS, ↓Own.e_what, Own.hxd_inj])
          have eb := b2_odd (v / 11)
          exact elt_is hD hp (Same.refl _) (by rw [List.replicate_succ', ← bz_snoc, ← ivs_snoc, ← eb]) (by rw [ivs_len, bz_len, List.length_replicate]; omega)
        intro D2 Hk hD2 sk hk2
        have ol := obs_len (osq v (v / 7 % 41).toNat)
        rw [osq_len] at ol
        (try simp -dsimp only [↓Own.e_seq, ↓Own.e_cxK, ↓Own.e_wishK, ↓Own.e_noxK, ↓Own.e_asg, ↓Own.e_gName, ↓Own.e_var, Own.e_C, ↓Own.e_op, ↓Own.e_un, ↓Own.e_rI, ↓Own.e_rI0, ↓Own.e_rU, Own.e_CMul, Own.e_CDiv, Own.e_CPow, ↓Own.e_rEq, ↓Own.e_rNe, Own.e_scal_int, Own.e_scal_str, Own.e_scal_bl, ↓Own.e_ifS, ↓Own.e_test, ↓Own.e_tB, ↓Own.e_ret, ↓Own.e_retN, ↓Own.e_next, ↓Own.e_brk, ↓Own.e_cnt, ↓Own.e_cons, ↓Own.e_nil, ↓Own.e_lst, ↓Own.e_tup, ↓Own.e_drop, ↓Own.e_and, ↓Own.e_or, ↓Own.e_not, ↓Own.e_andV, ↓Own.e_orV, ↓Own.e_notV, ↓Own.e_if, ↓Own.e_chain, Own.e_CB, ↓Own.e_call, ↓Own.e_rIxL, ↓Own.e_rIxT, ↓Own.e_rIxK, ↓Own.e_rIxKT, ↓Own.e_rSlK, ↓Own.e_rLenK, ↓Own.e_rListK, ↓Own.e_rTupleK, ↓Own.e_rSumK, ↓Own.e_rDivK, ↓Own.e_rNeK, ↓Own.e_rEqK, ↓Own.e_rNeKT, ↓Own.e_rEqKT, ↓Own.e_rIsiK, ↓Own.e_rSlS, ↓Own.e_rIxS, Own.tyK_int, Own.tyK_bl, Own.tyK_str, Own.tyK_non, Own.tyK_ref, Own.tyO_lst, Own.tyO_tup, Own.kit1, Own.kit2, Own.kit3, Own.kit4, Own.kit5, Own.kit6, Own.kit7, Own.kit8, Own.kit9, Own.hlst_inj, Own.htup_inj, Own.vty_inj, Own.ivs_inj, Own.bz_inj, Own.ivs_len, Own.bz_len, Own.ivs_app, Own.ivs_set, Own.ivs_bset, Own.bz_app, Own.ivs_snoc, Own.bz_snoc, Own.atI_ints, Own.atI_bz, Own.isLst_some, Own.ty_lst, L2.upd_same, L2.upd_upd, Own.b2_xor, Own.b2_mod2, Own.b2_mod3, Own.b2_mod4, Own.b2_flip, Option.map_some, Option.isSome_some, ne_eq, eq_self, not_false_eq_true, not_true_eq_false, String.reduceEq, ↓Own.e_BM, ↓Own.e_BM0, ↓Own.e_rAppend, ↓Own.e_rCat, ↓Own.e_rRep, ↓Own.e_sl, ↓Own.e_noPart, ↓Own.e_part, ↓Own.e_rSlL, ↓Own.e_gSub, ↓Own.e_rSetL, ↓Own.e_bits, ↓Own.e_yes, ↓Own.e_gTup, ↓Own.e_gNil, ↓Own.e_gCons, ↓Own.e_aug, ↓Own.e_ipI, ↓Own.e_for, ↓Own.e_lc, ↓Own.e_iList, ↓Own.e_iTup, ↓Own.e_iRng1, ↓Own.e_iRng2, ↓Own.e_iRng3, ↓Own.e_iAny, ↓Own.e_rListA, ↓Own.e_rLenA, ↓Own.e_rIsiX, ↓Own.e_rIsB, ↓Own.e_revL, ↓Own.e_rNotB, ↓Own.e_iEnum, ↓Own.e_iZip, L2.start, L2.wipe, List.map_cons, List.map_nil, List.replicate_succ, List.replicate_zero, List.length_cons, List.length_nil, Nat.reduceAdd, Nat.reduceSub, Nat.zero_add, List.getElem?_cons_zero, List.getElem?_cons_succ, List.set_cons_zero, List.set_cons_succ, Option.some.injEq, L2.V.int.injEq, L2.V.bl.injEq, L2.V.str.injEq, L2.V.ref.injEq, List.cons.injEq, List.cons_append, List.nil_append, List.append_nil, exists_eq_left', exists_eq_left, exists_and_left, exists_and_right, exists_eq, and_true, true_and, reduceCtorEq, false_and, and_false, exists_false, or_false, false_or, true_or, or_true, decide_eq_true_eq, Bool.not_true, Bool.not_false, Bool.not_eq_true', Bool.not_eq_false', decide_eq_false_iff_not, ite_not, if_true, if_false, ite_true, ite_false, Bool.false_eq_true, if_pos trivial, decide_true, decide_false, PySem.sizeLine_eq, eq_self, Int.reduceNeg, Int.reducePow, Int.reduceLT, Int.reduceLE, Int.reduceToNat, Nat.reduceLeDiff, Int.reduceSub, Int.reduceAdd, Int.reduceMul, Int.reduceDiv, Int.reduceMod, Int.reduceEq, Nat.reduceMul, Nat.reduceEqDiff, ↓reduceIte, ↓Own.e_raiseO, ↓Own.e_callS, ↓Own.e_what, Own.hxd_inj, hk2, sk _ _ hj, ol, List.length_replicate])
        refine ⟨by omega, new_of fun pc Hl npc sl hl => ?_⟩
        (try simp -dsimp only [↓Own.e_seq, ↓Own.e_cxK, ↓Own.e_wishK, ↓Own.e_noxK, ↓Own.e_asg, ↓Own.e_gName, ↓Own.e_var, Own.e_C, ↓Own.e_op, ↓Own.e_un, ↓Own.e_rI, ↓Own.e_rI0, ↓Own.e_rU, Own.e_CMul, Own.e_CDiv, Own.e_CPow, ↓Own.e_rEq, ↓Own.e_rNe, Own.e_scal_int, Own.e_scal_str, Own.e_scal_bl, ↓Own.e_ifS, ↓Own.e_test, ↓Own.e_tB, ↓Own.e_ret, ↓Own.e_retN, ↓Own.e_next, ↓Own.e_brk, ↓Own.e_cnt, ↓Own.e_cons, ↓Own.e_nil, ↓Own.e_lst, ↓Own.e_tup, ↓Own.e_drop, ↓Own.e_and, ↓Own.e_or, ↓Own.e_not, ↓Own.e_andV, ↓Own.e_orV, ↓Own.e_notV, ↓Own.e_if, ↓Own.e_chain, Own.e_CB, ↓Own.e_call, ↓Own.e_rIxL, ↓Own.e_rIxT, ↓Own.e_rIxK, ↓Own.e_rIxKT, ↓Own.e_rSlK, ↓Own.e_rLenK, ↓Own.e_rListK, ↓Own.e_rTupleK, ↓Own.e_rSumK, ↓Own.e_rDivK, ↓Own.e_rNeK, ↓Own.e_rEqK, ↓Own.e_rNeKT, ↓Own.e_rEqKT, ↓Own.e_rIsiK, ↓Own.e_rSlS, ↓Own.e_rIxS, Own.tyK_int, Own.tyK_bl, Own.tyK_str, Own.tyK_non, Own.tyK_ref, Own.tyO_lst, Own.tyO_tup, Own.kit1, Own.kit2, Own.kit3, Own.kit4, Own.kit5, Own.kit6, Own.kit7, Own.kit8, Own.kit9, Own.hlst_inj, Own.htup_inj, Own.vty_inj, Own.ivs_inj, Own.bz_inj, Own.ivs_len, Own.bz_len, Own.ivs_app, Own.ivs_set, Own.ivs_bset, Own.bz_app, Own.ivs_snoc, Own.bz_snoc, Own.atI_ints, Own.atI_bz, Own.isLst_some, Own.ty_lst, L2.upd_same, L2.upd_upd, Own.b2_xor, Own.b2_mod2, Own.b2_mod3, Own.b2_mod4, Own.b2_flip, Option.map_some, Option.isSome_some, ne_eq, eq_self, not_false_eq_true, not_true_eq_false, String.reduceEq, ↓Own.e_BM, ↓Own.e_BM0, ↓Own.e_rAppend, ↓Own.e_rCat, ↓Own.e_rRep, ↓Own.e_sl, ↓Own.e_noPart, ↓Own.e_part, ↓Own.e_rSlL, ↓Own.e_gSub, ↓Own.e_rSetL, ↓Own.e_bits, ↓Own.e_yes, ↓Own.e_gTup, ↓Own.e_gNil, ↓Own.e_gCons, ↓Own.e_aug, ↓Own.e_ipI, ↓Own.e_for, ↓Own.e_lc, ↓Own.e_iList, ↓Own.e_iTup, ↓Own.e_iRng1, ↓Own.e_iRng2, ↓Own.e_iRng3, ↓Own.e_iAny, ↓Own.e_rListA, ↓Own.e_rLenA, ↓Own.e_rIsiX, ↓Own.e_rIsB, ↓Own.e_revL, ↓Own.e_rNotB, ↓Own.e_iEnum, ↓Own.e_iZip, L2.start, L2.wipe, List.map_cons, List.map_nil, List.replicate_succ, List.replicate_zero, List.length_cons, List.length_nil, Nat.reduceAdd, Nat.reduceSub, Nat.zero_add, List.getElem?_cons_zero, List.getElem?_cons_succ, List.set_cons_zero, List.set_cons_succ, Option.some.injEq, L2.V.int.injEq, L2.V.bl.injEq, L2.V.str.injEq, L2.V.ref.injEq, List.cons.injEq, List.cons_append, List.nil_append, List.append_nil, exists_eq_left', exists_eq_left, exists_and_left, exists_and_right, exists_eq, and_true, true_and, reduceCtorEq, false_and, and_false, exists_false, or_false, false_or, true_or, or_true, decide_eq_true_eq, Bool.not_true, Bool.not_false, Bool.not_eq_true', Bool.not_eq_false', decide_eq_false_iff_not, ite_not, if_true, if_false, ite_true, ite_false, Bool.false_eq_true, if_pos trivial, decide_true, decide_false, PySem.sizeLine_eq, eq_self, Int.reduceNeg, Int.reducePow, Int.reduceLT, Int.reduceLE, Int.reduceToNat, Nat.reduceLeDiff, Int.reduceSub, Int.reduceAdd, Int.reduceMul, Int.reduceDiv, Int.reduceMod, Int.reduceEq, Nat.reduceMul, Nat.reduceEqDiff, ↓reduceIte, ↓Own.e_raiseO, ↓Own.e_callS, ↓Own.e_what, Own.hxd_inj])
        have Sl := ((((((Sf.trans sg).trans sh).trans si).trans sj).trans sk).trans sl)
        refine call_to ⟨_, obs (osq v (v / 7 % 41).toNat) ++ List.replicate (1 + v % 7).toNat (decide (v / 11 % 2 = 1)), rfl, hl, by rw [List.length_append, ol, List.length_replicate]; omega, fun _ => only_hit X_BadBits.te fun aa na => ?_, fun h => absurd h (by rw [List.length_append, ol, List.length_replicate]; omega)⟩
        (try simp -dsimp only [↓Own.e_seq, ↓Own.e_cxK, ↓Own.e_wishK, ↓Own.e_noxK, ↓Own.e_asg, ↓Own.e_gName, ↓Own.e_var, Own.e_C, ↓Own.e_op, ↓Own.e_un, ↓Own.e_rI, ↓Own.e_rI0, ↓Own.e_rU, Own.e_CMul, Own.e_CDiv, Own.e_CPow, ↓Own.e_rEq, ↓Own.e_rNe, Own.e_scal_int, Own.e_scal_str, Own.e_scal_bl, ↓Own.e_ifS, ↓Own.e_test, ↓Own.e_tB, ↓Own.e_ret, ↓Own.e_retN, ↓Own.e_next, ↓Own.e_brk, ↓Own.e_cnt, ↓Own.e_cons, ↓Own.e_nil, ↓Own.e_lst, ↓Own.e_tup, ↓Own.e_drop, ↓Own.e_and, ↓Own.e_or, ↓Own.e_not, ↓Own.e_andV, ↓Own.e_orV, ↓Own.e_notV, ↓Own.e_if, ↓Own.e_chain, Own.e_CB, ↓Own.e_call, ↓Own.e_rIxL, ↓Own.e_rIxT, ↓Own.e_rIxK, ↓Own.e_rIxKT, ↓Own.e_rSlK, ↓Own.e_rLenK, ↓Own.e_rListK, ↓Own.e_rTupleK, ↓Own.e_rSumK, ↓Own.e_rDivK, ↓Own.e_rNeK, ↓Own.e_rEqK, ↓Own.e_rNeKT, ↓Own.e_rEqKT, ↓Own.e_rIsiK, ↓Own.e_rSlS, ↓Own.e_rIxS, Own.tyK_int, Own.tyK_bl, Own.tyK_str, Own.tyK_non, Own.tyK_ref, Own.tyO_lst, Own.tyO_tup, Own.kit1, Own.kit2, Own.kit3, Own.kit4, Own.kit5, Own.kit6, Own.kit7, Own.kit8, Own.kit9, Own.hlst_inj, Own.htup_inj, Own.vty_inj, Own.ivs_inj, Own.bz_inj, Own.ivs_len, Own.bz_len, Own.ivs_app, Own.ivs_set, Own.ivs_bset, Own.bz_app, Own.ivs_snoc, Own.bz_snoc, Own.atI_ints, Own.atI_bz, Own.isLst_some, Own.ty_lst, L2.upd_same, L2.upd_upd, Own.b2_xor, Own.b2_mod2, Own.b2_mod3, Own.b2_mod4, Own.b2_flip, Option.map_some, Option.isSome_some, ne_eq, eq_self, not_false_eq_true, not_true_eq_false, String.reduceEq, ↓Own.e_BM, ↓Own.e_BM0, ↓Own.e_rAppend, ↓Own.e_rCat, ↓Own.e_rRep, ↓Own.e_sl, ↓Own.e_noPart, ↓Own.e_part, ↓Own.e_rSlL, ↓Own.e_gSub, ↓Own.e_rSetL, ↓Own.e_bits, ↓Own.e_yes, ↓Own.e_gTup, ↓Own.e_gNil, ↓Own.e_gCons, ↓Own.e_aug, ↓Own.e_ipI, ↓Own.e_for, ↓Own.e_lc, ↓Own.e_iList, ↓Own.e_iTup, ↓Own.e_iRng1, ↓Own.e_iRng2, ↓Own.e_iRng3, ↓Own.e_iAny, ↓Own.e_rListA, ↓Own.e_rLenA, ↓Own.e_rIsiX, ↓Own.e_rIsB, ↓Own.e_revL, ↓Own.e_rNotB, ↓Own.e_iEnum, ↓Own.e_iZip, L2.start, L2.wipe, List.map_cons, List.map_nil, List.replicate_succ, List.replicate_zero, List.length_cons, List.length_nil, Nat.reduceAdd, Nat.reduceSub, Nat.zero_add, List.getElem?_cons_zero, List.getElem?_cons_succ, List.set_cons_zero, List.set_cons_succ, Option.some.injEq, L2.V.int.injEq, L2.V.bl.injEq, L2.V.str.injEq, L2.V.ref.injEq, List.cons.injEq, List.cons_append, List.nil_append, List.append_nil, exists_eq_left', exists_eq_left, exists_and_left, exists_and_right, exists_eq, and_true, true_and, reduceCtorEq, false_and, and_false, exists_false, or_false, false_or, true_or, or_true, decide_eq_true_eq, Bool.not_true, Bool.not_false, Bool.not_eq_true', Bool.not_eq_false', decide_eq_false_iff_not, ite_not, if_true, if_false, ite_true, ite_false, Bool.false_eq_true, if_pos trivial, decide_true, decide_false, PySem.sizeLine_eq, eq_self, Int.reduceNeg, Int.reducePow, Int.reduceLT, Int.reduceLE, Int.reduceToNat, Nat.reduceLeDiff, Int.reduceSub, Int.reduceAdd, Int.reduceMul, Int.reduceDiv, Int.reduceMod, Int.reduceEq, Nat.reduceMul, Nat.reduceEqDiff, ↓reduceIte, ↓Own.e_raiseO, ↓Own.e_callS, ↓Own.e_what, Own.hxd_inj])
        exact at_is ⟨_, _, _, _, _, _, _, _, _, _, _, _, rfl, Sl⟩
      · intro nx key
        (try simp -dsimp only [↓Own.e_seq, ↓Own.e_cxK, ↓Own.e_wishK, ↓Own.e_noxK, ↓Own.e_asg, ↓Own.e_gName, ↓Own.e_var, Own.e_C, ↓Own.e_op, ↓Own.e_un, ↓Own.e_rI, ↓Own.e_rI0, ↓Own.e_rU, Own.e_CMul, Own.e_CDiv, Own.e_CPow, ↓Own.e_rEq, ↓Own.e_rNe, Own.e_scal_int, Own.e_scal_str, Own.e_scal_bl, ↓Own.e_ifS, ↓Own.e_test, ↓Own.e_tB, ↓Own.e_ret, ↓Own.e_retN, ↓Own.e_next, ↓Own.e_brk, ↓Own.e_cnt, ↓Own.e_cons, ↓Own.e_nil, ↓Own.e_lst, ↓Own.e_tup, ↓Own.e_drop, ↓Own.e_and, ↓Own.e_or, ↓Own.e_not, ↓Own.e_andV, ↓Own.e_orV, ↓Own.e_notV, ↓Own.e_if, ↓Own.e_chain, Own.e_CB, ↓Own.e_call, ↓Own.e_rIxL, ↓Own.e_rIxT, ↓Own.e_rIxK, ↓Own.e_rIxKT, ↓Own.e_rSlK, ↓Own.e_rLenK, ↓Own.e_rListK, ↓Own.e_rTupleK, ↓Own.e_rSumK, ↓Own.e_rDivK, ↓Own.e_rNeK, ↓Own.e_rEqK, ↓Own.e_rNeKT, ↓Own.e_rEqKT, ↓Own.e_rIsiK, ↓Own.e_rSlS, ↓Own.e_rIxS, Own.tyK_int, Own.tyK_bl, Own.tyK_str, Own.tyK_non, Own.tyK_ref, Own.tyO_lst, Own.tyO_tup, Own.kit1, Own.kit2, Own.kit3, Own.kit4, Own.kit5, Own.kit6, Own.kit7, Own.kit8, Own.kit9, Own.hlst_inj, Own.htup_inj, Own.vty_inj, Own.ivs_inj, Own.bz_inj, Own.ivs_len, Own.bz_len, Own.ivs_app, Own.ivs_set, Own.ivs_bset, Own.bz_app, Own.ivs_snoc, Own.bz_snoc, Own.atI_ints, Own.atI_bz, Own.isLst_some, Own.ty_lst, L2.upd_same, L2.upd_upd, Own.b2_xor, Own.b2_mod2, Own.b2_mod3, Own.b2_mod4, Own.b2_flip, Option.map_some, Option.isSome_some, ne_eq, eq_self, not_false_eq_true, not_true_eq_false, String.reduceEq, ↓Own.e_BM, ↓Own.e_BM0, ↓Own.e_rAppend, ↓Own.e_rCat, ↓Own.e_rRep, ↓Own.e_sl, ↓Own.e_noPart, ↓Own.e_part, ↓Own.e_rSlL, ↓Own.e_gSub, ↓Own.e_rSetL, ↓Own.e_bits, ↓Own.e_yes, ↓Own.e_gTup, ↓Own.e_gNil, ↓Own.e_gCons, ↓Own.e_aug, ↓Own.e_ipI, ↓Own.e_for, ↓Own.e_lc, ↓Own.e_iList, ↓Own.e_iTup, ↓Own.e_iRng1, ↓Own.e_iRng2, ↓Own.e_iRng3, ↓Own.e_iAny, ↓Own.e_rListA, ↓Own.e_rLenA, ↓Own.e_rIsiX, ↓Own.e_rIsB, ↓Own.e_revL, ↓Own.e_rNotB, ↓Own.e_iEnum, ↓Own.e_iZip, L2.start, L2.wipe, List.map_cons, List.map_nil, List.replicate_succ, List.replicate_zero, List.length_cons, List.length_nil, Nat.reduceAdd, Nat.reduceSub, Nat.zero_add, List.getElem?_cons_zero, List.getElem?_cons_succ, List.set_cons_zero, List.set_cons_succ, Option.some.injEq, L2.V.int.injEq, L2.V.bl.injEq, L2.V.str.injEq, L2.V.ref.injEq, List.cons.injEq, List.cons_append, List.nil_append, List.append_nil, exists_eq_left', exists_eq_left, exists_and_left, exists_and_right, exists_eq, and_true, true_and, reduceCtorEq, false_and, and_false, exists_false, or_false, false_or, true_or, or_true, decide_eq_true_eq, Bool.not_true, Bool.not_false, Bool.not_eq_true', Bool.not_eq_false', decide_eq_false_iff_not, ite_not, if_true, if_false, ite_true, ite_false, Bool.false_eq_true, if_pos trivial, decide_true, decide_false, PySem.sizeLine_eq, eq_self, Int.reduceNeg, Int.reducePow, Int.reduceLT, Int.reduceLE, Int.reduceToNat, Nat.reduceLeDiff, Int.reduceSub, Int.reduceAdd, Int.reduceMul, Int.reduceDiv, Int.reduceMod, Int.reduceEq, Nat.reduceMul, Nat.reduceEqDiff, ↓reduceIte, ↓Own.e_raiseO, ↓Own.e_callS, ↓Own.e_what, Own.hxd_inj])
        refine ite2 (fun h => ?_) (fun h => ?_)
        · have q0 : 0 ≤ v / 5 % (c : Int) := Int.emod_nonneg _ (by omega)
          have q1 : v / 5 % (c : Int) < c := Int.emod_lt_of_pos _ (by omega)
          have i4 := i3 (by omega)
          refine ⟨by omega, call_to ⟨_, _, rfl, by omega, fun hh => ?_, fun Hq sq => ?_⟩⟩
          · have h2 := hh.2.1
            have h3 : 2 ^ (v / 5 % (c : Int)).toNat ≤ 2 ^ (c - 1) := Nat.pow_le_pow_right (by decide) (by omega)
            rw [← PySem.W.kbt_cast] at h2
            have h4 := Int.ofNat_lt.mp h2
            omega
          · (try simp -dsimp only [↓Own.e_seq, ↓Own.e_cxK, ↓Own.e_wishK, ↓Own.e_noxK, ↓Own.e_asg, ↓Own.e_gName, ↓Own.e_var, Own.e_C, ↓Own.e_op, ↓Own.e_un, ↓Own.e_rI, ↓Own.e_rI0, ↓Own.e_rU, Own.e_CMul, Own.e_CDiv, Own.e_CPow, ↓Own.e_rEq, ↓Own.e_rNe, Own.e_scal_int, Own.e_scal_str, Own.e_scal_bl, ↓Own.e_ifS, ↓Own.e_test, ↓Own.e_tB, ↓Own.e_ret, ↓Own.e_retN, ↓Own.e_next, ↓Own.e_brk, ↓Own.e_cnt, ↓Own.e_cons, ↓Own.e_nil, ↓Own.e_lst, ↓Own.e_tup, ↓Own.e_drop, ↓Own.e_and, ↓Own.e_or, ↓Own.e_not, ↓Own.e_andV, ↓Own.e_orV, ↓Own.e_notV, ↓Own.e_if, ↓Own.e_chain, Own.e_CB, ↓Own.e_call, ↓Own.e_rIxL, ↓Own.e_rIxT, ↓Own.e_rIxK, ↓Own.e_rIxKT, ↓Own.e_rSlK, ↓Own.e_rLenK, ↓Own.e_rListK, ↓Own.e_rTupleK, ↓Own.e_rSumK, ↓Own.e_rDivK, ↓Own.e_rNeK, ↓Own.e_rEqK, ↓Own.e_rNeKT, ↓Own.e_rEqKT, ↓Own.e_rIsiK, ↓Own.e_rSlS, ↓Own.e_rIxS, Own.tyK_int, Own.tyK_bl, Own.tyK_str, Own.tyK_non, Own.tyK_ref, Own.tyO_lst, Own.tyO_tup, Own.kit1, Own.kit2, Own.kit3, Own.kit4, Own.kit5, Own.kit6, Own.kit7, Own.kit8, Own.kit9, Own.hlst_inj, Own.htup_inj, Own.vty_inj, Own.ivs_inj, Own.bz_inj, Own.ivs_len, Own.bz_len, Own.ivs_app, Own.ivs_set, Own.ivs_bset, Own.bz_app, Own.ivs_snoc, Own.bz_snoc, Own.atI_ints, Own.atI_bz, Own.isLst_some, Own.ty_lst, L2.upd_same, L2.upd_upd, Own.b2_xor, Own.b2_mod2, Own.b2_mod3, Own.b2_mod4, Own.b2_flip, Option.map_some, Option.isSome_some, ne_eq, eq_self, not_false_eq_true, not_true_eq_false, String.reduceEq, ↓Own.e_BM, ↓Own.e_BM0, ↓Own.e_rAppend, ↓Own.e_rCat, ↓Own.e_rRep, ↓Own.e_sl, ↓Own.e_noPart, ↓Own.e_part, ↓Own.e_rSlL, ↓Own.e_gSub, ↓Own.e_rSetL, ↓Own.e_bits, ↓Own.e_yes, ↓Own.e_gTup, ↓Own.e_gNil, ↓Own.e_gCons, ↓Own.e_aug, ↓Own.e_ipI, ↓Own.e_for, ↓Own.e_lc, ↓Own.e_iList, ↓Own.e_iTup, ↓Own.e_iRng1, ↓Own.e_iRng2, ↓Own.e_iRng3, ↓Own.e_iAny, ↓Own.e_rListA, ↓Own.e_rLenA, ↓Own.e_rIsiX, ↓Own.e_rIsB, ↓Own.e_revL, ↓Own.e_rNotB, ↓Own.e_iEnum, ↓Own.e_iZip, L2.start, L2.wipe, List.map_cons, List.map_nil, List.replicate_succ, List.replicate_zero, List.length_cons, List.length_nil, Nat.reduceAdd, Nat.reduceSub, Nat.zero_add, List.getElem?_cons_zero, List.getElem?_cons_succ, List.set_cons_zero, List.set_cons_succ, Option.some.injEq, L2.V.int.injEq, L2.V.bl.injEq, L2.V.str.injEq, L2.V.ref.injEq, List.cons.injEq, List.cons_append, List.nil_append, List.append_nil, exists_eq_left', exists_eq_left, exists_and_left, exists_and_right, exists_eq, and_true, true_and, reduceCtorEq, false_and, and_false, exists_false, or_false, false_or, true_or, or_true, decide_eq_true_eq, Bool.not_true, Bool.not_false, Bool.not_eq_true', Bool.not_eq_false', decide_eq_false_iff_not, ite_not, if_true, if_false, ite_true, ite_false, Bool.false_eq_true, if_pos trivial, decide_true, decide_false, PySem.sizeLine_eq, eq_self, Int.reduceNeg, Int.reducePow, Int.reduceLT, Int.reduceLE, Int.reduceToNat, Nat.reduceLeDiff, Int.reduceSub, Int.reduceAdd, Int.reduceMul, Int.reduceDiv, Int.reduceMod, Int.reduceEq, Nat.reduceMul, Nat.reduceEqDiff, ↓reduceIte, ↓Own.e_raiseO, ↓Own.e_callS, ↓Own.e_what, Own.hxd_inj])
            exact key _ _ ⟨by rw [← hb], Sb.trans sq⟩
        · exact key _ _ ⟨by rw [← hb], Sb⟩
    · rintro σ H' ⟨y1, y2, y3, y4, y5, y6, y7, y8, y9, y10, y11, y12, rfl, sm⟩
      (try simp -dsimp only [↓Own.e_seq, ↓Own.e_cxK, ↓Own.e_wishK, ↓Own.e_noxK, ↓Own.e_asg, ↓Own.e_gName, ↓Own.e_var, Own.e_C, ↓Own.e_op, ↓Own.e_un, ↓Own.e_rI, ↓Own.e_rI0, ↓Own.e_rU, Own.e_CMul, Own.e_CDiv, Own.e_CPow, ↓Own.e_rEq, ↓Own.e_rNe, Own.e_scal_int, Own.e_scal_str, Own.e_scal_bl, ↓Own.e_ifS, ↓Own.e_test, ↓Own.e_tB, ↓Own.e_ret, ↓Own.e_retN, ↓Own.e_next, ↓Own.e_brk, ↓Own.e_cnt, ↓Own.e_cons, ↓Own.e_nil, ↓Own.e_lst, ↓Own.e_tup, ↓Own.e_drop, ↓Own.e_and, ↓Own.e_or, ↓Own.e_not, ↓Own.e_andV, ↓Own.e_orV, ↓Own.e_notV, ↓Own.e_if, ↓Own.e_chain, Own.e_CB, ↓Own.e_call, ↓Own.e_rIxL, ↓Own.e_rIxT, ↓Own.e_rIxK, ↓Own.e_rIxKT, ↓Own.e_rSlK, ↓Own.e_rLenK, ↓Own.e_rListK, ↓Own.e_rTupleK, ↓Own.e_rSumK, ↓Own.e_rDivK, ↓Own.e_rNeK, ↓Own.e_rEqK, ↓Own.e_rNeKT, ↓Own.e_rEqKT, ↓Own.e_rIsiK, ↓Own.e_rSlS, ↓Own.e_rIxS, Own.tyK_int, Own.tyK_bl, Own.tyK_str, Own.tyK_non, Own.tyK_ref, Own.tyO_lst, Own.tyO_tup, Own.kit1, Own.kit2, Own.kit3, Own.kit4, Own.kit5, Own.kit6, Own.kit7, Own.kit8, Own.kit9, Own.hlst_inj, Own.htup_inj, Own.vty_inj, Own.ivs_inj, Own.bz_inj, Own.ivs_len, Own.bz_len, Own.ivs_app, Own.ivs_set, Own.ivs_bset, Own.bz_app, Own.ivs_snoc, Own.bz_snoc, Own.atI_ints, Own.atI_bz, Own.isLst_some, Own.ty_lst, L2.upd_same, L2.upd_upd, Own.b2_xor, Own.b2_mod2, Own.b2_mod3, Own.b2_mod4, Own.b2_flip, Option.map_some, Option.isSome_some, ne_eq, eq_self, not_false_eq_true, not_true_eq_false, String.reduceEq, ↓Own.e_BM, ↓Own.e_BM0, ↓Own.e_rAppend, ↓Own.e_rCat, ↓Own.e_rRep, ↓Own.e_sl, ↓Own.e_noPart, ↓Own.e_part, ↓Own.e_rSlL, ↓Own.e_gSub, ↓Own.e_rSetL, ↓Own.e_bits, ↓Own.e_yes, ↓Own.e_gTup, ↓Own.e_gNil, ↓Own.e_gCons, ↓Own.e_aug, ↓Own.e_ipI, ↓Own.e_for, ↓Own.e_lc, ↓Own.e_iList, ↓Own.e_iTup, ↓Own.e_iRng1, ↓Own.e_iRng2, ↓Own.e_iRng3, ↓Own.e_iAny, ↓Own.e_rListA, ↓Own.e_rLenA, ↓Own.e_rIsiX, ↓Own.e_rIsB, ↓Own.e_revL, ↓Own.e_rNotB, ↓Own.e_iEnum, ↓Own.e_iZip, L2.start, L2.wipe, List.map_cons, List.map_nil, List.replicate_succ, List.replicate_zero, List.length_cons, List.length_nil, Nat.reduceAdd, Nat.reduceSub, Nat.zero_add, List.getElem?_cons_zero, List.getElem?_cons_succ, List.set_cons_zero, List.set_cons_succ, Option.some.injEq, L2.V.int.injEq, L2.V.bl.injEq, L2.V.str.injEq, L2.V.ref.injEq, List.cons.injEq, List.cons_append, List.nil_append, List.append_nil, exists_eq_left', exists_eq_left, exists_and_left, exists_and_right, exists_eq, and_true, true_and, reduceCtorEq, false_and, and_false, exists_false, or_false, false_or, true_or, or_true, decide_eq_true_eq, Bool.not_true, Bool.not_false, Bool.not_eq_true', Bool.not_eq_false', decide_eq_false_iff_not, ite_not, if_true, if_false, ite_true, ite_false, Bool.false_eq_true, if_pos trivial, decide_true, decide_false, PySem.sizeLine_eq, eq_self, Int.reduceNeg, Int.reducePow, Int.reduceLT, Int.reduceLE, Int.reduceToNat, Nat.reduceLeDiff, Int.reduceSub, Int.reduceAdd, Int.reduceMul, Int.reduceDiv, Int.reduceMod, Int.reduceEq, Nat.reduceMul, Nat.reduceEqDiff, ↓reduceIte, ↓Own.e_raiseO, ↓Own.e_callS, ↓Own.e_what, Own.hxd_inj])
      exact q H'
end
theorem all_mk {l : PySem.W.OpenLaw} {w : World} {K : PySem.W.Frag} {h : Heap} {mg : Str → Option Value} {fa f1 f2 f3 f4 f5 f6 f7 f8 f9 : Addr} (X : K.In h) (G : h.Ns mainGlobals mg) (hfa : mg "law" = some (.ref fa))
    {od1 an1 od2 an2 od3 an3 od4 an4 od5 an5 od6 an6 od7 an7 od8 an8 od9 an9 : Option Addr} {sl1 sl2 sl3 sl4 sl5 sl6 sl7 sl8 sl9 : Array (Option Value)} {oc1 kV1 dc1 pm1 cd1 ct1 oc2 kV2 dc2 pm2 cd2 ct2 oc3 kV3 dc3 pm3 cd3 ct3 oc4 kV4 dc4 pm4 cd4 ct4 oc5 kV5 dc5 pm5 cd5 ct5 oc6 kV6 dc6 pm6 cd6 ct6 oc7 kV7 dc7 pm7 cd7 ct7 oc8 kV8 dc8 pm8 cd8 ct8 oc9 kV9 dc9 pm9 cd9 ct9 : Value}  {C_OutOfRange f_OutOfRange xM xN : Addr} {xnm xq : Str} {xbs : List Value} {xsn : List Str} {xsub : List Value} {xab : Bool} {xcol : Option Bool} {xdd : Option Addr} {xm0 xm1 xm2 xm3 xm5 : Option Value} {xod1 xan1 : Option Addr} {xsl1 : Array (Option Value)} {xoc1 xdc1 xpm1 xcd1 xct1 : Value} {C_BadBits : Addr}
    (a1 : PySem.W.nsIn K mainGlobals "number_bits" = some (some (.ref f1)))
    (l1 : K.lookup f1 = some ⟨oc1, od1, .func (PySem.W.fnOf "number_bits" "number_bits" (defArgs s_number_bits) (defBody s_number_bits) (defScope s_number_bits) .none kV1 dc1 pm1 an1 cd1 ct1), sl1⟩)
    (c1 : PySem.W.codeIn K cd1 "number_bits" = true)
    (k1 : PySem.W.keepIn K (.ref f1) = true)
    (a2 : PySem.W.nsIn K mainGlobals "bits_number" = some (some (.ref f2)))
    (l2 : K.lookup f2 = some ⟨oc2, od2, .func (PySem.W.fnOf "bits_number" "bits_number" (defArgs s_bits_number) (defBody s_bits_number) (defScope s_bits_number) .none kV2 dc2 pm2 an2 cd2 ct2), sl2⟩)
    (c2 : PySem.W.codeIn K cd2 "bits_number" = true)
    (k2 : PySem.W.keepIn K (.ref f2) = true)
    (a3 : PySem.W.nsIn K mainGlobals "octet_bits" = some (some (.ref f3)))
    (l3 : K.lookup f3 = some ⟨oc3, od3, .func (PySem.W.fnOf "octet_bits" "octet_bits" (defArgs s_octet_bits) (defBody s_octet_bits) (defScope s_octet_bits) .none kV3 dc3 pm3 an3 cd3 ct3), sl3⟩)
    (c3 : PySem.W.codeIn K cd3 "octet_bits" = true)
    (k3 : PySem.W.keepIn K (.ref f3) = true)
    (a4 : PySem.W.nsIn K mainGlobals "bits_octets" = some (some (.ref f4)))
    (l4 : K.lookup f4 = some ⟨oc4, od4, .func (PySem.W.fnOf "bits_octets" "bits_octets" (defArgs s_bits_octets) (defBody s_bits_octets) (defScope s_bits_octets) .none kV4 dc4 pm4 an4 cd4 ct4), sl4⟩)
    (c4 : PySem.W.codeIn K cd4 "bits_octets" = true)
    (k4 : PySem.W.keepIn K (.ref f4) = true)
    (a5 : PySem.W.nsIn K mainGlobals "_law_mixed" = some (some (.ref f5)))
    (l5 : K.lookup f5 = some ⟨oc5, od5, .func (PySem.W.fnOf "_law_mixed" "_law_mixed" (defArgs s__law_mixed) (defBody s__law_mixed) (defScope s__law_mixed) .none kV5 dc5 pm5 an5 cd5 ct5), sl5⟩)
    (c5 : PySem.W.codeIn K cd5 "_law_mixed" = true)
    (k5 : PySem.W.keepIn K (.ref f5) = true)
    (a6 : PySem.W.nsIn K mainGlobals "_law_refused" = some (some (.ref f6)))
    (l6 : K.lookup f6 = some ⟨oc6, od6, .func (PySem.W.fnOf "_law_refused" "_law_refused" (defArgs s__law_refused) (defBody s__law_refused) (defScope s__law_refused) .none kV6 dc6 pm6 an6 cd6 ct6), sl6⟩)
    (c6 : PySem.W.codeIn K cd6 "_law_refused" = true)
    (k6 : PySem.W.keepIn K (.ref f6) = true)
    (a7 : PySem.W.nsIn K mainGlobals "_law_number_right" = some (some (.ref f7)))
    (l7 : K.lookup f7 = some ⟨oc7, od7, .func (PySem.W.fnOf "_law_number_right" "_law_number_right" (defArgs s__law_number_right) (defBody s__law_number_right) (defScope s__law_number_right) .none kV7 dc7 pm7 an7 cd7 ct7), sl7⟩)
    (c7 : PySem.W.codeIn K cd7 "_law_number_right" = true)
    (k7 : PySem.W.keepIn K (.ref f7) = true)
    (a8 : PySem.W.nsIn K mainGlobals "_law_octets_right" = some (some (.ref f8)))
    (l8 : K.lookup f8 = some ⟨oc8, od8, .func (PySem.W.fnOf "_law_octets_right" "_law_octets_right" (defArgs s__law_octets_right) (defBody s__law_octets_right) (defScope s__law_octets_right) .none kV8 dc8 pm8 an8 cd8 ct8), sl8⟩)
    (c8 : PySem.W.codeIn K cd8 "_law_octets_right" = true)
    (k8 : PySem.W.keepIn K (.ref f8) = true)
    (a9 : PySem.W.nsIn K mainGlobals "law" = some (some (.ref f9)))
    (l9 : K.lookup f9 = some ⟨oc9, od9, .func (PySem.W.fnOf "law" "law" (defArgs s_law) (defBody s_law) (defScope s_law) .none kV9 dc9 pm9 an9 cd9 ct9), sl9⟩)
    (c9 : PySem.W.codeIn K cd9 "law" = true)
    (k9 : PySem.W.keepIn K (.ref f9) = true)
    (z0 : PySem.W.nsIn K mainGlobals "range" = some none)
    (z1 : PySem.W.nsIn K mainGlobals "len" = some none)
    (z2 : PySem.W.nsIn K mainGlobals "tuple" = some none)
    (z3 : PySem.W.nsIn K mainGlobals "int" = some none)
    (z4 : PySem.W.nsIn K mainGlobals "isinstance" = some none)
    (z5 : PySem.W.nsIn K mainGlobals "list" = some none)
    (z6 : PySem.W.nsIn K mainGlobals "bool" = some none)
    (z7 : PySem.W.nsIn K mainGlobals "enumerate" = some none)
    (aC_OutOfRange : PySem.W.nsIn K mainGlobals "OutOfRange" = some (some (.ref C_OutOfRange)))
    (xL : K.lookup C_OutOfRange = some (excClassObj xnm xq C_OutOfRange xN xbs [.ref xM, .type "ValueError", .type "Exception", .type "BaseException", .type "object"] true xsn xsub xab xcol xdd xm0 xm1 xm2 xm3 xm5 "ValueError.__new__"))
    (xsa : PySem.W.findIn K (.ref C_OutOfRange) "__setattr__" = some (some (.builtin "object.__setattr__")))
    (xga : PySem.W.findIn K (.ref C_OutOfRange) "__getattribute__" = some (some (.builtin "BaseException.__getattribute__")))
    (xgg : PySem.W.findIn K (.ref C_OutOfRange) "__getattr__" = some none)
    (xnb : PySem.W.findIn K (.ref C_OutOfRange) "what" = some none)
    (xa1 : PySem.W.findIn K (.ref C_OutOfRange) "__init__" = some (some (.ref f_OutOfRange)))
    (xt1 : PySem.W.typeIn K (.ref f_OutOfRange) = some (.type "function"))
    (xl1 : K.lookup f_OutOfRange = some ⟨xoc1, xod1, .func (PySem.W.fnOf "__init__" "OutOfRange.__init__" (PySem.OorX.iA ⟨8, 17, 8, 21⟩ ⟨8, 23, 8, 27⟩) (PySem.OorX.iB ⟨9, 8, 9, 12⟩ ⟨9, 8, 9, 17⟩ ⟨9, 20, 9, 24⟩ ⟨9, 8, 9, 24⟩) PySem.OorX.iS .none .none xdc1 xpm1 xan1 xcd1 xct1), xsl1⟩)
    (xc1 : PySem.W.codeIn K xcd1 "OutOfRange.__init__" = true)
    (xkC : PySem.W.keepIn K (.ref C_OutOfRange) = true)
    (xeC : PySem.W.subIn K (.ref C_OutOfRange) (.type "BaseException") = some true)
    (xtC : PySem.W.typeIn K (.ref C_OutOfRange) = some (.type "type"))
    (xhC : PySem.W.hasDictIn K C_OutOfRange = true)
    (xiC : PySem.W.isClsIn K C_OutOfRange = true)
    (xsC : PySem.W.subIn K (.ref C_OutOfRange) (.ref C_OutOfRange) = some true)
    (aC_BadBits : PySem.W.nsIn K mainGlobals "BadBits" = some (some (.ref C_BadBits)))
    (BadBits_xP : PySem.W.excIn K C_BadBits [.type "ValueError", .type "Exception", .type "BaseException", .type "object"] "ValueError.__new__" = true)
    (BadBits_kP : PySem.W.keepIn K (.ref C_BadBits) = true)
    (BadBits_bP : PySem.W.subIn K (.ref C_BadBits) (.type "BaseException") = some true)
    (BadBits_tP : PySem.W.typeIn K (.ref C_BadBits) = some (.type "type"))
    (BadBits_iP : PySem.W.isClsIn K C_BadBits = true)
    (BadBits_sP : PySem.W.subIn K (.ref C_BadBits) (.ref C_BadBits) = some true) :
    ∃ fd : FuncData, (∀ (s : Shared) (v : Value), BindsTo s fd ⟨[v], []⟩ [("script", v)]) ∧ ∀ base : Heap, K.In base → base.Ns mainGlobals mg → FnOk l.prog w K mg base CX0 4 fa fd ["script"] (sp_law K) := by
  have e := hfa.symm.trans (PySem.W.mg_of X G a9)
  cases e
  have B : BI mg := ⟨PySem.W.mg_none_of X G z0, PySem.W.mg_none_of X G z1, PySem.W.mg_none_of X G z2, PySem.W.mg_none_of X G z3, PySem.W.mg_none_of X G z4, PySem.W.mg_none_of X G z5, PySem.W.mg_none_of X G z6, PySem.W.mg_none_of X G z7⟩
  have X_OutOfRange : PySem.OorX.OorTxt K mg C_OutOfRange f_OutOfRange := { gC := PySem.W.mg_of X G aC_OutOfRange, cls := ⟨xnm, xq, xN, xbs, _, xsn, xsub, xab, xcol, xdd, xm0, xm1, xm2, xm3, xm5, xL, rfl⟩, sa := xsa, ga := xga, gg := xgg, noN := xnb, iC := xa1, tC := xt1, kC := xkC, exC := xeC, tyC := xtC, hdC := xhC, te := exm_self xeC xiC xtC xsC, fn := ⟨_, _, _, _, _, _, _, _, _, _, _, _, _, _, xl1, xc1⟩ }
  have X_BadBits : OwnErr K mg "BadBits" C_BadBits := ⟨PySem.W.mg_of X G aC_BadBits, BadBits_xP, BadBits_kP, BadBits_bP, BadBits_tP, exm_self BadBits_bP BadBits_iP BadBits_tP BadBits_sP⟩
  refine ⟨PySem.W.fnOf "law" "law" (defArgs s_law) (defBody s_law) (defScope s_law) .none kV9 dc9 pm9 an9 cd9 ct9, fun s v => .of_eq rfl, fun base _ _ => ?_⟩
  have F1 := fun_mk (st := s_number_bits) l1 c1 k1
  have C1 : Cal l.prog w K mg base (L2.CX l.prog w) 1 "number_bits" f1 _ ["number", "count"] (sp_number_bits K C_OutOfRange) := ⟨ok_number_bits F1 B  X_OutOfRange , F1.binds (ps := ["number", "count"]) fun _ _ _ _ _ _ us hl => match us, hl with | [_, _], _ => rfl, PySem.W.mg_of X G a1, k1⟩
  have F2 := fun_mk (st := s_bits_number) l2 c2 k2
  have C2 : Cal l.prog w K mg base CX0 1 "bits_number" f2 _ ["bits"] (sp_bits_number K) := ⟨ok_bits_number F2 B   , F2.binds (ps := ["bits"]) fun _ _ _ _ _ _ us hl => match us, hl with | [_], _ => rfl, PySem.W.mg_of X G a2, k2⟩
  have F3 := fun_mk (st := s_octet_bits) l3 c3 k3
  have C3 : Cal l.prog w K mg base CX0 1 "octet_bits" f3 _ ["octets"] (sp_octet_bits K) := ⟨ok_octet_bits F3 B   , F3.binds (ps := ["octets"]) fun _ _ _ _ _ _ us hl => match us, hl with | [_], _ => rfl, PySem.W.mg_of X G a3, k3⟩
  have F4 := fun_mk (st := s_bits_octets) l4 c4 k4
  have C4 : Cal l.prog w K mg base (L2.CX l.prog w) 2 "bits_octets" f4 _ ["bits"] (sp_bits_octets K C_BadBits) := ⟨ok_bits_octets F4 B  X_BadBits C2, F4.binds (ps := ["bits"]) fun _ _ _ _ _ _ us hl => match us, hl with | [_], _ => rfl, PySem.W.mg_of X G a4, k4⟩
  have F5 := fun_mk (st := s__law_mixed) l5 c5 k5
  have C5 : Cal l.prog w K mg base CX0 1 "_law_mixed" f5 _ ["cell", "turn"] (sp__law_mixed K) := ⟨ok__law_mixed F5 B   , F5.binds (ps := ["cell", "turn"]) fun _ _ _ _ _ _ us hl => match us, hl with | [_, _], _ => rfl, PySem.W.mg_of X G a5, k5⟩
  have F6 := fun_mk (st := s__law_refused) l6 c6 k6
  have C6 : Cal l.prog w K mg base CX0 2 "_law_refused" f6 _ ["number", "count"] (sp__law_refused K C_OutOfRange) := ⟨ok__law_refused F6 B  X_OutOfRange C1, F6.binds (ps := ["number", "count"]) fun _ _ _ _ _ _ us hl => match us, hl with | [_, _], _ => rfl, PySem.W.mg_of X G a6, k6⟩
  have F7 := fun_mk (st := s__law_number_right) l7 c7 k7
  have C7 : Cal l.prog w K mg base CX0 2 "_law_number_right" f7 _ ["number", "count"] (sp__law_number_right K C_OutOfRange) := ⟨ok__law_number_right F7 B   C1 C2, F7.binds (ps := ["number", "count"]) fun _ _ _ _ _ _ us hl => match us, hl with | [_, _], _ => rfl, PySem.W.mg_of X G a7, k7⟩
  have F8 := fun_mk (st := s__law_octets_right) l8 c8 k8
  have C8 : Cal l.prog w K mg base CX0 3 "_law_octets_right" f8 _ ["octets"] (sp__law_octets_right K C_BadBits) := ⟨ok__law_octets_right F8 B   C3 C4, F8.binds (ps := ["octets"]) fun _ _ _ _ _ _ us hl => match us, hl with | [_], _ => rfl, PySem.W.mg_of X G a8, k8⟩
  have F9 := fun_mk (st := s_law) l9 c9 k9
  exact ok_law F9 B  X_BadBits C6 C2 C5 C7 C8 C3 C4
end Own
open PySem PySem.W PyProof.Rows
set_option pp.maxSteps 300 in
set_option maxHeartbeats 0 in
theorem PySem.Challenge.cw_mobileair_k01_numbers_as_bits_holds : PySem.Challenge.rw_mobileair_k01_numbers_as_bits.Holds := by
  w_on; o_law; k_head; (case hw => w_witness2)
  k_fill
  refine L2.walk_of (l := PySem.Challenge.rw_mobileair_k01_numbers_as_bits) (n := 63) (k := 4) (x := "script") (CX := fun _ => L2.CX0) (sp := fun w => Own.sp_law _) rfl (by decide) rfl ⟨rfl, by decide, by decide⟩ (fun w h Y => PySem.W.kIn_of Y) ?F (fun _ _ a ns hl _ hS => ⟨a, ns, rfl, hS, hl, fun _ => rfl⟩) (fun _ _ _ _ _ h => h)
  case F =>
    intro w mg fa h KX G hmg
    refine' Own.all_mk KX G hmg ?a1 ?l1 ?c1 ?k1 ?a2 ?l2 ?c2 ?k2 ?a3 ?l3 ?c3 ?k3 ?a4 ?l4 ?c4 ?k4 ?a5 ?l5 ?c5 ?k5 ?a6 ?l6 ?c6 ?k6 ?a7 ?l7 ?c7 ?k7 ?a8 ?l8 ?c8 ?k8 ?a9 ?l9 ?c9 ?k9 ?z0 ?z1 ?z2 ?z3 ?z4 ?z5 ?z6 ?z7 ?aC_OutOfRange ?xL ?xsa ?xga ?xgg ?xnb ?xa1 ?xt1 ?xl1 ?xc1 ?xkC ?xeC ?xtC ?xhC ?xiC ?xsC ?aC_BadBits ?BadBits_xP ?BadBits_kP ?BadBits_bP ?BadBits_tP ?BadBits_iP ?BadBits_sP
    (case a1 => k_is); (case l1 => k_is); (case c1 => k_is); (case k1 => k_is); (case a2 => k_is); (case l2 => k_is); (case c2 => k_is); (case k2 => k_is); (case a3 => k_is); (case l3 => k_is); (case c3 => k_is); (case k3 => k_is); (case a4 => k_is); (case l4 => k_is); (case c4 => k_is); (case k4 => k_is); (case a5 => k_is); (case l5 => k_is); (case c5 => k_is); (case k5 => k_is); (case a6 => k_is); (case l6 => k_is); (case c6 => k_is); (case k6 => k_is); (case a7 => k_is); (case l7 => k_is); (case c7 => k_is); (case k7 => k_is); (case a8 => k_is); (case l8 => k_is); (case c8 => k_is); (case k8 => k_is); (case a9 => k_is); (case l9 => k_is); (case c9 => k_is); (case k9 => k_is); (case z0 => k_is); (case z1 => k_is); (case z2 => k_is); (case z3 => k_is); (case z4 => k_is); (case z5 => k_is); (case z6 => k_is); (case z7 => k_is); (case aC_OutOfRange => k_is); (case xL => k_is); (case xsa => k_is); (case xga => k_is); (case xgg => k_is); (case xnb => k_is); (case xa1 => k_is); (case xt1 => k_is); (case xl1 => k_is); (case xc1 => k_is); (case xkC => k_is); (case xeC => k_is); (case xtC => k_is); (case xhC => k_is); (case xiC => k_is); (case xsC => first | rfl | k_is); (case aC_BadBits => k_is); (case BadBits_xP => first | k_exc | k_is); (case BadBits_kP => k_is); (case BadBits_bP => k_is); (case BadBits_tP => k_is); (case BadBits_iP => k_is); (case BadBits_sP => first | rfl | k_is)
