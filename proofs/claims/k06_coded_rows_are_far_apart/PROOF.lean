import PyProof.Rows.All
import Wide.All
import OpenK.AllK
import Wide.FinOn
import HandS.ForMost
import HandS.ForExc
import HandS.IsInst
import HandS.WideBits
import HandS.Walk
import HandS.EndBits
import PySem.Challenge.RW_mobileair_k06_coded_rows_are_far_apart
set_option Elab.async false
set_option linter.all false
set_option maxRecDepth 100000
set_option maxHeartbeats 4000000
namespace Own
open PySem PySem.Spec PyProof.Rows L2

/-- a def of the text that others call: its promise, how it binds, where its name stands -/
structure Cal (P : Program) (w : World) (K : PySem.W.Frag) (mg : Str → Option Value) (base : Heap) (CX : CXT) (k : Nat) (x : Str) (f : Addr) (fd : FuncData) (ps : List Str) (sp : Sp) : Prop where
  ok : FnOk P w K mg base CX k f fd ps sp
  b : Binds K fd ps []
  g : mg x = some (.ref f)
  kp : PySem.W.keepIn K (.ref f) = true

theorem same_upd {H : Hp} {p : Addr} {o : HO} (h : H p = none) : Same H (upd H p o) := fun b x e => by
  rw [upd_ne (ne_of_none e h)]
  exact e
theorem same_upd_of {H0 H : Hp} {p : Addr} {o : HO} (h : Same H0 H) (hp : H0 p = none) : Same H0 (upd H p o) := fun b x e => by
  rw [upd_ne (ne_of_none e hp)]
  exact h b x e
theorem upd_get_ne {H : Hp} {p q : Addr} {o u : HO} (hp : H p = none) (hq : H q = some u) : upd H p o q = some u := by
  rw [upd_ne (ne_of_none hq hp)]
  exact hq

/-- a bit as an int, as a value -/
def b2 (b : Bool) : Int := match b with
  | true => 1
  | false => 0
def vb (b : Bool) : V := .int (b2 b)
theorem b2_t : b2 true = 1 := rfl
theorem b2_f : b2 false = 0 := rfl
theorem b2_01 (b : Bool) : b2 b = 0 ∨ b2 b = 1 := by cases b <;> simp [b2]
theorem b2_nn (b : Bool) : 0 ≤ b2 b := by cases b <;> simp [b2]
theorem b2_le (b : Bool) : b2 b ≤ 1 := by cases b <;> simp [b2]
theorem b2_inj {a b : Bool} (h : b2 a = b2 b) : a = b := by cases a <;> cases b <;> simp [b2] at h <;> rfl
theorem b2_xor (a b : Bool) : Builtin.bitXor (b2 a) (b2 b) = b2 (a ^^ b) := by cases a <;> cases b <;> decide +kernel
theorem b2_mod2 (a b : Bool) : (b2 a + b2 b) % 2 = b2 (a ^^ b) := by cases a <;> cases b <;> decide +kernel
theorem b2_mod3 (a b c : Bool) : (b2 a + b2 b + b2 c) % 2 = b2 (a ^^ b ^^ c) := by cases a <;> cases b <;> cases c <;> decide +kernel
theorem b2_mod4 (a b c d : Bool) : (b2 a + b2 b + b2 c + b2 d) % 2 = b2 (a ^^ b ^^ c ^^ d) := by cases a <;> cases b <;> cases c <;> cases d <;> decide +kernel
theorem b2_flip (a : Bool) : 1 - b2 a = b2 (!a) := by cases a <;> decide +kernel
theorem b2_odd (n : Int) : n % 2 = b2 (decide (n % 2 = 1)) := by
  by_cases h : n % 2 = 1
  · rw [decide_eq_true h, h]; rfl
  · have h2 : n % 2 = 0 := by omega
    rw [h2]; rfl

/-- data of lists of ints, of bits -/
theorem dp_ints {K : PySem.W.Frag} {H : Hp} : ∀ ns : List Int, DpAll K H (ns.map V.int) (ns.map PyData.int)
  | [] => .nil
  | n :: r => .cons (.int n) (dp_ints r)
theorem dp_list {K : PySem.W.Frag} {H : Hp} {a : Addr} {ns : List Int} (h : SqL K H a (ns.map V.int)) : Dp K H (.ref a) (.list (ns.map PyData.int)) := .lst h (dp_ints ns)
theorem dp_tup {K : PySem.W.Frag} {H : Hp} {a : Addr} {ns : List Int} (h : SqT K H a (ns.map V.int)) : Dp K H (.ref a) (.tuple (ns.map PyData.int)) := .tup h (dp_ints ns)
theorem map_vb (bs : List Bool) : bs.map vb = (bs.map b2).map V.int := by
  rw [List.map_map]; rfl
end Own

namespace Own
open PySem PySem.Spec PyProof.Rows L2
/-! ### places where the reading stops: a new object, a call, a loop, a comprehension (simp does not look behind them) -/
def Fx {α : Type} (_ : α) : Type := Unit
def fx {α : Type} {a : α} : Fx a := ()
def New (H : Hp) (o : HO) (Q : VK) (_ : Fx Q) : Prop := ∀ p, H p = none → Q (.ref p) (upd H p o)
theorem new_of {H : Hp} {o : HO} {Q : VK} (h : ∀ p H1, H p = none → Same H H1 → H1 p = some o → Q (.ref p) H1) {z : Fx Q} : New H o Q z := fun p np => h p _ np (same_upd np) upd_same
theorem new_ex {H : Hp} {o : HO} {Q : VK} (h : ∀ p, H p = none → Q (.ref p) (upd H p o)) : New H o Q fx := h
def CallTo (sp : Sp) (vs : List V) (H : Hp) (Q : VK) (E : XK) (_ : Fx (sp, Q, E)) : Prop := sp vs H Q E
theorem call_to {sp : Sp} {vs : List V} {H : Hp} {Q : VK} {E : XK} {z : Fx (sp, Q, E)} (h : sp vs H Q E) : CallTo sp vs H Q E z := h
/-- a loop, what is left of it behind its walk's own reading -/
def Loop (J : It) (g : TG) (tb : TS) (D : Ends) (σ : L2.St) (H : Hp) (_ : Fx (g, tb, D)) : Prop := ∃ W : Nat → Nat → L2.St → Hp → Prop, (∃ m, W 0 m σ H) ∧ ∀ i m σ H, W i m σ H →
  (J.stop i H ∧ D.nx σ H) ∨ (J.go i H ∧ ∃ N : L2.St → Hp → Prop, (∀ σ' H', N σ' H' → ∃ m', m' < m ∧ W (i + 1) m' σ' H') ∧ ∀ x H', J.yld i H x H' → g x σ H' fun σ2 H2 => tb { D with nx := N, ct := N, bk := D.nx } σ2 H2)
/-- a comprehension's rest -/
def LcLoop (J : It) (g : TG) (tt : TT) (te : TE) (vs : List Nat) (σ : L2.St) (H1 : Hp) (D : Addr) (Qd : Hp → Prop) : Prop := ∃ W : Nat → Nat → Hp → Prop, (∃ m, W 0 m (upd H1 D (.lst []))) ∧ ∀ i m H, W i m H →
  (J.stop i H ∧ Qd H) ∨ (J.go i H ∧ ∃ Nx : Hp → Prop, (∀ H', Nx H' → ∃ m', m' < m ∧ W (i + 1) m' H') ∧ ∀ x H', J.yld i H x H' → g x (wipe σ vs) H' fun σ2 H2 => wipe σ2 vs = wipe σ vs ∧ tt σ2 H2 fun b H3 =>
    if b = true then te σ2 H3 fun y H4 => ∃ acc, H4 D = some (.lst acc) ∧ acc.length < sizeLine ∧ Nx (upd H4 D (.lst (acc ++ [y]))) else Nx H3)
def LcNew (J : It) (g : TG) (tt : TT) (te : TE) (vs : List Nat) (σ : L2.St) (H1 : Hp) (Q : VK) (_ : Fx (g, tt, te, Q)) : Prop := ∀ D, H1 D = none → LcLoop J g tt te vs σ H1 D (Q (.ref D))
section
variable {t u : TS} {te ta tb tc : TE} {tt tu : TT} {g : TG} {D : Ends} {σ : L2.St} {H : Hp} {Q : VK} {K : PySem.W.Frag} {x y : V} {r r' : R2}
theorem e_seq : tSeq t u D σ H = t { D with nx := u D } σ H := rfl
theorem e_asg : tAsg te g D σ H = te σ H fun x H1 => g x σ H1 D.nx := rfl
theorem e_gName {i : Nat} {v : V} {Q : L2.St → Hp → Prop} : gName i v σ H Q = Q (σ.set i (some v)) H := rfl
theorem e_var {i : Nat} : tVar i σ H Q = ∃ v, σ[i]? = some (some v) ∧ Q v H := rfl
theorem e_C {v : V} : tC v σ H Q = Q v H := rfl
theorem e_op : tOp r ta tb σ H Q = ta σ H fun x H1 => tb σ H1 fun y H2 => r x y H2 Q := rfl
theorem e_un {r : V → Hp → VK → Prop} : tUn r ta σ H Q = ta σ H fun x H1 => r x H1 Q := rfl
theorem e_rI {C : Int → Int → Prop} {g : Int → Int → V} : rI C g x y H Q = ∃ i j, x = .int i ∧ y = .int j ∧ C i j ∧ Q (g i j) H := rfl
theorem e_rI0 {g : Int → Int → V} : rI0 g x y H Q = ∃ i j, x = .int i ∧ y = .int j ∧ Q (g i j) H := rfl
theorem e_rU {g : Int → V} : rU g x H Q = ∃ i, x = .int i ∧ Q (g i) H := rfl
theorem e_CMul {i j : Int} : CMul i j = ((-(2 ^ 64) < i ∧ i < 2 ^ 64) ∨ (-(2 ^ 64) < j ∧ j < 2 ^ 64)) := rfl
theorem e_CDiv {i j : Int} : CDiv i j = (0 < j ∧ j < 1073741824) := rfl
theorem e_CPow {i j : Int} : CPow i j = (0 ≤ j ∧ j ≤ 1000000 ∧ i.natAbs < 2 ^ 64) := rfl
theorem e_rEq : rEq x y H Q = (scal x y = true ∧ Q (.bl (decide (x = y))) H) := rfl
theorem e_rNe : rNe x y H Q = (scal x y = true ∧ Q (.bl (!decide (x = y))) H) := rfl
theorem e_scal_int {i j : Int} : (scal (.int i) (.int j) = true) = True := by rw [show scal (.int i) (.int j) = true from rfl]; exact eq_self true
theorem e_scal_str {i j : Str} : (scal (.str i) (.str j) = true) = True := by rw [show scal (.str i) (.str j) = true from rfl]; exact eq_self true
theorem e_scal_bl {i j : Bool} : (scal (.bl i) (.bl j) = true) = True := by rw [show scal (.bl i) (.bl j) = true from rfl]; exact eq_self true
theorem e_ifS {c : TT} : tIfS c t u D σ H = c σ H fun b H1 => if b = true then t D σ H1 else u D σ H1 := rfl
theorem e_test {Q : Bool → Hp → Prop} : tTest te σ H Q = te σ H fun x H' => ∃ k, x = .bl k ∧ Q k H' := rfl
theorem e_tB {Q : Bool → Hp → Prop} : tB te σ H Q = te σ H fun x H' => ∃ k, x = .bl k ∧ Q k H' := rfl
theorem e_ret : tRet te D σ H = te σ H D.rt := rfl
theorem e_retN : tRetN D σ H = D.rt .non H := rfl
theorem e_next : tNext D σ H = D.nx σ H := rfl
theorem e_brk : tBreak D σ H = D.bk σ H := rfl
theorem e_cnt : tCont D σ H = D.ct σ H := rfl
theorem e_cons {tr : TA} {Q : List V → Hp → Prop} : tCons te tr σ H Q = te σ H fun x H1 => tr σ H1 fun xs H2 => Q (x :: xs) H2 := rfl
theorem e_nil {Q : List V → Hp → Prop} : tNil σ H Q = Q [] H := rfl
theorem e_lst {t : TA} : tLst t σ H Q = t σ H fun xs H1 => xs.length ≤ sizeLine ∧ New H1 (.lst xs) Q fx := rfl
theorem e_tup {t : TA} : tTup t σ H Q = t σ H fun xs H1 => xs.length ≤ sizeLine ∧ New H1 (.tup xs) Q fx := rfl
theorem e_drop : tDrop te D σ H = te σ H fun _ H1 => D.nx σ H1 := rfl
theorem e_and {Q : Bool → Hp → Prop} : tAnd tt tu σ H Q = tt σ H fun c H1 => if c = true then tu σ H1 Q else Q false H1 := rfl
theorem e_or {Q : Bool → Hp → Prop} : tOr tt tu σ H Q = tt σ H fun c H1 => if c = true then Q true H1 else tu σ H1 Q := rfl
theorem e_not {Q : Bool → Hp → Prop} : tNot tt σ H Q = tt σ H fun c H1 => Q (!c) H1 := rfl
theorem e_andV : tAndV ta tb σ H Q = ta σ H fun x H1 => ∃ c, x = .bl c ∧ if c = true then tb σ H1 Q else Q (.bl false) H1 := rfl
theorem e_orV : tOrV ta tb σ H Q = ta σ H fun x H1 => ∃ c, x = .bl c ∧ if c = true then Q (.bl true) H1 else tb σ H1 Q := rfl
theorem e_notV : tNotV ta σ H Q = ta σ H fun x H1 => ∃ c, x = .bl c ∧ Q (.bl (!c)) H1 := rfl
theorem e_if : tIf tt ta tb σ H Q = tt σ H fun c H1 => if c = true then ta σ H1 Q else tb σ H1 Q := rfl
theorem e_chain : tChain r r' ta tb tc σ H Q = ta σ H fun x H1 => tb σ H1 fun y H2 => r x y H2 fun z H3 => ∃ k, z = .bl k ∧ (if k = true then tc σ H3 fun w' H4 => r' y w' H4 Q else Q (.bl false) H3) := rfl
theorem e_CB {rr : List V → Hp → VK → Prop} {t : TA} : tCB rr t σ H Q = t σ H fun vs H1 => rr vs H1 Q := rfl
theorem e_call {sp : Sp} {dvs : List V} {E : XK} {t : TA} : tCall sp dvs E t σ H Q = t σ H fun vs H1 => CallTo sp (vs ++ dvs) H1 Q E fx := rfl
theorem e_rIxL : rIxL K x y H Q = ∃ p xs i v, x = .ref p ∧ y = .int i ∧ SqL K H p xs ∧ atI xs i = some v ∧ Q v H := rfl
theorem e_rIxT : rIxT K x y H Q = ∃ p xs i v, x = .ref p ∧ y = .int i ∧ SqT K H p xs ∧ atI xs i = some v ∧ Q v H := rfl
theorem e_BM {T : String} {rr : V → List V → Hp → VK → Prop} {t : TA} : tBM K T rr te t σ H Q = te σ H fun x H1 => tyV K T x H1 ∧ t σ H1 fun xs H2 => rr x xs H2 Q := rfl
theorem e_BM0 {T : String} {rr : V → List V → Hp → VK → Prop} : tBM0 K T rr te σ H Q = te σ H fun x H1 => tyV K T x H1 ∧ rr x [] H1 Q := rfl
theorem e_rAppend {vs : List V} : rAppend x vs H Q = ∃ l xs y, x = .ref l ∧ vs = [y] ∧ H l = some (.lst xs) ∧ xs.length < sizeLine ∧ Q .non (upd H l (.lst (xs ++ [y]))) := rfl
theorem e_rCat : rCat x y H Q = ∃ l b xs zs, x = .ref l ∧ y = .ref b ∧ H l = some (.lst xs) ∧ H b = some (.lst zs) ∧ xs.length + zs.length ≤ sizeLine ∧ New H (.lst (xs ++ zs)) Q fx := rfl
theorem e_rRep : rRep x y H Q = ∃ l k xs, x = .ref l ∧ y = .int k ∧ H l = some (.lst xs) ∧ -(2 ^ 63) ≤ k ∧ k < 2 ^ 63 ∧ xs.length * k.toNat ≤ sizeLine ∧ New H (.lst (List.replicate k.toNat xs).flatten) Q fx := rfl
theorem e_sl {rr : V → Option Int → Option Int → Hp → VK → Prop} {tl th : TO} : tSl rr te tl th σ H Q = te σ H fun x H1 => tl σ H1 fun l H2 => th σ H2 fun u H3 => rr x l u H3 Q := rfl
theorem e_noPart {Q : Option Int → Hp → Prop} : tNoPart σ H Q = Q none H := rfl
theorem e_part {Q : Option Int → Hp → Prop} : tPart te σ H Q = te σ H fun x H1 => ∃ i, x = .int i ∧ Q (some i) H1 := rfl
theorem e_rSlL {lo hi : Option Int} : rSlL K x lo hi H Q = ∃ a xs, x = .ref a ∧ SqL K H a xs ∧ New H (.lst (cutV xs lo hi)) Q fx := rfl
theorem e_gSub {to ti : TE} {ts : TSet} {v : V} {Q : L2.St → Hp → Prop} : gSub to ti ts v σ H Q = to σ H fun o H1 => ti σ H1 fun i H2 => ts o i v H2 fun H3 => Q σ H3 := rfl
theorem e_rSetL {o i v : V} {Q : Hp → Prop} : rSetL o i v H Q = ∃ p xs k j, o = .ref p ∧ i = .int k ∧ H p = some (.lst xs) ∧ ixN xs.length k = some j ∧ Q (upd H p (.lst (xs.set j v))) := rfl
theorem e_bits : tBits te σ H Q = te σ H fun x H1 => ∃ i, x = .int i ∧ Q (.int (Builtin.Int.intBits i : Nat)) H1 := rfl
theorem e_yes {Q : Bool → Hp → Prop} : tYes σ H Q = Q true H := rfl
theorem e_gTup {n : Nat} {t : TGs} {v : V} {Q : L2.St → Hp → Prop} : gTup K n t v σ H Q = ∃ a xs, v = .ref a ∧ SqT K H a xs ∧ xs.length = n ∧ t xs σ H Q := rfl
theorem e_gNil {vs : List V} {Q : L2.St → Hp → Prop} : gNil vs σ H Q = (vs = [] ∧ Q σ H) := rfl
theorem e_gCons {t : TG} {u : TGs} {vs : List V} {Q : L2.St → Hp → Prop} : gCons t u vs σ H Q = ∃ v r, vs = v :: r ∧ t v σ H fun σ' H' => u r σ' H' Q := rfl
theorem e_aug {i : Nat} {ti : TIp} : tAug i te ti D σ H = ∃ x, σ[i]? = some (some x) ∧ te σ H fun y H1 => ti x y H1 fun z H2 => D.nx (σ.set i (some z)) H2 := rfl
theorem e_ipI {f : Int → Int → Int} : ipI f x y H Q = ∃ i j, x = .int i ∧ y = .int j ∧ Q (.int (f i j)) H := rfl
theorem e_cxK {CX : CXT} {P : Program} {w : World} {K : PySem.W.Frag} {mg : Str → Option Value} {base : Heap} {N : List Str} {q : Str} {sc : Scope} {f : Addr} {cd : Value} {A : Around} {o : List Env} {s : Shared} {H : Hp} {E : XK} : (cxOf CX P w K mg base N q sc f cd A o s H E).K = K := rfl
theorem e_wishK {X : Cx} {E : Value → Shared → Prop} : (X.wish E).K = X.K := rfl
theorem e_noxK {X : Cx} : X.nox.K = X.K := rfl
theorem e_for {wi : TI} {tb : TS} : tFor wi g tb D σ H = wi σ H fun J H1 => Loop J g tb D σ H1 fx := rfl
theorem e_lc {wi : TI} {vs : List Nat} : tLc wi g tt te vs σ H Q = wi σ H fun J H1 => LcNew J g tt te vs σ H1 Q fx := rfl
theorem e_iList {R : It → Hp → Prop} : iList K te σ H R = te σ H fun x H1 => ∃ a, x = .ref a ∧ (∃ xs, SqL K H1 a xs) ∧ R (Itl K a) H1 := rfl
theorem e_iTup {R : It → Hp → Prop} : iTup K te σ H R = te σ H fun x H1 => ∃ a, x = .ref a ∧ (∃ xs, SqT K H1 a xs) ∧ R (Itt K a) H1 := rfl
theorem e_iRng1 {t : TA} {R : It → Hp → Prop} : iRng1 t σ H R = t σ H fun vs H1 => ∃ j : Int, vs = [.int j] ∧ -(2 ^ 62) ≤ j ∧ j < 2 ^ 62 ∧ R (Itr 0 j.toNat) H1 := rfl
theorem e_iRng2 {t : TA} {R : It → Hp → Prop} : iRng2 t σ H R = t σ H fun vs H1 => ∃ i j : Int, vs = [.int i, .int j] ∧ (-(2 ^ 62) ≤ i ∧ i < 2 ^ 62 ∧ -(2 ^ 62) ≤ j ∧ j < 2 ^ 62) ∧ R (Itr i (j - i).toNat) H1 := rfl
theorem e_iEnum {t : TA} {R : It → Hp → Prop} : iEnum K t σ H R = t σ H fun vs H1 => ∃ a xs, vs = [.ref a] ∧ SqL K H1 a xs ∧ R (Ite K a) H1 := rfl
theorem e_iZip {t : TA} {R : It → Hp → Prop} : iZip K t σ H R = t σ H fun vs H1 => ∃ a b xs ys, vs = [.ref a, .ref b] ∧ SqL K H1 a xs ∧ SqL K H1 b ys ∧ R (Itz K a b) H1 := rfl
end
/-- a loop's word at a turn (simp leaves the word itself alone) -/
def At (Pv : Nat → L2.St → Hp → Prop) (i : Nat) (σ : L2.St) (H : Hp) (_ : Fx Pv) : Prop := Pv i σ H
theorem at_is {Pv : Nat → L2.St → Hp → Prop} {i : Nat} {σ : L2.St} {H : Hp} {z : Fx Pv} (h : Pv i σ H) : At Pv i σ H z := h
theorem loop_it {J : It} {n : Nat} {G : Hp → Prop} {Y : Nat → Hp → V → Hp → Prop} (w : Walk J n G Y) {g : TG} {tb : TS} {D : Ends} {σ : L2.St} {H : Hp} (Pv : Nat → L2.St → Hp → Prop) (h0 : Pv 0 σ H) (hG : ∀ i σ H, i ≤ n → Pv i σ H → G H)
    (hs : ∀ i x σ H H', i < n → Pv i σ H → Y i H x H' → g x σ H' fun σ2 H2 => tb { D with nx := fun σ H => At Pv (i + 1) σ H fx, ct := fun σ H => At Pv (i + 1) σ H fx, bk := D.nx } σ2 H2) (hd : ∀ σ H, Pv n σ H → D.nx σ H) {z : Fx (g, tb, D)} : Loop J g tb D σ H z := for_it w Pv h0 hG hs hd
/-- the list at D so far: l i; what stood ahead stands -/
def LcP (H1 : Hp) (D : Addr) (l : Nat → List V) (i : Nat) (H : Hp) : Prop := Same H1 H ∧ H D = some (.lst (l i))
theorem lcl_it {J : It} {n : Nat} {G : Hp → Prop} {Y : Nat → Hp → V → Hp → Prop} (w : Walk J n G Y) {g : TG} {tt : TT} {te : TE} {vs : List Nat} {σ : L2.St} {H1 : Hp} {D : Addr} {Qd : Hp → Prop} (hD : H1 D = none) (l : Nat → List V) (h0 : l 0 = []) (hG : ∀ H, Same H1 H → G H)
    (hs : ∀ i x H H', i < n → LcP H1 D l i H → Y i H x H' → g x (wipe σ vs) H' fun σ2 H2 => wipe σ2 vs = wipe σ vs ∧ tt σ2 H2 fun b H3 =>
      if b = true then te σ2 H3 fun y H4 => ∃ acc, H4 D = some (.lst acc) ∧ acc.length < sizeLine ∧ LcP H1 D l (i + 1) (upd H4 D (.lst (acc ++ [y]))) else LcP H1 D l (i + 1) H3)
    (hd : ∀ H, Same H1 H → H D = some (.lst (l n)) → Qd H) : LcLoop J g tt te vs σ H1 D Qd :=
  lc_it w (LcP H1 D l) ⟨same_upd hD, by rw [upd_same, h0]⟩ (fun _ H _ p => hG H p.1) hs fun H p => hd H p.1 p.2
theorem lc_app {H1 H H4 : Hp} {D : Addr} {l : Nat → List V} {i : Nat} {y : V} (hD : H1 D = none) (p : LcP H1 D l i H) (sm : Same H H4) (hl : l (i + 1) = l i ++ [y]) (hz : (l i).length < sizeLine) :
    ∃ acc, H4 D = some (.lst acc) ∧ acc.length < sizeLine ∧ LcP H1 D l (i + 1) (upd H4 D (.lst (acc ++ [y]))) :=
  ⟨l i, sm _ _ p.2, hz, same_upd_of (p.1.trans sm) hD, by rw [upd_same, hl]⟩
theorem lc_skip {H1 H H3 : Hp} {D : Addr} {l : Nat → List V} {i : Nat} (p : LcP H1 D l i H) (sm : Same H H3) (hl : l (i + 1) = l i) : LcP H1 D l (i + 1) H3 :=
  ⟨p.1.trans sm, by rw [hl]; exact sm _ _ p.2⟩
theorem ty_list {K : PySem.W.Frag} {H : Hp} {a : Addr} {xs : List V} (h : H a = some (.lst xs)) : tyV K "list" (.ref a) H := .inl ⟨rfl, _, .inl (.inl h)⟩
theorem r_append {K : PySem.W.Frag} {H : Hp} {l : Addr} {xs : List V} {y : V} {Q : VK} (h : H l = some (.lst xs)) (hz : xs.length < sizeLine) (q : Q .non (upd H l (.lst (xs ++ [y])))) : tyV K "list" (.ref l) H ∧ rAppend (.ref l) [y] H Q :=
  ⟨ty_list h, l, xs, y, rfl, rfl, h, hz, q⟩
theorem atI_in {α : Type} {xs : List α} {z : Int} {v : α} (h0 : 0 ≤ z) (h : xs[z.toNat]? = some v) : atI xs z = some v := by
  have e := atI_nat h
  rw [Int.toNat_of_nonneg h0] at e
  exact e

/-! ### equal lists of ints -/
theorem eqvAll_ints : ∀ ns ms : List Int, PyData.eqvAll (ns.map PyData.int) (ms.map PyData.int) = decide (ns = ms)
  | [], [] => by simp [PyData.eqvAll]
  | [], m :: r => by simp [PyData.eqvAll]
  | n :: r, [] => by simp [PyData.eqvAll]
  | n :: r, m :: q => by
    simp only [List.map_cons, PyData.eqvAll, PyData.eqv, eqvAll_ints r q, List.cons.injEq]
    by_cases h1 : n = m <;> by_cases h2 : r = q <;> simp [h1, h2]
theorem canLay_ints : ∀ ns : List Int, PyData.canLayAll0 (ns.map PyData.int) = true
  | [] => by simp [PyData.canLayAll0]
  | n :: r => by simp [PyData.canLayAll0, PyData.canLay0, canLay_ints r]
theorem depth_ints : ∀ ns : List Int, PyData.depthAll (ns.map PyData.int) ≤ 1
  | [] => by simp [PyData.depthAll]
  | n :: r => by
    have ih := depth_ints r
    simp only [List.map_cons, PyData.depthAll, PyData.depth]
    omega
theorem shaped_ints (ns : List Int) : SeqAt.shaped (.list (ns.map PyData.int)) = true := by
  have h := depth_ints ns
  unfold SeqAt.shaped
  rw [Bool.and_eq_true]
  refine ⟨by simp only [PyData.canLay0]; exact canLay_ints ns, decide_eq_true ?_⟩
  simp only [PyData.depth]
  omega
theorem shaped_intsT (ns : List Int) : SeqAt.shaped (.tuple (ns.map PyData.int)) = true := by
  have h := depth_ints ns
  unfold SeqAt.shaped
  rw [Bool.and_eq_true]
  refine ⟨by simp only [PyData.canLay0]; exact canLay_ints ns, decide_eq_true ?_⟩
  simp only [PyData.depth]
  omega
section
variable {K : PySem.W.Frag} {H : Hp} {a b : Addr} {ns ms : List Int} {Q : VK}
theorem r_ne_list (ha : SqL K H a (ns.map V.int)) (hb : SqL K H b (ms.map V.int)) (q : Q (.bl (!decide (ns = ms))) H) : rNeD K (.ref a) (.ref b) H Q := by
  refine ⟨_, _, dp_list ha, dp_list hb, shaped_ints _, shaped_ints _, ?_⟩
  rw [PyData.eqv, eqvAll_ints]
  exact q
theorem r_eq_list (ha : SqL K H a (ns.map V.int)) (hb : SqL K H b (ms.map V.int)) (q : Q (.bl (decide (ns = ms))) H) : rEqD K (.ref a) (.ref b) H Q := by
  refine ⟨_, _, dp_list ha, dp_list hb, shaped_ints _, shaped_ints _, ?_⟩
  rw [PyData.eqv, eqvAll_ints]
  exact q
theorem r_ne_tup (ha : SqT K H a (ns.map V.int)) (hb : SqT K H b (ms.map V.int)) (q : Q (.bl (!decide (ns = ms))) H) : rNeD K (.ref a) (.ref b) H Q := by
  refine ⟨_, _, dp_tup ha, dp_tup hb, shaped_intsT _, shaped_intsT _, ?_⟩
  rw [PyData.eqv, eqvAll_ints]
  exact q
/-- isinstance of an int, a list, a tuple -/
theorem r_isi {x : V} {t u : String} {b : Bool} (ty : TyX K H x (.type t)) (e : kitB t u = some b) (q : Q (.bl b) H) : rIsi K [x, .ty u] H Q := ⟨x, .ty u, .type t, .type u, b, rfl, .ty u, ty, kit_ty e, q⟩
end
end Own

namespace Own
open PySem PySem.Spec PyProof.Rows L2
/-! ### rules for what is tracked: the premise is an equation of the heap -/
def ivs (l : List Int) : List V := l.map V.int
def bz (u : List Bool) : List Int := u.map b2
theorem vint_inj {a b : Int} (h : V.int a = V.int b) : a = b := V.int.inj h
theorem map_inj_of {α β : Type} {f : α → β} (hf : ∀ a b, f a = f b → a = b) : ∀ {l m : List α}, l.map f = m.map f → l = m
  | [], [], _ => rfl
  | [], _ :: _, h => by simp at h
  | _ :: _, [], h => by simp at h
  | a :: l, b :: m, h => by
    simp only [List.map_cons, List.cons.injEq] at h
    rw [hf _ _ h.1, map_inj_of hf h.2]
theorem ivs_inj {a b : List Int} : (ivs a = ivs b) = (a = b) := propext ⟨fun h => map_inj_of (fun _ _ => vint_inj) h, fun h => by rw [h]⟩
theorem bz_inj {a b : List Bool} : (bz a = bz b) = (a = b) := propext ⟨fun h => map_inj_of (fun _ _ => b2_inj) h, fun h => by rw [h]⟩
theorem ivs_len {l : List Int} : (ivs l).length = l.length := List.length_map ..
theorem bz_len {u : List Bool} : (bz u).length = u.length := List.length_map ..
theorem ivs_app {a b : List Int} : ivs a ++ ivs b = ivs (a ++ b) := (List.map_append ..).symm
theorem bz_app {a b : List Bool} : bz a ++ bz b = bz (a ++ b) := (List.map_append (f := b2) ..).symm
theorem ivs_snoc {a : List Int} {z : Int} : ivs a ++ [V.int z] = ivs (a ++ [z]) := (List.map_append (f := V.int) (l₂ := [z])).symm
theorem bz_snoc {a : List Bool} {b : Bool} : bz a ++ [b2 b] = bz (a ++ [b]) := (List.map_append (f := b2) (l₂ := [b])).symm
theorem ivs_get {l : List Int} {i : Nat} : (ivs l)[i]? = (l[i]?).map V.int := List.getElem?_map ..
theorem bz_get {u : List Bool} {i : Nat} : (bz u)[i]? = (u[i]?).map b2 := List.getElem?_map ..
theorem atI_ints {l : List Int} {i : Int} : atI (ivs l) i = (atI l i).map V.int := by
  unfold atI ivs
  rw [List.length_map]
  cases ixN l.length i with
  | none => rfl
  | some j => exact List.getElem?_map ..
theorem atI_bz {u : List Bool} {i : Int} : atI (bz u) i = (atI u i).map b2 := by
  unfold atI bz
  rw [List.length_map]
  cases ixN u.length i with
  | none => rfl
  | some j => exact List.getElem?_map ..
theorem atI_at {α : Type} {l : List α} {i : Int} (h0 : 0 ≤ i) : atI l i = l[i.toNat]? := by
  unfold atI ixN
  rw [if_pos h0]
  by_cases h : i < l.length
  · rw [if_pos h]; rfl
  · rw [if_neg h]
    exact (List.getElem?_eq_none (by omega)).symm
theorem ivs_take {l : List Int} {n : Nat} : (ivs l).take n = ivs (l.take n) := (List.map_take ..).symm
theorem ivs_drop {l : List Int} {n : Nat} : (ivs l).drop n = ivs (l.drop n) := (List.map_drop ..).symm
theorem ivs_set {l : List Int} {n : Nat} {z : Int} : (ivs l).set n (.int z) = ivs (l.set n z) := (List.map_set ..).symm
theorem ivs_nil : ivs [] = [] := rfl
theorem ivs_cons {z : Int} {l : List Int} : ivs (z :: l) = .int z :: ivs l := rfl
theorem bz_nil : bz [] = [] := rfl
theorem bz_cons {b : Bool} {l : List Bool} : bz (b :: l) = b2 b :: bz l := rfl
def isLst : Option HO → Bool
  | some (.lst _) => true
  | _ => false
theorem isLst_some {xs : List V} : isLst (some (.lst xs)) = true := rfl
theorem ty_lst {K : PySem.W.Frag} {H : Hp} {p : Addr} (h : isLst (H p) = true) : tyV K "list" (.ref p) H = True := by
  cases e : H p with
  | none => rw [e] at h; cases h
  | some o =>
    cases o with
    | lst xs => exact eq_true (ty_list e)
    | _ => rw [e] at h; cases h
theorem upd_old {H : Hp} {p q : Addr} {o : HO} (hp : H p = none) (hq : (H q).isSome = true) : upd H p o q = H q :=
  upd_ne fun e => by rw [e, hp] at hq; cases hq
theorem upd_none {H : Hp} {p q : Addr} {o : HO} (h : upd H p o q = none) : q ≠ p ∧ H q = none := by
  have ne : q ≠ p := fun e => by rw [e, upd_same] at h; cases h
  exact ⟨ne, by rw [upd_ne ne] at h; exact h⟩
/-- an object changed: the heap behind it by a letter -/
theorem chg_of {H H0 : Hp} {p : Addr} {o : HO} {Q : Hp → Prop} (np : H0 p = none) (sm : Same H0 H) (h : ∀ H1, Same H0 H1 → (∀ q, q ≠ p → H1 q = H q) → H1 p = some o → Q H1) : Q (upd H p o) := h _ (same_upd_of sm np) (fun _ h => upd_ne h) upd_same
section
variable {X : Cx}
def rIxK : R2 := fun x y H Q => ∃ p xs i v, x = .ref p ∧ y = .int i ∧ H p = some (.lst xs) ∧ atI xs i = some v ∧ Q v H
theorem ixk_list : IxR X rIxK := fun value slice pins s σ H x y v u Q I rx ry h => ix_list value slice pins s σ H x y v u Q I rx ry (by
  obtain ⟨p, xs, i, v', e1, e2, hp, ha, q⟩ := h
  exact ⟨p, xs, i, v', e1, e2, .of hp, ha, q⟩)
def rIxKT : R2 := fun x y H Q => ∃ p xs i v, x = .ref p ∧ y = .int i ∧ H p = some (.tup xs) ∧ atI xs i = some v ∧ Q v H
theorem ixk_tup : IxR X rIxKT := fun value slice pins s σ H x y v u Q I rx ry h => ix_tup value slice pins s σ H x y v u Q I rx ry (by
  obtain ⟨p, xs, i, v', e1, e2, hp, ha, q⟩ := h
  exact ⟨p, xs, i, v', e1, e2, .of hp, ha, q⟩)
def rSlK : V → Option Int → Option Int → Hp → VK → Prop := fun x lo hi H Q => ∃ a xs, x = .ref a ∧ H a = some (.lst xs) ∧ ∀ p, H p = none → Q (.ref p) (upd H p (.lst (cutV xs lo hi)))
theorem slk_list : SlR X rSlK := fun pins s σ H x v vl vu lo hi sl Q I rx hs pl pu h => sl_list pins s σ H x v vl vu lo hi sl Q I rx hs pl pu (by
  obtain ⟨a, xs, e, hp, q⟩ := h
  exact ⟨a, xs, e, .of hp, q⟩)
def rLenK : List V → Hp → VK → Prop := fun vs H Q => ∃ p ys, vs = [.ref p] ∧ H p = some (.lst ys) ∧ Q (.int ys.length) H
theorem callk_len : CallR X (.builtin "len") rLenK := fun pins s σ H xs us Q I r h => call_len_seq pins s σ H xs us Q I r (by
  obtain ⟨p, ys, e, hp, q⟩ := h
  exact ⟨p, ys, e, .inl (.of hp), q⟩)
def rListK : List V → Hp → VK → Prop := fun vs H Q => ∃ p ys, vs = [.ref p] ∧ H p = some (.lst ys) ∧ ∀ l, H l = none → Q (.ref l) (upd H l (.lst ys))
theorem callk_list : CallR X (.type "list") rListK := fun pins s σ H xs us Q I r h => call_list_of pins s σ H xs us Q I r (by
  obtain ⟨p, ys, e, hp, q⟩ := h
  exact ⟨p, ys, e, .inl (.of hp), q⟩)
def rTupleK : List V → Hp → VK → Prop := fun vs H Q => ∃ p ys, vs = [.ref p] ∧ H p = some (.lst ys) ∧ ∀ l, H l = none → Q (.ref l) (upd H l (.tup ys))
theorem callk_tuple : CallR X (.type "tuple") rTupleK := fun pins s σ H xs us Q I r h => call_tuple_of pins s σ H xs us Q I r (by
  obtain ⟨p, ys, e, hp, q⟩ := h
  exact ⟨p, ys, e, .inl ⟨.of hp, q⟩⟩)
def rSumK : List V → Hp → VK → Prop := fun vs H Q => ∃ a ns, vs = [V.ref a] ∧ H a = some (.lst (ivs ns)) ∧ Q (.int ns.sum) H
theorem crk_sum (hc : X.calm = true) : CallR X (.builtin "sum") rSumK := fun pins s σ H xs us Q I r h => cr_sum hc pins s σ H xs us Q I r (by
  obtain ⟨p, ys, e, hp, q⟩ := h
  exact ⟨p, ys, e, .of hp, q⟩)
/-- == and != of lists of ivs -/
def rNeK : R2 := fun x y H Q => ∃ a b ns ms, x = .ref a ∧ y = .ref b ∧ H a = some (.lst (ivs ns)) ∧ H b = some (.lst (ivs ms)) ∧ Q (.bl (!decide (ns = ms))) H
def rEqK : R2 := fun x y H Q => ∃ a b ns ms, x = .ref a ∧ y = .ref b ∧ H a = some (.lst (ivs ns)) ∧ H b = some (.lst (ivs ms)) ∧ Q (.bl (decide (ns = ms))) H
theorem opk_ne (hu : X.A.units + 64 < cLine) : OpR X (compareOp .NotEq) rNeK := fun pins s σ H x y v u Q I rx ry h => op_neD hu pins s σ H x y v u Q I rx ry (by
  obtain ⟨a, b, ns, ms, rfl, rfl, h1, h2, q⟩ := h
  exact r_ne_list (.of h1) (.of h2) q)
theorem opk_eq (hu : X.A.units + 64 < cLine) : OpR X (compareOp .Eq) rEqK := fun pins s σ H x y v u Q I rx ry h => op_eqD hu pins s σ H x y v u Q I rx ry (by
  obtain ⟨a, b, ns, ms, rfl, rfl, h1, h2, q⟩ := h
  exact r_eq_list (.of h1) (.of h2) q)
/-- isinstance(x, T) of an int, a bool, a tracked list or tuple -/
def tyO : Option HO → String
  | some (.lst _) => "list"
  | some (.tup _) => "tuple"
  | _ => ""
def tyK : V → Hp → String
  | .int _, _ => "int"
  | .bl _, _ => "bool"
  | .str _, _ => "str"
  | .non, _ => "NoneType"
  | .ref a, H => tyO (H a)
  | _, _ => ""
theorem tyX_of {K : PySem.W.Frag} {x : V} {H : Hp} (h : tyK x H ≠ "") : TyX K H x (.type (tyK x H)) := by
  cases x with
  | int i => exact .base (.int i)
  | bl b => exact .base (.bl b)
  | str b => exact .base (.str b)
  | non => exact .base .non
  | ref a =>
    have h' : tyO (H a) ≠ "" := h
    show TyX K H (.ref a) (.type (tyO (H a)))
    cases e : H a with
    | none => rw [e] at h'; exact absurd rfl h'
    | some o =>
      rw [e] at h'
      cases o with
      | lst xs => exact .base (.lst e)
      | tup xs => exact .base (.tup e)
      | _ => exact absurd rfl h'
  | _ => exact absurd rfl h
def rIsiK : List V → Hp → VK → Prop := fun xs H Q => ∃ x T b, xs = [x, .ty T] ∧ tyK x H ≠ "" ∧ kitB (tyK x H) T = some b ∧ Q (.bl b) H
theorem callk_isi : CallR X (.builtin "isinstance") rIsiK := fun pins s σ H xs us Q I r h => call_isi pins s σ H xs us Q I r (by
  obtain ⟨x, T, b, rfl, h1, h2, q⟩ := h
  exact ⟨x, .ty T, _, _, b, rfl, .ty T, tyX_of h1, kit_ty h2, q⟩)
end
section
variable {H : Hp} {Q : VK} {x y : V} {vs : List V}
theorem e_rIxK : rIxK x y H Q = ∃ p xs i v, x = .ref p ∧ y = .int i ∧ H p = some (.lst xs) ∧ atI xs i = some v ∧ Q v H := rfl
theorem e_rIxKT : rIxKT x y H Q = ∃ p xs i v, x = .ref p ∧ y = .int i ∧ H p = some (.tup xs) ∧ atI xs i = some v ∧ Q v H := rfl
theorem e_rSlK {lo hi : Option Int} : rSlK x lo hi H Q = ∃ a xs, x = .ref a ∧ H a = some (.lst xs) ∧ New H (.lst (cutV xs lo hi)) Q fx := rfl
theorem e_rLenK : rLenK vs H Q = ∃ p ys, vs = [.ref p] ∧ H p = some (.lst ys) ∧ Q (.int ys.length) H := rfl
theorem e_rListK : rListK vs H Q = ∃ p ys, vs = [.ref p] ∧ H p = some (.lst ys) ∧ New H (.lst ys) Q fx := rfl
theorem e_rTupleK : rTupleK vs H Q = ∃ p ys, vs = [.ref p] ∧ H p = some (.lst ys) ∧ New H (.tup ys) Q fx := rfl
theorem e_rSumK : rSumK vs H Q = ∃ a ns, vs = [V.ref a] ∧ H a = some (.lst (ivs ns)) ∧ Q (.int ns.sum) H := rfl
theorem e_rNeK : rNeK x y H Q = ∃ a b ns ms, x = .ref a ∧ y = .ref b ∧ H a = some (.lst (ivs ns)) ∧ H b = some (.lst (ivs ms)) ∧ Q (.bl (!decide (ns = ms))) H := rfl
theorem e_rEqK : rEqK x y H Q = ∃ a b ns ms, x = .ref a ∧ y = .ref b ∧ H a = some (.lst (ivs ns)) ∧ H b = some (.lst (ivs ms)) ∧ Q (.bl (decide (ns = ms))) H := rfl
theorem e_rIsiK : rIsiK vs H Q = ∃ x T b, vs = [x, .ty T] ∧ tyK x H ≠ "" ∧ kitB (tyK x H) T = some b ∧ Q (.bl b) H := rfl
theorem tyK_int {z : Int} : tyK (.int z) H = "int" := rfl
theorem tyK_bl {z : Bool} : tyK (.bl z) H = "bool" := rfl
theorem tyK_str {z : Str} : tyK (.str z) H = "str" := rfl
theorem tyK_non : tyK .non H = "NoneType" := rfl
theorem tyK_ref {a : Addr} : tyK (.ref a) H = tyO (H a) := rfl
theorem tyO_lst {xs : List V} : tyO (some (.lst xs)) = "list" := rfl
theorem tyO_tup {xs : List V} : tyO (some (.tup xs)) = "tuple" := rfl
theorem kit1 : kitB "int" "bool" = some false := by decide +kernel
theorem kit2 : kitB "bool" "bool" = some true := by decide +kernel
theorem kit3 : kitB "list" "list" = some true := by decide +kernel
theorem kit4 : kitB "tuple" "tuple" = some true := by decide +kernel
theorem kit5 : kitB "int" "int" = some true := by decide +kernel
theorem kit6 : kitB "list" "tuple" = some false := by decide +kernel
theorem kit7 : kitB "tuple" "list" = some false := by decide +kernel
theorem kit8 : kitB "NoneType" "bool" = some false := by decide +kernel
theorem kit9 : kitB "NoneType" "int" = some false := by decide +kernel
theorem hlst_inj {a b : List V} : (HO.lst a = HO.lst b) = (a = b) := propext ⟨fun h => HO.lst.inj h, fun h => by rw [h]⟩
theorem htup_inj {a b : List V} : (HO.tup a = HO.tup b) = (a = b) := propext ⟨fun h => HO.tup.inj h, fun h => by rw [h]⟩
theorem vty_inj {a b : String} : (V.ty a = V.ty b) = (a = b) := propext ⟨fun h => V.ty.inj h, fun h => by rw [h]⟩
end
/-! ### slices, walks over a script's numbered items -/
theorem cut_to (xs : List V) {k : Int} (h : 0 ≤ k) : cutV xs none (some k) = xs.take k.toNat := by
  obtain ⟨n, rfl⟩ := Int.eq_ofNat_of_zero_le h
  unfold cutV
  rw [HT.sIx_none, HT.sIx_nat, Int.toNat_natCast, List.drop_zero, Nat.sub_zero, Nat.min_def]
  split
  · rfl
  · rw [List.take_of_length_le (Nat.le_refl _), List.take_of_length_le (by omega)]
theorem cut_from (xs : List V) {k : Int} (h : 0 ≤ k) : cutV xs (some k) none = xs.drop k.toNat := by
  obtain ⟨n, rfl⟩ := Int.eq_ofNat_of_zero_le h
  unfold cutV
  rw [HT.sIx_none, HT.sIx_nat, Int.toNat_natCast]
  by_cases hn : n ≤ xs.length
  · rw [Nat.min_eq_left hn, List.take_of_length_le (by rw [List.length_drop]; omega)]
  · rw [Nat.min_eq_right (by omega), List.drop_of_length_le (Nat.le_refl _), List.drop_of_length_le (by omega)]
    simp
theorem cut_in (xs : List V) {j k : Int} (h : 0 ≤ j) (h2 : 0 ≤ k) : cutV xs (some j) (some k) = (xs.take k.toNat).drop j.toNat := by
  obtain ⟨m, rfl⟩ := Int.eq_ofNat_of_zero_le h
  obtain ⟨n, rfl⟩ := Int.eq_ofNat_of_zero_le h2
  unfold cutV
  rw [HT.sIx_nat, HT.sIx_nat, Int.toNat_natCast, Int.toNat_natCast]
  apply List.ext_getElem?
  intro i
  rw [List.getElem?_take, List.getElem?_drop, List.getElem?_drop, List.getElem?_take]
  have g : ∀ j, xs.length ≤ j → xs[j]? = none := fun j hj => List.getElem?_eq_none hj
  by_cases h1 : m ≤ xs.length
  · rw [Nat.min_eq_left h1]
    by_cases h4 : m + i < n
    · rw [if_pos h4]
      by_cases h5 : m + i < xs.length
      · rw [if_pos (by omega)]
      · rw [g (m + i) (by omega)]; split <;> rfl
    · rw [if_neg h4, if_neg (by omega)]
  · rw [Nat.min_eq_right (a := m) (by omega), g (xs.length + i) (by omega), g (m + i) (by omega)]
    split <;> split <;> rfl
theorem loop_enum {K : PySem.W.Frag} {a : Addr} {l : List Int} {p q n : Nat} {tb : TS} {D : Ends} {σ : L2.St} {H : Hp} (hn : 2 = n) (Pv : Nat → L2.St → Hp → Prop) (h0 : Pv 0 σ H) (hG : ∀ i σ H, Pv i σ H → H a = some (.lst (ivs l)))
    (hs : ∀ i z σ H H', l[i]? = some z → i < l.length → Pv i σ H → Same H H' → tb { D with nx := fun σ H => At Pv (i + 1) σ H fx, ct := fun σ H => At Pv (i + 1) σ H fx, bk := D.nx } ((σ.set p (some (.int (i : Nat)))).set q (some (.int z))) H')
    (hd : ∀ σ H, Pv l.length σ H → D.nx σ H) {z : Fx (gTup K n (gCons (gName p) (gCons (gName q) gNil)), tb, D)} : Loop (Ite K a) (gTup K n (gCons (gName p) (gCons (gName q) gNil))) tb D σ H z := by
  refine loop_it (walk_enum (xs := ivs l)) Pv h0 (fun i σ H _ h => .of (hG i σ H h)) ?_ (fun σ H h => hd σ H (by rw [ivs_len] at h; exact h))
  rintro i x σ H H' hi hp ⟨T, x1, y1, rfl, hT, rfl, e1, e2⟩
  rw [ivs_len] at hi
  have ev : (ivs l)[i]? = some (.int l[i]) := by rw [ivs_get, List.getElem?_eq_getElem hi]; rfl
  have e3 : V.int (i : Nat) = x1 := Option.some.inj e1
  have e4 : V.int l[i] = y1 := Option.some.inj (ev.symm.trans e2)
  subst e3 e4
  exact ⟨T, _, rfl, .of upd_same, hn, _, _, rfl, _, _, rfl, rfl, hs i l[i] σ H _ (List.getElem?_eq_getElem hi) hi hp (same_upd hT)⟩
/-! ### comprehensions -/
/-- an item is made: y, the heap behind it H4 -/
def Elt (H1 : Hp) (D : Addr) (l : Nat → List V) (i : Nat) (y : V) (H4 : Hp) (_ : Fx l) : Prop := ∃ acc, H4 D = some (.lst acc) ∧ acc.length < sizeLine ∧ LcP H1 D l (i + 1) (upd H4 D (.lst (acc ++ [y])))
theorem elt_is {H1 H H4 : Hp} {D : Addr} {l : Nat → List V} {i : Nat} {y : V} {z : Fx l} (hD : H1 D = none) (p : LcP H1 D l i H) (sm : Same H H4) (hl : l (i + 1) = l i ++ [y]) (hz : (l i).length < 16777216) : Elt H1 D l i y H4 z :=
  lc_app hD p sm hl (by rw [sizeLine_eq]; exact hz)
def NoElt (H1 : Hp) (D : Addr) (l : Nat → List V) (i : Nat) (H3 : Hp) (_ : Fx l) : Prop := LcP H1 D l (i + 1) H3
theorem lc_rng {lo : Int} {n j : Nat} {te : TE} {σ : L2.St} {H1 : Hp} {Q : VK} {z : Fx (gName j, tYes, te, Q)} (l : Nat → List V) (h0 : l 0 = [])
    (hs : ∀ D i H, H1 D = none → i < n → LcP H1 D l i H → te ((σ.set j none).set j (some (.int (lo + (i : Nat))))) H fun y H4 => Elt H1 D l i y H4 fx)
    (hd : ∀ D H, H1 D = none → Same H1 H → H D = some (.lst (l n)) → Q (.ref D) H) : LcNew (Itr lo n) (gName j) tYes te [j] σ H1 Q z := fun D hD => by
  refine lcl_it walk_range hD l h0 (fun _ _ => trivial) ?_ (fun H => hd D H hD)
  rintro i x H H' hi hp ⟨rfl, rfl⟩
  refine ⟨?_, hs D i _ hD hi hp⟩
  show ((σ.set j none).set j (some (.int (lo + (i : Nat))))).set j none = σ.set j none
  rw [List.set_set, List.set_set]
/-- over a list of ints, with a test or without -/
theorem lc_lst {K : PySem.W.Frag} {a : Addr} {j : Nat} {tt : TT} {te : TE} {σ : L2.St} {H1 : Hp} {Q : VK} {z : Fx (gName j, tt, te, Q)} {xs : List V} (ha : H1 a = some (.lst xs)) (l : Nat → List V) (h0 : l 0 = [])
    (hs : ∀ D i x H, H1 D = none → xs[i]? = some x → LcP H1 D l i H → tt ((σ.set j none).set j (some x)) H fun b H3 => if b = true then te ((σ.set j none).set j (some x)) H3 fun y H4 => Elt H1 D l i y H4 fx else NoElt H1 D l i H3 fx)
    (hd : ∀ D H, H1 D = none → Same H1 H → H D = some (.lst (l xs.length)) → Q (.ref D) H) : LcNew (Itl K a) (gName j) tt te [j] σ H1 Q z := fun D hD => by
  refine lcl_it walk_list hD l h0 (fun H s => .of (s _ _ ha)) ?_ (fun H => hd D H hD)
  rintro i x H H' hi hp ⟨rfl, hx⟩
  refine ⟨?_, hs D i x _ hD hx hp⟩
  show ((σ.set j none).set j (some x)).set j none = σ.set j none
  rw [List.set_set, List.set_set]
theorem lc_rngT {lo : Int} {n j : Nat} {tt : TT} {te : TE} {σ : L2.St} {H1 : Hp} {Q : VK} {z : Fx (gName j, tt, te, Q)} (l : Nat → List V) (h0 : l 0 = [])
    (hs : ∀ D i H, H1 D = none → i < n → LcP H1 D l i H → tt ((σ.set j none).set j (some (.int (lo + (i : Nat))))) H fun b H3 => if b = true then te ((σ.set j none).set j (some (.int (lo + (i : Nat))))) H3 fun y H4 => Elt H1 D l i y H4 fx else NoElt H1 D l i H3 fx)
    (hd : ∀ D H, H1 D = none → Same H1 H → H D = some (.lst (l n)) → Q (.ref D) H) : LcNew (Itr lo n) (gName j) tt te [j] σ H1 Q z := fun D hD => by
  refine lcl_it walk_range hD l h0 (fun _ _ => trivial) ?_ (fun H => hd D H hD)
  rintro i x H H' hi hp ⟨rfl, rfl⟩
  refine ⟨?_, hs D i _ hD hi hp⟩
  show ((σ.set j none).set j (some (.int (lo + (i : Nat))))).set j none = σ.set j none
  rw [List.set_set, List.set_set]
theorem no_elt {H1 H H3 : Hp} {D : Addr} {l : Nat → List V} {i : Nat} {z : Fx l} (p : LcP H1 D l i H) (sm : Same H H3) (hl : l (i + 1) = l i) : NoElt H1 D l i H3 z := lc_skip p sm hl
theorem ivs_at {l : List Int} {i : Nat} {x : V} (h : (ivs l)[i]? = some x) : ∃ b, l[i]? = some b ∧ x = .int b := by
  rw [ivs_get] at h
  cases e : l[i]? with
  | none => rw [e] at h; cases h
  | some b =>
    rw [e] at h
    exact ⟨b, rfl, (Option.some.inj h).symm⟩
theorem get_setj {σ : L2.St} {j : Nat} {x : V} (hj : j < σ.length) : ((σ.set j none).set j (some x))[j]? = some (some x) := by
  rw [List.set_set, List.getElem?_set_self hj]
/-- [x for x in xs if isinstance(x, bool)] of ints -/
theorem lc_nobools {K : PySem.W.Frag} {a : Addr} {j : Nat} {σ : L2.St} {H1 : Hp} {Q : VK} {z : Fx (gName j, tB (tCB rIsiK (tCons (tVar j) (tCons (tC (V.ty "bool")) tNil))), tVar j, Q)} {l : List Int} (ha : H1 a = some (.lst (ivs l))) (hj : j < σ.length)
    (hd : ∀ D H, H1 D = none → Same H1 H → H D = some (.lst (ivs [])) → Q (.ref D) H) : LcNew (Itl K a) (gName j) (tB (tCB rIsiK (tCons (tVar j) (tCons (tC (V.ty "bool")) tNil)))) (tVar j) [j] σ H1 Q z := by
  refine lc_lst ha (fun _ => []) rfl ?_ hd
  intro D i x H hD hx hp
  obtain ⟨b, _, rfl⟩ := ivs_at hx
  refine ⟨.int b, get_setj hj, _, _, false, rfl, (by simp [tyK_int]), kit1, false, rfl, ?_⟩
  exact iteF ⟨hp.1, hp.2⟩
/-! ### an if whose ways meet: what holds where they meet is said once -/
def tIfJ (c : TT) (t u : TS) : TS := fun D σ H => c σ H fun b H1 => if b = true then t D σ H1 else u D σ H1
theorem ps_ifJ {X : Cx} {c : Expr} {a b : List Stmt} {tc : TT} {t u : TS} {pos : Pos} (hc : PT X c tc) (ha : PSs X a t) (hb : PSs X b u) : PS X (.If c a b pos) (tIfJ tc t u) := ps_if hc ha hb
theorem if_join {c : TT} {t u : TS} {D : Ends} {σ : L2.St} {H : Hp} (R : L2.St → Hp → Prop) (key : ∀ σ H, R σ H → D.nx σ H)
    (main : ∀ nx : L2.St → Hp → Prop, (∀ σ H, R σ H → nx σ H) → tIfS c t u { D with nx := nx } σ H) : tIfJ c t u D σ H := main D.nx key
theorem ivs_bset {u : List Bool} {n : Nat} {b : Bool} : (bz u).set n (b2 b) = bz (u.set n b) := (List.map_set ..).symm
theorem ixN_in {n : Nat} {z : Int} (h0 : 0 ≤ z) (h : z < n) : ixN n z = some z.toNat := by
  unfold ixN
  rw [if_pos h0, if_pos h]
end Own

local macro_rules | `(tactic| walk_at "rd") => `(tactic| simp only [Own.e_seq, Own.e_cxK, Own.e_wishK, Own.e_noxK, Own.e_asg, Own.e_gName, Own.e_var, Own.e_C, Own.e_op, Own.e_un, Own.e_rI, Own.e_rI0, Own.e_rU, Own.e_CMul, Own.e_CDiv, Own.e_CPow, Own.e_rEq, Own.e_rNe, Own.e_scal_int, Own.e_scal_str, Own.e_scal_bl, Own.e_ifS, Own.e_test, Own.e_tB, Own.e_ret, Own.e_retN, Own.e_next, Own.e_brk, Own.e_cnt, Own.e_cons, Own.e_nil, Own.e_lst, Own.e_tup, Own.e_drop, Own.e_and, Own.e_or, Own.e_not, Own.e_andV, Own.e_orV, Own.e_notV, Own.e_if, Own.e_chain, Own.e_CB, Own.e_call, Own.e_rIxL, Own.e_rIxT, Own.e_rIxK, Own.e_rIxKT, Own.e_rSlK, Own.e_rLenK, Own.e_rListK, Own.e_rTupleK, Own.e_rSumK, Own.e_rNeK, Own.e_rEqK, Own.e_rIsiK, Own.tyK_int, Own.tyK_bl, Own.tyK_str, Own.tyK_non, Own.tyK_ref, Own.tyO_lst, Own.tyO_tup, Own.kit1, Own.kit2, Own.kit3, Own.kit4, Own.kit5, Own.kit6, Own.kit7, Own.kit8, Own.kit9, Own.hlst_inj, Own.htup_inj, Own.vty_inj, Own.ivs_inj, Own.bz_inj, Own.ivs_len, Own.bz_len, Own.ivs_app, Own.ivs_set, Own.ivs_bset, Own.bz_app, Own.ivs_snoc, Own.bz_snoc, Own.atI_ints, Own.atI_bz, Own.isLst_some, Own.ty_lst, L2.upd_same, L2.upd_upd, Own.b2_xor, Own.b2_mod2, Own.b2_mod3, Own.b2_mod4, Own.b2_flip, Option.map_some, Option.isSome_some, ne_eq, not_false_eq_true, not_true_eq_false, String.reduceEq, Own.e_BM, Own.e_BM0, Own.e_rAppend, Own.e_rCat, Own.e_rRep, Own.e_sl, Own.e_noPart, Own.e_part, Own.e_rSlL, Own.e_gSub, Own.e_rSetL, Own.e_bits, Own.e_yes, Own.e_gTup, Own.e_gNil, Own.e_gCons, Own.e_aug, Own.e_ipI, Own.e_for, Own.e_lc, Own.e_iList, Own.e_iTup, Own.e_iRng1, Own.e_iRng2, Own.e_iEnum, Own.e_iZip, L2.start, L2.wipe, List.map_cons, List.map_nil, List.replicate_succ, List.replicate_zero, List.length_cons, List.length_nil, Nat.reduceAdd, Nat.reduceSub, Nat.zero_add, List.getElem?_cons_zero, List.getElem?_cons_succ, List.set_cons_zero, List.set_cons_succ, Option.some.injEq, L2.V.int.injEq, L2.V.bl.injEq, L2.V.str.injEq, L2.V.ref.injEq, List.cons.injEq, List.cons_append, List.nil_append, List.append_nil, exists_eq_left', exists_eq_left, exists_and_left, exists_and_right, exists_eq, and_true, true_and, reduceCtorEq, false_and, and_false, exists_false, or_false, false_or, true_or, or_true, decide_eq_true_eq, Bool.not_true, Bool.not_false, Bool.not_eq_true', Bool.not_eq_false', decide_eq_false_iff_not, ite_not, if_true, if_false, ite_true, ite_false, Bool.false_eq_true, if_pos trivial, decide_true, decide_false, PySem.sizeLine_eq, Int.reduceNeg, Int.reducePow, Int.reduceLT, Int.reduceLE, Int.reduceToNat, Nat.reduceLeDiff])

namespace Own
open PySem PySem.Spec PyProof.Rows L2
def topS (i : Nat) : Stmt := PySem.Challenge.pw_mobileair_k06_coded_rows_are_far_apart.main.body.getD i (.Pass ⟨0, 0, 0, 0⟩)
abbrev s_convolve : Stmt := topS 1
abbrev s__law_mixed : Stmt := topS 3
abbrev s__law_bits : Stmt := topS 4
abbrev s_law : Stmt := topS 5
theorem sc_convolve : FnScope ["bits", "row", "coded", "at", "even"] ["bits"] (defScope s_convolve) := ⟨rfl, rfl, rfl, by decide +kernel, rfl, by decide +kernel, by decide +kernel⟩
theorem sc__law_mixed : FnScope ["cell", "turn", "value", "first", "second", "third"] ["cell", "turn"] (defScope s__law_mixed) := ⟨rfl, rfl, rfl, by decide +kernel, rfl, by decide +kernel, by decide +kernel⟩
theorem sc__law_bits : FnScope ["value", "many", "row", "left", "k"] ["value", "many"] (defScope s__law_bits) := ⟨rfl, rfl, rfl, by decide +kernel, rfl, by decide +kernel, by decide +kernel⟩
theorem sc_law : FnScope ["script", "turn", "cell", "value", "many", "first", "second", "at", "k", "apart"] ["script"] (defScope s_law) := ⟨rfl, rfl, rfl, by decide +kernel, rfl, by decide +kernel, by decide +kernel⟩
structure BI (mg : Str → Option Value) : Prop where
  list_ : mg "list" = none
  range_ : mg "range" = none
  len_ : mg "len" = none
  int_ : mg "int" = none
  enumerate_ : mg "enumerate" = none
  min_ : mg "min" = none
/-- the coded form, behind the last four bits a (the newest), b, c, d -/
def cvt : Bool → Bool → Bool → Bool → List Bool → List Bool
  | _, _, _, _, [] => []
  | a, b, c, d, x :: r => (x ^^ c ^^ d) :: (x ^^ a ^^ c ^^ d) :: cvt x a b c r
def conv (u : List Bool) : List Bool := cvt false false false false u
/-- the last four bits -/
def lst4 : Bool → Bool → Bool → Bool → List Bool → Bool × Bool × Bool × Bool
  | a, b, c, d, [] => (a, b, c, d)
  | a, b, c, _, x :: r => lst4 x a b c r
def l4 (u : List Bool) : Bool × Bool × Bool × Bool := lst4 false false false false u
theorem cvt_len : ∀ (a b c d : Bool) (u : List Bool), (cvt a b c d u).length = 2 * u.length
  | _, _, _, _, [] => rfl
  | a, b, c, d, x :: r => by
    show (cvt x a b c r).length + 1 + 1 = 2 * (r.length + 1)
    rw [cvt_len x a b c r]; omega
theorem conv_len (u : List Bool) : (conv u).length = 2 * u.length := cvt_len _ _ _ _ u
theorem cvt_snoc : ∀ (a b c d : Bool) (u : List Bool) (x : Bool), cvt a b c d (u ++ [x]) =
    cvt a b c d u ++ [x ^^ (lst4 a b c d u).2.2.1 ^^ (lst4 a b c d u).2.2.2, x ^^ (lst4 a b c d u).1 ^^ (lst4 a b c d u).2.2.1 ^^ (lst4 a b c d u).2.2.2]
  | _, _, _, _, [], _ => rfl
  | a, b, c, d, y :: r, x => by
    show _ :: _ :: cvt y a b c (r ++ [x]) = _ :: _ :: (cvt y a b c r ++ _)
    rw [cvt_snoc y a b c r x]
    rfl
theorem lst4_snoc : ∀ (a b c d : Bool) (u : List Bool) (x : Bool), lst4 a b c d (u ++ [x]) = (x, (lst4 a b c d u).1, (lst4 a b c d u).2.1, (lst4 a b c d u).2.2.1)
  | _, _, _, _, [], _ => rfl
  | a, b, c, _, y :: r, x => lst4_snoc y a b c r x
theorem conv_snoc (u : List Bool) (x : Bool) : conv (u ++ [x]) = conv u ++ [x ^^ (l4 u).2.2.1 ^^ (l4 u).2.2.2, x ^^ (l4 u).1 ^^ (l4 u).2.2.1 ^^ (l4 u).2.2.2] := cvt_snoc _ _ _ _ u x
theorem l4_snoc (u : List Bool) (x : Bool) : l4 (u ++ [x]) = (x, (l4 u).1, (l4 u).2.1, (l4 u).2.2.1) := lst4_snoc _ _ _ _ u x
theorem conv_take {u : List Bool} {i : Nat} {x : Bool} (h : u[i]? = some x) : conv (u.take (i + 1)) = conv (u.take i) ++ [x ^^ (l4 (u.take i)).2.2.1 ^^ (l4 (u.take i)).2.2.2, x ^^ (l4 (u.take i)).1 ^^ (l4 (u.take i)).2.2.1 ^^ (l4 (u.take i)).2.2.2] := by
  rw [List.take_add_one, h]
  exact conv_snoc _ x
theorem l4_take {u : List Bool} {i : Nat} {x : Bool} (h : u[i]? = some x) : l4 (u.take (i + 1)) = (x, (l4 (u.take i)).1, (l4 (u.take i)).2.1, (l4 (u.take i)).2.2.1) := by
  rw [List.take_add_one, h]
  exact l4_snoc _ x
theorem conv_le (u : List Bool) (i : Nat) : (conv (u.take i)).length ≤ 2 * u.length := by
  rw [conv_len, List.length_take]; omega
def v4 (q : Bool × Bool × Bool × Bool) : List Bool := [q.1, q.2.1, q.2.2.1, q.2.2.2]
theorem bz_at {u : List Bool} {i : Nat} {x : V} (h : (ivs (bz u))[i]? = some x) : ∃ b, u[i]? = some b ∧ x = .int (b2 b) := by
  rw [ivs_get, bz_get] at h
  cases e : u[i]? with
  | none => rw [e] at h; cases h
  | some b =>
    rw [e] at h
    exact ⟨b, rfl, (Option.some.inj h).symm⟩
theorem nth_pad {u : List Bool} {i : Nat} : ([false, false, false, false] ++ u)[i + 4]? = u[i]? := rfl
/-- behind i bits the last four stand ahead of place i + 4 -/
theorem l4_pad : ∀ (u : List Bool) (i : Nat), i ≤ u.length → ([false, false, false, false] ++ u)[i + 3]? = some (l4 (u.take i)).1 ∧ ([false, false, false, false] ++ u)[i + 2]? = some (l4 (u.take i)).2.1 ∧
    ([false, false, false, false] ++ u)[i + 1]? = some (l4 (u.take i)).2.2.1 ∧ ([false, false, false, false] ++ u)[i]? = some (l4 (u.take i)).2.2.2
  | u, 0, _ => ⟨rfl, rfl, rfl, rfl⟩
  | u, i + 1, h => by
    obtain ⟨h1, h2, h3, h4⟩ := l4_pad u i (by omega)
    have e : u[i]? = some u[i] := List.getElem?_eq_getElem (by omega)
    rw [l4_take e]
    exact ⟨by rw [show i + 1 + 3 = i + 4 by omega, nth_pad]; exact e, h1, h2, h3⟩
/-- the sum of two rows -/
def zx (u v : List Bool) : List Bool := List.zipWith (fun a b => a ^^ b) u v
theorem zx_len {u v : List Bool} (h : v.length = u.length) : (zx u v).length = u.length := by
  unfold zx; rw [List.length_zipWith, h, Nat.min_self]
theorem zx_get {u v : List Bool} {i : Nat} {a b : Bool} (h1 : u[i]? = some a) (h2 : v[i]? = some b) : (zx u v)[i]? = some (a ^^ b) := by
  unfold zx; rw [List.getElem?_zipWith, h1, h2]
theorem cvt_zx : ∀ (a b c d a' b' c' d' : Bool) (u v : List Bool), v.length = u.length →
    cvt (a ^^ a') (b ^^ b') (c ^^ c') (d ^^ d') (zx u v) = zx (cvt a b c d u) (cvt a' b' c' d' v)
  | _, _, _, _, _, _, _, _, [], [], _ => rfl
  | a, b, c, d, a', b', c', d', x :: u, y :: v, h => by
    show ((x ^^ y) ^^ (c ^^ c') ^^ (d ^^ d')) :: ((x ^^ y) ^^ (a ^^ a') ^^ (c ^^ c') ^^ (d ^^ d')) :: cvt (x ^^ y) (a ^^ a') (b ^^ b') (c ^^ c') (zx u v) =
      ((x ^^ c ^^ d) ^^ (y ^^ c' ^^ d')) :: ((x ^^ a ^^ c ^^ d) ^^ (y ^^ a' ^^ c' ^^ d')) :: zx (cvt x a b c u) (cvt y a' b' c' v)
    rw [cvt_zx x a b c y a' b' c' u v (by simpa using h)]
    congr 1
    · cases x <;> cases y <;> cases c <;> cases d <;> cases c' <;> cases d' <;> rfl
    · congr 1
      cases x <;> cases y <;> cases a <;> cases c <;> cases d <;> cases a' <;> cases c' <;> cases d' <;> rfl
theorem conv_zx {u v : List Bool} (h : v.length = u.length) : conv (zx u v) = zx (conv u) (conv v) := cvt_zx false false false false false false false false u v h
theorem bz_take {u : List Bool} {n : Nat} : (bz u).take n = bz (u.take n) := (List.map_take ..).symm
theorem take_snoc {α : Type} {u : List α} {i : Nat} {b : α} (h : u[i]? = some b) : u.take (i + 1) = u.take i ++ [b] := by
  rw [List.take_add_one, h]; rfl
theorem ivs_bz_take_snoc {u : List Bool} {i : Nat} {b : Bool} (h : u[i]? = some b) : ivs (bz (u.take (i + 1))) = ivs (bz (u.take i)) ++ [V.int (b2 b)] := by
  rw [take_snoc h, ivs_snoc, bz_snoc]
theorem ivs_bz_len (u : List Bool) (i : Nat) : (ivs (bz (u.take i))).length ≤ u.length := by
  rw [ivs_len, bz_len, List.length_take]; omega
theorem ivs_take_snoc {u : List Int} {i : Nat} {b : Int} (h : u[i]? = some b) : ivs (u.take (i + 1)) = ivs (u.take i) ++ [V.int b] := by
  rw [take_snoc h, ivs_snoc]

/-- how many bits are 1 -/
def wt (u : List Bool) : Nat := (u.filter fun b => b).length
theorem wt_nil : wt [] = 0 := rfl
theorem wt_cons (b : Bool) (u : List Bool) : wt (b :: u) = (if b then 1 else 0) + wt u := by
  cases b
  · show wt u = 0 + wt u
    omega
  · show (u.filter fun b => b).length + 1 = 1 + wt u
    unfold wt; omega
theorem wt_app (u v : List Bool) : wt (u ++ v) = wt u + wt v := by
  unfold wt; rw [List.filter_append, List.length_append]
theorem wt_le (u : List Bool) : wt u ≤ u.length := List.length_filter_le ..
/-- the least weight of a way from a state to 0 -/
def pot (a b c d : Bool) : Nat := match a, b, c, d with
  | false, false, false, false => 0 | false, false, false, true => 2 | false, false, true, false => 4 | false, false, true, true => 2
  | false, true, false, false => 4 | false, true, false, true => 5 | false, true, true, false => 4 | false, true, true, true => 2
  | true, false, false, false => 5 | true, false, false, true => 5 | true, false, true, false => 5 | true, false, true, true => 5
  | true, true, false, false => 4 | true, true, false, true => 4 | true, true, true, false => 3 | true, true, true, true => 3
theorem pot_step (a b c d x : Bool) : pot a b c d ≤ (if (x ^^ c ^^ d) then 1 else 0) + ((if (x ^^ a ^^ c ^^ d) then 1 else 0) + pot x a b c) := by
  cases a <;> cases b <;> cases c <;> cases d <;> cases x <;> decide
theorem pot_le : ∀ (a b c d : Bool) (u : List Bool), lst4 a b c d u = (false, false, false, false) → pot a b c d ≤ wt (cvt a b c d u)
  | a, b, c, d, [], h => by
    have h' : (a, b, c, d) = (false, false, false, false) := h
    simp only [Prod.mk.injEq] at h'
    obtain ⟨rfl, rfl, rfl, rfl⟩ := h'
    exact Nat.zero_le _
  | a, b, c, d, x :: r, h => by
    have ih := pot_le x a b c r h
    have st := pot_step a b c d x
    show _ ≤ wt (_ :: _ :: cvt x a b c r)
    rw [wt_cons, wt_cons]
    omega
theorem lst4_end : ∀ (a b c d : Bool) (u : List Bool), lst4 a b c d (u ++ [false, false, false, false]) = (false, false, false, false)
  | _, _, _, _, [] => rfl
  | a, b, c, d, x :: r => lst4_end x a b c r
theorem conv_far : ∀ u : List Bool, true ∈ u → 7 ≤ wt (conv (u ++ [false, false, false, false]))
  | [], h => by cases h
  | true :: r, _ => by
    have h := pot_le true false false false (r ++ [false, false, false, false]) (lst4_end true false false false r)
    have e : pot true false false false = 5 := rfl
    show 7 ≤ wt (true :: true :: cvt true false false false (r ++ [false, false, false, false]))
    rw [wt_cons, wt_cons]
    simp only [if_true]
    omega
  | false :: r, h => by
    have ih := conv_far r (by simpa using h)
    show 7 ≤ wt (false :: false :: conv (r ++ [false, false, false, false]))
    rw [wt_cons, wt_cons]
    simpa using ih
theorem wt_zero : ∀ {u : List Bool}, true ∉ u → wt u = 0
  | [], _ => rfl
  | false :: r, h => by rw [wt_cons, wt_zero (by simpa using h)]; rfl
  | true :: r, h => absurd List.mem_cons_self h
theorem zx_app {u v a b : List Bool} (h : v.length = u.length) : zx (u ++ a) (v ++ b) = zx u v ++ zx a b := by
  unfold zx
  exact List.zipWith_append (by omega)
/-- rows that end in four zeros: their coded forms are alike or at least 7 apart -/
theorem far_apart {u v : List Bool} (h : v.length = u.length) (ne : true ∈ zx u v) : 7 ≤ wt (zx (conv (u ++ [false, false, false, false])) (conv (v ++ [false, false, false, false]))) := by
  rw [← conv_zx (by simp [h]), zx_app h]
  exact conv_far _ ne
theorem zx_eq : ∀ (u v : List Bool), v.length = u.length → true ∉ zx u v → u = v
  | [], [], _, _ => rfl
  | [], _ :: _, h, _ => by simp at h
  | _ :: _, [], h, _ => by simp at h
  | x :: u, y :: v, h, n => by
    have n' : true ∉ (x ^^ y) :: zx u v := n
    have h1 : (x ^^ y) = false := by
      cases e : (x ^^ y) with
      | false => rfl
      | true => rw [e] at n'; exact absurd List.mem_cons_self n'
    have ih := zx_eq u v (by simpa using h) fun z => n' (List.mem_cons_of_mem _ z)
    have h2 : x = y := by cases x <;> cases y <;> simp_all
    rw [h2, ih]
theorem zx_self : ∀ w : List Bool, wt (zx w w) = 0
  | [] => rfl
  | b :: r => by
    show wt ((b ^^ b) :: zx r r) = 0
    rw [wt_cons, zx_self r]
    cases b <;> rfl
theorem not_apart {u v : List Bool} (h : v.length = u.length) (ne : true ∉ zx u v) : wt (zx (conv (u ++ [false, false, false, false])) (conv (v ++ [false, false, false, false]))) = 0 := by
  rw [zx_eq u v h ne]
  exact zx_self _
/-- the places below n where z has a 1 -/
def ones (z : List Bool) (n : Nat) : List Int := ((List.range n).filter fun k => decide (z[k]? = some true)).map fun (k : Nat) => (0 + (k : Int))
theorem ones_t {z : List Bool} {n : Nat} (h : z[n]? = some true) : ones z (n + 1) = ones z n ++ [0 + (n : Int)] := by
  unfold ones
  rw [List.range_succ, List.filter_append, List.map_append]
  simp [h]
theorem ones_f {z : List Bool} {n : Nat} (h : z[n]? = some false) : ones z (n + 1) = ones z n := by
  unfold ones
  rw [List.range_succ, List.filter_append, List.map_append]
  simp [h]
theorem ones_len : ∀ (z : List Bool) (n : Nat), (ones z n).length = wt (z.take n)
  | z, 0 => by simp [ones, wt]
  | z, n + 1 => by
    have ih := ones_len z n
    cases e : z[n]? with
    | none =>
      have h1 : ones z (n + 1) = ones z n := by
        unfold ones
        rw [List.range_succ, List.filter_append, List.map_append]
        simp [e]
      rw [h1, ih, List.take_add_one, e]
      simp
    | some b =>
      rw [List.take_add_one, e, wt_app]
      cases b with
      | true => rw [ones_t e, List.length_append, ih]; rfl
      | false => rw [ones_f e, ih]; rfl

section
variable {P : Program} {w : World} {K : PySem.W.Frag} {mg : Str → Option Value} {base : Heap}
def sp_convolve (K : PySem.W.Frag) : Sp := fun vs H Q _ => ∃ (a : Addr) (u : List Bool), vs = [.ref a] ∧ H a = some (.lst (ivs (bz u))) ∧ u.length ≤ 100000 ∧ ∀ H' p, Same H H' → H p = none → H' p = some (.lst (ivs (bz (conv u)))) → Q (.ref p) H'

theorem ok_convolve {f : Addr} {fd : FuncData} (F : Fun K "convolve" "convolve" s_convolve f fd) (B : BI mg) : FnOk P w K mg base CX0 1 f fd ["bits"] (sp_convolve K) := by
  refine F.ok sc_convolve (fun vs H Q E h => ?_) (fun cdv A outer s H vs Q E hr h => ?_)
  · obtain ⟨a, u, rfl, hS, hlen, q⟩ := h
    rfl
  · obtain ⟨a, u, rfl, hS, hlen, q⟩ := h
    refine ⟨_, (pss_cons (ps_set (i := 1) sc_convolve.nd rfl (Or.inl rfl) (pe_op op_cat (pe_op op_rep (pe_lst (pa_cons pe_int pa_nil)) pe_int) (pe_callTy callk_list (by rfl) B.list_ boot_list (pa_cons (pv 0) pa_nil))))
      (pss_cons (ps_set (i := 2) sc_convolve.nd rfl (Or.inl rfl) (pe_lst pa_nil))
      (pss_cons (ps_for PassesOwn.never rfl (pi_range2 (by rfl) B.range_ (pa_cons pe_int (pa_cons (pe_callB callk_len (by rfl) B.len_ (by decide +kernel) (pa_cons (pv 1) pa_nil)) pa_nil))) (pg_name (i := 3) sc_convolve.nd rfl (Or.inl rfl))
      (pss_cons (ps_set (i := 4) sc_convolve.nd rfl (Or.inl rfl) (pe_op op_xor (pe_op op_xor (pe_ix ixk_list (pv 1) (pv 3) (fun _ _ => rfl)) (pe_ix ixk_list (pv 1) (pe_op op_sub (pv 3) pe_int) (fun _ _ => rfl))) (pe_ix ixk_list (pv 1) (pe_op op_sub (pv 3) pe_int) (fun _ _ => rfl))))
      (pss_cons (ps_expr (pe_bm PySem.F.plainAttrs_list PySem.F.slot_list_append PySem.F.type_list_append mt_append (pv 2) (pa_cons (pv 4) pa_nil)))
      (pss_one (ps_expr (pe_bm PySem.F.plainAttrs_list PySem.F.slot_list_append PySem.F.type_list_append mt_append (pv 2) (pa_cons (pe_op op_xor (pv 4) (pe_ix ixk_list (pv 1) (pe_op op_sub (pv 3) pe_int) (fun _ _ => rfl))) pa_nil)))))))
      (pss_one (ps_ret (pv 2)))))), ?_⟩
    (try simp only [Own.e_seq, Own.e_cxK, Own.e_wishK, Own.e_noxK, Own.e_asg, Own.e_gName, Own.e_var, Own.e_C, Own.e_op, Own.e_un, Own.e_rI, Own.e_rI0, Own.e_rU, Own.e_CMul, Own.e_CDiv, Own.e_CPow, Own.e_rEq, Own.e_rNe, Own.e_scal_int, Own.e_scal_str, Own.e_scal_bl, Own.e_ifS, Own.e_test, Own.e_tB, Own.e_ret, Own.e_retN, Own.e_next, Own.e_brk, Own.e_cnt, Own.e_cons, Own.e_nil, Own.e_lst, Own.e_tup, Own.e_drop, Own.e_and, Own.e_or, Own.e_not, Own.e_andV, Own.e_orV, Own.e_notV, Own.e_if, Own.e_chain, Own.e_CB, Own.e_call, Own.e_rIxL, Own.e_rIxT, Own.e_rIxK, Own.e_rIxKT, Own.e_rSlK, Own.e_rLenK, Own.e_rListK, Own.e_rTupleK, Own.e_rSumK, Own.e_rNeK, Own.e_rEqK, Own.e_rIsiK, Own.tyK_int, Own.tyK_bl, Own.tyK_str, Own.tyK_non, Own.tyK_ref, Own.tyO_lst, Own.tyO_tup, Own.kit1, Own.kit2, Own.kit3, Own.kit4, Own.kit5, Own.kit6, Own.kit7, Own.kit8, Own.kit9, Own.hlst_inj, Own.htup_inj, Own.vty_inj, Own.ivs_inj, Own.bz_inj, Own.ivs_len, Own.bz_len, Own.ivs_app, Own.ivs_set, Own.ivs_bset, Own.bz_app, Own.ivs_snoc, Own.bz_snoc, Own.atI_ints, Own.atI_bz, Own.isLst_some, Own.ty_lst, L2.upd_same, L2.upd_upd, Own.b2_xor, Own.b2_mod2, Own.b2_mod3, Own.b2_mod4, Own.b2_flip, Option.map_some, Option.isSome_some, ne_eq, not_false_eq_true, not_true_eq_false, String.reduceEq, Own.e_BM, Own.e_BM0, Own.e_rAppend, Own.e_rCat, Own.e_rRep, Own.e_sl, Own.e_noPart, Own.e_part, Own.e_rSlL, Own.e_gSub, Own.e_rSetL, Own.e_bits, Own.e_yes, Own.e_gTup, Own.e_gNil, Own.e_gCons, Own.e_aug, Own.e_ipI, Own.e_for, Own.e_lc, Own.e_iList, Own.e_iTup, Own.e_iRng1, Own.e_iRng2, Own.e_iEnum, Own.e_iZip, L2.start, L2.wipe, List.map_cons, List.map_nil, List.replicate_succ, List.replicate_zero, List.length_cons, List.length_nil, Nat.reduceAdd, Nat.reduceSub, Nat.zero_add, List.getElem?_cons_zero, List.getElem?_cons_succ, List.set_cons_zero, List.set_cons_succ, Option.some.injEq, L2.V.int.injEq, L2.V.bl.injEq, L2.V.str.injEq, L2.V.ref.injEq, List.cons.injEq, List.cons_append, List.nil_append, List.append_nil, exists_eq_left', exists_eq_left, exists_and_left, exists_and_right, exists_eq, and_true, true_and, reduceCtorEq, false_and, and_false, exists_false, or_false, false_or, true_or, or_true, decide_eq_true_eq, Bool.not_true, Bool.not_false, Bool.not_eq_true', Bool.not_eq_false', decide_eq_false_iff_not, ite_not, if_true, if_false, ite_true, ite_false, Bool.false_eq_true, if_pos trivial, decide_true, decide_false, PySem.sizeLine_eq, Int.reduceNeg, Int.reducePow, Int.reduceLT, Int.reduceLE, Int.reduceToNat, Nat.reduceLeDiff, hS])
    refine new_of fun p H1 np sm1 hp => ?_
    (try simp only [Own.e_seq, Own.e_cxK, Own.e_wishK, Own.e_noxK, Own.e_asg, Own.e_gName, Own.e_var, Own.e_C, Own.e_op, Own.e_un, Own.e_rI, Own.e_rI0, Own.e_rU, Own.e_CMul, Own.e_CDiv, Own.e_CPow, Own.e_rEq, Own.e_rNe, Own.e_scal_int, Own.e_scal_str, Own.e_scal_bl, Own.e_ifS, Own.e_test, Own.e_tB, Own.e_ret, Own.e_retN, Own.e_next, Own.e_brk, Own.e_cnt, Own.e_cons, Own.e_nil, Own.e_lst, Own.e_tup, Own.e_drop, Own.e_and, Own.e_or, Own.e_not, Own.e_andV, Own.e_orV, Own.e_notV, Own.e_if, Own.e_chain, Own.e_CB, Own.e_call, Own.e_rIxL, Own.e_rIxT, Own.e_rIxK, Own.e_rIxKT, Own.e_rSlK, Own.e_rLenK, Own.e_rListK, Own.e_rTupleK, Own.e_rSumK, Own.e_rNeK, Own.e_rEqK, Own.e_rIsiK, Own.tyK_int, Own.tyK_bl, Own.tyK_str, Own.tyK_non, Own.tyK_ref, Own.tyO_lst, Own.tyO_tup, Own.kit1, Own.kit2, Own.kit3, Own.kit4, Own.kit5, Own.kit6, Own.kit7, Own.kit8, Own.kit9, Own.hlst_inj, Own.htup_inj, Own.vty_inj, Own.ivs_inj, Own.bz_inj, Own.ivs_len, Own.bz_len, Own.ivs_app, Own.ivs_set, Own.ivs_bset, Own.bz_app, Own.ivs_snoc, Own.bz_snoc, Own.atI_ints, Own.atI_bz, Own.isLst_some, Own.ty_lst, L2.upd_same, L2.upd_upd, Own.b2_xor, Own.b2_mod2, Own.b2_mod3, Own.b2_mod4, Own.b2_flip, Option.map_some, Option.isSome_some, ne_eq, not_false_eq_true, not_true_eq_false, String.reduceEq, Own.e_BM, Own.e_BM0, Own.e_rAppend, Own.e_rCat, Own.e_rRep, Own.e_sl, Own.e_noPart, Own.e_part, Own.e_rSlL, Own.e_gSub, Own.e_rSetL, Own.e_bits, Own.e_yes, Own.e_gTup, Own.e_gNil, Own.e_gCons, Own.e_aug, Own.e_ipI, Own.e_for, Own.e_lc, Own.e_iList, Own.e_iTup, Own.e_iRng1, Own.e_iRng2, Own.e_iEnum, Own.e_iZip, L2.start, L2.wipe, List.map_cons, List.map_nil, List.replicate_succ, List.replicate_zero, List.length_cons, List.length_nil, Nat.reduceAdd, Nat.reduceSub, Nat.zero_add, List.getElem?_cons_zero, List.getElem?_cons_succ, List.set_cons_zero, List.set_cons_succ, Option.some.injEq, L2.V.int.injEq, L2.V.bl.injEq, L2.V.str.injEq, L2.V.ref.injEq, List.cons.injEq, List.cons_append, List.nil_append, List.append_nil, exists_eq_left', exists_eq_left, exists_and_left, exists_and_right, exists_eq, and_true, true_and, reduceCtorEq, false_and, and_false, exists_false, or_false, false_or, true_or, or_true, decide_eq_true_eq, Bool.not_true, Bool.not_false, Bool.not_eq_true', Bool.not_eq_false', decide_eq_false_iff_not, ite_not, if_true, if_false, ite_true, ite_false, Bool.false_eq_true, if_pos trivial, decide_true, decide_false, PySem.sizeLine_eq, Int.reduceNeg, Int.reducePow, Int.reduceLT, Int.reduceLE, Int.reduceToNat, Nat.reduceLeDiff, hp])
    refine ⟨by decide, new_of fun p2 H2 np2 sm2 hp2 => ?_⟩
    have h4 : ([[V.int 0], [V.int 0], [V.int 0], [V.int 0]] : List (List V)).flatten = ivs (bz [false, false, false, false]) := rfl
    rw [h4] at hp2
    have sm12 := sm1.trans sm2
    (try simp only [Own.e_seq, Own.e_cxK, Own.e_wishK, Own.e_noxK, Own.e_asg, Own.e_gName, Own.e_var, Own.e_C, Own.e_op, Own.e_un, Own.e_rI, Own.e_rI0, Own.e_rU, Own.e_CMul, Own.e_CDiv, Own.e_CPow, Own.e_rEq, Own.e_rNe, Own.e_scal_int, Own.e_scal_str, Own.e_scal_bl, Own.e_ifS, Own.e_test, Own.e_tB, Own.e_ret, Own.e_retN, Own.e_next, Own.e_brk, Own.e_cnt, Own.e_cons, Own.e_nil, Own.e_lst, Own.e_tup, Own.e_drop, Own.e_and, Own.e_or, Own.e_not, Own.e_andV, Own.e_orV, Own.e_notV, Own.e_if, Own.e_chain, Own.e_CB, Own.e_call, Own.e_rIxL, Own.e_rIxT, Own.e_rIxK, Own.e_rIxKT, Own.e_rSlK, Own.e_rLenK, Own.e_rListK, Own.e_rTupleK, Own.e_rSumK, Own.e_rNeK, Own.e_rEqK, Own.e_rIsiK, Own.tyK_int, Own.tyK_bl, Own.tyK_str, Own.tyK_non, Own.tyK_ref, Own.tyO_lst, Own.tyO_tup, Own.kit1, Own.kit2, Own.kit3, Own.kit4, Own.kit5, Own.kit6, Own.kit7, Own.kit8, Own.kit9, Own.hlst_inj, Own.htup_inj, Own.vty_inj, Own.ivs_inj, Own.bz_inj, Own.ivs_len, Own.bz_len, Own.ivs_app, Own.ivs_set, Own.ivs_bset, Own.bz_app, Own.ivs_snoc, Own.bz_snoc, Own.atI_ints, Own.atI_bz, Own.isLst_some, Own.ty_lst, L2.upd_same, L2.upd_upd, Own.b2_xor, Own.b2_mod2, Own.b2_mod3, Own.b2_mod4, Own.b2_flip, Option.map_some, Option.isSome_some, ne_eq, not_false_eq_true, not_true_eq_false, String.reduceEq, Own.e_BM, Own.e_BM0, Own.e_rAppend, Own.e_rCat, Own.e_rRep, Own.e_sl, Own.e_noPart, Own.e_part, Own.e_rSlL, Own.e_gSub, Own.e_rSetL, Own.e_bits, Own.e_yes, Own.e_gTup, Own.e_gNil, Own.e_gCons, Own.e_aug, Own.e_ipI, Own.e_for, Own.e_lc, Own.e_iList, Own.e_iTup, Own.e_iRng1, Own.e_iRng2, Own.e_iEnum, Own.e_iZip, L2.start, L2.wipe, List.map_cons, List.map_nil, List.replicate_succ, List.replicate_zero, List.length_cons, List.length_nil, Nat.reduceAdd, Nat.reduceSub, Nat.zero_add, List.getElem?_cons_zero, List.getElem?_cons_succ, List.set_cons_zero, List.set_cons_succ, Option.some.injEq, L2.V.int.injEq, L2.V.bl.injEq, L2.V.str.injEq, L2.V.ref.injEq, List.cons.injEq, List.cons_append, List.nil_append, List.append_nil, exists_eq_left', exists_eq_left, exists_and_left, exists_and_right, exists_eq, and_true, true_and, reduceCtorEq, false_and, and_false, exists_false, or_false, false_or, true_or, or_true, decide_eq_true_eq, Bool.not_true, Bool.not_false, Bool.not_eq_true', Bool.not_eq_false', decide_eq_false_iff_not, ite_not, if_true, if_false, ite_true, ite_false, Bool.false_eq_true, if_pos trivial, decide_true, decide_false, PySem.sizeLine_eq, Int.reduceNeg, Int.reducePow, Int.reduceLT, Int.reduceLE, Int.reduceToNat, Nat.reduceLeDiff, sm12 _ _ hS])
    refine new_of fun p3 H3 np3 sm3 hp3 => ?_
    have l1 : 4 + u.length ≤ 16777216 := by omega
    (try simp only [Own.e_seq, Own.e_cxK, Own.e_wishK, Own.e_noxK, Own.e_asg, Own.e_gName, Own.e_var, Own.e_C, Own.e_op, Own.e_un, Own.e_rI, Own.e_rI0, Own.e_rU, Own.e_CMul, Own.e_CDiv, Own.e_CPow, Own.e_rEq, Own.e_rNe, Own.e_scal_int, Own.e_scal_str, Own.e_scal_bl, Own.e_ifS, Own.e_test, Own.e_tB, Own.e_ret, Own.e_retN, Own.e_next, Own.e_brk, Own.e_cnt, Own.e_cons, Own.e_nil, Own.e_lst, Own.e_tup, Own.e_drop, Own.e_and, Own.e_or, Own.e_not, Own.e_andV, Own.e_orV, Own.e_notV, Own.e_if, Own.e_chain, Own.e_CB, Own.e_call, Own.e_rIxL, Own.e_rIxT, Own.e_rIxK, Own.e_rIxKT, Own.e_rSlK, Own.e_rLenK, Own.e_rListK, Own.e_rTupleK, Own.e_rSumK, Own.e_rNeK, Own.e_rEqK, Own.e_rIsiK, Own.tyK_int, Own.tyK_bl, Own.tyK_str, Own.tyK_non, Own.tyK_ref, Own.tyO_lst, Own.tyO_tup, Own.kit1, Own.kit2, Own.kit3, Own.kit4, Own.kit5, Own.kit6, Own.kit7, Own.kit8, Own.kit9, Own.hlst_inj, Own.htup_inj, Own.vty_inj, Own.ivs_inj, Own.bz_inj, Own.ivs_len, Own.bz_len, Own.ivs_app, Own.ivs_set, Own.ivs_bset, Own.bz_app, Own.ivs_snoc, Own.bz_snoc, Own.atI_ints, Own.atI_bz, Own.isLst_some, Own.ty_lst, L2.upd_same, L2.upd_upd, Own.b2_xor, Own.b2_mod2, Own.b2_mod3, Own.b2_mod4, Own.b2_flip, Option.map_some, Option.isSome_some, ne_eq, not_false_eq_true, not_true_eq_false, String.reduceEq, Own.e_BM, Own.e_BM0, Own.e_rAppend, Own.e_rCat, Own.e_rRep, Own.e_sl, Own.e_noPart, Own.e_part, Own.e_rSlL, Own.e_gSub, Own.e_rSetL, Own.e_bits, Own.e_yes, Own.e_gTup, Own.e_gNil, Own.e_gCons, Own.e_aug, Own.e_ipI, Own.e_for, Own.e_lc, Own.e_iList, Own.e_iTup, Own.e_iRng1, Own.e_iRng2, Own.e_iEnum, Own.e_iZip, L2.start, L2.wipe, List.map_cons, List.map_nil, List.replicate_succ, List.replicate_zero, List.length_cons, List.length_nil, Nat.reduceAdd, Nat.reduceSub, Nat.zero_add, List.getElem?_cons_zero, List.getElem?_cons_succ, List.set_cons_zero, List.set_cons_succ, Option.some.injEq, L2.V.int.injEq, L2.V.bl.injEq, L2.V.str.injEq, L2.V.ref.injEq, List.cons.injEq, List.cons_append, List.nil_append, List.append_nil, exists_eq_left', exists_eq_left, exists_and_left, exists_and_right, exists_eq, and_true, true_and, reduceCtorEq, false_and, and_false, exists_false, or_false, false_or, true_or, or_true, decide_eq_true_eq, Bool.not_true, Bool.not_false, Bool.not_eq_true', Bool.not_eq_false', decide_eq_false_iff_not, ite_not, if_true, if_false, ite_true, ite_false, Bool.false_eq_true, if_pos trivial, decide_true, decide_false, PySem.sizeLine_eq, Int.reduceNeg, Int.reducePow, Int.reduceLT, Int.reduceLE, Int.reduceToNat, Nat.reduceLeDiff, sm3 _ _ hp2, hp3, l1])
    refine new_of fun p4 H4 np4 sm4 hp4 => ?_
    (try simp only [Own.e_seq, Own.e_cxK, Own.e_wishK, Own.e_noxK, Own.e_asg, Own.e_gName, Own.e_var, Own.e_C, Own.e_op, Own.e_un, Own.e_rI, Own.e_rI0, Own.e_rU, Own.e_CMul, Own.e_CDiv, Own.e_CPow, Own.e_rEq, Own.e_rNe, Own.e_scal_int, Own.e_scal_str, Own.e_scal_bl, Own.e_ifS, Own.e_test, Own.e_tB, Own.e_ret, Own.e_retN, Own.e_next, Own.e_brk, Own.e_cnt, Own.e_cons, Own.e_nil, Own.e_lst, Own.e_tup, Own.e_drop, Own.e_and, Own.e_or, Own.e_not, Own.e_andV, Own.e_orV, Own.e_notV, Own.e_if, Own.e_chain, Own.e_CB, Own.e_call, Own.e_rIxL, Own.e_rIxT, Own.e_rIxK, Own.e_rIxKT, Own.e_rSlK, Own.e_rLenK, Own.e_rListK, Own.e_rTupleK, Own.e_rSumK, Own.e_rNeK, Own.e_rEqK, Own.e_rIsiK, Own.tyK_int, Own.tyK_bl, Own.tyK_str, Own.tyK_non, Own.tyK_ref, Own.tyO_lst, Own.tyO_tup, Own.kit1, Own.kit2, Own.kit3, Own.kit4, Own.kit5, Own.kit6, Own.kit7, Own.kit8, Own.kit9, Own.hlst_inj, Own.htup_inj, Own.vty_inj, Own.ivs_inj, Own.bz_inj, Own.ivs_len, Own.bz_len, Own.ivs_app, Own.ivs_set, Own.ivs_bset, Own.bz_app, Own.ivs_snoc, Own.bz_snoc, Own.atI_ints, Own.atI_bz, Own.isLst_some, Own.ty_lst, L2.upd_same, L2.upd_upd, Own.b2_xor, Own.b2_mod2, Own.b2_mod3, Own.b2_mod4, Own.b2_flip, Option.map_some, Option.isSome_some, ne_eq, not_false_eq_true, not_true_eq_false, String.reduceEq, Own.e_BM, Own.e_BM0, Own.e_rAppend, Own.e_rCat, Own.e_rRep, Own.e_sl, Own.e_noPart, Own.e_part, Own.e_rSlL, Own.e_gSub, Own.e_rSetL, Own.e_bits, Own.e_yes, Own.e_gTup, Own.e_gNil, Own.e_gCons, Own.e_aug, Own.e_ipI, Own.e_for, Own.e_lc, Own.e_iList, Own.e_iTup, Own.e_iRng1, Own.e_iRng2, Own.e_iEnum, Own.e_iZip, L2.start, L2.wipe, List.map_cons, List.map_nil, List.replicate_succ, List.replicate_zero, List.length_cons, List.length_nil, Nat.reduceAdd, Nat.reduceSub, Nat.zero_add, List.getElem?_cons_zero, List.getElem?_cons_succ, List.set_cons_zero, List.set_cons_succ, Option.some.injEq, L2.V.int.injEq, L2.V.bl.injEq, L2.V.str.injEq, L2.V.ref.injEq, List.cons.injEq, List.cons_append, List.nil_append, List.append_nil, exists_eq_left', exists_eq_left, exists_and_left, exists_and_right, exists_eq, and_true, true_and, reduceCtorEq, false_and, and_false, exists_false, or_false, false_or, true_or, or_true, decide_eq_true_eq, Bool.not_true, Bool.not_false, Bool.not_eq_true', Bool.not_eq_false', decide_eq_false_iff_not, ite_not, if_true, if_false, ite_true, ite_false, Bool.false_eq_true, if_pos trivial, decide_true, decide_false, PySem.sizeLine_eq, Int.reduceNeg, Int.reducePow, Int.reduceLT, Int.reduceLE, Int.reduceToNat, Nat.reduceLeDiff])
    refine new_of fun p5 H5 np5 sm5 hp5 => ?_
    have fr5 : H p5 = none := ((sm12.trans sm3).trans sm4).free np5
    have sm5' : Same H H5 := ((sm12.trans sm3).trans sm4).trans sm5
    (try simp only [Own.e_seq, Own.e_cxK, Own.e_wishK, Own.e_noxK, Own.e_asg, Own.e_gName, Own.e_var, Own.e_C, Own.e_op, Own.e_un, Own.e_rI, Own.e_rI0, Own.e_rU, Own.e_CMul, Own.e_CDiv, Own.e_CPow, Own.e_rEq, Own.e_rNe, Own.e_scal_int, Own.e_scal_str, Own.e_scal_bl, Own.e_ifS, Own.e_test, Own.e_tB, Own.e_ret, Own.e_retN, Own.e_next, Own.e_brk, Own.e_cnt, Own.e_cons, Own.e_nil, Own.e_lst, Own.e_tup, Own.e_drop, Own.e_and, Own.e_or, Own.e_not, Own.e_andV, Own.e_orV, Own.e_notV, Own.e_if, Own.e_chain, Own.e_CB, Own.e_call, Own.e_rIxL, Own.e_rIxT, Own.e_rIxK, Own.e_rIxKT, Own.e_rSlK, Own.e_rLenK, Own.e_rListK, Own.e_rTupleK, Own.e_rSumK, Own.e_rNeK, Own.e_rEqK, Own.e_rIsiK, Own.tyK_int, Own.tyK_bl, Own.tyK_str, Own.tyK_non, Own.tyK_ref, Own.tyO_lst, Own.tyO_tup, Own.kit1, Own.kit2, Own.kit3, Own.kit4, Own.kit5, Own.kit6, Own.kit7, Own.kit8, Own.kit9, Own.hlst_inj, Own.htup_inj, Own.vty_inj, Own.ivs_inj, Own.bz_inj, Own.ivs_len, Own.bz_len, Own.ivs_app, Own.ivs_set, Own.ivs_bset, Own.bz_app, Own.ivs_snoc, Own.bz_snoc, Own.atI_ints, Own.atI_bz, Own.isLst_some, Own.ty_lst, L2.upd_same, L2.upd_upd, Own.b2_xor, Own.b2_mod2, Own.b2_mod3, Own.b2_mod4, Own.b2_flip, Option.map_some, Option.isSome_some, ne_eq, not_false_eq_true, not_true_eq_false, String.reduceEq, Own.e_BM, Own.e_BM0, Own.e_rAppend, Own.e_rCat, Own.e_rRep, Own.e_sl, Own.e_noPart, Own.e_part, Own.e_rSlL, Own.e_gSub, Own.e_rSetL, Own.e_bits, Own.e_yes, Own.e_gTup, Own.e_gNil, Own.e_gCons, Own.e_aug, Own.e_ipI, Own.e_for, Own.e_lc, Own.e_iList, Own.e_iTup, Own.e_iRng1, Own.e_iRng2, Own.e_iEnum, Own.e_iZip, L2.start, L2.wipe, List.map_cons, List.map_nil, List.replicate_succ, List.replicate_zero, List.length_cons, List.length_nil, Nat.reduceAdd, Nat.reduceSub, Nat.zero_add, List.getElem?_cons_zero, List.getElem?_cons_succ, List.set_cons_zero, List.set_cons_succ, Option.some.injEq, L2.V.int.injEq, L2.V.bl.injEq, L2.V.str.injEq, L2.V.ref.injEq, List.cons.injEq, List.cons_append, List.nil_append, List.append_nil, exists_eq_left', exists_eq_left, exists_and_left, exists_and_right, exists_eq, and_true, true_and, reduceCtorEq, false_and, and_false, exists_false, or_false, false_or, true_or, or_true, decide_eq_true_eq, Bool.not_true, Bool.not_false, Bool.not_eq_true', Bool.not_eq_false', decide_eq_false_iff_not, ite_not, if_true, if_false, ite_true, ite_false, Bool.false_eq_true, if_pos trivial, decide_true, decide_false, PySem.sizeLine_eq, Int.reduceNeg, Int.reducePow, Int.reduceLT, Int.reduceLE, Int.reduceToNat, Nat.reduceLeDiff, sm5 _ _ hp4])
    refine ⟨4, _, ⟨rfl, rfl⟩, by omega, ?_⟩
    have n : (((u.length + 1 + 1 + 1 + 1 : Nat) : Int) - 4).toNat = u.length := by omega
    rw [n]
    have n45 : p4 ≠ p5 := ne_of_none hp4 np5
    refine loop_it walk_range (fun i σ H' => ∃ y3 y4 : Option V, σ = [some (.ref a), some (.ref p4), some (.ref p5), y3, y4] ∧ Same H H' ∧ H' p4 = some (.lst (ivs (bz (false :: false :: false :: false :: u)))) ∧ H' p5 = some (.lst (ivs (bz (conv (u.take i))))))
      ⟨none, none, rfl, sm5', sm5 _ _ hp4, hp5⟩ (fun _ _ _ _ _ => trivial) ?_ ?_
    · rintro i x σ H' H'' hi ⟨y3, y4, rfl, sm, h4, h5⟩ ⟨rfl, rfl⟩
      obtain ⟨g0, g1, g2, g3⟩ := l4_pad u i (by omega)
      have hb : u[i]? = some u[i] := List.getElem?_eq_getElem hi
      have e0 : atI (false :: false :: false :: false :: u) (4 + (i : Int)) = some u[i] := by
        rw [atI_at (by omega), show (4 + (i : Int)).toNat = i + 4 by omega]; exact hb
      have e1 : atI (false :: false :: false :: false :: u) (4 + (i : Int) - 1) = some (l4 (u.take i)).1 := by
        rw [atI_at (by omega), show (4 + (i : Int) - 1).toNat = i + 3 by omega]; exact g0
      have e3 : atI (false :: false :: false :: false :: u) (4 + (i : Int) - 3) = some (l4 (u.take i)).2.2.1 := by
        rw [atI_at (by omega), show (4 + (i : Int) - 3).toNat = i + 1 by omega]; exact g2
      have e4 : atI (false :: false :: false :: false :: u) (4 + (i : Int) - 4) = some (l4 (u.take i)).2.2.2 := by
        rw [atI_at (by omega), show (4 + (i : Int) - 4).toNat = i by omega]; exact g3
      have cl := conv_le u i
      have c1 : (conv (u.take i)).length < 16777216 := by omega
      have c2 : (conv (u.take i)).length + 1 < 16777216 := by omega
      (try simp only [Own.e_seq, Own.e_cxK, Own.e_wishK, Own.e_noxK, Own.e_asg, Own.e_gName, Own.e_var, Own.e_C, Own.e_op, Own.e_un, Own.e_rI, Own.e_rI0, Own.e_rU, Own.e_CMul, Own.e_CDiv, Own.e_CPow, Own.e_rEq, Own.e_rNe, Own.e_scal_int, Own.e_scal_str, Own.e_scal_bl, Own.e_ifS, Own.e_test, Own.e_tB, Own.e_ret, Own.e_retN, Own.e_next, Own.e_brk, Own.e_cnt, Own.e_cons, Own.e_nil, Own.e_lst, Own.e_tup, Own.e_drop, Own.e_and, Own.e_or, Own.e_not, Own.e_andV, Own.e_orV, Own.e_notV, Own.e_if, Own.e_chain, Own.e_CB, Own.e_call, Own.e_rIxL, Own.e_rIxT, Own.e_rIxK, Own.e_rIxKT, Own.e_rSlK, Own.e_rLenK, Own.e_rListK, Own.e_rTupleK, Own.e_rSumK, Own.e_rNeK, Own.e_rEqK, Own.e_rIsiK, Own.tyK_int, Own.tyK_bl, Own.tyK_str, Own.tyK_non, Own.tyK_ref, Own.tyO_lst, Own.tyO_tup, Own.kit1, Own.kit2, Own.kit3, Own.kit4, Own.kit5, Own.kit6, Own.kit7, Own.kit8, Own.kit9, Own.hlst_inj, Own.htup_inj, Own.vty_inj, Own.ivs_inj, Own.bz_inj, Own.ivs_len, Own.bz_len, Own.ivs_app, Own.ivs_set, Own.ivs_bset, Own.bz_app, Own.ivs_snoc, Own.bz_snoc, Own.atI_ints, Own.atI_bz, Own.isLst_some, Own.ty_lst, L2.upd_same, L2.upd_upd, Own.b2_xor, Own.b2_mod2, Own.b2_mod3, Own.b2_mod4, Own.b2_flip, Option.map_some, Option.isSome_some, ne_eq, not_false_eq_true, not_true_eq_false, String.reduceEq, Own.e_BM, Own.e_BM0, Own.e_rAppend, Own.e_rCat, Own.e_rRep, Own.e_sl, Own.e_noPart, Own.e_part, Own.e_rSlL, Own.e_gSub, Own.e_rSetL, Own.e_bits, Own.e_yes, Own.e_gTup, Own.e_gNil, Own.e_gCons, Own.e_aug, Own.e_ipI, Own.e_for, Own.e_lc, Own.e_iList, Own.e_iTup, Own.e_iRng1, Own.e_iRng2, Own.e_iEnum, Own.e_iZip, L2.start, L2.wipe, List.map_cons, List.map_nil, List.replicate_succ, List.replicate_zero, List.length_cons, List.length_nil, Nat.reduceAdd, Nat.reduceSub, Nat.zero_add, List.getElem?_cons_zero, List.getElem?_cons_succ, List.set_cons_zero, List.set_cons_succ, Option.some.injEq, L2.V.int.injEq, L2.V.bl.injEq, L2.V.str.injEq, L2.V.ref.injEq, List.cons.injEq, List.cons_append, List.nil_append, List.append_nil, exists_eq_left', exists_eq_left, exists_and_left, exists_and_right, exists_eq, and_true, true_and, reduceCtorEq, false_and, and_false, exists_false, or_false, false_or, true_or, or_true, decide_eq_true_eq, Bool.not_true, Bool.not_false, Bool.not_eq_true', Bool.not_eq_false', decide_eq_false_iff_not, ite_not, if_true, if_false, ite_true, ite_false, Bool.false_eq_true, if_pos trivial, decide_true, decide_false, PySem.sizeLine_eq, Int.reduceNeg, Int.reducePow, Int.reduceLT, Int.reduceLE, Int.reduceToNat, Nat.reduceLeDiff, h4, h5, e0, e1, e3, e4, upd_ne n45, c1, c2, List.length_append])
      refine at_is ⟨_, _, rfl, same_upd_of sm fr5, by rw [upd_ne n45]; exact h4, ?_⟩
      rw [upd_same, conv_take hb, List.append_assoc]
      have ac : ∀ x y z w : Bool, (x ^^ y ^^ z ^^ w) = (x ^^ w ^^ y ^^ z) := by decide
      simp only [List.cons_append, List.nil_append, ac u[i]]
    · rintro σ H' ⟨y3, y4, rfl, sm, h4, h5⟩
      rw [List.take_length] at h5
      (try simp only [Own.e_seq, Own.e_cxK, Own.e_wishK, Own.e_noxK, Own.e_asg, Own.e_gName, Own.e_var, Own.e_C, Own.e_op, Own.e_un, Own.e_rI, Own.e_rI0, Own.e_rU, Own.e_CMul, Own.e_CDiv, Own.e_CPow, Own.e_rEq, Own.e_rNe, Own.e_scal_int, Own.e_scal_str, Own.e_scal_bl, Own.e_ifS, Own.e_test, Own.e_tB, Own.e_ret, Own.e_retN, Own.e_next, Own.e_brk, Own.e_cnt, Own.e_cons, Own.e_nil, Own.e_lst, Own.e_tup, Own.e_drop, Own.e_and, Own.e_or, Own.e_not, Own.e_andV, Own.e_orV, Own.e_notV, Own.e_if, Own.e_chain, Own.e_CB, Own.e_call, Own.e_rIxL, Own.e_rIxT, Own.e_rIxK, Own.e_rIxKT, Own.e_rSlK, Own.e_rLenK, Own.e_rListK, Own.e_rTupleK, Own.e_rSumK, Own.e_rNeK, Own.e_rEqK, Own.e_rIsiK, Own.tyK_int, Own.tyK_bl, Own.tyK_str, Own.tyK_non, Own.tyK_ref, Own.tyO_lst, Own.tyO_tup, Own.kit1, Own.kit2, Own.kit3, Own.kit4, Own.kit5, Own.kit6, Own.kit7, Own.kit8, Own.kit9, Own.hlst_inj, Own.htup_inj, Own.vty_inj, Own.ivs_inj, Own.bz_inj, Own.ivs_len, Own.bz_len, Own.ivs_app, Own.ivs_set, Own.ivs_bset, Own.bz_app, Own.ivs_snoc, Own.bz_snoc, Own.atI_ints, Own.atI_bz, Own.isLst_some, Own.ty_lst, L2.upd_same, L2.upd_upd, Own.b2_xor, Own.b2_mod2, Own.b2_mod3, Own.b2_mod4, Own.b2_flip, Option.map_some, Option.isSome_some, ne_eq, not_false_eq_true, not_true_eq_false, String.reduceEq, Own.e_BM, Own.e_BM0, Own.e_rAppend, Own.e_rCat, Own.e_rRep, Own.e_sl, Own.e_noPart, Own.e_part, Own.e_rSlL, Own.e_gSub, Own.e_rSetL, Own.e_bits, Own.e_yes, Own.e_gTup, Own.e_gNil, Own.e_gCons, Own.e_aug, Own.e_ipI, Own.e_for, Own.e_lc, Own.e_iList, Own.e_iTup, Own.e_iRng1, Own.e_iRng2, Own.e_iEnum, Own.e_iZip, L2.start, L2.wipe, List.map_cons, List.map_nil, List.replicate_succ, List.replicate_zero, List.length_cons, List.length_nil, Nat.reduceAdd, Nat.reduceSub, Nat.zero_add, List.getElem?_cons_zero, List.getElem?_cons_succ, List.set_cons_zero, List.set_cons_succ, Option.some.injEq, L2.V.int.injEq, L2.V.bl.injEq, L2.V.str.injEq, L2.V.ref.injEq, List.cons.injEq, List.cons_append, List.nil_append, List.append_nil, exists_eq_left', exists_eq_left, exists_and_left, exists_and_right, exists_eq, and_true, true_and, reduceCtorEq, false_and, and_false, exists_false, or_false, false_or, true_or, or_true, decide_eq_true_eq, Bool.not_true, Bool.not_false, Bool.not_eq_true', Bool.not_eq_false', decide_eq_false_iff_not, ite_not, if_true, if_false, ite_true, ite_false, Bool.false_eq_true, if_pos trivial, decide_true, decide_false, PySem.sizeLine_eq, Int.reduceNeg, Int.reducePow, Int.reduceLT, Int.reduceLE, Int.reduceToNat, Nat.reduceLeDiff, h4, h5])
      exact q H' p5 sm fr5 h5
def mixF (c t : Int) : Int := (c % 1000003 * 48271 + 69621 * (t + 1)) % 2147483647
def mixS (c t : Int) : Int := (mixF c t * 48271 + c % 999983) % 2147483647
def mixT (c t : Int) : Int := (mixS c t * 69621 + mixF c t) % 2147483647
/-- what is made of a cell -/
def mixed (c t : Int) : Int := if 1000000000000000000 ≤ c then c else mixF c t + 2147483647 * mixS c t + 4611686014132420609 * mixT c t
theorem mixed_nn (c t : Int) : 0 ≤ mixed c t := by
  unfold mixed mixT mixS mixF
  split <;> omega

def sp__law_mixed (K : PySem.W.Frag) : Sp := fun vs H Q _ => ∃ c t : Int, vs = [.int c, .int t] ∧ Q (.int (mixed c t)) H

theorem ok__law_mixed {f : Addr} {fd : FuncData} (F : Fun K "_law_mixed" "_law_mixed" s__law_mixed f fd) (B : BI mg) : FnOk P w K mg base CX0 1 f fd ["cell", "turn"] (sp__law_mixed K) := by
  refine F.ok sc__law_mixed (fun vs H Q E h => ?_) (fun cdv A outer s H vs Q E hr h => ?_)
  · obtain ⟨c, t, rfl, q⟩ := h
    rfl
  · obtain ⟨c, t, rfl, q⟩ := h
    refine ⟨_, (pss_cons (ps_set (i := 2) sc__law_mixed.nd rfl (Or.inl rfl) (pe_callTy call_int1 (by rfl) B.int_ boot_int (pa_cons (pv 0) pa_nil)))
      (pss_cons (ps_if (pt_cmpR op_ge (pv 2) (pe_op op_pow pe_int pe_int) (nomark _)) (pss_one (ps_ret (pv 2))) pss_nil)
      (pss_cons (ps_set (i := 3) sc__law_mixed.nd rfl (Or.inl rfl) (pe_op op_mod (pe_op op_add (pe_op op_mul (pe_op op_mod (pv 2) pe_int) pe_int) (pe_op op_mul pe_int (pe_op op_add (pv 1) pe_int))) pe_int))
      (pss_cons (ps_set (i := 4) sc__law_mixed.nd rfl (Or.inl rfl) (pe_op op_mod (pe_op op_add (pe_op op_mul (pv 3) pe_int) (pe_op op_mod (pv 2) pe_int)) pe_int))
      (pss_cons (ps_set (i := 5) sc__law_mixed.nd rfl (Or.inl rfl) (pe_op op_mod (pe_op op_add (pe_op op_mul (pv 4) pe_int) (pv 3)) pe_int))
      (pss_one (ps_ret (pe_op op_add (pe_op op_add (pv 3) (pe_op op_mul pe_int (pv 4))) (pe_op op_mul pe_int (pv 5)))))))))), ?_⟩
    walk_at "rd"
    refine ⟨by decide, ?_⟩
    have e := q
    unfold mixed mixT mixS mixF at e
    split
    · rename_i h1; rw [if_pos h1] at e; exact e
    · rename_i h1; rw [if_neg h1] at e; exact e
theorem bit_snoc (bs : List Bool) (l : Int) : bz bs ++ [l % 2] = bz (bs ++ [decide (l % 2 = 1)]) := by
  rw [← bz_snoc, ← b2_odd l]

def sp__law_bits (K : PySem.W.Frag) : Sp := fun vs H Q _ => ∃ v m : Int, vs = [.int v, .int m] ∧ 0 ≤ m ∧ m ≤ 100000 ∧ ∀ bs : List Bool, (bs.length : Int) = m → ∀ H' p, Same H H' → H p = none → H' p = some (.lst (ivs (bz bs))) → Q (.ref p) H'

theorem ok__law_bits {f : Addr} {fd : FuncData} (F : Fun K "_law_bits" "_law_bits" s__law_bits f fd) (B : BI mg) : FnOk P w K mg base CX0 1 f fd ["value", "many"] (sp__law_bits K) := by
  refine F.ok sc__law_bits (fun vs H Q E h => ?_) (fun cdv A outer s H vs Q E hr h => ?_)
  · obtain ⟨v, m, rfl, h0, hm, q⟩ := h
    rfl
  · obtain ⟨v, m, rfl, h0, hm, q⟩ := h
    refine ⟨_, (pss_cons (ps_set (i := 2) sc__law_bits.nd rfl (Or.inl rfl) (pe_lst pa_nil))
      (pss_cons (ps_set (i := 3) sc__law_bits.nd rfl (Or.inl rfl) (pv 0))
      (pss_cons (ps_for PassesOwn.never rfl (pi_range1 (by rfl) B.range_ (pa_cons (pv 1) pa_nil)) (pg_name (i := 4) sc__law_bits.nd rfl (Or.inl rfl))
      (pss_cons (ps_if (PW.pt (pw_or (pt_cmpR op_eq (pv 3) pe_int (nomark _)) (pw_or1 (pt_cmpR op_eq (pv 3) (pe_un un_neg pe_int) (nomark _))))) (pss_one (ps_set (i := 3) sc__law_bits.nd rfl (Or.inl rfl) (pe_op op_add (pv 0) (pe_op op_mul pe_int (pe_op op_add (pv 4) pe_int))))) pss_nil)
      (pss_cons (ps_expr (pe_bm PySem.F.plainAttrs_list PySem.F.slot_list_append PySem.F.type_list_append mt_append (pv 2) (pa_cons (pe_op op_mod (pv 3) pe_int) pa_nil)))
      (pss_one (ps_set (i := 3) sc__law_bits.nd rfl (Or.inl rfl) (pe_op op_fdiv (pv 3) pe_int))))))
      (pss_one (ps_ret (pv 2)))))), ?_⟩
    walk_at "rd"
    refine fun p np => ⟨by omega, by omega, loop_it walk_range (fun i σ H' => ∃ (left : Int) (y : Option V) (bs : List Bool), bs.length = i ∧ σ = [some (.int v), some (.int m), some (.ref p), some (.int left), y] ∧ Same H H' ∧ H' p = some (.lst (ivs (bz bs)))) ⟨v, none, [], rfl, rfl, same_upd np, upd_same⟩ (fun _ _ _ _ _ => trivial) ?_ ?_⟩
    · rintro i x σ H' H'' hi ⟨left, y, bs, hl, rfl, sm, hp⟩ ⟨rfl, rfl⟩
      have ln : bs.length < 16777216 := by omega
      (try simp only [Own.e_seq, Own.e_cxK, Own.e_wishK, Own.e_noxK, Own.e_asg, Own.e_gName, Own.e_var, Own.e_C, Own.e_op, Own.e_un, Own.e_rI, Own.e_rI0, Own.e_rU, Own.e_CMul, Own.e_CDiv, Own.e_CPow, Own.e_rEq, Own.e_rNe, Own.e_scal_int, Own.e_scal_str, Own.e_scal_bl, Own.e_ifS, Own.e_test, Own.e_tB, Own.e_ret, Own.e_retN, Own.e_next, Own.e_brk, Own.e_cnt, Own.e_cons, Own.e_nil, Own.e_lst, Own.e_tup, Own.e_drop, Own.e_and, Own.e_or, Own.e_not, Own.e_andV, Own.e_orV, Own.e_notV, Own.e_if, Own.e_chain, Own.e_CB, Own.e_call, Own.e_rIxL, Own.e_rIxT, Own.e_rIxK, Own.e_rIxKT, Own.e_rSlK, Own.e_rLenK, Own.e_rListK, Own.e_rTupleK, Own.e_rSumK, Own.e_rNeK, Own.e_rEqK, Own.e_rIsiK, Own.tyK_int, Own.tyK_bl, Own.tyK_str, Own.tyK_non, Own.tyK_ref, Own.tyO_lst, Own.tyO_tup, Own.kit1, Own.kit2, Own.kit3, Own.kit4, Own.kit5, Own.kit6, Own.kit7, Own.kit8, Own.kit9, Own.hlst_inj, Own.htup_inj, Own.vty_inj, Own.ivs_inj, Own.bz_inj, Own.ivs_len, Own.bz_len, Own.ivs_app, Own.ivs_set, Own.ivs_bset, Own.bz_app, Own.ivs_snoc, Own.bz_snoc, Own.atI_ints, Own.atI_bz, Own.isLst_some, Own.ty_lst, L2.upd_same, L2.upd_upd, Own.b2_xor, Own.b2_mod2, Own.b2_mod3, Own.b2_mod4, Own.b2_flip, Option.map_some, Option.isSome_some, ne_eq, not_false_eq_true, not_true_eq_false, String.reduceEq, Own.e_BM, Own.e_BM0, Own.e_rAppend, Own.e_rCat, Own.e_rRep, Own.e_sl, Own.e_noPart, Own.e_part, Own.e_rSlL, Own.e_gSub, Own.e_rSetL, Own.e_bits, Own.e_yes, Own.e_gTup, Own.e_gNil, Own.e_gCons, Own.e_aug, Own.e_ipI, Own.e_for, Own.e_lc, Own.e_iList, Own.e_iTup, Own.e_iRng1, Own.e_iRng2, Own.e_iEnum, Own.e_iZip, L2.start, L2.wipe, List.map_cons, List.map_nil, List.replicate_succ, List.replicate_zero, List.length_cons, List.length_nil, Nat.reduceAdd, Nat.reduceSub, Nat.zero_add, List.getElem?_cons_zero, List.getElem?_cons_succ, List.set_cons_zero, List.set_cons_succ, Option.some.injEq, L2.V.int.injEq, L2.V.bl.injEq, L2.V.str.injEq, L2.V.ref.injEq, List.cons.injEq, List.cons_append, List.nil_append, List.append_nil, exists_eq_left', exists_eq_left, exists_and_left, exists_and_right, exists_eq, and_true, true_and, reduceCtorEq, false_and, and_false, exists_false, or_false, false_or, true_or, or_true, decide_eq_true_eq, Bool.not_true, Bool.not_false, Bool.not_eq_true', Bool.not_eq_false', decide_eq_false_iff_not, ite_not, if_true, if_false, ite_true, ite_false, Bool.false_eq_true, if_pos trivial, decide_true, decide_false, PySem.sizeLine_eq, Int.reduceNeg, Int.reducePow, Int.reduceLT, Int.reduceLE, Int.reduceToNat, Nat.reduceLeDiff, hp, ln, bit_snoc])
      (repeat' refine ite2 (fun _ => ?_) (fun _ => ?_)) <;>
      exact at_is ⟨_, _, bs ++ [_], by simp [hl], rfl, same_upd_of sm np, upd_same⟩
    · rintro σ H' ⟨left, y, bs, hl, rfl, sm, hp⟩
      walk_at "rd"
      exact q bs (by omega) H' p sm np hp
def sp_law (K : PySem.W.Frag) : Sp := fun vs H Q _ => ∃ (a : Addr) (ns : List Int), vs = [.ref a] ∧ SqL K H a (ns.map V.int) ∧ ns.length ≤ 63 ∧ ∀ H', Q (.bl true) H'

theorem ok_law {f : Addr} {fd : FuncData} {f__law_mixed : Addr} {fd__law_mixed : FuncData} {f__law_bits : Addr} {fd__law_bits : FuncData} {f_convolve : Addr} {fd_convolve : FuncData} (F : Fun K "law" "law" s_law f fd) (B : BI mg) (c__law_mixed : Cal P w K mg base CX0 1 "_law_mixed" f__law_mixed fd__law_mixed ["cell", "turn"] (sp__law_mixed K)) (c__law_bits : Cal P w K mg base CX0 1 "_law_bits" f__law_bits fd__law_bits ["value", "many"] (sp__law_bits K)) (c_convolve : Cal P w K mg base CX0 1 "convolve" f_convolve fd_convolve ["bits"] (sp_convolve K)) : FnOk P w K mg base CX0 2 f fd ["script"] (sp_law K) := by
  refine F.ok sc_law (fun vs H Q E h => ?_) (fun cdv A outer s H vs Q E hr h => ?_)
  · obtain ⟨a, ns, rfl, hS, hlen, q⟩ := h
    rfl
  · obtain ⟨a, ns, rfl, hS, hlen, q⟩ := h
    refine ⟨_, (pss_cons (ps_for PassesOwn.never rfl (pi_enum (by rfl) B.enumerate_ (pa_cons (pe_slice sl_list (pv 0) po_none (po_some pe_int)) pa_nil)) (pg_tup rfl (pgs_cons (pg_name (i := 1) sc_law.nd rfl (Or.inl rfl)) (pgs_cons (pg_name (i := 2) sc_law.nd rfl (Or.inl rfl)) pgs_nil)))
      (pss_cons (ps_set (i := 3) sc_law.nd rfl (Or.inl rfl) (pe_call c__law_mixed.ok (hr.mono (by decide)) (by rfl) c__law_mixed.g c__law_mixed.kp c__law_mixed.b .nil pass0 (pa_cons (pv 2) (pa_cons (pv 1) pa_nil))))
      (pss_cons (ps_set (i := 4) sc_law.nd rfl (Or.inl rfl) (pe_op op_add pe_int (pe_op op_mod (pv 3) pe_int)))
      (pss_cons (ps_set (i := 5) sc_law.nd rfl (Or.inr rfl) (pe_call c__law_bits.ok (hr.mono (by decide)) (by rfl) c__law_bits.g c__law_bits.kp c__law_bits.b .nil pass0 (pa_cons (pe_op op_fdiv (pv 3) pe_int) (pa_cons (pv 4) pa_nil))))
      (pss_cons (ps_set (i := 6) sc_law.nd rfl (Or.inr rfl) (pe_call c__law_bits.ok (hr.mono (by decide)) (by rfl) c__law_bits.g c__law_bits.kp c__law_bits.b .nil pass0 (pa_cons (pe_op op_fdiv (pv 3) pe_int) (pa_cons (pv 4) pa_nil))))
      (pss_cons (ps_ifJ (pt_cmpR op_gt (pe_op op_mod (pe_op op_fdiv (pv 3) pe_int) pe_int) pe_int (nomark _)) (pss_cons (ps_set (i := 6) sc_law.nd rfl (Or.inr rfl) (pe_callTy callk_list (by rfl) B.list_ boot_list (pa_cons (pv 5) pa_nil)))
      (pss_cons (ps_set (i := 7) sc_law.nd rfl (Or.inl rfl) (pe_op op_mod (pe_op op_fdiv (pv 3) pe_int) (pv 4)))
      (pss_one (ps_for PassesOwn.never rfl (pi_range1 (by rfl) B.range_ (pa_cons (pe_callB (call_min2 rfl) (by rfl) B.min_ (by decide +kernel) (pa_cons pe_int (pa_cons (pe_op op_sub (pv 4) (pv 7)) pa_nil))) pa_nil)) (pg_name (i := 8) sc_law.nd rfl (Or.inl rfl))
      (pss_one (ps_if (PW.pt (pw_or (pt_cmpR op_eq (pv 8) pe_int (nomark _)) (pw_or1 (pt_cmpR op_eq (pe_op op_mod (pe_op op_fdiv (pe_op op_fdiv (pv 3) pe_int) (pe_op op_add (pe_op op_mul (pv 8) (pv 8)) pe_int)) pe_int) pe_int (nomark _))))) (pss_one (ps_asg (pe_op op_sub pe_int (pe_ix ixk_list (pv 6) (pe_op op_add (pv 7) (pv 8)) (fun _ _ => rfl))) (pg_sub (pv 6) (pe_op op_add (pv 7) (pv 8)) set_list))) pss_nil)))))) pss_nil)
      (pss_cons (ps_set (i := 5) sc_law.nd rfl (Or.inr rfl) (pe_call c_convolve.ok (hr.mono (by decide)) (by rfl) c_convolve.g c_convolve.kp c_convolve.b .nil pass0 (pa_cons (pe_op op_cat (pv 5) (pe_lst (pa_cons pe_int (pa_cons pe_int (pa_cons pe_int (pa_cons pe_int pa_nil)))))) pa_nil)))
      (pss_cons (ps_set (i := 6) sc_law.nd rfl (Or.inr rfl) (pe_call c_convolve.ok (hr.mono (by decide)) (by rfl) c_convolve.g c_convolve.kp c_convolve.b .nil pass0 (pa_cons (pe_op op_cat (pv 6) (pe_lst (pa_cons pe_int (pa_cons pe_int (pa_cons pe_int (pa_cons pe_int pa_nil)))))) pa_nil)))
      (pss_cons (ps_if (PW.pt (pw_or (pt_cmpR op_ne (pe_callB callk_len (by rfl) B.len_ (by decide +kernel) (pa_cons (pv 5) pa_nil)) (pe_op op_add (pe_op op_mul pe_int (pv 4)) pe_int) (nomark _)) (pw_or1 (pt_cmpR op_ne (pe_callB callk_len (by rfl) B.len_ (by decide +kernel) (pa_cons (pv 6) pa_nil)) (pe_op op_add (pe_op op_mul pe_int (pv 4)) pe_int) (nomark _))))) (pss_one (ps_ret pe_bl)) pss_nil)
      (pss_cons (ps_set (i := 9) sc_law.nd rfl (Or.inl rfl) (pe_callB callk_len (by rfl) B.len_ (by decide +kernel) (pa_cons (pe_lc (own := [("k", 8)]) (g := gName 8) rfl sc_law.nd (pi_range1 (by rfl) B.range_ (pa_cons (pe_callB callk_len (by rfl) B.len_ (by decide +kernel) (pa_cons (pv 5) pa_nil)) pa_nil)) (blkOk_by (own := [("k", 8)]) (N := ["script", "turn", "cell", "value", "many", "first", "second", "at", "k", "apart"]) (sc := (defScope s_law)) (by decide +kernel)) (fun _ _ _ _ _ => pg_name (i := 8) sc_law.nd rfl (Or.inl rfl)) (fun _ _ _ _ _ => pts_one (pt_cmpR op_ne (pe_ix ixk_list (pv 5) (pv 8) (fun _ _ => rfl)) (pe_ix ixk_list (pv 6) (pv 8) (fun _ _ => rfl)) (nomark _))) (fun _ _ _ _ _ => (pv 8))) pa_nil)))
      (pss_cons (ps_if (PW.pt (pw_and (pt_cmpR op_gt (pv 9) pe_int (nomark _)) (pw_and1 (pt_cmpR op_lt (pv 9) pe_int (nomark _))))) (pss_one (ps_ret pe_bl)) pss_nil)
      (pss_one (ps_if (PW.pt (pw_and (pt_cmpR op_eq (pv 9) pe_int (nomark _)) (pw_and1 (pt_cmpR op_gt (pe_op op_mod (pe_op op_fdiv (pv 3) pe_int) pe_int) pe_int (nomark _))))) (pss_one (ps_ret pe_bl)) pss_nil)))))))))))))
      (pss_one (ps_ret pe_bl))), ?_⟩
    (try simp only [Own.e_seq, Own.e_cxK, Own.e_wishK, Own.e_noxK, Own.e_asg, Own.e_gName, Own.e_var, Own.e_C, Own.e_op, Own.e_un, Own.e_rI, Own.e_rI0, Own.e_rU, Own.e_CMul, Own.e_CDiv, Own.e_CPow, Own.e_rEq, Own.e_rNe, Own.e_scal_int, Own.e_scal_str, Own.e_scal_bl, Own.e_ifS, Own.e_test, Own.e_tB, Own.e_ret, Own.e_retN, Own.e_next, Own.e_brk, Own.e_cnt, Own.e_cons, Own.e_nil, Own.e_lst, Own.e_tup, Own.e_drop, Own.e_and, Own.e_or, Own.e_not, Own.e_andV, Own.e_orV, Own.e_notV, Own.e_if, Own.e_chain, Own.e_CB, Own.e_call, Own.e_rIxL, Own.e_rIxT, Own.e_rIxK, Own.e_rIxKT, Own.e_rSlK, Own.e_rLenK, Own.e_rListK, Own.e_rTupleK, Own.e_rSumK, Own.e_rNeK, Own.e_rEqK, Own.e_rIsiK, Own.tyK_int, Own.tyK_bl, Own.tyK_str, Own.tyK_non, Own.tyK_ref, Own.tyO_lst, Own.tyO_tup, Own.kit1, Own.kit2, Own.kit3, Own.kit4, Own.kit5, Own.kit6, Own.kit7, Own.kit8, Own.kit9, Own.hlst_inj, Own.htup_inj, Own.vty_inj, Own.ivs_inj, Own.bz_inj, Own.ivs_len, Own.bz_len, Own.ivs_app, Own.ivs_set, Own.ivs_bset, Own.bz_app, Own.ivs_snoc, Own.bz_snoc, Own.atI_ints, Own.atI_bz, Own.isLst_some, Own.ty_lst, L2.upd_same, L2.upd_upd, Own.b2_xor, Own.b2_mod2, Own.b2_mod3, Own.b2_mod4, Own.b2_flip, Option.map_some, Option.isSome_some, ne_eq, not_false_eq_true, not_true_eq_false, String.reduceEq, Own.e_BM, Own.e_BM0, Own.e_rAppend, Own.e_rCat, Own.e_rRep, Own.e_sl, Own.e_noPart, Own.e_part, Own.e_rSlL, Own.e_gSub, Own.e_rSetL, Own.e_bits, Own.e_yes, Own.e_gTup, Own.e_gNil, Own.e_gCons, Own.e_aug, Own.e_ipI, Own.e_for, Own.e_lc, Own.e_iList, Own.e_iTup, Own.e_iRng1, Own.e_iRng2, Own.e_iEnum, Own.e_iZip, L2.start, L2.wipe, List.map_cons, List.map_nil, List.replicate_succ, List.replicate_zero, List.length_cons, List.length_nil, Nat.reduceAdd, Nat.reduceSub, Nat.zero_add, List.getElem?_cons_zero, List.getElem?_cons_succ, List.set_cons_zero, List.set_cons_succ, Option.some.injEq, L2.V.int.injEq, L2.V.bl.injEq, L2.V.str.injEq, L2.V.ref.injEq, List.cons.injEq, List.cons_append, List.nil_append, List.append_nil, exists_eq_left', exists_eq_left, exists_and_left, exists_and_right, exists_eq, and_true, true_and, reduceCtorEq, false_and, and_false, exists_false, or_false, false_or, true_or, or_true, decide_eq_true_eq, Bool.not_true, Bool.not_false, Bool.not_eq_true', Bool.not_eq_false', decide_eq_false_iff_not, ite_not, if_true, if_false, ite_true, ite_false, Bool.false_eq_true, if_pos trivial, decide_true, decide_false, PySem.sizeLine_eq, Int.reduceNeg, Int.reducePow, Int.reduceLT, Int.reduceLE, Int.reduceToNat, Nat.reduceLeDiff])
    refine ⟨_, hS, new_of fun p4 H4 np4 sm4 hp4 => ?_⟩
    (try simp only [Own.e_seq, Own.e_cxK, Own.e_wishK, Own.e_noxK, Own.e_asg, Own.e_gName, Own.e_var, Own.e_C, Own.e_op, Own.e_un, Own.e_rI, Own.e_rI0, Own.e_rU, Own.e_CMul, Own.e_CDiv, Own.e_CPow, Own.e_rEq, Own.e_rNe, Own.e_scal_int, Own.e_scal_str, Own.e_scal_bl, Own.e_ifS, Own.e_test, Own.e_tB, Own.e_ret, Own.e_retN, Own.e_next, Own.e_brk, Own.e_cnt, Own.e_cons, Own.e_nil, Own.e_lst, Own.e_tup, Own.e_drop, Own.e_and, Own.e_or, Own.e_not, Own.e_andV, Own.e_orV, Own.e_notV, Own.e_if, Own.e_chain, Own.e_CB, Own.e_call, Own.e_rIxL, Own.e_rIxT, Own.e_rIxK, Own.e_rIxKT, Own.e_rSlK, Own.e_rLenK, Own.e_rListK, Own.e_rTupleK, Own.e_rSumK, Own.e_rNeK, Own.e_rEqK, Own.e_rIsiK, Own.tyK_int, Own.tyK_bl, Own.tyK_str, Own.tyK_non, Own.tyK_ref, Own.tyO_lst, Own.tyO_tup, Own.kit1, Own.kit2, Own.kit3, Own.kit4, Own.kit5, Own.kit6, Own.kit7, Own.kit8, Own.kit9, Own.hlst_inj, Own.htup_inj, Own.vty_inj, Own.ivs_inj, Own.bz_inj, Own.ivs_len, Own.bz_len, Own.ivs_app, Own.ivs_set, Own.ivs_bset, Own.bz_app, Own.ivs_snoc, Own.bz_snoc, Own.atI_ints, Own.atI_bz, Own.isLst_some, Own.ty_lst, L2.upd_same, L2.upd_upd, Own.b2_xor, Own.b2_mod2, Own.b2_mod3, Own.b2_mod4, Own.b2_flip, Option.map_some, Option.isSome_some, ne_eq, not_false_eq_true, not_true_eq_false, String.reduceEq, Own.e_BM, Own.e_BM0, Own.e_rAppend, Own.e_rCat, Own.e_rRep, Own.e_sl, Own.e_noPart, Own.e_part, Own.e_rSlL, Own.e_gSub, Own.e_rSetL, Own.e_bits, Own.e_yes, Own.e_gTup, Own.e_gNil, Own.e_gCons, Own.e_aug, Own.e_ipI, Own.e_for, Own.e_lc, Own.e_iList, Own.e_iTup, Own.e_iRng1, Own.e_iRng2, Own.e_iEnum, Own.e_iZip, L2.start, L2.wipe, List.map_cons, List.map_nil, List.replicate_succ, List.replicate_zero, List.length_cons, List.length_nil, Nat.reduceAdd, Nat.reduceSub, Nat.zero_add, List.getElem?_cons_zero, List.getElem?_cons_succ, List.set_cons_zero, List.set_cons_succ, Option.some.injEq, L2.V.int.injEq, L2.V.bl.injEq, L2.V.str.injEq, L2.V.ref.injEq, List.cons.injEq, List.cons_append, List.nil_append, List.append_nil, exists_eq_left', exists_eq_left, exists_and_left, exists_and_right, exists_eq, and_true, true_and, reduceCtorEq, false_and, and_false, exists_false, or_false, false_or, true_or, or_true, decide_eq_true_eq, Bool.not_true, Bool.not_false, Bool.not_eq_true', Bool.not_eq_false', decide_eq_false_iff_not, ite_not, if_true, if_false, ite_true, ite_false, Bool.false_eq_true, if_pos trivial, decide_true, decide_false, PySem.sizeLine_eq, Int.reduceNeg, Int.reducePow, Int.reduceLT, Int.reduceLE, Int.reduceToNat, Nat.reduceLeDiff])
    have e4 : cutV (ns.map V.int) none (some 30) = ivs (ns.take 30) := by rw [cut_to _ (by decide)]; exact ivs_take
    rw [e4] at hp4
    refine ⟨⟨_, .of hp4⟩, loop_enum rfl (fun i σ H' => ∃ y1 y2 y3 y4 y5 y6 y7 y8 y9 : Option V, σ = [some (.ref a), y1, y2, y3, y4, y5, y6, y7, y8, y9] ∧ Same H4 H') ⟨none, none, none, none, none, none, none, none, none, rfl, Same.refl _⟩ (fun i σ H' ⟨_, _, _, _, _, _, _, _, _, _, sm⟩ => sm _ _ hp4) ?_ ?_⟩
    · rintro i z σ H' H5 hz hi ⟨y1, y2, y3, y4, y5, y6, y7, y8, y9, rfl, smx⟩ smy
      have hi : i < 63 := by rw [List.length_take] at hi; omega
      have sm5 : Same H4 H5 := smx.trans smy
      (try simp only [Own.e_seq, Own.e_cxK, Own.e_wishK, Own.e_noxK, Own.e_asg, Own.e_gName, Own.e_var, Own.e_C, Own.e_op, Own.e_un, Own.e_rI, Own.e_rI0, Own.e_rU, Own.e_CMul, Own.e_CDiv, Own.e_CPow, Own.e_rEq, Own.e_rNe, Own.e_scal_int, Own.e_scal_str, Own.e_scal_bl, Own.e_ifS, Own.e_test, Own.e_tB, Own.e_ret, Own.e_retN, Own.e_next, Own.e_brk, Own.e_cnt, Own.e_cons, Own.e_nil, Own.e_lst, Own.e_tup, Own.e_drop, Own.e_and, Own.e_or, Own.e_not, Own.e_andV, Own.e_orV, Own.e_notV, Own.e_if, Own.e_chain, Own.e_CB, Own.e_call, Own.e_rIxL, Own.e_rIxT, Own.e_rIxK, Own.e_rIxKT, Own.e_rSlK, Own.e_rLenK, Own.e_rListK, Own.e_rTupleK, Own.e_rSumK, Own.e_rNeK, Own.e_rEqK, Own.e_rIsiK, Own.tyK_int, Own.tyK_bl, Own.tyK_str, Own.tyK_non, Own.tyK_ref, Own.tyO_lst, Own.tyO_tup, Own.kit1, Own.kit2, Own.kit3, Own.kit4, Own.kit5, Own.kit6, Own.kit7, Own.kit8, Own.kit9, Own.hlst_inj, Own.htup_inj, Own.vty_inj, Own.ivs_inj, Own.bz_inj, Own.ivs_len, Own.bz_len, Own.ivs_app, Own.ivs_set, Own.ivs_bset, Own.bz_app, Own.ivs_snoc, Own.bz_snoc, Own.atI_ints, Own.atI_bz, Own.isLst_some, Own.ty_lst, L2.upd_same, L2.upd_upd, Own.b2_xor, Own.b2_mod2, Own.b2_mod3, Own.b2_mod4, Own.b2_flip, Option.map_some, Option.isSome_some, ne_eq, not_false_eq_true, not_true_eq_false, String.reduceEq, Own.e_BM, Own.e_BM0, Own.e_rAppend, Own.e_rCat, Own.e_rRep, Own.e_sl, Own.e_noPart, Own.e_part, Own.e_rSlL, Own.e_gSub, Own.e_rSetL, Own.e_bits, Own.e_yes, Own.e_gTup, Own.e_gNil, Own.e_gCons, Own.e_aug, Own.e_ipI, Own.e_for, Own.e_lc, Own.e_iList, Own.e_iTup, Own.e_iRng1, Own.e_iRng2, Own.e_iEnum, Own.e_iZip, L2.start, L2.wipe, List.map_cons, List.map_nil, List.replicate_succ, List.replicate_zero, List.length_cons, List.length_nil, Nat.reduceAdd, Nat.reduceSub, Nat.zero_add, List.getElem?_cons_zero, List.getElem?_cons_succ, List.set_cons_zero, List.set_cons_succ, Option.some.injEq, L2.V.int.injEq, L2.V.bl.injEq, L2.V.str.injEq, L2.V.ref.injEq, List.cons.injEq, List.cons_append, List.nil_append, List.append_nil, exists_eq_left', exists_eq_left, exists_and_left, exists_and_right, exists_eq, and_true, true_and, reduceCtorEq, false_and, and_false, exists_false, or_false, false_or, true_or, or_true, decide_eq_true_eq, Bool.not_true, Bool.not_false, Bool.not_eq_true', Bool.not_eq_false', decide_eq_false_iff_not, ite_not, if_true, if_false, ite_true, ite_false, Bool.false_eq_true, if_pos trivial, decide_true, decide_false, PySem.sizeLine_eq, Int.reduceNeg, Int.reducePow, Int.reduceLT, Int.reduceLE, Int.reduceToNat, Nat.reduceLeDiff])
      refine call_to ⟨_, _, rfl, ?_⟩
      have hv := mixed_nn z i
      generalize mixed z i = v at hv ⊢
      (try simp only [Own.e_seq, Own.e_cxK, Own.e_wishK, Own.e_noxK, Own.e_asg, Own.e_gName, Own.e_var, Own.e_C, Own.e_op, Own.e_un, Own.e_rI, Own.e_rI0, Own.e_rU, Own.e_CMul, Own.e_CDiv, Own.e_CPow, Own.e_rEq, Own.e_rNe, Own.e_scal_int, Own.e_scal_str, Own.e_scal_bl, Own.e_ifS, Own.e_test, Own.e_tB, Own.e_ret, Own.e_retN, Own.e_next, Own.e_brk, Own.e_cnt, Own.e_cons, Own.e_nil, Own.e_lst, Own.e_tup, Own.e_drop, Own.e_and, Own.e_or, Own.e_not, Own.e_andV, Own.e_orV, Own.e_notV, Own.e_if, Own.e_chain, Own.e_CB, Own.e_call, Own.e_rIxL, Own.e_rIxT, Own.e_rIxK, Own.e_rIxKT, Own.e_rSlK, Own.e_rLenK, Own.e_rListK, Own.e_rTupleK, Own.e_rSumK, Own.e_rNeK, Own.e_rEqK, Own.e_rIsiK, Own.tyK_int, Own.tyK_bl, Own.tyK_str, Own.tyK_non, Own.tyK_ref, Own.tyO_lst, Own.tyO_tup, Own.kit1, Own.kit2, Own.kit3, Own.kit4, Own.kit5, Own.kit6, Own.kit7, Own.kit8, Own.kit9, Own.hlst_inj, Own.htup_inj, Own.vty_inj, Own.ivs_inj, Own.bz_inj, Own.ivs_len, Own.bz_len, Own.ivs_app, Own.ivs_set, Own.ivs_bset, Own.bz_app, Own.ivs_snoc, Own.bz_snoc, Own.atI_ints, Own.atI_bz, Own.isLst_some, Own.ty_lst, L2.upd_same, L2.upd_upd, Own.b2_xor, Own.b2_mod2, Own.b2_mod3, Own.b2_mod4, Own.b2_flip, Option.map_some, Option.isSome_some, ne_eq, not_false_eq_true, not_true_eq_false, String.reduceEq, Own.e_BM, Own.e_BM0, Own.e_rAppend, Own.e_rCat, Own.e_rRep, Own.e_sl, Own.e_noPart, Own.e_part, Own.e_rSlL, Own.e_gSub, Own.e_rSetL, Own.e_bits, Own.e_yes, Own.e_gTup, Own.e_gNil, Own.e_gCons, Own.e_aug, Own.e_ipI, Own.e_for, Own.e_lc, Own.e_iList, Own.e_iTup, Own.e_iRng1, Own.e_iRng2, Own.e_iEnum, Own.e_iZip, L2.start, L2.wipe, List.map_cons, List.map_nil, List.replicate_succ, List.replicate_zero, List.length_cons, List.length_nil, Nat.reduceAdd, Nat.reduceSub, Nat.zero_add, List.getElem?_cons_zero, List.getElem?_cons_succ, List.set_cons_zero, List.set_cons_succ, Option.some.injEq, L2.V.int.injEq, L2.V.bl.injEq, L2.V.str.injEq, L2.V.ref.injEq, List.cons.injEq, List.cons_append, List.nil_append, List.append_nil, exists_eq_left', exists_eq_left, exists_and_left, exists_and_right, exists_eq, and_true, true_and, reduceCtorEq, false_and, and_false, exists_false, or_false, false_or, true_or, or_true, decide_eq_true_eq, Bool.not_true, Bool.not_false, Bool.not_eq_true', Bool.not_eq_false', decide_eq_false_iff_not, ite_not, if_true, if_false, ite_true, ite_false, Bool.false_eq_true, if_pos trivial, decide_true, decide_false, PySem.sizeLine_eq, Int.reduceNeg, Int.reducePow, Int.reduceLT, Int.reduceLE, Int.reduceToNat, Nat.reduceLeDiff])
      refine call_to ⟨_, _, rfl, by omega, by omega, fun u hu H6 p6 sm6 np6 hp6 => ?_⟩
      (try simp only [Own.e_seq, Own.e_cxK, Own.e_wishK, Own.e_noxK, Own.e_asg, Own.e_gName, Own.e_var, Own.e_C, Own.e_op, Own.e_un, Own.e_rI, Own.e_rI0, Own.e_rU, Own.e_CMul, Own.e_CDiv, Own.e_CPow, Own.e_rEq, Own.e_rNe, Own.e_scal_int, Own.e_scal_str, Own.e_scal_bl, Own.e_ifS, Own.e_test, Own.e_tB, Own.e_ret, Own.e_retN, Own.e_next, Own.e_brk, Own.e_cnt, Own.e_cons, Own.e_nil, Own.e_lst, Own.e_tup, Own.e_drop, Own.e_and, Own.e_or, Own.e_not, Own.e_andV, Own.e_orV, Own.e_notV, Own.e_if, Own.e_chain, Own.e_CB, Own.e_call, Own.e_rIxL, Own.e_rIxT, Own.e_rIxK, Own.e_rIxKT, Own.e_rSlK, Own.e_rLenK, Own.e_rListK, Own.e_rTupleK, Own.e_rSumK, Own.e_rNeK, Own.e_rEqK, Own.e_rIsiK, Own.tyK_int, Own.tyK_bl, Own.tyK_str, Own.tyK_non, Own.tyK_ref, Own.tyO_lst, Own.tyO_tup, Own.kit1, Own.kit2, Own.kit3, Own.kit4, Own.kit5, Own.kit6, Own.kit7, Own.kit8, Own.kit9, Own.hlst_inj, Own.htup_inj, Own.vty_inj, Own.ivs_inj, Own.bz_inj, Own.ivs_len, Own.bz_len, Own.ivs_app, Own.ivs_set, Own.ivs_bset, Own.bz_app, Own.ivs_snoc, Own.bz_snoc, Own.atI_ints, Own.atI_bz, Own.isLst_some, Own.ty_lst, L2.upd_same, L2.upd_upd, Own.b2_xor, Own.b2_mod2, Own.b2_mod3, Own.b2_mod4, Own.b2_flip, Option.map_some, Option.isSome_some, ne_eq, not_false_eq_true, not_true_eq_false, String.reduceEq, Own.e_BM, Own.e_BM0, Own.e_rAppend, Own.e_rCat, Own.e_rRep, Own.e_sl, Own.e_noPart, Own.e_part, Own.e_rSlL, Own.e_gSub, Own.e_rSetL, Own.e_bits, Own.e_yes, Own.e_gTup, Own.e_gNil, Own.e_gCons, Own.e_aug, Own.e_ipI, Own.e_for, Own.e_lc, Own.e_iList, Own.e_iTup, Own.e_iRng1, Own.e_iRng2, Own.e_iEnum, Own.e_iZip, L2.start, L2.wipe, List.map_cons, List.map_nil, List.replicate_succ, List.replicate_zero, List.length_cons, List.length_nil, Nat.reduceAdd, Nat.reduceSub, Nat.zero_add, List.getElem?_cons_zero, List.getElem?_cons_succ, List.set_cons_zero, List.set_cons_succ, Option.some.injEq, L2.V.int.injEq, L2.V.bl.injEq, L2.V.str.injEq, L2.V.ref.injEq, List.cons.injEq, List.cons_append, List.nil_append, List.append_nil, exists_eq_left', exists_eq_left, exists_and_left, exists_and_right, exists_eq, and_true, true_and, reduceCtorEq, false_and, and_false, exists_false, or_false, false_or, true_or, or_true, decide_eq_true_eq, Bool.not_true, Bool.not_false, Bool.not_eq_true', Bool.not_eq_false', decide_eq_false_iff_not, ite_not, if_true, if_false, ite_true, ite_false, Bool.false_eq_true, if_pos trivial, decide_true, decide_false, PySem.sizeLine_eq, Int.reduceNeg, Int.reducePow, Int.reduceLT, Int.reduceLE, Int.reduceToNat, Nat.reduceLeDiff])
      refine call_to ⟨_, _, rfl, by omega, by omega, fun u2 hu2 H7 p7 sm7 np7 hp7 => ?_⟩
      (try simp only [Own.e_seq, Own.e_cxK, Own.e_wishK, Own.e_noxK, Own.e_asg, Own.e_gName, Own.e_var, Own.e_C, Own.e_op, Own.e_un, Own.e_rI, Own.e_rI0, Own.e_rU, Own.e_CMul, Own.e_CDiv, Own.e_CPow, Own.e_rEq, Own.e_rNe, Own.e_scal_int, Own.e_scal_str, Own.e_scal_bl, Own.e_ifS, Own.e_test, Own.e_tB, Own.e_ret, Own.e_retN, Own.e_next, Own.e_brk, Own.e_cnt, Own.e_cons, Own.e_nil, Own.e_lst, Own.e_tup, Own.e_drop, Own.e_and, Own.e_or, Own.e_not, Own.e_andV, Own.e_orV, Own.e_notV, Own.e_if, Own.e_chain, Own.e_CB, Own.e_call, Own.e_rIxL, Own.e_rIxT, Own.e_rIxK, Own.e_rIxKT, Own.e_rSlK, Own.e_rLenK, Own.e_rListK, Own.e_rTupleK, Own.e_rSumK, Own.e_rNeK, Own.e_rEqK, Own.e_rIsiK, Own.tyK_int, Own.tyK_bl, Own.tyK_str, Own.tyK_non, Own.tyK_ref, Own.tyO_lst, Own.tyO_tup, Own.kit1, Own.kit2, Own.kit3, Own.kit4, Own.kit5, Own.kit6, Own.kit7, Own.kit8, Own.kit9, Own.hlst_inj, Own.htup_inj, Own.vty_inj, Own.ivs_inj, Own.bz_inj, Own.ivs_len, Own.bz_len, Own.ivs_app, Own.ivs_set, Own.ivs_bset, Own.bz_app, Own.ivs_snoc, Own.bz_snoc, Own.atI_ints, Own.atI_bz, Own.isLst_some, Own.ty_lst, L2.upd_same, L2.upd_upd, Own.b2_xor, Own.b2_mod2, Own.b2_mod3, Own.b2_mod4, Own.b2_flip, Option.map_some, Option.isSome_some, ne_eq, not_false_eq_true, not_true_eq_false, String.reduceEq, Own.e_BM, Own.e_BM0, Own.e_rAppend, Own.e_rCat, Own.e_rRep, Own.e_sl, Own.e_noPart, Own.e_part, Own.e_rSlL, Own.e_gSub, Own.e_rSetL, Own.e_bits, Own.e_yes, Own.e_gTup, Own.e_gNil, Own.e_gCons, Own.e_aug, Own.e_ipI, Own.e_for, Own.e_lc, Own.e_iList, Own.e_iTup, Own.e_iRng1, Own.e_iRng2, Own.e_iEnum, Own.e_iZip, L2.start, L2.wipe, List.map_cons, List.map_nil, List.replicate_succ, List.replicate_zero, List.length_cons, List.length_nil, Nat.reduceAdd, Nat.reduceSub, Nat.zero_add, List.getElem?_cons_zero, List.getElem?_cons_succ, List.set_cons_zero, List.set_cons_succ, Option.some.injEq, L2.V.int.injEq, L2.V.bl.injEq, L2.V.str.injEq, L2.V.ref.injEq, List.cons.injEq, List.cons_append, List.nil_append, List.append_nil, exists_eq_left', exists_eq_left, exists_and_left, exists_and_right, exists_eq, and_true, true_and, reduceCtorEq, false_and, and_false, exists_false, or_false, false_or, true_or, or_true, decide_eq_true_eq, Bool.not_true, Bool.not_false, Bool.not_eq_true', Bool.not_eq_false', decide_eq_false_iff_not, ite_not, if_true, if_false, ite_true, ite_false, Bool.false_eq_true, if_pos trivial, decide_true, decide_false, PySem.sizeLine_eq, Int.reduceNeg, Int.reducePow, Int.reduceLT, Int.reduceLE, Int.reduceToNat, Nat.reduceLeDiff])
      refine if_join (fun σ H' => ∃ (w : List Bool) (q7 : Addr) (y7 y8 : Option V), σ = [some (.ref a), some (.int i), some (.int z), some (.int v), some (.int (1 + v % 60)), some (.ref p6), some (.ref q7), y7, y8, y9] ∧ Same H4 H' ∧ H' p6 = some (.lst (ivs (bz u))) ∧ H' q7 = some (.lst (ivs (bz w))) ∧ w.length = u.length ∧ (0 < v / 60 % 3 → true ∈ zx u w)) ?_ ?_
      · rintro σ H8 ⟨w, q7, y7, y8, rfl, sm8, hf, hw, lw, hne⟩
        (try simp only [Own.e_seq, Own.e_cxK, Own.e_wishK, Own.e_noxK, Own.e_asg, Own.e_gName, Own.e_var, Own.e_C, Own.e_op, Own.e_un, Own.e_rI, Own.e_rI0, Own.e_rU, Own.e_CMul, Own.e_CDiv, Own.e_CPow, Own.e_rEq, Own.e_rNe, Own.e_scal_int, Own.e_scal_str, Own.e_scal_bl, Own.e_ifS, Own.e_test, Own.e_tB, Own.e_ret, Own.e_retN, Own.e_next, Own.e_brk, Own.e_cnt, Own.e_cons, Own.e_nil, Own.e_lst, Own.e_tup, Own.e_drop, Own.e_and, Own.e_or, Own.e_not, Own.e_andV, Own.e_orV, Own.e_notV, Own.e_if, Own.e_chain, Own.e_CB, Own.e_call, Own.e_rIxL, Own.e_rIxT, Own.e_rIxK, Own.e_rIxKT, Own.e_rSlK, Own.e_rLenK, Own.e_rListK, Own.e_rTupleK, Own.e_rSumK, Own.e_rNeK, Own.e_rEqK, Own.e_rIsiK, Own.tyK_int, Own.tyK_bl, Own.tyK_str, Own.tyK_non, Own.tyK_ref, Own.tyO_lst, Own.tyO_tup, Own.kit1, Own.kit2, Own.kit3, Own.kit4, Own.kit5, Own.kit6, Own.kit7, Own.kit8, Own.kit9, Own.hlst_inj, Own.htup_inj, Own.vty_inj, Own.ivs_inj, Own.bz_inj, Own.ivs_len, Own.bz_len, Own.ivs_app, Own.ivs_set, Own.ivs_bset, Own.bz_app, Own.ivs_snoc, Own.bz_snoc, Own.atI_ints, Own.atI_bz, Own.isLst_some, Own.ty_lst, L2.upd_same, L2.upd_upd, Own.b2_xor, Own.b2_mod2, Own.b2_mod3, Own.b2_mod4, Own.b2_flip, Option.map_some, Option.isSome_some, ne_eq, not_false_eq_true, not_true_eq_false, String.reduceEq, Own.e_BM, Own.e_BM0, Own.e_rAppend, Own.e_rCat, Own.e_rRep, Own.e_sl, Own.e_noPart, Own.e_part, Own.e_rSlL, Own.e_gSub, Own.e_rSetL, Own.e_bits, Own.e_yes, Own.e_gTup, Own.e_gNil, Own.e_gCons, Own.e_aug, Own.e_ipI, Own.e_for, Own.e_lc, Own.e_iList, Own.e_iTup, Own.e_iRng1, Own.e_iRng2, Own.e_iEnum, Own.e_iZip, L2.start, L2.wipe, List.map_cons, List.map_nil, List.replicate_succ, List.replicate_zero, List.length_cons, List.length_nil, Nat.reduceAdd, Nat.reduceSub, Nat.zero_add, List.getElem?_cons_zero, List.getElem?_cons_succ, List.set_cons_zero, List.set_cons_succ, Option.some.injEq, L2.V.int.injEq, L2.V.bl.injEq, L2.V.str.injEq, L2.V.ref.injEq, List.cons.injEq, List.cons_append, List.nil_append, List.append_nil, exists_eq_left', exists_eq_left, exists_and_left, exists_and_right, exists_eq, and_true, true_and, reduceCtorEq, false_and, and_false, exists_false, or_false, false_or, true_or, or_true, decide_eq_true_eq, Bool.not_true, Bool.not_false, Bool.not_eq_true', Bool.not_eq_false', decide_eq_false_iff_not, ite_not, if_true, if_false, ite_true, ite_false, Bool.false_eq_true, if_pos trivial, decide_true, decide_false, PySem.sizeLine_eq, Int.reduceNeg, Int.reducePow, Int.reduceLT, Int.reduceLE, Int.reduceToNat, Nat.reduceLeDiff])
        refine new_of fun p9 H9 np9 sm9 hp9 => ?_
        have hp9' : H9 p9 = some (.lst (ivs (bz [false, false, false, false]))) := hp9
        have l9 : u.length ≤ 16777212 := by omega
        (try simp only [Own.e_seq, Own.e_cxK, Own.e_wishK, Own.e_noxK, Own.e_asg, Own.e_gName, Own.e_var, Own.e_C, Own.e_op, Own.e_un, Own.e_rI, Own.e_rI0, Own.e_rU, Own.e_CMul, Own.e_CDiv, Own.e_CPow, Own.e_rEq, Own.e_rNe, Own.e_scal_int, Own.e_scal_str, Own.e_scal_bl, Own.e_ifS, Own.e_test, Own.e_tB, Own.e_ret, Own.e_retN, Own.e_next, Own.e_brk, Own.e_cnt, Own.e_cons, Own.e_nil, Own.e_lst, Own.e_tup, Own.e_drop, Own.e_and, Own.e_or, Own.e_not, Own.e_andV, Own.e_orV, Own.e_notV, Own.e_if, Own.e_chain, Own.e_CB, Own.e_call, Own.e_rIxL, Own.e_rIxT, Own.e_rIxK, Own.e_rIxKT, Own.e_rSlK, Own.e_rLenK, Own.e_rListK, Own.e_rTupleK, Own.e_rSumK, Own.e_rNeK, Own.e_rEqK, Own.e_rIsiK, Own.tyK_int, Own.tyK_bl, Own.tyK_str, Own.tyK_non, Own.tyK_ref, Own.tyO_lst, Own.tyO_tup, Own.kit1, Own.kit2, Own.kit3, Own.kit4, Own.kit5, Own.kit6, Own.kit7, Own.kit8, Own.kit9, Own.hlst_inj, Own.htup_inj, Own.vty_inj, Own.ivs_inj, Own.bz_inj, Own.ivs_len, Own.bz_len, Own.ivs_app, Own.ivs_set, Own.ivs_bset, Own.bz_app, Own.ivs_snoc, Own.bz_snoc, Own.atI_ints, Own.atI_bz, Own.isLst_some, Own.ty_lst, L2.upd_same, L2.upd_upd, Own.b2_xor, Own.b2_mod2, Own.b2_mod3, Own.b2_mod4, Own.b2_flip, Option.map_some, Option.isSome_some, ne_eq, not_false_eq_true, not_true_eq_false, String.reduceEq, Own.e_BM, Own.e_BM0, Own.e_rAppend, Own.e_rCat, Own.e_rRep, Own.e_sl, Own.e_noPart, Own.e_part, Own.e_rSlL, Own.e_gSub, Own.e_rSetL, Own.e_bits, Own.e_yes, Own.e_gTup, Own.e_gNil, Own.e_gCons, Own.e_aug, Own.e_ipI, Own.e_for, Own.e_lc, Own.e_iList, Own.e_iTup, Own.e_iRng1, Own.e_iRng2, Own.e_iEnum, Own.e_iZip, L2.start, L2.wipe, List.map_cons, List.map_nil, List.replicate_succ, List.replicate_zero, List.length_cons, List.length_nil, Nat.reduceAdd, Nat.reduceSub, Nat.zero_add, List.getElem?_cons_zero, List.getElem?_cons_succ, List.set_cons_zero, List.set_cons_succ, Option.some.injEq, L2.V.int.injEq, L2.V.bl.injEq, L2.V.str.injEq, L2.V.ref.injEq, List.cons.injEq, List.cons_append, List.nil_append, List.append_nil, exists_eq_left', exists_eq_left, exists_and_left, exists_and_right, exists_eq, and_true, true_and, reduceCtorEq, false_and, and_false, exists_false, or_false, false_or, true_or, or_true, decide_eq_true_eq, Bool.not_true, Bool.not_false, Bool.not_eq_true', Bool.not_eq_false', decide_eq_false_iff_not, ite_not, if_true, if_false, ite_true, ite_false, Bool.false_eq_true, if_pos trivial, decide_true, decide_false, PySem.sizeLine_eq, Int.reduceNeg, Int.reducePow, Int.reduceLT, Int.reduceLE, Int.reduceToNat, Nat.reduceLeDiff, sm9 _ _ hf, hp9', l9])
        refine new_of fun p10 H10 np10 sm10 hp10 => ?_
        (try simp only [Own.e_seq, Own.e_cxK, Own.e_wishK, Own.e_noxK, Own.e_asg, Own.e_gName, Own.e_var, Own.e_C, Own.e_op, Own.e_un, Own.e_rI, Own.e_rI0, Own.e_rU, Own.e_CMul, Own.e_CDiv, Own.e_CPow, Own.e_rEq, Own.e_rNe, Own.e_scal_int, Own.e_scal_str, Own.e_scal_bl, Own.e_ifS, Own.e_test, Own.e_tB, Own.e_ret, Own.e_retN, Own.e_next, Own.e_brk, Own.e_cnt, Own.e_cons, Own.e_nil, Own.e_lst, Own.e_tup, Own.e_drop, Own.e_and, Own.e_or, Own.e_not, Own.e_andV, Own.e_orV, Own.e_notV, Own.e_if, Own.e_chain, Own.e_CB, Own.e_call, Own.e_rIxL, Own.e_rIxT, Own.e_rIxK, Own.e_rIxKT, Own.e_rSlK, Own.e_rLenK, Own.e_rListK, Own.e_rTupleK, Own.e_rSumK, Own.e_rNeK, Own.e_rEqK, Own.e_rIsiK, Own.tyK_int, Own.tyK_bl, Own.tyK_str, Own.tyK_non, Own.tyK_ref, Own.tyO_lst, Own.tyO_tup, Own.kit1, Own.kit2, Own.kit3, Own.kit4, Own.kit5, Own.kit6, Own.kit7, Own.kit8, Own.kit9, Own.hlst_inj, Own.htup_inj, Own.vty_inj, Own.ivs_inj, Own.bz_inj, Own.ivs_len, Own.bz_len, Own.ivs_app, Own.ivs_set, Own.ivs_bset, Own.bz_app, Own.ivs_snoc, Own.bz_snoc, Own.atI_ints, Own.atI_bz, Own.isLst_some, Own.ty_lst, L2.upd_same, L2.upd_upd, Own.b2_xor, Own.b2_mod2, Own.b2_mod3, Own.b2_mod4, Own.b2_flip, Option.map_some, Option.isSome_some, ne_eq, not_false_eq_true, not_true_eq_false, String.reduceEq, Own.e_BM, Own.e_BM0, Own.e_rAppend, Own.e_rCat, Own.e_rRep, Own.e_sl, Own.e_noPart, Own.e_part, Own.e_rSlL, Own.e_gSub, Own.e_rSetL, Own.e_bits, Own.e_yes, Own.e_gTup, Own.e_gNil, Own.e_gCons, Own.e_aug, Own.e_ipI, Own.e_for, Own.e_lc, Own.e_iList, Own.e_iTup, Own.e_iRng1, Own.e_iRng2, Own.e_iEnum, Own.e_iZip, L2.start, L2.wipe, List.map_cons, List.map_nil, List.replicate_succ, List.replicate_zero, List.length_cons, List.length_nil, Nat.reduceAdd, Nat.reduceSub, Nat.zero_add, List.getElem?_cons_zero, List.getElem?_cons_succ, List.set_cons_zero, List.set_cons_succ, Option.some.injEq, L2.V.int.injEq, L2.V.bl.injEq, L2.V.str.injEq, L2.V.ref.injEq, List.cons.injEq, List.cons_append, List.nil_append, List.append_nil, exists_eq_left', exists_eq_left, exists_and_left, exists_and_right, exists_eq, and_true, true_and, reduceCtorEq, false_and, and_false, exists_false, or_false, false_or, true_or, or_true, decide_eq_true_eq, Bool.not_true, Bool.not_false, Bool.not_eq_true', Bool.not_eq_false', decide_eq_false_iff_not, ite_not, if_true, if_false, ite_true, ite_false, Bool.false_eq_true, if_pos trivial, decide_true, decide_false, PySem.sizeLine_eq, Int.reduceNeg, Int.reducePow, Int.reduceLT, Int.reduceLE, Int.reduceToNat, Nat.reduceLeDiff])
        refine call_to ⟨_, u ++ [false, false, false, false], rfl, hp10, by simp; omega, fun H11 p11 sm11 np11 hp11 => ?_⟩
        (try simp only [Own.e_seq, Own.e_cxK, Own.e_wishK, Own.e_noxK, Own.e_asg, Own.e_gName, Own.e_var, Own.e_C, Own.e_op, Own.e_un, Own.e_rI, Own.e_rI0, Own.e_rU, Own.e_CMul, Own.e_CDiv, Own.e_CPow, Own.e_rEq, Own.e_rNe, Own.e_scal_int, Own.e_scal_str, Own.e_scal_bl, Own.e_ifS, Own.e_test, Own.e_tB, Own.e_ret, Own.e_retN, Own.e_next, Own.e_brk, Own.e_cnt, Own.e_cons, Own.e_nil, Own.e_lst, Own.e_tup, Own.e_drop, Own.e_and, Own.e_or, Own.e_not, Own.e_andV, Own.e_orV, Own.e_notV, Own.e_if, Own.e_chain, Own.e_CB, Own.e_call, Own.e_rIxL, Own.e_rIxT, Own.e_rIxK, Own.e_rIxKT, Own.e_rSlK, Own.e_rLenK, Own.e_rListK, Own.e_rTupleK, Own.e_rSumK, Own.e_rNeK, Own.e_rEqK, Own.e_rIsiK, Own.tyK_int, Own.tyK_bl, Own.tyK_str, Own.tyK_non, Own.tyK_ref, Own.tyO_lst, Own.tyO_tup, Own.kit1, Own.kit2, Own.kit3, Own.kit4, Own.kit5, Own.kit6, Own.kit7, Own.kit8, Own.kit9, Own.hlst_inj, Own.htup_inj, Own.vty_inj, Own.ivs_inj, Own.bz_inj, Own.ivs_len, Own.bz_len, Own.ivs_app, Own.ivs_set, Own.ivs_bset, Own.bz_app, Own.ivs_snoc, Own.bz_snoc, Own.atI_ints, Own.atI_bz, Own.isLst_some, Own.ty_lst, L2.upd_same, L2.upd_upd, Own.b2_xor, Own.b2_mod2, Own.b2_mod3, Own.b2_mod4, Own.b2_flip, Option.map_some, Option.isSome_some, ne_eq, not_false_eq_true, not_true_eq_false, String.reduceEq, Own.e_BM, Own.e_BM0, Own.e_rAppend, Own.e_rCat, Own.e_rRep, Own.e_sl, Own.e_noPart, Own.e_part, Own.e_rSlL, Own.e_gSub, Own.e_rSetL, Own.e_bits, Own.e_yes, Own.e_gTup, Own.e_gNil, Own.e_gCons, Own.e_aug, Own.e_ipI, Own.e_for, Own.e_lc, Own.e_iList, Own.e_iTup, Own.e_iRng1, Own.e_iRng2, Own.e_iEnum, Own.e_iZip, L2.start, L2.wipe, List.map_cons, List.map_nil, List.replicate_succ, List.replicate_zero, List.length_cons, List.length_nil, Nat.reduceAdd, Nat.reduceSub, Nat.zero_add, List.getElem?_cons_zero, List.getElem?_cons_succ, List.set_cons_zero, List.set_cons_succ, Option.some.injEq, L2.V.int.injEq, L2.V.bl.injEq, L2.V.str.injEq, L2.V.ref.injEq, List.cons.injEq, List.cons_append, List.nil_append, List.append_nil, exists_eq_left', exists_eq_left, exists_and_left, exists_and_right, exists_eq, and_true, true_and, reduceCtorEq, false_and, and_false, exists_false, or_false, false_or, true_or, or_true, decide_eq_true_eq, Bool.not_true, Bool.not_false, Bool.not_eq_true', Bool.not_eq_false', decide_eq_false_iff_not, ite_not, if_true, if_false, ite_true, ite_false, Bool.false_eq_true, if_pos trivial, decide_true, decide_false, PySem.sizeLine_eq, Int.reduceNeg, Int.reducePow, Int.reduceLT, Int.reduceLE, Int.reduceToNat, Nat.reduceLeDiff])
        refine new_of fun p12 H12 np12 sm12 hp12 => ?_
        have hp12' : H12 p12 = some (.lst (ivs (bz [false, false, false, false]))) := hp12
        have s812 : Same H8 H12 := ((sm9.trans sm10).trans sm11).trans sm12
        have l12 : w.length ≤ 16777212 := by omega
        (try simp only [Own.e_seq, Own.e_cxK, Own.e_wishK, Own.e_noxK, Own.e_asg, Own.e_gName, Own.e_var, Own.e_C, Own.e_op, Own.e_un, Own.e_rI, Own.e_rI0, Own.e_rU, Own.e_CMul, Own.e_CDiv, Own.e_CPow, Own.e_rEq, Own.e_rNe, Own.e_scal_int, Own.e_scal_str, Own.e_scal_bl, Own.e_ifS, Own.e_test, Own.e_tB, Own.e_ret, Own.e_retN, Own.e_next, Own.e_brk, Own.e_cnt, Own.e_cons, Own.e_nil, Own.e_lst, Own.e_tup, Own.e_drop, Own.e_and, Own.e_or, Own.e_not, Own.e_andV, Own.e_orV, Own.e_notV, Own.e_if, Own.e_chain, Own.e_CB, Own.e_call, Own.e_rIxL, Own.e_rIxT, Own.e_rIxK, Own.e_rIxKT, Own.e_rSlK, Own.e_rLenK, Own.e_rListK, Own.e_rTupleK, Own.e_rSumK, Own.e_rNeK, Own.e_rEqK, Own.e_rIsiK, Own.tyK_int, Own.tyK_bl, Own.tyK_str, Own.tyK_non, Own.tyK_ref, Own.tyO_lst, Own.tyO_tup, Own.kit1, Own.kit2, Own.kit3, Own.kit4, Own.kit5, Own.kit6, Own.kit7, Own.kit8, Own.kit9, Own.hlst_inj, Own.htup_inj, Own.vty_inj, Own.ivs_inj, Own.bz_inj, Own.ivs_len, Own.bz_len, Own.ivs_app, Own.ivs_set, Own.ivs_bset, Own.bz_app, Own.ivs_snoc, Own.bz_snoc, Own.atI_ints, Own.atI_bz, Own.isLst_some, Own.ty_lst, L2.upd_same, L2.upd_upd, Own.b2_xor, Own.b2_mod2, Own.b2_mod3, Own.b2_mod4, Own.b2_flip, Option.map_some, Option.isSome_some, ne_eq, not_false_eq_true, not_true_eq_false, String.reduceEq, Own.e_BM, Own.e_BM0, Own.e_rAppend, Own.e_rCat, Own.e_rRep, Own.e_sl, Own.e_noPart, Own.e_part, Own.e_rSlL, Own.e_gSub, Own.e_rSetL, Own.e_bits, Own.e_yes, Own.e_gTup, Own.e_gNil, Own.e_gCons, Own.e_aug, Own.e_ipI, Own.e_for, Own.e_lc, Own.e_iList, Own.e_iTup, Own.e_iRng1, Own.e_iRng2, Own.e_iEnum, Own.e_iZip, L2.start, L2.wipe, List.map_cons, List.map_nil, List.replicate_succ, List.replicate_zero, List.length_cons, List.length_nil, Nat.reduceAdd, Nat.reduceSub, Nat.zero_add, List.getElem?_cons_zero, List.getElem?_cons_succ, List.set_cons_zero, List.set_cons_succ, Option.some.injEq, L2.V.int.injEq, L2.V.bl.injEq, L2.V.str.injEq, L2.V.ref.injEq, List.cons.injEq, List.cons_append, List.nil_append, List.append_nil, exists_eq_left', exists_eq_left, exists_and_left, exists_and_right, exists_eq, and_true, true_and, reduceCtorEq, false_and, and_false, exists_false, or_false, false_or, true_or, or_true, decide_eq_true_eq, Bool.not_true, Bool.not_false, Bool.not_eq_true', Bool.not_eq_false', decide_eq_false_iff_not, ite_not, if_true, if_false, ite_true, ite_false, Bool.false_eq_true, if_pos trivial, decide_true, decide_false, PySem.sizeLine_eq, Int.reduceNeg, Int.reducePow, Int.reduceLT, Int.reduceLE, Int.reduceToNat, Nat.reduceLeDiff, s812 _ _ hw, hp12', l12])
        refine new_of fun p13 H13 np13 sm13 hp13 => ?_
        (try simp only [Own.e_seq, Own.e_cxK, Own.e_wishK, Own.e_noxK, Own.e_asg, Own.e_gName, Own.e_var, Own.e_C, Own.e_op, Own.e_un, Own.e_rI, Own.e_rI0, Own.e_rU, Own.e_CMul, Own.e_CDiv, Own.e_CPow, Own.e_rEq, Own.e_rNe, Own.e_scal_int, Own.e_scal_str, Own.e_scal_bl, Own.e_ifS, Own.e_test, Own.e_tB, Own.e_ret, Own.e_retN, Own.e_next, Own.e_brk, Own.e_cnt, Own.e_cons, Own.e_nil, Own.e_lst, Own.e_tup, Own.e_drop, Own.e_and, Own.e_or, Own.e_not, Own.e_andV, Own.e_orV, Own.e_notV, Own.e_if, Own.e_chain, Own.e_CB, Own.e_call, Own.e_rIxL, Own.e_rIxT, Own.e_rIxK, Own.e_rIxKT, Own.e_rSlK, Own.e_rLenK, Own.e_rListK, Own.e_rTupleK, Own.e_rSumK, Own.e_rNeK, Own.e_rEqK, Own.e_rIsiK, Own.tyK_int, Own.tyK_bl, Own.tyK_str, Own.tyK_non, Own.tyK_ref, Own.tyO_lst, Own.tyO_tup, Own.kit1, Own.kit2, Own.kit3, Own.kit4, Own.kit5, Own.kit6, Own.kit7, Own.kit8, Own.kit9, Own.hlst_inj, Own.htup_inj, Own.vty_inj, Own.ivs_inj, Own.bz_inj, Own.ivs_len, Own.bz_len, Own.ivs_app, Own.ivs_set, Own.ivs_bset, Own.bz_app, Own.ivs_snoc, Own.bz_snoc, Own.atI_ints, Own.atI_bz, Own.isLst_some, Own.ty_lst, L2.upd_same, L2.upd_upd, Own.b2_xor, Own.b2_mod2, Own.b2_mod3, Own.b2_mod4, Own.b2_flip, Option.map_some, Option.isSome_some, ne_eq, not_false_eq_true, not_true_eq_false, String.reduceEq, Own.e_BM, Own.e_BM0, Own.e_rAppend, Own.e_rCat, Own.e_rRep, Own.e_sl, Own.e_noPart, Own.e_part, Own.e_rSlL, Own.e_gSub, Own.e_rSetL, Own.e_bits, Own.e_yes, Own.e_gTup, Own.e_gNil, Own.e_gCons, Own.e_aug, Own.e_ipI, Own.e_for, Own.e_lc, Own.e_iList, Own.e_iTup, Own.e_iRng1, Own.e_iRng2, Own.e_iEnum, Own.e_iZip, L2.start, L2.wipe, List.map_cons, List.map_nil, List.replicate_succ, List.replicate_zero, List.length_cons, List.length_nil, Nat.reduceAdd, Nat.reduceSub, Nat.zero_add, List.getElem?_cons_zero, List.getElem?_cons_succ, List.set_cons_zero, List.set_cons_succ, Option.some.injEq, L2.V.int.injEq, L2.V.bl.injEq, L2.V.str.injEq, L2.V.ref.injEq, List.cons.injEq, List.cons_append, List.nil_append, List.append_nil, exists_eq_left', exists_eq_left, exists_and_left, exists_and_right, exists_eq, and_true, true_and, reduceCtorEq, false_and, and_false, exists_false, or_false, false_or, true_or, or_true, decide_eq_true_eq, Bool.not_true, Bool.not_false, Bool.not_eq_true', Bool.not_eq_false', decide_eq_false_iff_not, ite_not, if_true, if_false, ite_true, ite_false, Bool.false_eq_true, if_pos trivial, decide_true, decide_false, PySem.sizeLine_eq, Int.reduceNeg, Int.reducePow, Int.reduceLT, Int.reduceLE, Int.reduceToNat, Nat.reduceLeDiff])
        refine call_to ⟨_, w ++ [false, false, false, false], rfl, hp13, by simp; omega, fun H14 p14 sm14 np14 hp14 => ?_⟩
        have hp11' : H14 p11 = some (.lst (ivs (bz (conv (u ++ [false, false, false, false]))))) := ((sm12.trans sm13).trans sm14) _ _ hp11
        have lu := conv_len (u ++ [false, false, false, false])
        have lv := conv_len (w ++ [false, false, false, false])
        rw [List.length_append] at lu lv
        simp only [List.length_cons, List.length_nil] at lu lv
        have fa := fun h => far_apart lw h
        have fb := fun h => not_apart lw h
        generalize conv (u ++ [false, false, false, false]) = cu at hp11' lu fa fb hp11
        generalize conv (w ++ [false, false, false, false]) = cw at hp14 lv fa fb
        have zl : (zx cu cw).length = cu.length := zx_len (by omega)
        (try simp only [Own.e_seq, Own.e_cxK, Own.e_wishK, Own.e_noxK, Own.e_asg, Own.e_gName, Own.e_var, Own.e_C, Own.e_op, Own.e_un, Own.e_rI, Own.e_rI0, Own.e_rU, Own.e_CMul, Own.e_CDiv, Own.e_CPow, Own.e_rEq, Own.e_rNe, Own.e_scal_int, Own.e_scal_str, Own.e_scal_bl, Own.e_ifS, Own.e_test, Own.e_tB, Own.e_ret, Own.e_retN, Own.e_next, Own.e_brk, Own.e_cnt, Own.e_cons, Own.e_nil, Own.e_lst, Own.e_tup, Own.e_drop, Own.e_and, Own.e_or, Own.e_not, Own.e_andV, Own.e_orV, Own.e_notV, Own.e_if, Own.e_chain, Own.e_CB, Own.e_call, Own.e_rIxL, Own.e_rIxT, Own.e_rIxK, Own.e_rIxKT, Own.e_rSlK, Own.e_rLenK, Own.e_rListK, Own.e_rTupleK, Own.e_rSumK, Own.e_rNeK, Own.e_rEqK, Own.e_rIsiK, Own.tyK_int, Own.tyK_bl, Own.tyK_str, Own.tyK_non, Own.tyK_ref, Own.tyO_lst, Own.tyO_tup, Own.kit1, Own.kit2, Own.kit3, Own.kit4, Own.kit5, Own.kit6, Own.kit7, Own.kit8, Own.kit9, Own.hlst_inj, Own.htup_inj, Own.vty_inj, Own.ivs_inj, Own.bz_inj, Own.ivs_len, Own.bz_len, Own.ivs_app, Own.ivs_set, Own.ivs_bset, Own.bz_app, Own.ivs_snoc, Own.bz_snoc, Own.atI_ints, Own.atI_bz, Own.isLst_some, Own.ty_lst, L2.upd_same, L2.upd_upd, Own.b2_xor, Own.b2_mod2, Own.b2_mod3, Own.b2_mod4, Own.b2_flip, Option.map_some, Option.isSome_some, ne_eq, not_false_eq_true, not_true_eq_false, String.reduceEq, Own.e_BM, Own.e_BM0, Own.e_rAppend, Own.e_rCat, Own.e_rRep, Own.e_sl, Own.e_noPart, Own.e_part, Own.e_rSlL, Own.e_gSub, Own.e_rSetL, Own.e_bits, Own.e_yes, Own.e_gTup, Own.e_gNil, Own.e_gCons, Own.e_aug, Own.e_ipI, Own.e_for, Own.e_lc, Own.e_iList, Own.e_iTup, Own.e_iRng1, Own.e_iRng2, Own.e_iEnum, Own.e_iZip, L2.start, L2.wipe, List.map_cons, List.map_nil, List.replicate_succ, List.replicate_zero, List.length_cons, List.length_nil, Nat.reduceAdd, Nat.reduceSub, Nat.zero_add, List.getElem?_cons_zero, List.getElem?_cons_succ, List.set_cons_zero, List.set_cons_succ, Option.some.injEq, L2.V.int.injEq, L2.V.bl.injEq, L2.V.str.injEq, L2.V.ref.injEq, List.cons.injEq, List.cons_append, List.nil_append, List.append_nil, exists_eq_left', exists_eq_left, exists_and_left, exists_and_right, exists_eq, and_true, true_and, reduceCtorEq, false_and, and_false, exists_false, or_false, false_or, true_or, or_true, decide_eq_true_eq, Bool.not_true, Bool.not_false, Bool.not_eq_true', Bool.not_eq_false', decide_eq_false_iff_not, ite_not, if_true, if_false, ite_true, ite_false, Bool.false_eq_true, if_pos trivial, decide_true, decide_false, PySem.sizeLine_eq, Int.reduceNeg, Int.reducePow, Int.reduceLT, Int.reduceLE, Int.reduceToNat, Nat.reduceLeDiff, hp11', hp14])
        refine ite2 (fun _ => ite2 (fun _ => ?_) (fun h => absurd (by omega) h)) (fun h => absurd (by omega) h)
        (try simp only [Own.e_seq, Own.e_cxK, Own.e_wishK, Own.e_noxK, Own.e_asg, Own.e_gName, Own.e_var, Own.e_C, Own.e_op, Own.e_un, Own.e_rI, Own.e_rI0, Own.e_rU, Own.e_CMul, Own.e_CDiv, Own.e_CPow, Own.e_rEq, Own.e_rNe, Own.e_scal_int, Own.e_scal_str, Own.e_scal_bl, Own.e_ifS, Own.e_test, Own.e_tB, Own.e_ret, Own.e_retN, Own.e_next, Own.e_brk, Own.e_cnt, Own.e_cons, Own.e_nil, Own.e_lst, Own.e_tup, Own.e_drop, Own.e_and, Own.e_or, Own.e_not, Own.e_andV, Own.e_orV, Own.e_notV, Own.e_if, Own.e_chain, Own.e_CB, Own.e_call, Own.e_rIxL, Own.e_rIxT, Own.e_rIxK, Own.e_rIxKT, Own.e_rSlK, Own.e_rLenK, Own.e_rListK, Own.e_rTupleK, Own.e_rSumK, Own.e_rNeK, Own.e_rEqK, Own.e_rIsiK, Own.tyK_int, Own.tyK_bl, Own.tyK_str, Own.tyK_non, Own.tyK_ref, Own.tyO_lst, Own.tyO_tup, Own.kit1, Own.kit2, Own.kit3, Own.kit4, Own.kit5, Own.kit6, Own.kit7, Own.kit8, Own.kit9, Own.hlst_inj, Own.htup_inj, Own.vty_inj, Own.ivs_inj, Own.bz_inj, Own.ivs_len, Own.bz_len, Own.ivs_app, Own.ivs_set, Own.ivs_bset, Own.bz_app, Own.ivs_snoc, Own.bz_snoc, Own.atI_ints, Own.atI_bz, Own.isLst_some, Own.ty_lst, L2.upd_same, L2.upd_upd, Own.b2_xor, Own.b2_mod2, Own.b2_mod3, Own.b2_mod4, Own.b2_flip, Option.map_some, Option.isSome_some, ne_eq, not_false_eq_true, not_true_eq_false, String.reduceEq, Own.e_BM, Own.e_BM0, Own.e_rAppend, Own.e_rCat, Own.e_rRep, Own.e_sl, Own.e_noPart, Own.e_part, Own.e_rSlL, Own.e_gSub, Own.e_rSetL, Own.e_bits, Own.e_yes, Own.e_gTup, Own.e_gNil, Own.e_gCons, Own.e_aug, Own.e_ipI, Own.e_for, Own.e_lc, Own.e_iList, Own.e_iTup, Own.e_iRng1, Own.e_iRng2, Own.e_iEnum, Own.e_iZip, L2.start, L2.wipe, List.map_cons, List.map_nil, List.replicate_succ, List.replicate_zero, List.length_cons, List.length_nil, Nat.reduceAdd, Nat.reduceSub, Nat.zero_add, List.getElem?_cons_zero, List.getElem?_cons_succ, List.set_cons_zero, List.set_cons_succ, Option.some.injEq, L2.V.int.injEq, L2.V.bl.injEq, L2.V.str.injEq, L2.V.ref.injEq, List.cons.injEq, List.cons_append, List.nil_append, List.append_nil, exists_eq_left', exists_eq_left, exists_and_left, exists_and_right, exists_eq, and_true, true_and, reduceCtorEq, false_and, and_false, exists_false, or_false, false_or, true_or, or_true, decide_eq_true_eq, Bool.not_true, Bool.not_false, Bool.not_eq_true', Bool.not_eq_false', decide_eq_false_iff_not, ite_not, if_true, if_false, ite_true, ite_false, Bool.false_eq_true, if_pos trivial, decide_true, decide_false, PySem.sizeLine_eq, Int.reduceNeg, Int.reducePow, Int.reduceLT, Int.reduceLE, Int.reduceToNat, Nat.reduceLeDiff, hp11', hp14])
        refine ⟨by omega, by omega, lc_rngT (fun i => ivs (ones (zx cu cw) i)) rfl ?_ ?_⟩
        · intro D j HL hD hj hp
          have g1 : cu[j]? = some (cu[j]'(by omega)) := List.getElem?_eq_getElem _
          have g2 : cw[j]? = some (cw[j]'(by omega)) := List.getElem?_eq_getElem _
          have a1 : atI cu (0 + (j : Int)) = some (cu[j]'(by omega)) := by rw [atI_at (by omega), show (0 + (j : Int)).toNat = j by omega]; exact g1
          have a2 : atI cw (0 + (j : Int)) = some (cw[j]'(by omega)) := by rw [atI_at (by omega), show (0 + (j : Int)).toNat = j by omega]; exact g2
          have gz := zx_get g1 g2
          generalize cu[j]'(by omega) = b1 at a1 gz
          generalize cw[j]'(by omega) = b2' at a2 gz
          (try simp only [Own.e_seq, Own.e_cxK, Own.e_wishK, Own.e_noxK, Own.e_asg, Own.e_gName, Own.e_var, Own.e_C, Own.e_op, Own.e_un, Own.e_rI, Own.e_rI0, Own.e_rU, Own.e_CMul, Own.e_CDiv, Own.e_CPow, Own.e_rEq, Own.e_rNe, Own.e_scal_int, Own.e_scal_str, Own.e_scal_bl, Own.e_ifS, Own.e_test, Own.e_tB, Own.e_ret, Own.e_retN, Own.e_next, Own.e_brk, Own.e_cnt, Own.e_cons, Own.e_nil, Own.e_lst, Own.e_tup, Own.e_drop, Own.e_and, Own.e_or, Own.e_not, Own.e_andV, Own.e_orV, Own.e_notV, Own.e_if, Own.e_chain, Own.e_CB, Own.e_call, Own.e_rIxL, Own.e_rIxT, Own.e_rIxK, Own.e_rIxKT, Own.e_rSlK, Own.e_rLenK, Own.e_rListK, Own.e_rTupleK, Own.e_rSumK, Own.e_rNeK, Own.e_rEqK, Own.e_rIsiK, Own.tyK_int, Own.tyK_bl, Own.tyK_str, Own.tyK_non, Own.tyK_ref, Own.tyO_lst, Own.tyO_tup, Own.kit1, Own.kit2, Own.kit3, Own.kit4, Own.kit5, Own.kit6, Own.kit7, Own.kit8, Own.kit9, Own.hlst_inj, Own.htup_inj, Own.vty_inj, Own.ivs_inj, Own.bz_inj, Own.ivs_len, Own.bz_len, Own.ivs_app, Own.ivs_set, Own.ivs_bset, Own.bz_app, Own.ivs_snoc, Own.bz_snoc, Own.atI_ints, Own.atI_bz, Own.isLst_some, Own.ty_lst, L2.upd_same, L2.upd_upd, Own.b2_xor, Own.b2_mod2, Own.b2_mod3, Own.b2_mod4, Own.b2_flip, Option.map_some, Option.isSome_some, ne_eq, not_false_eq_true, not_true_eq_false, String.reduceEq, Own.e_BM, Own.e_BM0, Own.e_rAppend, Own.e_rCat, Own.e_rRep, Own.e_sl, Own.e_noPart, Own.e_part, Own.e_rSlL, Own.e_gSub, Own.e_rSetL, Own.e_bits, Own.e_yes, Own.e_gTup, Own.e_gNil, Own.e_gCons, Own.e_aug, Own.e_ipI, Own.e_for, Own.e_lc, Own.e_iList, Own.e_iTup, Own.e_iRng1, Own.e_iRng2, Own.e_iEnum, Own.e_iZip, L2.start, L2.wipe, List.map_cons, List.map_nil, List.replicate_succ, List.replicate_zero, List.length_cons, List.length_nil, Nat.reduceAdd, Nat.reduceSub, Nat.zero_add, List.getElem?_cons_zero, List.getElem?_cons_succ, List.set_cons_zero, List.set_cons_succ, Option.some.injEq, L2.V.int.injEq, L2.V.bl.injEq, L2.V.str.injEq, L2.V.ref.injEq, List.cons.injEq, List.cons_append, List.nil_append, List.append_nil, exists_eq_left', exists_eq_left, exists_and_left, exists_and_right, exists_eq, and_true, true_and, reduceCtorEq, false_and, and_false, exists_false, or_false, false_or, true_or, or_true, decide_eq_true_eq, Bool.not_true, Bool.not_false, Bool.not_eq_true', Bool.not_eq_false', decide_eq_false_iff_not, ite_not, if_true, if_false, ite_true, ite_false, Bool.false_eq_true, if_pos trivial, decide_true, decide_false, PySem.sizeLine_eq, Int.reduceNeg, Int.reducePow, Int.reduceLT, Int.reduceLE, Int.reduceToNat, Nat.reduceLeDiff, hp.1 _ _ hp11', hp.1 _ _ hp14, a1, a2])
          have ol := ones_len (zx cu cw) j
          have wl := wt_le ((zx cu cw).take j)
          rw [List.length_take] at wl
          refine ite2 (fun h => ?_) (fun h => ?_)
          · have h' : b1 = b2' := b2_inj h
            subst h'
            rw [Bool.xor_self] at gz
            exact no_elt hp (Same.refl _) (by rw [ones_f gz])
          · have h' : (b1 ^^ b2') = true := by cases b1 <;> cases b2' <;> simp_all
            rw [h'] at gz
            exact elt_is hD hp (Same.refl _) (by rw [ones_t gz, ivs_snoc]) (by rw [ivs_len]; omega)
        intro p15 H15 np15 sm15 hp15
        have ol := ones_len (zx cu cw) ((cu.length : Int)).toNat
        rw [List.take_of_length_le (by omega)] at ol
        (try simp only [Own.e_seq, Own.e_cxK, Own.e_wishK, Own.e_noxK, Own.e_asg, Own.e_gName, Own.e_var, Own.e_C, Own.e_op, Own.e_un, Own.e_rI, Own.e_rI0, Own.e_rU, Own.e_CMul, Own.e_CDiv, Own.e_CPow, Own.e_rEq, Own.e_rNe, Own.e_scal_int, Own.e_scal_str, Own.e_scal_bl, Own.e_ifS, Own.e_test, Own.e_tB, Own.e_ret, Own.e_retN, Own.e_next, Own.e_brk, Own.e_cnt, Own.e_cons, Own.e_nil, Own.e_lst, Own.e_tup, Own.e_drop, Own.e_and, Own.e_or, Own.e_not, Own.e_andV, Own.e_orV, Own.e_notV, Own.e_if, Own.e_chain, Own.e_CB, Own.e_call, Own.e_rIxL, Own.e_rIxT, Own.e_rIxK, Own.e_rIxKT, Own.e_rSlK, Own.e_rLenK, Own.e_rListK, Own.e_rTupleK, Own.e_rSumK, Own.e_rNeK, Own.e_rEqK, Own.e_rIsiK, Own.tyK_int, Own.tyK_bl, Own.tyK_str, Own.tyK_non, Own.tyK_ref, Own.tyO_lst, Own.tyO_tup, Own.kit1, Own.kit2, Own.kit3, Own.kit4, Own.kit5, Own.kit6, Own.kit7, Own.kit8, Own.kit9, Own.hlst_inj, Own.htup_inj, Own.vty_inj, Own.ivs_inj, Own.bz_inj, Own.ivs_len, Own.bz_len, Own.ivs_app, Own.ivs_set, Own.ivs_bset, Own.bz_app, Own.ivs_snoc, Own.bz_snoc, Own.atI_ints, Own.atI_bz, Own.isLst_some, Own.ty_lst, L2.upd_same, L2.upd_upd, Own.b2_xor, Own.b2_mod2, Own.b2_mod3, Own.b2_mod4, Own.b2_flip, Option.map_some, Option.isSome_some, ne_eq, not_false_eq_true, not_true_eq_false, String.reduceEq, Own.e_BM, Own.e_BM0, Own.e_rAppend, Own.e_rCat, Own.e_rRep, Own.e_sl, Own.e_noPart, Own.e_part, Own.e_rSlL, Own.e_gSub, Own.e_rSetL, Own.e_bits, Own.e_yes, Own.e_gTup, Own.e_gNil, Own.e_gCons, Own.e_aug, Own.e_ipI, Own.e_for, Own.e_lc, Own.e_iList, Own.e_iTup, Own.e_iRng1, Own.e_iRng2, Own.e_iEnum, Own.e_iZip, L2.start, L2.wipe, List.map_cons, List.map_nil, List.replicate_succ, List.replicate_zero, List.length_cons, List.length_nil, Nat.reduceAdd, Nat.reduceSub, Nat.zero_add, List.getElem?_cons_zero, List.getElem?_cons_succ, List.set_cons_zero, List.set_cons_succ, Option.some.injEq, L2.V.int.injEq, L2.V.bl.injEq, L2.V.str.injEq, L2.V.ref.injEq, List.cons.injEq, List.cons_append, List.nil_append, List.append_nil, exists_eq_left', exists_eq_left, exists_and_left, exists_and_right, exists_eq, and_true, true_and, reduceCtorEq, false_and, and_false, exists_false, or_false, false_or, true_or, or_true, decide_eq_true_eq, Bool.not_true, Bool.not_false, Bool.not_eq_true', Bool.not_eq_false', decide_eq_false_iff_not, ite_not, if_true, if_false, ite_true, ite_false, Bool.false_eq_true, if_pos trivial, decide_true, decide_false, PySem.sizeLine_eq, Int.reduceNeg, Int.reducePow, Int.reduceLT, Int.reduceLE, Int.reduceToNat, Nat.reduceLeDiff, hp15, ol])
        have fin : Same H4 H15 := ((((sm8.trans s812).trans sm13).trans sm14)).trans sm15
        refine ite2 (fun h1 => ite2 (fun h2 => ?_) (fun _ => ite2 (fun h3 => ite2 (fun h4 => ?_) (fun _ => ?_)) (fun _ => ?_))) (fun h1 => ite2 (fun h3 => ite2 (fun h4 => ?_) (fun _ => ?_)) (fun _ => ?_))
        · exfalso
          by_cases hn : true ∈ zx u w
          · have := fa hn; omega
          · have := fb hn; omega
        · exfalso; omega
        · exact at_is ⟨_, _, _, _, _, _, _, _, _, rfl, fin⟩
        · exact at_is ⟨_, _, _, _, _, _, _, _, _, rfl, fin⟩
        · have := fa (hne h4); omega
        · exact at_is ⟨_, _, _, _, _, _, _, _, _, rfl, fin⟩
        · exact at_is ⟨_, _, _, _, _, _, _, _, _, rfl, fin⟩
      · intro nx key
        have hu6 : H7 p6 = some (.lst (ivs (bz u))) := sm7 _ _ hp6
        (try simp only [Own.e_seq, Own.e_cxK, Own.e_wishK, Own.e_noxK, Own.e_asg, Own.e_gName, Own.e_var, Own.e_C, Own.e_op, Own.e_un, Own.e_rI, Own.e_rI0, Own.e_rU, Own.e_CMul, Own.e_CDiv, Own.e_CPow, Own.e_rEq, Own.e_rNe, Own.e_scal_int, Own.e_scal_str, Own.e_scal_bl, Own.e_ifS, Own.e_test, Own.e_tB, Own.e_ret, Own.e_retN, Own.e_next, Own.e_brk, Own.e_cnt, Own.e_cons, Own.e_nil, Own.e_lst, Own.e_tup, Own.e_drop, Own.e_and, Own.e_or, Own.e_not, Own.e_andV, Own.e_orV, Own.e_notV, Own.e_if, Own.e_chain, Own.e_CB, Own.e_call, Own.e_rIxL, Own.e_rIxT, Own.e_rIxK, Own.e_rIxKT, Own.e_rSlK, Own.e_rLenK, Own.e_rListK, Own.e_rTupleK, Own.e_rSumK, Own.e_rNeK, Own.e_rEqK, Own.e_rIsiK, Own.tyK_int, Own.tyK_bl, Own.tyK_str, Own.tyK_non, Own.tyK_ref, Own.tyO_lst, Own.tyO_tup, Own.kit1, Own.kit2, Own.kit3, Own.kit4, Own.kit5, Own.kit6, Own.kit7, Own.kit8, Own.kit9, Own.hlst_inj, Own.htup_inj, Own.vty_inj, Own.ivs_inj, Own.bz_inj, Own.ivs_len, Own.bz_len, Own.ivs_app, Own.ivs_set, Own.ivs_bset, Own.bz_app, Own.ivs_snoc, Own.bz_snoc, Own.atI_ints, Own.atI_bz, Own.isLst_some, Own.ty_lst, L2.upd_same, L2.upd_upd, Own.b2_xor, Own.b2_mod2, Own.b2_mod3, Own.b2_mod4, Own.b2_flip, Option.map_some, Option.isSome_some, ne_eq, not_false_eq_true, not_true_eq_false, String.reduceEq, Own.e_BM, Own.e_BM0, Own.e_rAppend, Own.e_rCat, Own.e_rRep, Own.e_sl, Own.e_noPart, Own.e_part, Own.e_rSlL, Own.e_gSub, Own.e_rSetL, Own.e_bits, Own.e_yes, Own.e_gTup, Own.e_gNil, Own.e_gCons, Own.e_aug, Own.e_ipI, Own.e_for, Own.e_lc, Own.e_iList, Own.e_iTup, Own.e_iRng1, Own.e_iRng2, Own.e_iEnum, Own.e_iZip, L2.start, L2.wipe, List.map_cons, List.map_nil, List.replicate_succ, List.replicate_zero, List.length_cons, List.length_nil, Nat.reduceAdd, Nat.reduceSub, Nat.zero_add, List.getElem?_cons_zero, List.getElem?_cons_succ, List.set_cons_zero, List.set_cons_succ, Option.some.injEq, L2.V.int.injEq, L2.V.bl.injEq, L2.V.str.injEq, L2.V.ref.injEq, List.cons.injEq, List.cons_append, List.nil_append, List.append_nil, exists_eq_left', exists_eq_left, exists_and_left, exists_and_right, exists_eq, and_true, true_and, reduceCtorEq, false_and, and_false, exists_false, or_false, false_or, true_or, or_true, decide_eq_true_eq, Bool.not_true, Bool.not_false, Bool.not_eq_true', Bool.not_eq_false', decide_eq_false_iff_not, ite_not, if_true, if_false, ite_true, ite_false, Bool.false_eq_true, if_pos trivial, decide_true, decide_false, PySem.sizeLine_eq, Int.reduceNeg, Int.reducePow, Int.reduceLT, Int.reduceLE, Int.reduceToNat, Nat.reduceLeDiff, hu6])
        refine ite2 (fun h => ?_) (fun h => key _ _ ⟨u2, p7, _, _, rfl, (sm5.trans sm6).trans sm7, hu6, hp7, by omega, fun z => absurd z h⟩)
        refine new_of fun p8 H8 np8 sm8 hp8 => ?_
        (try simp only [Own.e_seq, Own.e_cxK, Own.e_wishK, Own.e_noxK, Own.e_asg, Own.e_gName, Own.e_var, Own.e_C, Own.e_op, Own.e_un, Own.e_rI, Own.e_rI0, Own.e_rU, Own.e_CMul, Own.e_CDiv, Own.e_CPow, Own.e_rEq, Own.e_rNe, Own.e_scal_int, Own.e_scal_str, Own.e_scal_bl, Own.e_ifS, Own.e_test, Own.e_tB, Own.e_ret, Own.e_retN, Own.e_next, Own.e_brk, Own.e_cnt, Own.e_cons, Own.e_nil, Own.e_lst, Own.e_tup, Own.e_drop, Own.e_and, Own.e_or, Own.e_not, Own.e_andV, Own.e_orV, Own.e_notV, Own.e_if, Own.e_chain, Own.e_CB, Own.e_call, Own.e_rIxL, Own.e_rIxT, Own.e_rIxK, Own.e_rIxKT, Own.e_rSlK, Own.e_rLenK, Own.e_rListK, Own.e_rTupleK, Own.e_rSumK, Own.e_rNeK, Own.e_rEqK, Own.e_rIsiK, Own.tyK_int, Own.tyK_bl, Own.tyK_str, Own.tyK_non, Own.tyK_ref, Own.tyO_lst, Own.tyO_tup, Own.kit1, Own.kit2, Own.kit3, Own.kit4, Own.kit5, Own.kit6, Own.kit7, Own.kit8, Own.kit9, Own.hlst_inj, Own.htup_inj, Own.vty_inj, Own.ivs_inj, Own.bz_inj, Own.ivs_len, Own.bz_len, Own.ivs_app, Own.ivs_set, Own.ivs_bset, Own.bz_app, Own.ivs_snoc, Own.bz_snoc, Own.atI_ints, Own.atI_bz, Own.isLst_some, Own.ty_lst, L2.upd_same, L2.upd_upd, Own.b2_xor, Own.b2_mod2, Own.b2_mod3, Own.b2_mod4, Own.b2_flip, Option.map_some, Option.isSome_some, ne_eq, not_false_eq_true, not_true_eq_false, String.reduceEq, Own.e_BM, Own.e_BM0, Own.e_rAppend, Own.e_rCat, Own.e_rRep, Own.e_sl, Own.e_noPart, Own.e_part, Own.e_rSlL, Own.e_gSub, Own.e_rSetL, Own.e_bits, Own.e_yes, Own.e_gTup, Own.e_gNil, Own.e_gCons, Own.e_aug, Own.e_ipI, Own.e_for, Own.e_lc, Own.e_iList, Own.e_iTup, Own.e_iRng1, Own.e_iRng2, Own.e_iEnum, Own.e_iZip, L2.start, L2.wipe, List.map_cons, List.map_nil, List.replicate_succ, List.replicate_zero, List.length_cons, List.length_nil, Nat.reduceAdd, Nat.reduceSub, Nat.zero_add, List.getElem?_cons_zero, List.getElem?_cons_succ, List.set_cons_zero, List.set_cons_succ, Option.some.injEq, L2.V.int.injEq, L2.V.bl.injEq, L2.V.str.injEq, L2.V.ref.injEq, List.cons.injEq, List.cons_append, List.nil_append, List.append_nil, exists_eq_left', exists_eq_left, exists_and_left, exists_and_right, exists_eq, and_true, true_and, reduceCtorEq, false_and, and_false, exists_false, or_false, false_or, true_or, or_true, decide_eq_true_eq, Bool.not_true, Bool.not_false, Bool.not_eq_true', Bool.not_eq_false', decide_eq_false_iff_not, ite_not, if_true, if_false, ite_true, ite_false, Bool.false_eq_true, if_pos trivial, decide_true, decide_false, PySem.sizeLine_eq, Int.reduceNeg, Int.reducePow, Int.reduceLT, Int.reduceLE, Int.reduceToNat, Nat.reduceLeDiff])
        have A0 : 0 ≤ v / 180 % (1 + v % 60) := Int.emod_nonneg _ (by omega)
        have A1 : v / 180 % (1 + v % 60) < 1 + v % 60 := Int.emod_lt_of_pos _ (by omega)
        generalize v / 180 % (1 + v % 60) = A at A0 A1 ⊢
        have np8' : H4 p8 = none := ((sm5.trans sm6).trans sm7).free np8
        have s48 : Same H4 H8 := ((sm5.trans sm6).trans sm7).trans sm8
        have h68 : H8 p6 = some (.lst (ivs (bz u))) := sm8 _ _ hu6
        have n68 : p6 ≠ p8 := ne_of_none hu6 np8
        refine ⟨by omega, 9, _, ⟨rfl, rfl⟩, by split <;> omega, by split <;> omega, ?_⟩
        have hn : ∃ n : Nat, (if 1 + v % 60 - A < 9 then 1 + v % 60 - A else 9).toNat = n ∧ 1 ≤ n ∧ n ≤ 9 ∧ A + n ≤ 1 + v % 60 := ⟨_, rfl, by split <;> omega, by split <;> omega, by split <;> omega⟩
        obtain ⟨n, en, n1, n9, nA⟩ := hn
        rw [en]
        have gA : u[A.toNat]? = some (u[A.toNat]'(by omega)) := List.getElem?_eq_getElem _
        generalize u[A.toNat]'(by omega) = bA at gA
        refine loop_it walk_range (fun k σ H' => ∃ (w : List Bool) (y8 : Option V), σ = [some (.ref a), some (.int i), some (.int z), some (.int v), some (.int (1 + v % 60)), some (.ref p6), some (.ref p8), some (.int A), y8, y9] ∧ Same H4 H' ∧ H' p6 = some (.lst (ivs (bz u))) ∧ H' p8 = some (.lst (ivs (bz w))) ∧ w.length = u.length ∧ (k = 0 → w = u) ∧ (0 < k → w[A.toNat]? = some (!bA)))
          ⟨u, y8, rfl, s48, h68, hp8, rfl, fun _ => rfl, fun h => absurd h (by omega)⟩ (fun _ _ _ _ _ => trivial) ?_ ?_
        · rintro k x σ Hk H'' hk ⟨w, y8, rfl, smk, h6, h8, lw, wz, wp⟩ ⟨rfl, rfl⟩
          have k9 : k < 9 := by omega
          have sq : 0 ≤ (0 + (k : Int)) * (0 + (k : Int)) ∧ (0 + (k : Int)) * (0 + (k : Int)) ≤ 64 := by
            have : k = 0 ∨ k = 1 ∨ k = 2 ∨ k = 3 ∨ k = 4 ∨ k = 5 ∨ k = 6 ∨ k = 7 ∨ k = 8 := by omega
            rcases this with rfl | rfl | rfl | rfl | rfl | rfl | rfl | rfl | rfl <;> decide
          have lk : (A + (0 + (k : Int))).toNat < w.length := by omega
          have gw : w[(A + (0 + (k : Int))).toNat]? = some (w[(A + (0 + (k : Int))).toNat]'lk) := List.getElem?_eq_getElem _
          have aw : atI w (A + (0 + (k : Int))) = some (w[(A + (0 + (k : Int))).toNat]'lk) := by rw [atI_at (by omega)]; exact gw
          have ix : ixN w.length (A + (0 + (k : Int))) = some (A + (0 + (k : Int))).toNat := ixN_in (by omega) (by omega)
          generalize w[(A + (0 + (k : Int))).toNat]'lk = bw at gw aw
          (try simp only [Own.e_seq, Own.e_cxK, Own.e_wishK, Own.e_noxK, Own.e_asg, Own.e_gName, Own.e_var, Own.e_C, Own.e_op, Own.e_un, Own.e_rI, Own.e_rI0, Own.e_rU, Own.e_CMul, Own.e_CDiv, Own.e_CPow, Own.e_rEq, Own.e_rNe, Own.e_scal_int, Own.e_scal_str, Own.e_scal_bl, Own.e_ifS, Own.e_test, Own.e_tB, Own.e_ret, Own.e_retN, Own.e_next, Own.e_brk, Own.e_cnt, Own.e_cons, Own.e_nil, Own.e_lst, Own.e_tup, Own.e_drop, Own.e_and, Own.e_or, Own.e_not, Own.e_andV, Own.e_orV, Own.e_notV, Own.e_if, Own.e_chain, Own.e_CB, Own.e_call, Own.e_rIxL, Own.e_rIxT, Own.e_rIxK, Own.e_rIxKT, Own.e_rSlK, Own.e_rLenK, Own.e_rListK, Own.e_rTupleK, Own.e_rSumK, Own.e_rNeK, Own.e_rEqK, Own.e_rIsiK, Own.tyK_int, Own.tyK_bl, Own.tyK_str, Own.tyK_non, Own.tyK_ref, Own.tyO_lst, Own.tyO_tup, Own.kit1, Own.kit2, Own.kit3, Own.kit4, Own.kit5, Own.kit6, Own.kit7, Own.kit8, Own.kit9, Own.hlst_inj, Own.htup_inj, Own.vty_inj, Own.ivs_inj, Own.bz_inj, Own.ivs_len, Own.bz_len, Own.ivs_app, Own.ivs_set, Own.ivs_bset, Own.bz_app, Own.ivs_snoc, Own.bz_snoc, Own.atI_ints, Own.atI_bz, Own.isLst_some, Own.ty_lst, L2.upd_same, L2.upd_upd, Own.b2_xor, Own.b2_mod2, Own.b2_mod3, Own.b2_mod4, Own.b2_flip, Option.map_some, Option.isSome_some, ne_eq, not_false_eq_true, not_true_eq_false, String.reduceEq, Own.e_BM, Own.e_BM0, Own.e_rAppend, Own.e_rCat, Own.e_rRep, Own.e_sl, Own.e_noPart, Own.e_part, Own.e_rSlL, Own.e_gSub, Own.e_rSetL, Own.e_bits, Own.e_yes, Own.e_gTup, Own.e_gNil, Own.e_gCons, Own.e_aug, Own.e_ipI, Own.e_for, Own.e_lc, Own.e_iList, Own.e_iTup, Own.e_iRng1, Own.e_iRng2, Own.e_iEnum, Own.e_iZip, L2.start, L2.wipe, List.map_cons, List.map_nil, List.replicate_succ, List.replicate_zero, List.length_cons, List.length_nil, Nat.reduceAdd, Nat.reduceSub, Nat.zero_add, List.getElem?_cons_zero, List.getElem?_cons_succ, List.set_cons_zero, List.set_cons_succ, Option.some.injEq, L2.V.int.injEq, L2.V.bl.injEq, L2.V.str.injEq, L2.V.ref.injEq, List.cons.injEq, List.cons_append, List.nil_append, List.append_nil, exists_eq_left', exists_eq_left, exists_and_left, exists_and_right, exists_eq, and_true, true_and, reduceCtorEq, false_and, and_false, exists_false, or_false, false_or, true_or, or_true, decide_eq_true_eq, Bool.not_true, Bool.not_false, Bool.not_eq_true', Bool.not_eq_false', decide_eq_false_iff_not, ite_not, if_true, if_false, ite_true, ite_false, Bool.false_eq_true, if_pos trivial, decide_true, decide_false, PySem.sizeLine_eq, Int.reduceNeg, Int.reducePow, Int.reduceLT, Int.reduceLE, Int.reduceToNat, Nat.reduceLeDiff, h8, aw, ix])
          generalize (0 + (k : Int)) * (0 + (k : Int)) = kk at sq ⊢
          have wr : ∀ H2, H2 = upd H'' p8 (.lst (ivs (bz (w.set (A + (0 + (k : Int))).toNat (!bw))))) → (k = 0 ∨ 0 < k) → ∃ (w : List Bool) (y8 : Option V), [some (V.ref a), some (.int i), some (.int z), some (.int v), some (.int (1 + v % 60)), some (.ref p6), some (.ref p8), some (.int A), some (.int (0 + (k : Int))), y9] = [some (.ref a), some (.int i), some (.int z), some (.int v), some (.int (1 + v % 60)), some (.ref p6), some (.ref p8), some (.int A), y8, y9] ∧ Same H4 H2 ∧ H2 p6 = some (.lst (ivs (bz u))) ∧ H2 p8 = some (.lst (ivs (bz w))) ∧ w.length = u.length ∧ (k + 1 = 0 → w = u) ∧ (0 < k + 1 → w[A.toNat]? = some (!bA)) := by
            rintro H2 rfl hk0
            refine ⟨_, _, rfl, same_upd_of smk np8', by rw [upd_ne n68]; exact h6, upd_same, by rw [List.length_set]; exact lw, fun z => absurd z (by omega), fun _ => ?_⟩
            rcases Nat.eq_zero_or_pos k with rfl | kp
            · have e := wz rfl
              subst e
              have e2 : (A + (0 + ((0 : Nat) : Int))).toNat = A.toNat := by omega
              rw [e2] at gw lk ⊢
              rw [gA] at gw
              rw [List.getElem?_set_self lk, Option.some.inj gw]
            · rw [List.getElem?_set_ne (by omega)]
              exact wp kp
          refine ite2 (fun h => at_is (wr _ rfl (by omega))) (fun h => ⟨by omega, ⟨by omega, by omega⟩, ite2 (fun _ => at_is (wr _ rfl (by omega))) (fun _ => at_is ?_)⟩)
          exact ⟨w, _, rfl, smk, h6, h8, lw, fun z => absurd z (by omega), fun _ => wp (by omega)⟩
        · rintro σ Hk ⟨w, y8, rfl, smk, h6, h8, lw, wz, wp⟩
          refine key _ _ ⟨w, p8, _, _, rfl, smk, h6, h8, lw, fun _ => ?_⟩
          have g := zx_get gA (wp (by omega))
          have e : (bA ^^ !bA) = true := by cases bA <;> rfl
          rw [e] at g
          exact List.mem_of_getElem? g
    · rintro σ H' ⟨y1, y2, y3, y4, y5, y6, y7, y8, y9, rfl, sm⟩
      (try simp only [Own.e_seq, Own.e_cxK, Own.e_wishK, Own.e_noxK, Own.e_asg, Own.e_gName, Own.e_var, Own.e_C, Own.e_op, Own.e_un, Own.e_rI, Own.e_rI0, Own.e_rU, Own.e_CMul, Own.e_CDiv, Own.e_CPow, Own.e_rEq, Own.e_rNe, Own.e_scal_int, Own.e_scal_str, Own.e_scal_bl, Own.e_ifS, Own.e_test, Own.e_tB, Own.e_ret, Own.e_retN, Own.e_next, Own.e_brk, Own.e_cnt, Own.e_cons, Own.e_nil, Own.e_lst, Own.e_tup, Own.e_drop, Own.e_and, Own.e_or, Own.e_not, Own.e_andV, Own.e_orV, Own.e_notV, Own.e_if, Own.e_chain, Own.e_CB, Own.e_call, Own.e_rIxL, Own.e_rIxT, Own.e_rIxK, Own.e_rIxKT, Own.e_rSlK, Own.e_rLenK, Own.e_rListK, Own.e_rTupleK, Own.e_rSumK, Own.e_rNeK, Own.e_rEqK, Own.e_rIsiK, Own.tyK_int, Own.tyK_bl, Own.tyK_str, Own.tyK_non, Own.tyK_ref, Own.tyO_lst, Own.tyO_tup, Own.kit1, Own.kit2, Own.kit3, Own.kit4, Own.kit5, Own.kit6, Own.kit7, Own.kit8, Own.kit9, Own.hlst_inj, Own.htup_inj, Own.vty_inj, Own.ivs_inj, Own.bz_inj, Own.ivs_len, Own.bz_len, Own.ivs_app, Own.ivs_set, Own.ivs_bset, Own.bz_app, Own.ivs_snoc, Own.bz_snoc, Own.atI_ints, Own.atI_bz, Own.isLst_some, Own.ty_lst, L2.upd_same, L2.upd_upd, Own.b2_xor, Own.b2_mod2, Own.b2_mod3, Own.b2_mod4, Own.b2_flip, Option.map_some, Option.isSome_some, ne_eq, not_false_eq_true, not_true_eq_false, String.reduceEq, Own.e_BM, Own.e_BM0, Own.e_rAppend, Own.e_rCat, Own.e_rRep, Own.e_sl, Own.e_noPart, Own.e_part, Own.e_rSlL, Own.e_gSub, Own.e_rSetL, Own.e_bits, Own.e_yes, Own.e_gTup, Own.e_gNil, Own.e_gCons, Own.e_aug, Own.e_ipI, Own.e_for, Own.e_lc, Own.e_iList, Own.e_iTup, Own.e_iRng1, Own.e_iRng2, Own.e_iEnum, Own.e_iZip, L2.start, L2.wipe, List.map_cons, List.map_nil, List.replicate_succ, List.replicate_zero, List.length_cons, List.length_nil, Nat.reduceAdd, Nat.reduceSub, Nat.zero_add, List.getElem?_cons_zero, List.getElem?_cons_succ, List.set_cons_zero, List.set_cons_succ, Option.some.injEq, L2.V.int.injEq, L2.V.bl.injEq, L2.V.str.injEq, L2.V.ref.injEq, List.cons.injEq, List.cons_append, List.nil_append, List.append_nil, exists_eq_left', exists_eq_left, exists_and_left, exists_and_right, exists_eq, and_true, true_and, reduceCtorEq, false_and, and_false, exists_false, or_false, false_or, true_or, or_true, decide_eq_true_eq, Bool.not_true, Bool.not_false, Bool.not_eq_true', Bool.not_eq_false', decide_eq_false_iff_not, ite_not, if_true, if_false, ite_true, ite_false, Bool.false_eq_true, if_pos trivial, decide_true, decide_false, PySem.sizeLine_eq, Int.reduceNeg, Int.reducePow, Int.reduceLT, Int.reduceLE, Int.reduceToNat, Nat.reduceLeDiff])
      exact q H'
end
theorem all_mk {l : PySem.W.OpenLaw} {w : World} {K : PySem.W.Frag} {h : Heap} {mg : Str → Option Value} {fa f1 f2 f3 f4 : Addr} (X : K.In h) (G : h.Ns mainGlobals mg) (hfa : mg "law" = some (.ref fa))
    {od1 an1 od2 an2 od3 an3 od4 an4 : Option Addr} {sl1 sl2 sl3 sl4 : Array (Option Value)} {oc1 kV1 dc1 pm1 cd1 ct1 oc2 kV2 dc2 pm2 cd2 ct2 oc3 kV3 dc3 pm3 cd3 ct3 oc4 kV4 dc4 pm4 cd4 ct4 : Value} 
    (a1 : PySem.W.nsIn K mainGlobals "convolve" = some (some (.ref f1)))
    (l1 : K.lookup f1 = some ⟨oc1, od1, .func (PySem.W.fnOf "convolve" "convolve" (defArgs s_convolve) (defBody s_convolve) (defScope s_convolve) .none kV1 dc1 pm1 an1 cd1 ct1), sl1⟩)
    (c1 : PySem.W.codeIn K cd1 "convolve" = true)
    (k1 : PySem.W.keepIn K (.ref f1) = true)
    (a2 : PySem.W.nsIn K mainGlobals "_law_mixed" = some (some (.ref f2)))
    (l2 : K.lookup f2 = some ⟨oc2, od2, .func (PySem.W.fnOf "_law_mixed" "_law_mixed" (defArgs s__law_mixed) (defBody s__law_mixed) (defScope s__law_mixed) .none kV2 dc2 pm2 an2 cd2 ct2), sl2⟩)
    (c2 : PySem.W.codeIn K cd2 "_law_mixed" = true)
    (k2 : PySem.W.keepIn K (.ref f2) = true)
    (a3 : PySem.W.nsIn K mainGlobals "_law_bits" = some (some (.ref f3)))
    (l3 : K.lookup f3 = some ⟨oc3, od3, .func (PySem.W.fnOf "_law_bits" "_law_bits" (defArgs s__law_bits) (defBody s__law_bits) (defScope s__law_bits) .none kV3 dc3 pm3 an3 cd3 ct3), sl3⟩)
    (c3 : PySem.W.codeIn K cd3 "_law_bits" = true)
    (k3 : PySem.W.keepIn K (.ref f3) = true)
    (a4 : PySem.W.nsIn K mainGlobals "law" = some (some (.ref f4)))
    (l4 : K.lookup f4 = some ⟨oc4, od4, .func (PySem.W.fnOf "law" "law" (defArgs s_law) (defBody s_law) (defScope s_law) .none kV4 dc4 pm4 an4 cd4 ct4), sl4⟩)
    (c4 : PySem.W.codeIn K cd4 "law" = true)
    (k4 : PySem.W.keepIn K (.ref f4) = true)
    (z0 : PySem.W.nsIn K mainGlobals "list" = some none)
    (z1 : PySem.W.nsIn K mainGlobals "range" = some none)
    (z2 : PySem.W.nsIn K mainGlobals "len" = some none)
    (z3 : PySem.W.nsIn K mainGlobals "int" = some none)
    (z4 : PySem.W.nsIn K mainGlobals "enumerate" = some none)
    (z5 : PySem.W.nsIn K mainGlobals "min" = some none) :
    ∃ fd : FuncData, (∀ (s : Shared) (v : Value), BindsTo s fd ⟨[v], []⟩ [("script", v)]) ∧ ∀ base : Heap, K.In base → base.Ns mainGlobals mg → FnOk l.prog w K mg base CX0 2 fa fd ["script"] (sp_law K) := by
  have e := hfa.symm.trans (PySem.W.mg_of X G a4)
  cases e
  have B : BI mg := ⟨PySem.W.mg_none_of X G z0, PySem.W.mg_none_of X G z1, PySem.W.mg_none_of X G z2, PySem.W.mg_none_of X G z3, PySem.W.mg_none_of X G z4, PySem.W.mg_none_of X G z5⟩
  refine ⟨PySem.W.fnOf "law" "law" (defArgs s_law) (defBody s_law) (defScope s_law) .none kV4 dc4 pm4 an4 cd4 ct4, fun s v => .of_eq rfl, fun base _ _ => ?_⟩
  have F1 := fun_mk (st := s_convolve) l1 c1 k1
  have C1 : Cal l.prog w K mg base CX0 1 "convolve" f1 _ ["bits"] (sp_convolve K) := ⟨ok_convolve F1 B  , F1.binds (ps := ["bits"]) fun _ _ _ _ _ _ us hl => match us, hl with | [_], _ => rfl, PySem.W.mg_of X G a1, k1⟩
  have F2 := fun_mk (st := s__law_mixed) l2 c2 k2
  have C2 : Cal l.prog w K mg base CX0 1 "_law_mixed" f2 _ ["cell", "turn"] (sp__law_mixed K) := ⟨ok__law_mixed F2 B  , F2.binds (ps := ["cell", "turn"]) fun _ _ _ _ _ _ us hl => match us, hl with | [_, _], _ => rfl, PySem.W.mg_of X G a2, k2⟩
  have F3 := fun_mk (st := s__law_bits) l3 c3 k3
  have C3 : Cal l.prog w K mg base CX0 1 "_law_bits" f3 _ ["value", "many"] (sp__law_bits K) := ⟨ok__law_bits F3 B  , F3.binds (ps := ["value", "many"]) fun _ _ _ _ _ _ us hl => match us, hl with | [_, _], _ => rfl, PySem.W.mg_of X G a3, k3⟩
  have F4 := fun_mk (st := s_law) l4 c4 k4
  exact ok_law F4 B  C2 C3 C1
end Own
open PySem PySem.W PyProof.Rows
set_option maxHeartbeats 0 in
theorem PySem.Challenge.cw_mobileair_k06_coded_rows_are_far_apart_holds : PySem.Challenge.rw_mobileair_k06_coded_rows_are_far_apart.Holds := by
  w_on; o_law; k_head; (case hw => w_witness2)
  k_fill
  refine L2.walk_of (l := PySem.Challenge.rw_mobileair_k06_coded_rows_are_far_apart) (n := 63) (k := 2) (x := "script") (CX := fun _ => L2.CX0) (sp := fun w => Own.sp_law _) rfl (by decide) rfl ⟨rfl, by decide, by decide⟩ (fun w h Y => PySem.W.kIn_of Y) ?F (fun _ _ a ns hl _ hS => ⟨a, ns, rfl, hS, hl, fun _ => rfl⟩) (fun _ _ _ _ _ h => h)
  case F =>
    intro w mg fa h KX G hmg
    refine' Own.all_mk KX G hmg ?a1 ?l1 ?c1 ?k1 ?a2 ?l2 ?c2 ?k2 ?a3 ?l3 ?c3 ?k3 ?a4 ?l4 ?c4 ?k4 ?z0 ?z1 ?z2 ?z3 ?z4 ?z5
    (case a1 => k_is); (case l1 => k_is); (case c1 => k_is); (case k1 => k_is); (case a2 => k_is); (case l2 => k_is); (case c2 => k_is); (case k2 => k_is); (case a3 => k_is); (case l3 => k_is); (case c3 => k_is); (case k3 => k_is); (case a4 => k_is); (case l4 => k_is); (case c4 => k_is); (case k4 => k_is); (case z0 => k_is); (case z1 => k_is); (case z2 => k_is); (case z3 => k_is); (case z4 => k_is); (case z5 => k_is)
