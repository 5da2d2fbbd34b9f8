import PyProof.Rows.All
import Wide.All
import OpenK.AllK
import Wide.FinOn
import HandS.Base
import HandS.Call
import HandS.List
import HandS.Comp
import HandS.Iter
import HandS.Ends
import HandS.Words
import HandS.Text
import KE.KDictZip
import KE.KDictList
import PyProof.Rows.ZipGen
import HandS.Conv
import HandS.More
import HandS.Property
import HandS.Style
import PyProof.MaxThree
import PyProof.ReprRoads
import HandS.MakeKwOnly
import HandS.Exc
import HandS.ExcInit
import HandS.ExcIs
import HandS.ExcField
import HandS.ExcOwn
import HandS.WordsExc
import HandS.RaiseMore
import KE.GoesMore
import HandS.RevTup
import HandS.Star
import KE.GoesEnum
import PyProof.Rows.RegFStrParts
import PyProof.Rows.ReprShort
import PyProof.StrBlock2
import PyProof.Rows.StrFit
import PyProof.StrLawsIn
import HandS.OwnEq
import PyProof.InstNe
import HandS.IsInst
import HandS.Codes
import PyProof.EqKinds
import PyProof.MeetsIn
import PyProof.Rows.StrDigitsNeg
import HandS.Steps
import HandS.TupAny
import PySem.Challenge.RW_owedafresh_k05_equal_rules
set_option Elab.async false
set_option linter.all false
set_option maxRecDepth 100000
/-! The words of the walks of one's own: each construct's reading as one backward step, named by its head. -/
namespace Ow
open PySem L2

/-! ### named operations on values -/
def oAdd : R2 := rI0 fun i j => .int (i + j)
def oSub : R2 := rI0 fun i j => .int (i - j)
def oMul : R2 := rI CMul fun i j => .int (i * j)
def oDiv : R2 := rI CDiv fun i j => .int (i / j)
def oMod : R2 := rI (fun _ j => 0 < j) fun i j => .int (i % j)
def oPow : R2 := rI CPow fun i j => .int (i ^ j.toNat)
def oLt : R2 := rI0 fun i j => .bl (decide (i < j))
def oLe : R2 := rI0 fun i j => .bl (decide (i ≤ j))
def oGt : R2 := rI0 fun i j => .bl (decide (j < i))
def oGe : R2 := rI0 fun i j => .bl (decide (j ≤ i))
def oCatS : R2 := fun x y H Q => ∃ i j, x = .str i ∧ y = .str j ∧ i.length + j.length ≤ sizeLine ∧ Q (.str (i ++ j)) H
def oNeg : V → Hp → VK → Prop := rU fun i => .int (-i)
abbrev RC := List V → Hp → VK → Prop
def rLen (K : PySem.W.Frag) : RC := fun xs H Q => ∃ p ys, xs = [.ref p] ∧ (SqL K H p ys ∨ SqT K H p ys) ∧ Q (.int ys.length) H
def rLenS : RC := fun xs H Q => ∃ z, xs = [.str z] ∧ z.length ≤ sizeLine ∧ Q (.int z.length) H
def rMax2 : RC := fun xs H Q => ∃ i j, xs = [.int i, .int j] ∧ Q (.int (if j > i then j else i)) H
def rMin2 : RC := fun xs H Q => ∃ i j, xs = [.int i, .int j] ∧ Q (.int (if j < i then j else i)) H
def rInt1 : RC := fun xs H Q => (∃ i, xs = [.int i] ∧ Q (.int i) H) ∨ ∃ k, xs = [.bl k] ∧ Q (.int (if k then 1 else 0)) H
def rList1 (K : PySem.W.Frag) : RC := fun xs H Q => ∃ p ys, xs = [.ref p] ∧ (SqL K H p ys ∨ SqT K H p ys) ∧ ∀ l, H l = none → Q (.ref l) (upd H l (.lst ys))
def rDivmod : RC := fun xs H Q => ∃ i j, xs = [.int i, .int j] ∧ CDiv i j ∧ ∀ p, H p = none → Q (.ref p) (upd H p (.tup [.int (i / j), .int (i % j)]))

/-! ### statements -/
section
variable {nx : St → Hp → Prop} {rt : VK} {bk ct : St → Hp → Prop} {σ : St} {H : Hp} {t u : TS} {te : TE} {g : TG} {c : TT} {ta : TA} {i j : Nat}
theorem w_seq (h : t ⟨u ⟨nx, rt, bk, ct⟩, rt, bk, ct⟩ σ H) : tSeq t u ⟨nx, rt, bk, ct⟩ σ H := h
theorem w_next (h : nx σ H) : tNext ⟨nx, rt, bk, ct⟩ σ H := h
theorem w_asg (h : te σ H fun x H1 => g x σ H1 nx) : tAsg te g ⟨nx, rt, bk, ct⟩ σ H := h
theorem w_drop (h : te σ H fun _ H1 => nx σ H1) : tDrop te ⟨nx, rt, bk, ct⟩ σ H := h
theorem w_ret (h : te σ H rt) : tRet te ⟨nx, rt, bk, ct⟩ σ H := h
theorem w_if (h : c σ H fun b H1 => if b = true then t ⟨nx, rt, bk, ct⟩ σ H1 else u ⟨nx, rt, bk, ct⟩ σ H1) : tIfS c t u ⟨nx, rt, bk, ct⟩ σ H := h
theorem w_brk (h : bk σ H) : tBreak ⟨nx, rt, bk, ct⟩ σ H := h
theorem w_cont (h : ct σ H) : tCont ⟨nx, rt, bk, ct⟩ σ H := h
def parK (i j : Nat) (nx : St → Hp → Prop) (σ : St) (vs : List V) (H : Hp) : Prop := ∃ v w, vs = [v, w] ∧ nx ((σ.set i (some v)).set j (some w)) H
theorem w_par (h : ta σ H fun vs H1 => parK i j nx σ vs H1) : tPar i j ta ⟨nx, rt, bk, ct⟩ σ H := h
theorem w_parK {v w : V} {σ' : St} (e : (σ.set i (some v)).set j (some w) = σ') (h : nx σ' H) : parK i j nx σ [v, w] H := ⟨v, w, rfl, by rw [e]; exact h⟩
theorem w_name {v : V} {σ' : St} {Q : St → Hp → Prop} (e : σ.set i (some v) = σ') (h : Q σ' H) : gName i v σ H Q := by
  show Q (σ.set i (some v)) H
  rw [e]; exact h
end

/-! ### expressions -/
section
variable {σ : St} {H : Hp} {Q : VK} {i j : Int} {v x y : V} {ta tb te : TE} {r : R2} {k n : Nat} {K : PySem.W.Frag} {tl : TA} {a : Addr}
theorem w_var (h : σ[k]? = some (some v)) (q : Q v H) : tVar k σ H Q := ⟨v, h, q⟩
theorem w_c (q : Q v H) : tC v σ H Q := q
theorem w_op (h : ta σ H fun x H1 => tb σ H1 fun y H2 => r x y H2 Q) : tOp r ta tb σ H Q := h
theorem w_un {f : V → Hp → VK → Prop} (h : ta σ H fun x H1 => f x H1 Q) : tUn f ta σ H Q := h
theorem w_add (q : Q (.int (i + j)) H) : oAdd (.int i) (.int j) H Q := ⟨i, j, rfl, rfl, q⟩
theorem w_sub (q : Q (.int (i - j)) H) : oSub (.int i) (.int j) H Q := ⟨i, j, rfl, rfl, q⟩
theorem w_mul (hc : CMul i j) (q : Q (.int (i * j)) H) : oMul (.int i) (.int j) H Q := ⟨i, j, rfl, rfl, hc, q⟩
theorem w_div (hc : CDiv i j) (q : Q (.int (i / j)) H) : oDiv (.int i) (.int j) H Q := ⟨i, j, rfl, rfl, hc, q⟩
theorem w_mod (hc : 0 < j) (q : Q (.int (i % j)) H) : oMod (.int i) (.int j) H Q := ⟨i, j, rfl, rfl, hc, q⟩
theorem w_pow (hc : CPow i j) (q : Q (.int (i ^ j.toNat)) H) : oPow (.int i) (.int j) H Q := ⟨i, j, rfl, rfl, hc, q⟩
theorem cmulL (h : -18446744073709551616 < i) (h' : i < 18446744073709551616) : CMul i j := .inl ⟨h, h'⟩
theorem cmulR (h : -18446744073709551616 < j) (h' : j < 18446744073709551616) : CMul i j := .inr ⟨h, h'⟩
theorem cdiv (h : 0 < j) (h' : j < 1073741824) : CDiv i j := ⟨h, h'⟩
theorem cpow (h0 : 0 ≤ j) (h1 : j ≤ 1000000) (h : -18446744073709551616 < i) (h' : i < 18446744073709551616) : CPow i j := ⟨h0, h1, by omega⟩
theorem w_neg (q : Q (.int (-i)) H) : oNeg (.int i) H Q := ⟨i, rfl, q⟩
theorem w_lt (q : Q (.bl (decide (i < j))) H) : oLt (.int i) (.int j) H Q := ⟨i, j, rfl, rfl, q⟩
theorem w_le (q : Q (.bl (decide (i ≤ j))) H) : oLe (.int i) (.int j) H Q := ⟨i, j, rfl, rfl, q⟩
theorem w_gt (q : Q (.bl (decide (j < i))) H) : oGt (.int i) (.int j) H Q := ⟨i, j, rfl, rfl, q⟩
theorem w_ge (q : Q (.bl (decide (j ≤ i))) H) : oGe (.int i) (.int j) H Q := ⟨i, j, rfl, rfl, q⟩
theorem dec_eqI : decide (V.int i = V.int j) = decide (i = j) := by
  by_cases h : i = j
  · subst h; simp
  · rw [decide_eq_false h, decide_eq_false]
    intro e; exact h (V.int.inj e)
theorem dec_eqS {s t : Str} : decide (V.str s = V.str t) = decide (s = t) := by
  by_cases h : s = t
  · subst h; simp
  · rw [decide_eq_false h, decide_eq_false]
    intro e; exact h (V.str.inj e)
theorem w_eqI (q : Q (.bl (decide (i = j))) H) : rEq (.int i) (.int j) H Q := ⟨rfl, by rw [dec_eqI]; exact q⟩
theorem w_neI (q : Q (.bl (!decide (i = j))) H) : rNe (.int i) (.int j) H Q := ⟨rfl, by rw [dec_eqI]; exact q⟩
theorem w_eqS {s t : Str} (q : Q (.bl (decide (s = t))) H) : rEq (.str s) (.str t) H Q := ⟨rfl, by rw [dec_eqS]; exact q⟩
theorem w_catS {s t : Str} (hl : s.length + t.length ≤ sizeLine) (q : Q (.str (s ++ t)) H) : oCatS (.str s) (.str t) H Q := ⟨s, t, rfl, rfl, hl, q⟩
theorem w_nil {Q : List V → Hp → Prop} (q : Q [] H) : tNil σ H Q := q
theorem w_cons {Q : List V → Hp → Prop} (h : te σ H fun x H1 => tl σ H1 fun xs H2 => Q (x :: xs) H2) : tCons te tl σ H Q := h
theorem w_cb {f : RC} (h : tl σ H fun vs H1 => f vs H1 Q) : tCB f tl σ H Q := h
theorem w_len {xs : List V} (h : SqL K H a xs) (q : Q (.int xs.length) H) : rLen K [.ref a] H Q := ⟨a, xs, rfl, .inl h, q⟩
theorem w_lenT {xs : List V} (h : SqT K H a xs) (q : Q (.int xs.length) H) : rLen K [.ref a] H Q := ⟨a, xs, rfl, .inr h, q⟩
theorem w_lenS {z : Str} (h : z.length ≤ sizeLine) (q : Q (.int z.length) H) : rLenS [.str z] H Q := ⟨z, rfl, h, q⟩
theorem w_max2 (q : Q (.int (if j > i then j else i)) H) : rMax2 [.int i, .int j] H Q := ⟨i, j, rfl, q⟩
theorem w_min2 (q : Q (.int (if j < i then j else i)) H) : rMin2 [.int i, .int j] H Q := ⟨i, j, rfl, q⟩
theorem w_intI (q : Q (.int i) H) : rInt1 [.int i] H Q := .inl ⟨i, rfl, q⟩
theorem w_intB {b : Bool} (q : Q (.int (if b then 1 else 0)) H) : rInt1 [.bl b] H Q := .inr ⟨b, rfl, q⟩
theorem w_list1 {xs : List V} (h : SqL K H a xs) (q : ∀ l, H l = none → Q (.ref l) (upd H l (.lst xs))) : rList1 K [.ref a] H Q := ⟨a, xs, rfl, .inl h, q⟩
theorem w_divmod (hc : CDiv i j) (q : ∀ p, H p = none → Q (.ref p) (upd H p (.tup [.int (i / j), .int (i % j)]))) : rDivmod [.int i, .int j] H Q := ⟨i, j, rfl, hc, q⟩
theorem w_sum {ns : List Int} (h : SqL K H a (ns.map V.int)) (q : Q (.int ns.sum) H) : rSum K [.ref a] H Q := ⟨a, ns, rfl, h, q⟩
theorem w_ixL {xs : List V} (h : SqL K H a xs) (e : atI xs i = some v) (q : Q v H) : rIxL K (.ref a) (.int i) H Q := ⟨a, xs, i, v, rfl, rfl, h, e, q⟩
theorem w_ixT {xs : List V} (h : SqT K H a xs) (e : atI xs i = some v) (q : Q v H) : rIxT K (.ref a) (.int i) H Q := ⟨a, xs, i, v, rfl, rfl, h, e, q⟩
def lstK (Q : VK) (vs : List V) (H : Hp) : Prop := vs.length ≤ sizeLine ∧ ∀ p, H p = none → Q (.ref p) (upd H p (.lst vs))
def tupK (Q : VK) (vs : List V) (H : Hp) : Prop := vs.length ≤ sizeLine ∧ ∀ p, H p = none → Q (.ref p) (upd H p (.tup vs))
theorem w_lst (h : tl σ H fun vs H1 => lstK Q vs H1) : tLst tl σ H Q := h
theorem w_tup (h : tl σ H fun vs H1 => tupK Q vs H1) : tTup tl σ H Q := h
theorem w_lstK {vs : List V} (hl : vs.length ≤ 100000) (q : ∀ p, H p = none → Q (.ref p) (upd H p (.lst vs))) : lstK Q vs H := ⟨Nat.le_trans hl (by decide), q⟩
theorem w_tupK {vs : List V} (hl : vs.length ≤ 100000) (q : ∀ p, H p = none → Q (.ref p) (upd H p (.tup vs))) : tupK Q vs H := ⟨Nat.le_trans hl (by decide), q⟩
theorem w_call {sp : Sp} {E : XK} (h : tl σ H fun vs H1 => sp vs H1 Q E) : tCall sp [] E tl σ H Q := by
  have e : (fun (vs : List V) H1 => sp (vs ++ []) H1 Q E) = fun vs H1 => sp vs H1 Q E := by
    funext vs H1; rw [List.append_nil]
  show tl σ H fun vs H1 => sp (vs ++ []) H1 Q E
  rw [e]; exact h
/-! tests -/
def testK (Q : Bool → Hp → Prop) (x : V) (H : Hp) : Prop := ∃ k, x = .bl k ∧ Q k H
theorem w_test {Q : Bool → Hp → Prop} (h : te σ H fun x H1 => testK Q x H1) : tTest te σ H Q := h
theorem w_tB {Q : Bool → Hp → Prop} (h : te σ H fun x H1 => testK Q x H1) : tB te σ H Q := h
theorem w_testK {Q : Bool → Hp → Prop} {b : Bool} (q : Q b H) : testK Q (.bl b) H := ⟨b, rfl, q⟩
variable {t u : TT}
theorem w_and {Q : Bool → Hp → Prop} (h : t σ H fun c H1 => if c = true then u σ H1 Q else Q false H1) : tAnd t u σ H Q := h
theorem w_or {Q : Bool → Hp → Prop} (h : t σ H fun c H1 => if c = true then Q true H1 else u σ H1 Q) : tOr t u σ H Q := h
theorem w_not {Q : Bool → Hp → Prop} (h : t σ H fun c H1 => Q (!c) H1) : tNot t σ H Q := h
theorem w_tIf (h : t σ H fun c H1 => if c = true then ta σ H1 Q else tb σ H1 Q) : tIf t ta tb σ H Q := h
theorem w_ite {p : Prop} [Decidable p] {A B : Prop} (h1 : p → A) (h2 : ¬ p → B) : if decide p = true then A else B := by
  by_cases h : p
  · rw [decide_eq_true h]; exact h1 h
  · rw [decide_eq_false h]
    show if false = true then A else B
    rw [if_neg Bool.false_ne_true]; exact h2 h
theorem w_iteN {p : Prop} [Decidable p] {A B : Prop} (h1 : ¬ p → A) (h2 : p → B) : if (!decide p) = true then A else B := by
  by_cases h : p
  · rw [decide_eq_true h]
    show if false = true then A else B
    rw [if_neg Bool.false_ne_true]; exact h2 h
  · rw [decide_eq_false h]; exact h1 h
theorem w_iteB {b : Bool} {A B : Prop} (h1 : b = true → A) (h2 : b = false → B) : if b = true then A else B := by
  cases b with
  | true => exact h1 rfl
  | false => rw [if_neg Bool.false_ne_true]; exact h2 rfl
/-- at p stands o now, all else as it was -/
structure Ch (p : Addr) (o : HO) (H H' : Hp) : Prop where
  at_ : H' p = some o
  els : ∀ b, b ≠ p → H' b = H b
theorem Ch.upd {p : Addr} {o : HO} {H : Hp} : Ch p o H (upd H p o) := ⟨upd_same, fun _ n => upd_ne n⟩
theorem w_lstN {vs : List V} (hl : vs.length ≤ 100000) (q : ∀ p H', H p = none → Ch p (.lst vs) H H' → Q (.ref p) H') : lstK Q vs H := w_lstK hl fun p hp => q p _ hp Ch.upd
theorem w_tupN {vs : List V} (hl : vs.length ≤ 100000) (q : ∀ p H', H p = none → Ch p (.tup vs) H H' → Q (.ref p) H') : tupK Q vs H := w_tupK hl fun p hp => q p _ hp Ch.upd
theorem w_list1N {xs : List V} (h : SqL K H a xs) (q : ∀ l H', H l = none → Ch l (.lst xs) H H' → Q (.ref l) H') : rList1 K [.ref a] H Q := w_list1 h fun l hl => q l _ hl Ch.upd
theorem w_divmodN (hc : CDiv i j) (q : ∀ p H', H p = none → Ch p (.tup [.int (i / j), .int (i % j)]) H H' → Q (.ref p) H') : rDivmod [.int i, .int j] H Q := w_divmod hc fun p hp => q p _ hp Ch.upd
/-! stores -/
def subK (t : TSet) (σ : St) (Q : St → Hp → Prop) (o i v : V) (H : Hp) : Prop := t o i v H fun H3 => Q σ H3
theorem w_gSub {to ti : TE} {t : TSet} {Q : St → Hp → Prop} (h : to σ H fun o H1 => ti σ H1 fun i H2 => subK t σ Q o i v H2) : gSub to ti t v σ H Q := h
theorem w_setL {xs : List V} {m : Nat} {Q : St → Hp → Prop} (h : H a = some (.lst xs)) (e : ixN xs.length i = some m) (q : Q σ (upd H a (.lst (xs.set m v)))) : subK rSetL σ Q (.ref a) (.int i) v H :=
  ⟨a, xs, i, m, rfl, rfl, h, e, q⟩
theorem w_setN {xs ys : List V} {m : Nat} {Q : St → Hp → Prop} (h : H a = some (.lst xs)) (e : ixN xs.length i = some m) (e2 : xs.set m v = ys) (q : ∀ H', Ch a (.lst ys) H H' → Q σ H') : subK rSetL σ Q (.ref a) (.int i) v H :=
  w_setL h e (by rw [e2]; exact q _ Ch.upd)
/-! fields -/
def fldK (K : PySem.W.Frag) (f : Str) (Q : VK) (x : V) (H : Hp) : Prop := ∃ a C dx fs v, x = .ref a ∧ H a = some (.ins C dx fs) ∧ Cls K C ∧ NoAttr K C f ∧ fs.lookup f = some v ∧ Q v H
theorem w_fld {f : Str} (h : ta σ H fun x H1 => fldK K f Q x H1) : tFld K ta f σ H Q := h
theorem w_fldK {f : Str} {C dx : Addr} {fs : List (Str × V)} (h : H a = some (.ins C dx fs)) (c : Cls K C) (n : NoAttr K C f) (l : fs.lookup f = some v) (q : Q v H) : fldK K f Q (.ref a) H := ⟨a, C, dx, fs, v, rfl, h, c, n, l, q⟩
end
end Ow

set_option Elab.async false
set_option linter.all false
set_option maxRecDepth 100000
/-! What a value is in plain Lean: lists, tuples, ints and texts over the abstract heap; what stays when the heap grows. -/
namespace Ow
open PySem L2

/-! ### what stays -/
def Kw (w : Addr) (H H' : Hp) : Prop := ∀ b o, b ≠ w → H b = some o → H' b = some o
theorem Kw.refl {w : Addr} {H : Hp} : Kw w H H := fun _ _ _ h => h
theorem Kw.trans {w : Addr} {H H1 H2 : Hp} (a : Kw w H H1) (b : Kw w H1 H2) : Kw w H H2 := fun c o n h => b c o n (a c o n h)
theorem Kw.put {w : Addr} {H H1 : Hp} {p : Addr} {o : HO} (a : Kw w H H1) (h : H p = none) : Kw w H (upd H1 p o) := fun c u n e => by
  rw [upd_ne (ne_of_none e h)]; exact a c u n e
theorem Kw.self {w : Addr} {H H1 : Hp} {o : HO} (a : Kw w H H1) : Kw w H (upd H1 w o) := fun c u n e => by
  rw [upd_ne n]; exact a c u n e
theorem Kw.of {w : Addr} {H H1 : Hp} (s : Same H H1) : Kw w H H1 := fun c u _ e => s c u e
theorem Kw.free {w b : Addr} {H H' : Hp} (a : Kw w H H') (n : b ≠ w) (h : H' b = none) : H b = none := by
  cases e : H b with
  | none => rfl
  | some o => rw [a b o n e] at h; cases h
theorem sput {H H1 : Hp} {p : Addr} {o : HO} (a : Same H H1) (h : H p = none) : Same H (upd H1 p o) := fun c u e => by
  rw [upd_ne (ne_of_none e h)]; exact a c u e
theorem snew {H : Hp} {p : Addr} {o : HO} (h : H p = none) : Same H (upd H p o) := sput (Same.refl H) h

theorem Ch.same {p : Addr} {o : HO} {H H' : Hp} (c : Ch p o H H') (h : H p = none) : Same H H' := fun b u e => by
  rw [c.els b (ne_of_none e h)]; exact e
theorem Kw.ch {w p : Addr} {o : HO} {H0 H H' : Hp} (k : Kw w H0 H) (h : H0 p = none) (c : Ch p o H H') : Kw w H0 H' := fun b u n e => by
  rw [c.els b (ne_of_none e h)]; exact k b u n e
theorem Kw.chw {w : Addr} {o : HO} {H0 H H' : Hp} (k : Kw w H0 H) (c : Ch w o H H') : Kw w H0 H' := fun b u n e => by
  rw [c.els b n]; exact k b u n e
theorem sch {p : Addr} {o : HO} {H0 H H' : Hp} (k : Same H0 H) (h : H0 p = none) (c : Ch p o H H') : Same H0 H' := fun b u e => by
  rw [c.els b (ne_of_none e h)]; exact k b u e
theorem Ch.keep {p b : Addr} {o u : HO} {H H' : Hp} (c : Ch p o H H') (n : b ≠ p) (e : H b = some u) : H' b = some u := by
  rw [c.els b n]; exact e
/-! ### two lists, item by item -/
inductive All2 {α β : Type} (R : α → β → Prop) : List α → List β → Prop where
  | nil : All2 R [] []
  | cons {x y xs ys} : R x y → All2 R xs ys → All2 R (x :: xs) (y :: ys)
namespace All2
variable {α β : Type} {R R' : α → β → Prop}
theorem imp (h : ∀ x y, R x y → R' x y) : ∀ {xs ys}, All2 R xs ys → All2 R' xs ys
  | _, _, .nil => .nil
  | _, _, .cons a b => .cons (h _ _ a) (imp h b)
theorem length : ∀ {xs : List α} {ys : List β}, All2 R xs ys → xs.length = ys.length
  | _, _, .nil => rfl
  | _, _, .cons _ b => congrArg Nat.succ (length b)
theorem get : ∀ {xs : List α} {ys : List β} {i : Nat} {x : α}, All2 R xs ys → xs[i]? = some x → ∃ y, ys[i]? = some y ∧ R x y
  | _, _, _, _, .nil, h => by simp at h
  | _, _, 0, _, .cons a _, h => by simp at h; subst h; exact ⟨_, rfl, a⟩
  | _, _, i + 1, _, .cons _ b, h => by
    obtain ⟨y, h1, h2⟩ := get (i := i) b (by simpa using h)
    exact ⟨y, by simpa using h1, h2⟩
theorem getR : ∀ {xs : List α} {ys : List β} {i : Nat} {y : β}, All2 R xs ys → ys[i]? = some y → ∃ x, xs[i]? = some x ∧ R x y
  | _, _, _, _, .nil, h => by simp at h
  | _, _, 0, _, .cons a _, h => by simp at h; subst h; exact ⟨_, rfl, a⟩
  | _, _, i + 1, _, .cons _ b, h => by
    obtain ⟨y, h1, h2⟩ := getR (i := i) b (by simpa using h)
    exact ⟨y, by simpa using h1, h2⟩
theorem append : ∀ {xs xs' : List α} {ys ys' : List β}, All2 R xs ys → All2 R xs' ys' → All2 R (xs ++ xs') (ys ++ ys')
  | _, _, _, _, .nil, h => h
  | _, _, _, _, .cons a b, h => .cons a (append b h)
theorem one {x : α} {y : β} (h : R x y) : All2 R [x] [y] := .cons h .nil
theorem set : ∀ {xs : List α} {ys : List β} {i : Nat} {x : α} {y : β}, All2 R xs ys → R x y → All2 R (xs.set i x) (ys.set i y)
  | _, _, _, _, _, .nil, _ => .nil
  | _, _, 0, _, _, .cons _ b, h => .cons h b
  | _, _, i + 1, _, _, .cons a b, h => .cons a (set b h)
theorem take : ∀ {xs : List α} {ys : List β} (n : Nat), All2 R xs ys → All2 R (xs.take n) (ys.take n)
  | _, _, 0, _ => .nil
  | _, _, _ + 1, .nil => .nil
  | _, _, n + 1, .cons a b => .cons a (take n b)
theorem drop : ∀ {xs : List α} {ys : List β} (n : Nat), All2 R xs ys → All2 R (xs.drop n) (ys.drop n)
  | _, _, 0, h => h
  | _, _, _ + 1, .nil => .nil
  | _, _, n + 1, .cons _ b => drop n b
theorem map {γ : Type} {f : γ → α} {g : γ → β} (h : ∀ z, R (f z) (g z)) : ∀ zs : List γ, All2 R (zs.map f) (zs.map g)
  | [] => .nil
  | z :: zs => .cons (h z) (map h zs)
theorem eq_map {f : β → α} : ∀ {xs : List α} {ys : List β}, All2 (fun x y => x = f y) xs ys → xs = ys.map f
  | _, _, .nil => rfl
  | _, _, .cons a b => by rw [a, eq_map b]; rfl
theorem map_eq {f : β → α} : ∀ {ys : List β}, All2 (fun x y => x = f y) (ys.map f) ys
  | [] => .nil
  | _ :: _ => .cons rfl map_eq
end All2

/-! ### families: what a value is, over the addresses S -/
abbrev Fam (α : Type) := (Addr → Prop) → Hp → V → α → Prop
structure Good {α : Type} (F : Fam α) : Prop where
  mono : ∀ {S S' : Addr → Prop} {H v x}, (∀ a, S a → S' a) → F S H v x → F S' H v x
  keep : ∀ {S : Addr → Prop} {H H' v x}, (∀ a o, S a → H a = some o → H' a = some o) → F S H v x → F S H' v x
  there : ∀ {S : Addr → Prop} {H v x}, F S H v x → F (fun a => S a ∧ H a ≠ none) H v x
def fI : Fam Int := fun _ _ v i => v = .int i
def fS : Fam Str := fun _ _ v s => v = .str s
def fL {α : Type} (F : Fam α) : Fam (List α) := fun S H v xs => ∃ a vs, v = .ref a ∧ S a ∧ H a = some (.lst vs) ∧ All2 (F S H) vs xs
def fT {α β : Type} (F : Fam α) (G : Fam β) : Fam (α × β) := fun S H v x => ∃ a u w, v = .ref a ∧ S a ∧ H a = some (.tup [u, w]) ∧ F S H u x.1 ∧ G S H w x.2
theorem gI : Good fI := ⟨fun _ h => h, fun _ h => h, fun h => h⟩
theorem gS : Good fS := ⟨fun _ h => h, fun _ h => h, fun h => h⟩
theorem gL {α : Type} {F : Fam α} (g : Good F) : Good (fL F) :=
  ⟨fun m ⟨a, vs, e, s, h, r⟩ => ⟨a, vs, e, m a s, h, r.imp fun _ _ q => g.mono m q⟩,
   fun k ⟨a, vs, e, s, h, r⟩ => ⟨a, vs, e, s, k a _ s h, r.imp fun _ _ q => g.keep k q⟩,
   fun ⟨a, vs, e, s, h, r⟩ => ⟨a, vs, e, ⟨s, by rw [h]; exact fun z => nomatch z⟩, h, r.imp fun _ _ q => g.there q⟩⟩
theorem gT {α β : Type} {F : Fam α} {G : Fam β} (f : Good F) (g : Good G) : Good (fT F G) :=
  ⟨fun m ⟨a, u, w, e, s, h, p, q⟩ => ⟨a, u, w, e, m a s, h, f.mono m p, g.mono m q⟩,
   fun k ⟨a, u, w, e, s, h, p, q⟩ => ⟨a, u, w, e, s, k a _ s h, f.keep k p, g.keep k q⟩,
   fun ⟨a, u, w, e, s, h, p, q⟩ => ⟨a, u, w, e, ⟨s, by rw [h]; exact fun z => nomatch z⟩, h, f.there p, g.there q⟩⟩
/-- all but w -/
abbrev Nw (w : Addr) : Addr → Prop := fun a => a ≠ w
/-- new since H -/
abbrev New (H : Hp) : Addr → Prop := fun a => H a = none
abbrev Any : Addr → Prop := fun _ => True
section
variable {α : Type} {F : Fam α} {S : Addr → Prop} {H H' H0 : Hp} {v : V} {x : α} {w p : Addr} {o : HO}
theorem Good.kw (g : Good F) (k : Kw w H H') (h : F (Nw w) H v x) : F (Nw w) H' v x := g.keep (fun a o n e => k a o n e) h
theorem Good.same (g : Good F) (k : Same H H') (h : F S H v x) : F S H' v x := g.keep (fun a o _ e => k a o e) h
theorem Good.any (g : Good F) (h : F S H v x) : F Any H v x := g.mono (fun _ _ => trivial) h
/-- what is new since H is not what H knows -/
theorem Good.nw (g : Good F) (hw : H0 w ≠ none) (h : F (New H0) H v x) : F (Nw w) H v x := g.mono (fun a e z => by subst z; exact hw e) h
/-- what stands is not the free place -/
theorem Good.off (g : Good F) (hp : H p = none) (h : F S H v x) : F (fun a => S a ∧ a ≠ p) H v x := g.mono (fun a e => ⟨e.1, fun z => by subst z; exact e.2 hp⟩) (g.there h)
theorem Good.put (g : Good F) (hp : H p = none) (h : F S H v x) : F S (upd H p o) v x := g.same (snew hp) h
end
theorem ints_of {S : Addr → Prop} {H : Hp} {v : V} {ns : List Int} (h : fL fI S H v ns) : ∃ a, v = .ref a ∧ S a ∧ H a = some (.lst (ns.map V.int)) := by
  obtain ⟨a, vs, e, s, h, r⟩ := h
  exact ⟨a, e, s, by rw [h, All2.eq_map r]⟩
theorem ints_mk {S : Addr → Prop} {H : Hp} {a : Addr} {ns : List Int} (s : S a) (h : H a = some (.lst (ns.map V.int))) : fL fI S H (.ref a) ns := ⟨a, _, rfl, s, h, All2.map_eq⟩

/-! ### the well -/
def Well (H : Hp) (w : Addr) (k : Nat) : Prop := ∃ a b : Int, ∃ n : Nat, n ≤ k ∧ H w = some (.lst [.int a, .int b, .int n])
theorem Well.some {H : Hp} {w : Addr} {k : Nat} (h : Well H w k) : H w ≠ none := by
  obtain ⟨a, b, n, _, e⟩ := h
  rw [e]; exact fun z => nomatch z
theorem Well.mono {H : Hp} {w : Addr} {k k' : Nat} (h : Well H w k) (l : k ≤ k') : Well H w k' := by
  obtain ⟨a, b, n, m, e⟩ := h
  exact ⟨a, b, n, Nat.le_trans m l, e⟩
theorem Well.same {H H' : Hp} {w : Addr} {k : Nat} (h : Well H w k) (s : Same H H') : Well H' w k := by
  obtain ⟨a, b, n, m, e⟩ := h
  exact ⟨a, b, n, m, s _ _ e⟩
theorem Well.ne {H : Hp} {w p : Addr} {k : Nat} (h : Well H w k) (hp : H p = none) : p ≠ w := fun e => h.some (e ▸ hp)
theorem Well.put {H : Hp} {w p : Addr} {k : Nat} {o : HO} (h : Well H w k) (n : p ≠ w) : Well (upd H p o) w k := by
  obtain ⟨a, b, m, l, e⟩ := h
  exact ⟨a, b, m, l, by rw [upd_ne n.symm]; exact e⟩
theorem Well.ch {H H' : Hp} {w p : Addr} {k : Nat} {o : HO} (h : Well H w k) (n : p ≠ w) (c : Ch p o H H') : Well H' w k := by
  obtain ⟨a, b, m, l, e⟩ := h
  exact ⟨a, b, m, l, c.keep n.symm e⟩
end Ow

set_option Elab.async false
set_option linter.all false
set_option maxRecDepth 100000
set_option maxHeartbeats 2000000
/-! list(zip(xs, ys)) of two lists of one length: a new list of new pairs. -/
namespace OwZ
open PySem PySem.Spec PyProof.Rows

/-- where the zip stands: fresh, or one of its pairs is out -/
def Zs (h : Heap) (z TI TO S : Addr) : Prop := (IsZip h z TI TO .none ∧ ∃ a b, IsPair h TO a b) ∨ ∃ T f oT, IsZipHeld h z TI TO T f ∧ h.get? T = some oT ∧ S < T
structure Zat (h : Heap) (z TI TO i1 i2 l1 l2 S : Addr) (xs ys : Array Value) (i : Nat) : Prop where
  ap : ZipApart z TI TO i1 i2 l1 l2
  zs : Zs h z TI TO S
  ti : IsPair h TI (.ref i1) (.ref i2)
  a1 : h.IsListIter i1 l1 i
  a2 : h.IsListIter i2 l2 i
  b1 : h.IsList l1 xs
  b2 : h.IsList l2 ys
/-- the list that is filled at S lies behind the zip's own objects, ahead of the pairs -/
structure Off (z TI TO i1 i2 l1 l2 S : Addr) : Prop where
  n1 : z < S
  n2 : TI < S
  n3 : TO < S
  n4 : i1 < S
  n5 : i2 < S
  n6 : l1 < S
  n7 : l2 < S
section
variable {prog : Program} {w : World} {A : Around} {E : Value → Shared → Prop} {R : Result → Shared → Prop} {s : Shared} {z TI TO i1 i2 l1 l2 S : Addr} {xs ys : Array Value} {i : Nat}
theorem Zat.keep {h h' : Heap} (x : Zat h z TI TO i1 i2 l1 l2 S xs ys i) (F : Off z TI TO i1 i2 l1 l2 S) (k : ∀ b o, b ≠ S → h.get? b = some o → h'.get? b = some o) : Zat h' z TI TO i1 i2 l1 l2 S xs ys i := by
  obtain ⟨ap, zs, ti, a1, a2, b1, b2⟩ := x
  refine ⟨ap, ?_, k _ _ (Nat.ne_of_lt F.n2) ti, ?_, ?_, b1.at fun o e => k _ o (Nat.ne_of_lt F.n6) e, b2.at fun o e => k _ o (Nat.ne_of_lt F.n7) e⟩
  · rcases zs with ⟨h1, a, b, h2⟩ | ⟨T, f, oT, h1, h2, h3⟩
    · exact .inl ⟨k _ _ (Nat.ne_of_lt F.n1) h1, a, b, k _ _ (Nat.ne_of_lt F.n3) h2⟩
    · exact .inr ⟨T, f, oT, k _ _ (Nat.ne_of_lt F.n1) h1, k _ _ (Nat.ne_of_gt h3) h2, h3⟩
  · obtain ⟨o, h1, h2⟩ := a1
    exact ⟨o, k _ _ (Nat.ne_of_lt F.n4) h1, h2⟩
  · obtain ⟨o, h1, h2⟩ := a2
    exact ⟨o, k _ _ (Nat.ne_of_lt F.n5) h1, h2⟩
/-- all at S and behind it stays when the zip is asked -/
abbrev Stay (S : Addr) (z TO i1 i2 : Addr) (h h' : Heap) : Prop := ∀ b o, S ≤ b ∨ (b ≠ z ∧ b ≠ TO ∧ b ≠ i1 ∧ b ≠ i2) → h.get? b = some o → h'.get? b = some o
theorem off_of (F : Off z TI TO i1 i2 l1 l2 S) (b : Addr) (hb : S ≤ b ∨ (b ≠ z ∧ b ≠ TO ∧ b ≠ i1 ∧ b ≠ i2)) : b ≠ z ∧ b ≠ TO ∧ b ≠ i1 ∧ b ≠ i2 := by
  rcases hb with hb | hb
  · exact ⟨Nat.ne_of_gt (Nat.lt_of_lt_of_le F.n1 hb), Nat.ne_of_gt (Nat.lt_of_lt_of_le F.n3 hb), Nat.ne_of_gt (Nat.lt_of_lt_of_le F.n4 hb), Nat.ne_of_gt (Nat.lt_of_lt_of_le F.n5 hb)⟩
  · exact hb
/-- one more pair -/
theorem Zat.item {x y : Value} {Q : Option Value → Shared → Prop} (Z : Zat s.heap z TI TO i1 i2 l1 l2 S xs ys i) (F : Off z TI TO i1 i2 l1 l2 S) (hS : S < s.heap.objs.size) (hx : xs[i]? = some x) (hy : ys[i]? = some y)
    (hQ : ∀ h', Zat h' z TI TO i1 i2 l1 l2 S xs ys (i + 1) → IsPair h' s.heap.objs.size x y → h'.objs.size = s.heap.objs.size + 1 → Stay S z TO i1 i2 s.heap h' → Q (some (.ref s.heap.objs.size)) { s with heap := h' }) :
    wpAny (model prog w) A (pyNext (.ref z)) Q E s := by
  rcases Z.zs with ⟨h1, a, b, h2⟩ | ⟨T, f, oT, h1, h2, h3⟩
  · refine wpAny_pyNext_zip_item Z.ap h1 Z.ti h2 Z.a1 Z.a2 Z.b1 Z.b2 hx hy fun h' c1 c2 c3 c4 c5 c6 c7 => ?_
    have kk : ∀ b o, b ≠ z ∧ b ≠ TO ∧ b ≠ i1 ∧ b ≠ i2 → s.heap.get? b = some o → h'.get? b = some o := fun b o n e => c7 b o n.1 n.2.1 n.2.2.1 n.2.2.2 e
    refine hQ h' ⟨Z.ap, .inr ⟨s.heap.objs.size, false, _, c1, c5, hS⟩, kk _ _ ⟨Z.ap.TIz, Z.ap.TITO, Z.ap.TIi1, Z.ap.TIi2⟩ Z.ti, c3, c4, Z.b1.at fun o e => kk _ o ⟨Z.ap.l1z, Z.ap.l1TO, Z.ap.l1i1, Z.ap.l1i2⟩ e, Z.b2.at fun o e => kk _ o ⟨Z.ap.l2z, Z.ap.l2TO, Z.ap.l2i1, Z.ap.l2i2⟩ e⟩ c5 c6 fun b o hb e => kk b o (off_of F b hb) e
  · refine wpAny_pyNext_zip_item_held Z.ap h1 h2 Z.ti Z.a1 Z.a2 Z.b1 Z.b2 hx hy fun h' c1 c3 c4 c5 c6 c7 => ?_
    have kk : ∀ b o, b ≠ z ∧ b ≠ TO ∧ b ≠ i1 ∧ b ≠ i2 → s.heap.get? b = some o → h'.get? b = some o := fun b o n e => c7 b o n.1 n.2.2.1 n.2.2.2 e
    refine hQ h' ⟨Z.ap, .inr ⟨T, true, oT, c1, kk _ _ (off_of F T (.inl (Nat.le_of_lt h3))) h2, h3⟩, kk _ _ ⟨Z.ap.TIz, Z.ap.TITO, Z.ap.TIi1, Z.ap.TIi2⟩ Z.ti, c3, c4, Z.b1.at fun o e => kk _ o ⟨Z.ap.l1z, Z.ap.l1TO, Z.ap.l1i1, Z.ap.l1i2⟩ e, Z.b2.at fun o e => kk _ o ⟨Z.ap.l2z, Z.ap.l2TO, Z.ap.l2i1, Z.ap.l2i2⟩ e⟩ c5 c6 fun b o hb e => kk b o (off_of F b hb) e
theorem Zat.over {Q : Option Value → Shared → Prop} (hh : A.handled = none) (Z : Zat s.heap z TI TO i1 i2 l1 l2 S xs ys i) (F : Off z TI TO i1 i2 l1 l2 S) (hx : xs[i]? = none ∨ ys[i]? = none)
    (hQ : ∀ h', Stay S z TO i1 i2 s.heap h' → Q none { s with heap := h' }) : wpAny (model prog w) A (pyNext (.ref z)) Q E s := by
  rcases Z.zs with ⟨h1, a, b, h2⟩ | ⟨T, f, oT, h1, h2, h3⟩
  · exact wpAny_pyNext_zip_end hh Z.ap h1 Z.ti h2 Z.a1 Z.a2 Z.b1 Z.b2 hx fun h' k => hQ h' fun b o hb e => by
      have n := off_of F b hb
      exact k b o n.1 n.2.1 n.2.2.1 n.2.2.2 e
  · exact wpAny_pyNext_zip_end_held hh Z.ap h1 h2 Z.ti Z.a1 Z.a2 Z.b1 Z.b2 hx fun h' k => hQ h' fun b o hb e => by
      have n := off_of F b hb
      exact k b o n.1 n.2.2.1 n.2.2.2 e
/-- the pairs that are out, by their places -/
def Outs (h : Heap) (S : Addr) (xs ys : Array Value) (as : List Addr) : Prop := (∀ a ∈ as, S < a) ∧ as.Nodup ∧ ∀ (j : Nat) (a : Addr), as[j]? = some a → ∃ x y, xs[j]? = some x ∧ ys[j]? = some y ∧ IsPair h a x y
theorem Outs.keep {h h' : Heap} {as : List Addr} (g : Outs h S xs ys as) (k : ∀ b o, S < b → h.get? b = some o → h'.get? b = some o) : Outs h' S xs ys as :=
  ⟨g.1, g.2.1, fun j a e => by
    obtain ⟨x, y, e1, e2, e3⟩ := g.2.2 j a e
    exact ⟨x, y, e1, e2, k a _ (g.1 a (List.mem_of_getElem? e)) e3⟩⟩
theorem zip_loop (hh : A.handled = none) (F : Off z TI TO i1 i2 l1 l2 S) (hsz : xs.size = ys.size) (hn : xs.size ≤ sizeLine) (res : Value) {hB : Heap}
    (hR : ∀ h' tk acc c as, (∀ b o, b ≠ S → b ≠ z → b ≠ TO → b ≠ i1 → b ≠ i2 → hB.get? b = some o → h'.get? b = some o) → h'.get? S = some { cls := .type "list", dict := none, data := .seq acc c, slots := #[] } →
      as.length = xs.size → Outs h' S xs ys as → acc.toList = as.map Value.ref → R (.ok (.ret res)) { s with heap := h', toks := tk }) :
    ∀ (k i : Nat) (h : Heap) (tk c : Nat) (acc : Array Value) (as : List Addr), xs.size - i = k → i ≤ xs.size → Zat h z TI TO i1 i2 l1 l2 S xs ys i →
      (∀ b o, b ≠ S → b ≠ z → b ≠ TO → b ≠ i1 → b ≠ i2 → hB.get? b = some o → h.get? b = some o) → h.get? S = some { cls := .type "list", dict := none, data := .seq acc c, slots := #[] } →
      acc.toList = as.map Value.ref → as.length = i → Outs h S xs ys as → codeAny (model prog w) A (.builtin "list.extend.loop" ⟨[.ref S, .ref z, res], []⟩) R { s with heap := h, toks := tk } := by
  intro k
  induction k with
  | zero =>
    intro i h tk c acc as hk hi Z kb hS hacc hal g
    have hin : i = xs.size := by omega
    refine codeAny_builtin PySem.F.entry_extend_loop ?_
    rw [Around.under_plainId PySem.F.plain_extend_loop _]
    show wpAny _ A.in1 (pyNext (.ref z) >>= _) _ _ _
    refine wpAny_bind (Zat.over (s := { s with heap := h, toks := tk }) (A := A.in1) hh Z F (.inl (Array.getElem?_eq_none (by omega))) fun h' st => ?_)
    refine wpAny_pure (hR h' tk acc c as (fun b o m1 m2 m3 m4 m5 e => st b o (.inr ⟨m2, m3, m4, m5⟩) (kb b o m1 m2 m3 m4 m5 e)) (st S _ (.inl (Nat.le_refl _)) hS) (by omega) (g.keep fun b o hb e => st b o (.inl (Nat.le_of_lt hb)) e) hacc)
  | succ k ih =>
    intro i h tk c acc as hk hi Z kb hS hacc hal g
    have hlt : i < xs.size := by omega
    have hx : xs[i]? = some xs[i] := Array.getElem?_eq_getElem hlt
    have hy : ys[i]? = some (ys[i]'(by omega)) := Array.getElem?_eq_getElem (by omega)
    have hasz : acc.size = i := by rw [← Array.length_toList, hacc, List.length_map, hal]
    have hSl : S < h.objs.size := Heap.lt_size hS
    refine codeAny_builtin PySem.F.entry_extend_loop ?_
    rw [Around.under_plainId PySem.F.plain_extend_loop _]
    show wpAny _ A.in1 (pyNext (.ref z) >>= _) _ _ _
    refine wpAny_bind (Zat.item (s := { s with heap := h, toks := tk }) (S := S) Z F hSl hx hy fun h' Z' pr hz st => ?_)
    dsimp only at pr hz st ⊢
    have hS' := st S _ (.inl (Nat.le_refl _)) hS
    have up : ∀ b o, b ≠ S → h'.get? b = some o → (h'.update S (Obj.mapSeq (·.push (Value.ref h.objs.size)))).get? b = some o := fun b o hb e => (Heap.get?_update_other _ _ (Ne.symm hb)).trans e
    show wpAny _ A.in1 (updateSeq S (·.push (Value.ref h.objs.size)) >>= _) _ _ _
    refine wpAny_bind ?_
    refine wpAny_updateSeq hS' rfl (wpAny_pure ⟨plainId_quiet PySem.F.plain_extend_loop _, ih (i + 1) _ tk _ (acc.push (Value.ref h.objs.size)) (as ++ [h.objs.size]) (by omega) hlt (Z'.keep F up)
      (fun b o m1 m2 m3 m4 m5 e => up b o m1 (st b o (.inr ⟨m2, m3, m4, m5⟩) (kb b o m1 m2 m3 m4 m5 e))) (Heap.get?_update_self _ hS' rfl) (by rw [Array.toList_push, hacc, List.map_append]; rfl) (by rw [List.length_append, hal]; rfl) ?_⟩) (by rw [hasz]; omega) (by show (acc.push (Value.ref h.objs.size)).size ≤ sizeLine + 1; rw [Array.size_push, hasz]; omega)
    refine ⟨fun a ha => ?_, ?_, fun j a hj => ?_⟩
    · rcases List.mem_append.mp ha with ha | ha
      · exact g.1 a ha
      · rw [List.mem_singleton.mp ha]; exact hSl
    · refine List.nodup_append.mpr ⟨g.2.1, by simp, fun a ha b hb e => ?_⟩
      rw [List.mem_singleton.mp hb] at e
      subst e
      obtain ⟨j, hj⟩ := List.mem_iff_getElem?.mp ha
      obtain ⟨x, y, _, _, e3⟩ := g.2.2 j _ hj
      exact Nat.lt_irrefl _ (Heap.lt_size e3)
    · rcases Nat.lt_trichotomy j as.length with m | m | m
      · rw [List.getElem?_append_left m] at hj
        obtain ⟨x, y, e1, e2, e3⟩ := g.2.2 j a hj
        have ga := g.1 a (List.mem_of_getElem? hj)
        exact ⟨x, y, e1, e2, up a _ (Nat.ne_of_gt ga) (st a _ (.inl (Nat.le_of_lt ga)) e3)⟩
      · subst m
        have e : h.objs.size = a := by simpa using hj
        subst e
        exact ⟨_, _, by rw [hal]; exact hx, by rw [hal]; exact hy, up _ _ (Nat.ne_of_gt hSl) pr⟩
      · rw [List.getElem?_eq_none (by rw [List.length_append, List.length_singleton]; omega)] at hj
        cases hj
theorem zip_no_len : typeLookup (.type "zip") "__len__" = pure none := am_miss_of_fast (by decide +kernel)
theorem zip_no_hint : typeLookup (.type "zip") "__length_hint__" = pure none := am_miss_of_fast (by decide +kernel)
theorem hint_zip {Q : Bool → Shared → Prop} (hT : s.TypeIs (.ref z) "zip") (h : Q true s) : wpAny (model prog w) A (Builtin.List.listLengthHint (.ref z)) Q E s := by
  unfold Builtin.List.listLengthHint
  refine wpAny_bind (wpAny_specialOf hT zip_no_len ?_)
  refine wpAny_ite_split (fun hab => absurd hab (by decide)) (fun _ => ?_)
  show wpAny _ _ (specialOf (.ref z) "__length_hint__" >>= _) _ _ _
  refine wpAny_bind (wpAny_specialOf hT zip_no_hint ?_)
  exact wpAny_pure h
/-- the state ahead of the loop: the zip is there, untouched -/
structure Fresh (h : Heap) (z TI TO i1 i2 l1 l2 : Addr) (xs ys : Array Value) : Prop where
  ap : ZipApart z TI TO i1 i2 l1 l2
  zs : IsZip h z TI TO .none
  to : ∃ a b, IsPair h TO a b
  ti : IsPair h TI (.ref i1) (.ref i2)
  a1 : h.IsListIter i1 l1 0
  a2 : h.IsListIter i2 l2 0
  b1 : h.IsList l1 xs
  b2 : h.IsList l2 ys
theorem Fresh.zat {h : Heap} (f : Fresh h z TI TO i1 i2 l1 l2 xs ys) (S : Addr) : Zat h z TI TO i1 i2 l1 l2 S xs ys 0 := ⟨f.ap, .inl ⟨f.zs, f.to⟩, f.ti, f.a1, f.a2, f.b1, f.b2⟩
theorem Fresh.keep {h h' : Heap} (f : Fresh h z TI TO i1 i2 l1 l2 xs ys) (k : ∀ b o, b ≠ S → h.get? b = some o → h'.get? b = some o) (F : Off z TI TO i1 i2 l1 l2 S) : Fresh h' z TI TO i1 i2 l1 l2 xs ys := by
  obtain ⟨ap, zs, ⟨a, b, to⟩, ti, a1, a2, b1, b2⟩ := f
  refine ⟨ap, k _ _ (Nat.ne_of_lt F.n1) zs, ⟨a, b, k _ _ (Nat.ne_of_lt F.n3) to⟩, k _ _ (Nat.ne_of_lt F.n2) ti, ?_, ?_, b1.at fun o e => k _ o (Nat.ne_of_lt F.n6) e, b2.at fun o e => k _ o (Nat.ne_of_lt F.n7) e⟩
  · obtain ⟨o, h1, h2⟩ := a1
    exact ⟨o, k _ _ (Nat.ne_of_lt F.n4) h1, h2⟩
  · obtain ⟨o, h1, h2⟩ := a2
    exact ⟨o, k _ _ (Nat.ne_of_lt F.n5) h1, h2⟩
theorem zip_extend (hh : A.handled = none) (f : Fresh s.heap z TI TO i1 i2 l1 l2 xs ys) (F : Off z TI TO i1 i2 l1 l2 S) (hsz : xs.size = ys.size) (hn : xs.size ≤ sizeLine) (res : Value) (c₀ : Nat) (hS : s.heap.get? S = some { cls := .type "list", data := .seq #[] c₀ })
    (hR : ∀ h' tk acc c as, (∀ b o, b ≠ S → b ≠ z → b ≠ TO → b ≠ i1 → b ≠ i2 → s.heap.get? b = some o → h'.get? b = some o) → h'.get? S = some { cls := .type "list", dict := none, data := .seq acc c, slots := #[] } →
      as.length = xs.size → Outs h' S xs ys as → acc.toList = as.map Value.ref → R (.ok (.ret res)) { s with heap := h', toks := tk }) :
    wpAny (model prog w) A.in1 (Builtin.List.listExtendWith (.ref S) (.ref z) res)
      (fun fin s' => match fin with | .done f => R (.ok f) s' | .again c' => c'.quiet = true ∧ codeAny (model prog w) A c' R s') (fun e s' => R (.error e) s') s := by
  have hT : s.TypeIs (.ref z) "zip" := ⟨_, f.zs, rfl⟩
  unfold Builtin.List.listExtendWith
  refine wpAny_bind (wpAny_typeOf (T := "zip") hT ?_)
  have e1 : Builtin.List.listSameRef (.ref S) (.ref z) = false := by simp [Builtin.List.listSameRef, Nat.ne_of_gt F.n1]
  have e2 : (Value.type "zip" == Value.type "list") = false := by decide
  have e3 : (Value.type "zip" == Value.type "tuple") = false := by decide
  simp only [e1, e2, e3, Bool.or_false, Bool.false_eq_true, if_false]
  refine wpAny_bind (wpAny_pyIter_zip f.zs ?_)
  refine wpAny_bind (wpAny_holding (hint_zip hT ?_))
  refine wpAny_ite_split (fun _ => ?_) (fun hab => absurd (by simp) hab)
  refine wpAny_bind (wpAny_rule ?_)
  refine wpAny_bind ?_
  show wpAny _ _ (updateSeq S (·.push .none) >>= fun _ => updateSeq S (·.pop)) _ _ _
  refine wpAny_bind (wpAny_updateSeq hS rfl ?_)
  have hS2 := Heap.get?_update_self (Obj.mapSeq (·.push Value.none)) hS rfl
  refine wpAny_updateSeq (hz := by seq_fits) hS2 rfl ?_
  have hS3 := Heap.get?_update_self (Obj.mapSeq (·.pop)) hS2 rfl
  have kk : ∀ b o, b ≠ S → s.heap.get? b = some o → ((s.heap.update S (Obj.mapSeq (·.push Value.none))).update S (Obj.mapSeq (·.pop))).get? b = some o :=
    fun b o hb e => (Heap.get?_update_other _ _ (Ne.symm hb)).trans ((Heap.get?_update_other _ _ (Ne.symm hb)).trans e)
  refine wpAny_pure ⟨plainId_quiet PySem.F.plain_extend_loop _, zip_loop (s := s) hh F hsz hn res (hB := s.heap) hR xs.size 0 _ _ _ #[] [] (Nat.sub_zero _) (Nat.zero_le _) ((f.keep kk F).zat S) (fun b o hb _ _ _ _ e => kk b o hb e) hS3 rfl rfl ⟨(fun a ha => absurd ha List.not_mem_nil), List.nodup_nil, (fun j a hj => by simp at hj)⟩⟩
/-- list(z) -/
theorem zip_call {Q : Value → Shared → Prop} (hh : A.handled = none) (f : Fresh s.heap z TI TO i1 i2 l1 l2 xs ys) (lt : Off z TI TO i1 i2 l1 l2 s.heap.objs.size) (hsz : xs.size = ys.size) (hn : xs.size ≤ sizeLine)
    (hQ : ∀ h' tk acc c as, (∀ b o, b ≠ z → b ≠ TO → b ≠ i1 → b ≠ i2 → s.heap.get? b = some o → h'.get? b = some o) → h'.get? s.heap.objs.size = some { cls := .type "list", dict := none, data := .seq acc c, slots := #[] } →
      as.length = xs.size → Outs h' s.heap.objs.size xs ys as → acc.toList = as.map Value.ref → Q (.ref s.heap.objs.size) { s with heap := h', toks := tk }) :
    wpAny (model prog w) A (call (.type "list") [.ref z]) Q E s := by
  refine callType_codes (Q₁ := fun obj s₁ => obj = .ref s.heap.objs.size ∧ s₁ = { s with heap := s.heap.push { cls := .type "list", data := .seq #[] } }) PySem.F.called_list (PySem.F.typeCall_list_1 _) PySem.F.entry_list_init
    (code_list_new _ ⟨rfl, rfl⟩) fun obj s₁ h₁ => ?_
  obtain ⟨rfl, rfl⟩ := h₁
  have hS : (s.heap.push { cls := .type "list", data := .seq #[] }).get? s.heap.objs.size = some { cls := .type "list", data := .seq #[] } := Heap.get?_push_size _ rfl
  refine ⟨⟨_, hS, rfl⟩, PySem.F.args_list_init_2 _ _, ?_⟩
  show wpAny _ _ (do let old ← Builtin.List.listItems (.ref s.heap.objs.size); Builtin.List.listUpdate (.ref s.heap.objs.size) (fun _ => #[]); letGo old.toList.reverse; Builtin.List.listExtendWith (.ref s.heap.objs.size) (.ref z) .none) _ _ _
  refine wpAny_bind ?_
  unfold Builtin.List.listItems
  refine wpAny_bind (wpAny_seqItems hS rfl (wpAny_pure ?_))
  show wpAny _ _ (updateSeq s.heap.objs.size (fun _ => #[]) >>= fun _ => letGo (#[] : Array Value).toList.reverse >>= fun _ => Builtin.List.listExtendWith (.ref s.heap.objs.size) (.ref z) .none) _ _ _
  refine wpAny_bind (wpAny_updateSeq hS rfl ?_)
  have hS2 := Heap.get?_update_self (Obj.mapSeq (fun _ => (#[] : Array Value))) hS rfl
  have kk : ∀ b o, b ≠ s.heap.objs.size → s.heap.get? b = some o → ((s.heap.push { cls := .type "list", data := .seq #[] }).update s.heap.objs.size (Obj.mapSeq (fun _ => (#[] : Array Value)))).get? b = some o :=
    fun b o hb e => (Heap.get?_update_other _ _ (Ne.symm hb)).trans (Heap.get?_push_of_some _ e)
  refine wpAny_bind (wpAny_letGo ?_)
  refine zip_extend (A := A.in1) hh (f.keep kk lt) lt hsz hn .none _ hS2 fun h' tk acc c as k hS' hl g hacc => ?_
  exact ⟨rfl, hQ h' tk acc c as (fun b o m2 m3 m4 m5 e => by
    have m1 : b ≠ s.heap.objs.size := Nat.ne_of_lt (Heap.lt_size e)
    exact k b o m1 m2 m3 m4 m5 (kk b o m1 e)) hS' hl g hacc⟩
end
end OwZ

set_option Elab.async false
set_option linter.all false
set_option maxRecDepth 100000
set_option maxHeartbeats 2000000
/-! Rules of one's own for constructs that the layer has none for. -/
namespace Ow
open PySem PySem.Spec PyProof.Rows L2

/-! ### names for readings -/
def oInS : R2 := fun x y H Q => ∃ i j, x = .str i ∧ y = .str j ∧ Q (.bl (!(Builtin.Str.occurrences j i 0 j.length 1).isEmpty)) H
def oNotInS : R2 := fun x y H Q => ∃ i j, x = .str i ∧ y = .str j ∧ Q (.bl (!(!(Builtin.Str.occurrences j i 0 j.length 1).isEmpty))) H
def rJoin (K : PySem.W.Frag) : V → List V → Hp → VK → Prop := fun x xs H Q => ∃ a p, ∃ ys : List Str, x = .str a ∧ xs = [.ref p] ∧ (SqL K H p (ys.map V.str) ∨ SqT K H p (ys.map V.str)) ∧ (ys.map (·.length)).sum + ys.length * a.length ≤ 16777216 ∧ Q (.str (Txt.join a ys)) H
def tJoin (K : PySem.W.Frag) (to te : TE) : TE := tM1 (rJoin K) to te
def rInsert : V → List V → Hp → VK → Prop := fun x vs H Q => ∃ (l : Addr) (xs : List V) (i : Int) (y : V), x = .ref l ∧ vs = [.int i, y] ∧ H l = some (.lst xs) ∧ xs.length < sizeLine ∧ 0 ≤ i ∧ i < 2 ^ 63 ∧ Q .non (upd H l (.lst (xs.take i.toNat ++ [y] ++ xs.drop i.toNat)))
theorem blkOk_k {N : List Str} {sc scope : Scope} {own : List (Str × Nat)} (h : blkC N sc scope own = true) : BlkOk N sc scope own := blkOk_by h
/-! ### min of three, any of ints -/
def rMin3 : RC := fun xs H Q => ∃ i j k, xs = [.int i, .int j, .int k] ∧ Q (.int (if j < i then (if k < j then k else j) else (if k < i then k else i))) H
theorem vals3 {x y z : V} {us : List Value} (r : Vals [x, y, z] us) : ∃ u v t, us = [u, v, t] ∧ RelV x u ∧ RelV y v ∧ RelV z t := by
  cases r with
  | cons a r =>
    cases r with
    | cons b r =>
      cases r with
      | cons c r =>
        cases r
        exact ⟨_, _, _, rfl, a, b, c⟩
section
variable {X : Cx}
theorem call_min3 (hc : X.calm = true) : CallR X (.builtin "min") rMin3 := by
  intro pins s σ H xs us Q I r h
  obtain ⟨i, j, k, rfl, q⟩ := h
  obtain ⟨u, v, t, rfl, ⟨a, rfl⟩, ⟨b, rfl⟩, ⟨c, rfl⟩⟩ := vals3 r
  refine min_three_ints (I.ok.hd hc) fun h' tk kk => ⟨_, H, I.kept kk, ?_, q⟩
  repeat' split
  all_goals exact ⟨_, rfl⟩
def rAnyI (K : PySem.W.Frag) : RC := fun vs H Q => ∃ (a : Addr) (ns : List Int), vs = [V.ref a] ∧ SqL K H a (ns.map V.int) ∧ Q (.bl (ns.any fun n => n != 0)) H
theorem truth_ints {prog : Program} {w : World} {A : Around} {ns : List Int} {its : List Value} (r : Vals (ns.map V.int) its) :
    TruthOf prog w A (fun i v => its.toArray[i]? = some v) (fun i => (ns.getD i 0) != 0) := fun i v s Q E hv hq => by
  have hv' : its[i]? = some v := by simpa using hv
  have hl := r.length
  rw [List.length_map] at hl
  have hi : i < ns.length := by
    rw [hl]; exact (List.getElem?_eq_some_iff.mp hv').1
  obtain ⟨u, e1, e2⟩ := r.get (i := i) (x := V.int ns[i]) (by rw [List.getElem?_map, List.getElem?_eq_getElem hi]; rfl)
  have : u = v := Option.some.inj (e1.symm.trans hv')
  subst this
  obtain ⟨t, rfl⟩ := e2
  have hg : ns.getD i 0 = ns[i] := by rw [List.getD_eq_getElem?_getD, List.getElem?_eq_getElem hi]; rfl
  have hq' : Q ((ns.getD i 0) != 0) s := hq
  rw [hg] at hq'
  exact PyProof.Rows.truthy_int hq'
theorem any_range0 : ∀ ns : List Int, (List.range ns.length).any (fun i => (ns.getD i 0) != 0) = ns.any fun n => n != 0
  | [] => rfl
  | n :: ns => by
    rw [List.length_cons, List.range_succ_eq_map, List.any_cons, List.any_map, List.any_cons, ← any_range0 ns]
    rfl
theorem call_anyI (hc : X.calm = true) : CallR X (.builtin "any") (rAnyI X.K) := by
  intro pins s σ H vs us Q I r h
  obtain ⟨a, ns, rfl, hs, q⟩ := h
  obtain ⟨its, rv, hl, _⟩ := I.list hs
  rw [Vals.ref1 r]
  refine call_any_walk (iter_any hl.isList fun s₂ e2 st hne => ?_)
  subst e2
  refine ⟨_, _, _, _, _, _, _, rfl, Walks.list (A := X.A.in1) (I.ok.hd hc) _ a hne its.toArray, st, truth_ints rv, fun h' tk hk => ?_⟩
  refine ⟨.bl _, H, I.kept fun b o eo => hk b o (fun hmem => ?_) (Heap.get?_push_of_some _ eo), ?_, q⟩
  · rcases List.mem_cons.mp hmem with e1 | hmem
    · exact absurd (e1 ▸ Heap.lt_size eo) (Nat.lt_irrefl _)
    · cases hmem
  · have hlen := rv.length
    rw [List.length_map] at hlen
    show Value.bool _ = Value.bool _
    rw [← any_range0, List.size_toArray, hlen]
/-! ### xs[i] of an augmented store -/
def rGetL (K : PySem.W.Frag) : V → V → Hp → VK → Prop := fun o i H Q => ∃ p xs k v, o = .ref p ∧ i = .int k ∧ 0 ≤ k ∧ SqL K H p xs ∧ xs[k.toNat]? = some v ∧ Q v H
theorem get_list : PGet X (rGetL X.K) := by
  intro pins s σ H o i ov iv Q I ro ri h
  obtain ⟨p, xs, k, v, rfl, rfl, h0, hq, he, q⟩ := h
  cases ro
  obtain ⟨t, rfl⟩ := ri
  obtain ⟨its, r, pl, hz⟩ := I.list hq
  obtain ⟨w', ew, rw'⟩ := r.get he
  have hl := r.length
  have hn := line63
  have hk : k.toNat < its.length := (List.getElem?_eq_some_iff.mp ew).1
  exact wpAny_getItem_list pl.isList h0 (by omega) (by simpa using ew) ⟨v, H, I, rw', q⟩
/-! ### list(zip(xs, ys)) -/
/-- several new objects, tracked at once -/
theorem inv_more {pins : List (Addr × Obj)} {σ : L2.St} {H H' : Hp} {s : Shared} {h' : Heap} {t' : Nat} (I : Inv X pins σ H s) (k : ∀ b u, s.heap.get? b = some u → h'.get? b = some u)
    (hold : ∀ b, b < s.heap.objs.size → H' b = H b) (new : ∀ b o, s.heap.objs.size ≤ b → H' b = some o → ObjOk X.prog X.w H' h' b o) : Inv X pins σ H' { s with heap := h', toks := t' } := by
  have up : ∀ b o, H b = some o → H' b = some o := fun b o e => (hold b (I.hok.lt e)).trans e
  refine I.un ⟨fun b o e _ _ _ => k b o e, fun b o e _ _ _ => ⟨o.slots, k b o e⟩, fun b o e n _ => (hold b (Heap.lt_size e)).trans n, fun b o e _ => ⟨o, k b o e⟩, fun b xs e => up b _ e, fun b o u e => up b _ e, fun b ps e => ⟨#[], by rw [Array.append_empty]; exact up b _ e⟩⟩ fun b o e => ?_
  by_cases hb : s.heap.objs.size ≤ b
  · exact new b o hb e
  · have hb' : b < s.heap.objs.size := Nat.lt_of_not_le hb
    rw [hold b hb'] at e
    exact (I.hok b o e).stay (fun c u _ q => k c u q) (fun c q => up c _ q) fun c xs q => up c _ q
def tListZip (K : PySem.W.Frag) (ta : TA) : TE := fun σ H Q => ta σ H fun vs H1 => ∃ a b xs ys, vs = [.ref a, .ref b] ∧ SqL K H1 a xs ∧ SqL K H1 b ys ∧ xs.length = ys.length ∧ xs.length ≤ 100000 ∧
  ∀ (l : Addr) (as : List Addr) (H2 : Hp), H1 l = none → Same H1 H2 → H2 l = some (.lst (as.map V.ref)) → as.length = xs.length →
    (∀ (j : Nat) (a : Addr), as[j]? = some a → H1 a = none ∧ ∃ x y : V, xs[j]? = some x ∧ ys[j]? = some y ∧ H2 a = some (.tup [x, y])) → Q (.ref l) H2
theorem vals_getR {xs : List V} {us : List Value} {i : Nat} {u : Value} (r : Vals xs us) (e : us[i]? = some u) : ∃ x, xs[i]? = some x ∧ RelV x u := by
  have hl := r.length
  have hi : i < xs.length := by rw [hl]; exact (List.getElem?_eq_some_iff.mp e).1
  obtain ⟨u', e1, e2⟩ := r.get (List.getElem?_eq_getElem hi)
  have : u' = u := Option.some.inj (e1.symm.trans e)
  subst this
  exact ⟨_, List.getElem?_eq_getElem hi, e2⟩
theorem vals_refs : ∀ as : List Addr, Vals (as.map V.ref) (as.map Value.ref)
  | [] => .nil
  | _ :: as => .cons rfl (vals_refs as)
theorem pe_listzip {e e2 : Expr} {ta : TA} {p p2 pos pos2 : Pos} (hg : Gl X "list") (hm : X.mg "list" = none) (hg2 : Gl X "zip") (hm2 : X.mg "zip" = none) (ha : PA X [e, e2] ta) (hc : X.calm = true := by rfl)
    (hs : starEach [e, e2] X.env = (false, eval e X.env) :: starEach [e2] X.env := by rfl) (hpl : (backTo pos2 (starEach [e2] X.env)).any (·.1) = false := by rfl)
    (na : starEach [Expr.Call (.Name "zip" p2) [e, e2] [] pos2] X.env = (false, eval (Expr.Call (.Name "zip" p2) [e, e2] [] pos2) X.env) :: starEach [] X.env := by rfl) :
    PE X (.Call (.Name "list" p) [.Call (.Name "zip" p2) [e, e2] [] pos2] [] pos) (tListZip X.K ta) := by
  refine ⟨fun pins s σ H Q I h => ?_⟩
  refine Call_ (ld_blt I hg hm boot_list (PyProof.Rows.callWith_type1 (args_cons ?_ na) na))
  refine Call_ (ld_blt I hg2 hm2 PyProof.Rows.boot_zip (PyProof.Rows.callWith_type1 (thn (ha.run pos2 pins s σ H _ I h) fun us s1 ⟨vs, H1, I1, r1, q1⟩ => ?_) hs hpl))
  obtain ⟨a, b, xs, ys, ex, hqx, hqy, hlen, hsz, q⟩ := q1
  subst ex
  obtain ⟨u1, u2, rfl, r, r'⟩ := vals2 r1
  cases r
  cases r'
  obtain ⟨its, rv, p1, _⟩ := I1.list hqx
  obtain ⟨its2, rv2, p2', _⟩ := I1.list hqy
  have la : a < s1.heap.objs.size := p1.lt
  have lb : b < s1.heap.objs.size := p2'.lt
  have e1 := rv.length
  have e2 := rv2.length
  refine call_zip_2 p1.isList p2'.isList fun h' hz hTI hTO h1 h2 hsz' hk => ?_
  refine args_nil ?_
  have lt5 : ∀ j, j < 5 → s1.heap.objs.size + j < h'.objs.size := fun j hj => by rw [hsz']; exact Nat.add_lt_add_left hj _
  have fr : OwZ.Fresh h' (s1.heap.objs.size + 4) (s1.heap.objs.size + 2) (s1.heap.objs.size + 3) s1.heap.objs.size (s1.heap.objs.size + 1) a b its.toArray its2.toArray :=
    ⟨zipApart_new la lb, hz, ⟨_, _, hTO⟩, hTI, h1, h2, p1.isList.at fun o eo => hk a o eo, p2'.isList.at fun o eo => hk b o eo⟩
  have of : OwZ.Off (s1.heap.objs.size + 4) (s1.heap.objs.size + 2) (s1.heap.objs.size + 3) s1.heap.objs.size (s1.heap.objs.size + 1) a b h'.objs.size :=
    ⟨lt5 4 (by decide), lt5 2 (by decide), lt5 3 (by decide), lt5 0 (by decide), lt5 1 (by decide), Nat.lt_trans la (lt5 0 (by decide)), Nat.lt_trans lb (lt5 0 (by decide))⟩
  refine OwZ.zip_call (s := { s1 with heap := h' }) (I1.ok.hd hc) fr of (by rw [List.size_toArray, List.size_toArray]; omega) (by rw [List.size_toArray, sizeLine_eq]; omega) fun h'' tk acc c as kz hS hl g hacc => ?_
  dsimp only at hS kz g
  have kold : ∀ b o, s1.heap.get? b = some o → h''.get? b = some o := fun b o eo => by
    have hb := Heap.lt_size eo
    have ne : ∀ j, b ≠ s1.heap.objs.size + j := fun j => Nat.ne_of_lt (Nat.lt_of_lt_of_le hb (Nat.le_add_right _ _))
    exact kz b o (ne 4) (ne 3) (ne 0) (ne 1) (hk b o eo)
  have big : s1.heap.objs.size ≤ h'.objs.size := Nat.le_of_lt (lt5 0 (by decide))
  have asbig : ∀ x ∈ as, h'.objs.size < x := g.1
  let Pr : Addr → HO → Prop := fun x o => ∃ (j : Nat) (v u : V), as[j]? = some x ∧ xs[j]? = some v ∧ ys[j]? = some u ∧ o = HO.tup [v, u]
  have dec : ∀ x, Decidable (∃ o, Pr x o) := fun x => Classical.propDecidable _
  let H2 : Hp := fun x => if x = h'.objs.size then some (.lst (as.map V.ref)) else if z : ∃ o, Pr x o then some z.choose else H1 x
  have hlas : as.length = xs.length := by rw [hl, List.size_toArray]; omega
  have atl : H2 h'.objs.size = some (.lst (as.map V.ref)) := if_pos rfl
  have atas : ∀ (j : Nat) (x : Addr), as[j]? = some x → ∃ v u : V, xs[j]? = some v ∧ ys[j]? = some u ∧ H2 x = some (.tup [v, u]) := fun j x hj => by
    have hx : x ∈ as := List.mem_of_getElem? hj
    have hjl : j < as.length := (List.getElem?_eq_some_iff.mp hj).1
    have f1 : xs[j]? = some (xs[j]'(by omega)) := List.getElem?_eq_getElem _
    have f2 : ys[j]? = some (ys[j]'(by omega)) := List.getElem?_eq_getElem _
    refine ⟨_, _, f1, f2, ?_⟩
    have ex : ∃ o, Pr x o := ⟨_, j, _, _, hj, f1, f2, rfl⟩
    show (if x = h'.objs.size then _ else if z : ∃ o, Pr x o then some z.choose else H1 x) = _
    rw [if_neg (Nat.ne_of_gt (asbig x hx)), dif_pos ex]
    obtain ⟨j', v, u, g1, g2, g3, g4⟩ := ex.choose_spec
    have : j' = j := by
      obtain ⟨m1, n1⟩ := List.getElem?_eq_some_iff.mp g1
      obtain ⟨m2, n2⟩ := List.getElem?_eq_some_iff.mp hj
      exact (List.getElem_inj g.2.1).mp (n1.trans n2.symm)
    subst this
    rw [g4, Option.some.inj (g2.symm.trans f1), Option.some.inj (g3.symm.trans f2)]
  have old : ∀ x, x < s1.heap.objs.size → H2 x = H1 x := fun x hx => by
    show (if x = h'.objs.size then _ else if z : ∃ o, Pr x o then some z.choose else H1 x) = _
    rw [if_neg (Nat.ne_of_lt (Nat.lt_of_lt_of_le hx big)), dif_neg]
    rintro ⟨o, j, v, u, hj, _⟩
    exact Nat.lt_irrefl _ (Nat.lt_trans (Nat.lt_of_lt_of_le hx big) (asbig x (List.mem_of_getElem? hj)))
  have I2 : Inv X pins σ H2 { s1 with heap := h'', toks := tk } := by
    refine inv_more I1 kold old fun x o hx eo => ?_
    by_cases hxl : x = h'.objs.size
    · subst hxl
      rw [atl] at eo
      cases eo
      refine ⟨by rw [List.length_map, hlas, sizeLine_eq]; omega, acc.toList, c, ?_, by rw [Array.toArray_toList]; exact hS⟩
      rw [hacc]
      exact vals_refs as
    · by_cases hm : x ∈ as
      · obtain ⟨j, hj⟩ := List.mem_iff_getElem?.mp hm
        obtain ⟨v, u, f1, f2, f3⟩ := atas j x hj
        rw [f3] at eo
        cases eo
        obtain ⟨y, z, g1, g2, g3⟩ := g.2.2 j x hj
        obtain ⟨v', f1', rv1⟩ := vals_getR rv (by simpa using g1)
        obtain ⟨u', f2', rv2'⟩ := vals_getR rv2 (by simpa using g2)
        have : v' = v := Option.some.inj (f1'.symm.trans f1)
        subst this
        have : u' = u := Option.some.inj (f2'.symm.trans f2)
        subst this
        exact ⟨by show 2 ≤ sizeLine; decide, [y, z], .cons rv1 (.cons rv2' .nil), ⟨_, g3, rfl, _, rfl⟩⟩
      · have e0 : H2 x = H1 x := by
          show (if x = h'.objs.size then _ else if z : ∃ o, Pr x o then some z.choose else H1 x) = _
          rw [if_neg hxl, dif_neg]
          rintro ⟨o, j, v, u, hj, _⟩
          exact hm (List.mem_of_getElem? hj)
        rw [e0, I1.hok.fresh hx] at eo
        cases eo
  refine ⟨.ref h'.objs.size, H2, I2, rfl, q h'.objs.size as H2 (I1.hok.fresh big) (fun x o eo => (old x (I1.hok.lt eo)).trans eo) atl hlas fun j x hj => ⟨I1.hok.fresh (Nat.le_trans big (Nat.le_of_lt (asbig x (List.mem_of_getElem? hj)))), atas j x hj⟩⟩
/-! ### repr of data -/
mutual
theorem reads_of {pins : List (Addr × Obj)} {σ : L2.St} {H : Hp} {s : Shared} (I : Inv X pins σ H s) : ∀ {v : V} {d : PyData}, Dp X.K H v d → ∀ {u : Value}, RelV v u → ∃ as, Reads s.heap u d as
  | _, _, .non, u, r => by cases r; exact ⟨_, .none⟩
  | _, _, .bl b, u, r => by cases r; exact ⟨_, .bool b⟩
  | _, _, .int i, u, r => by obtain ⟨t, rfl⟩ := r; exact ⟨_, .int i t⟩
  | _, _, .str x, u, r => by obtain ⟨t, rfl⟩ := r; exact ⟨_, .str x t⟩
  | _, _, .lst h1 h2, u, r => by
    cases r
    obtain ⟨its, rv, pl, _⟩ := I.list h1
    obtain ⟨as, ha⟩ := reads_all I h2 rv
    obtain ⟨o, ho, hc, n, hd⟩ := pl.isList
    exact ⟨_, .list ho hc hd (by simpa using ha)⟩
  | _, _, .tup h1 h2, u, r => by
    cases r
    obtain ⟨its, rv, pl, _⟩ := I.tuple h1
    obtain ⟨as, ha⟩ := reads_all I h2 rv
    obtain ⟨o, ho, hc, n, hd⟩ := pl
    exact ⟨_, .tuple ho hc hd (by simpa using ha)⟩
theorem reads_all {pins : List (Addr × Obj)} {σ : L2.St} {H : Hp} {s : Shared} (I : Inv X pins σ H s) : ∀ {vs : List V} {ds : List PyData}, DpAll X.K H vs ds → ∀ {us : List Value}, Vals vs us → ∃ as, ReadsAll s.heap us ds as
  | _, _, .nil, us, r => by cases r; exact ⟨_, .nil⟩
  | _, _, .cons h1 h2, us, r => by
    cases r with
    | cons r1 r2 =>
      obtain ⟨as, h⟩ := reads_of I h1 r1
      obtain ⟨bs, h'⟩ := reads_all I h2 r2
      exact ⟨_, .cons h h'⟩
end
end
theorem noDict_of {K : PySem.W.Frag} {H : Hp} : ∀ {v : V} {d : PyData}, Dp K H v d → d.hasDict = false := by
  intro v d h
  refine Dp.rec (motive_1 := fun _ d _ => d.hasDict = false) (motive_2 := fun _ ds _ => PyData.hasDictAll ds = false) ?_ ?_ ?_ ?_ ?_ ?_ ?_ ?_ h
  · rfl
  · intro b; rfl
  · intro i; rfl
  · intro x; rfl
  · intro a xs ds _ _ ih; simpa [PyData.hasDict] using ih
  · intro a xs ds _ _ ih; simpa [PyData.hasDict] using ih
  · rfl
  · intro v vs d ds _ _ i1 i2; simp [PyData.hasDictAll, i1, i2]
/-- repr of a list or tuple of data -/
def rRepr (K : PySem.W.Frag) : RC := fun xs H Q => ∃ a d, xs = [.ref a] ∧ Dp K H (.ref a) d ∧ d.showable = true ∧ d.depth ≤ 40 ∧ d.shown.length ≤ sizeLine ∧ Q (.str d.shown) H
theorem call_repr {X : Cx} (hG : X.A.guards = some []) (hu : X.A.units + 64 < cLine) : CallR X (.builtin "repr") (rRepr X.K) := by
  intro pins s σ H xs us Q I r h
  obtain ⟨a, d, rfl, hd, h1, h2, h3, q⟩ := h
  rw [Vals.ref1 r]
  obtain ⟨as, ha⟩ := reads_of I hd (u := .ref a) rfl
  have hn := noDict_of hd
  refine repr_of_reads' ha h1 (fun z => by rw [hn] at z; cases z) hG (by omega) (fun _ _ e => e) (fun h' u tk k => ⟨.str d.shown, H, I.kept k, ⟨u, rfl⟩, q⟩) h3
/-! ### defs that are called where nothing is shown (no repr is under way) -/
structure FnG (P : Program) (w : World) (K : PySem.W.Frag) (mg : Str → Option Value) (base : Heap) (CX : CXT) (k : Nat) (f : Addr) (fd : FuncData) (ps : List Str) (sp : Sp) : Prop where
  len : ∀ vs H Q E, sp vs H Q E → vs.length = ps.length
  run : ∀ (A : Around) (outer : List Env) (s : Shared) (H : Hp) (args : Args) (us : List Value) (vs : List V) (Q : VK) (E : XK), A.guards = some [] → Room k A → Env0 P w K mg base A outer s H → BindsTo s fd args (ps.zip us) → Vals vs us → sp vs H Q E →
    codeAny (model P w) A (.call (.ref f) args) (CR CX outer P w H s Q E) s
section
variable {P : Program} {w : World} {K : PySem.W.Frag} {mg : Str → Option Value} {base : Heap}
/-- as Fun.ok; the body knows that nothing is shown -/
theorem Fun.okG {x qual : Str} {st : Stmt} {f : Addr} {fd : FuncData} {N ps : List Str} {k : Nat} {sp : Sp} (F : Fun K x qual st f fd) (S : FnScope N ps (defScope st)) (len : ∀ vs H Q E, sp vs H Q E → vs.length = ps.length)
    (hbody : ∀ (cdv : Value) (A : Around) (outer : List Env) (s : Shared) (H : Hp) (vs : List V) (Q : VK) (E : XK), Room k (A.deeper (envOfC qual (defScope st) s.heap.objs.size f cdv)) → (A.deeper (envOfC qual (defScope st) s.heap.objs.size f cdv)).guards = some [] → sp vs H Q E →
      ∃ t, PSs (cxOf CX0 P w K mg base N qual (defScope st) f cdv A outer s H E).nox (defBody st) t ∧ t { nx := fun _ H' => Q .non H', rt := Q } (start N vs) H) : FnG P w K mg base CX0 (k + 1) f fd ps sp := by
  obtain ⟨oc, od, kV, doc, pm, an, cdv, ct, osl, rfl, lk, hcd⟩ := F.ex
  refine ⟨len, fun A outer s H args us vs Q E hg hr e0 hb r hsp => ?_⟩
  have hl := len _ _ _ _ hsp
  have kh : ∀ b o, base.get? b = some o → s.heap.get? b = some o := fun b o e => (e0.bs b o e).1
  have KX : K.In s.heap := e0.mod.kin.keeps kh
  have lim : s.heap.NoLimit := e0.mod.nolimit.keeps kh
  refine codeAny_call_function hr.depth (KX _ _ lk) rfl S.co S.gen rfl (PySem.W.codeRec_of KX hcd) (hb _ _ _ _ ?_)
  refine wpAny_newFunctionEnv_cells S.kind (fun y hy => ?_) fun env he s1 x => ?_
  · obtain ⟨n, v⟩ := y
    rcases S.par n (List.of_mem_zip hy).1 with q | q
    · exact .inl q
    · exact .inr ⟨q, PySem.W.cellsFrom_some _ _ _ (.inl q)⟩
  · subst he
    refine ⟨lim.keeps x.toInCall.keep, codeAny_func ?_⟩
    obtain ⟨t, ht, hq⟩ := hbody cdv A outer s H vs Q E (hr.deeper _) hg hsp
    have J := inv_start (CX := CX0) (E := E) S hr.hd e0 hl r x
    refine wpAny_mono (ht.nox.run [] s1 (start N vs) H _ J hq) (fun fl s' hs => ?_) fun e s' hs => hs
    cases fl with
    | ret u =>
      obtain ⟨v, σ', H', J', rv, q⟩ := hs
      exact ⟨v, H', J'.os, J'.bare, J'.base, J'.hok, rv, q⟩
    | next =>
      obtain ⟨σ', H', J', q⟩ := hs
      exact ⟨.non, H', J'.os, J'.bare, J'.base, J'.hok, rfl, q⟩
    | brk =>
      obtain ⟨_, _, _, q⟩ := hs
      cases q
    | cont =>
      obtain ⟨_, _, _, q⟩ := hs
      cases q
end
section
variable {X : Cx} {CX : CXT} {k : Nat} {f : Addr} {fd : FuncData} {ps : List Str} {sp : Sp} {dvs : List V} {ds : List Value} {E : XK} {x : Str} {p pos : Pos} {e : Expr} {es : List Expr} {t : TA}
theorem pe_callG (hG : X.A.guards = some []) (F : FnG X.prog X.w X.K X.mg X.base CX k f fd ps sp) (hr : Room k X.A) (hg : Gl X x) (hm : X.mg x = some (.ref f)) (hk : PySem.W.keepIn X.K (.ref f) = true) (hb : Binds X.K fd ps ds) (hd : Vals dvs ds) (hx : Passes CX X E)
    (ha : PA X (e :: es) t) (hdb : (x == ("__debug__" : Str)) = false := by decide) (he : starEach (e :: es) X.env = (false, eval e X.env) :: starEach es X.env := by rfl) (hpl : (backTo pos (starEach es X.env)).any (·.1) = false := by rfl) :
    PE X (.Call (.Name x p) (e :: es) [] pos) (tCall sp dvs E t) := by
  refine ⟨fun pins s σ H Q I h => ?_⟩
  refine wpAny_Call_Name_kw (ld_glob I hg hm ?_ hdb)
  refine PySem.W.callWith_K (h₀ := X.base) I.ok.mod.kin hk (thn (ha.run pos pins s σ H _ I h) fun us s1 ⟨vs, H1, I1, r, q⟩ => ⟨I1.kIn, ?_⟩) he hpl
  have r2 : Vals (vs ++ dvs) (us ++ ds) := r.append hd
  have hl : (us ++ ds).length = ps.length := r2.length.symm.trans (F.len _ _ _ _ q)
  refine wpAny_call (codeAny_mono (F.run X.A X.stack s1 H1 ⟨us, []⟩ (us ++ ds) (vs ++ dvs) Q E hG hr I1.env0 (hb s1 us I1.kIn hl) r2 q) fun rr s' hq => ?_)
  cases rr with
  | error z => exact hx pins σ H1 s1 z s' I1 hq
  | ok fl =>
    cases fl with
    | ret u => exact I1.after hq
    | next => cases hq
    | brk => cases hq
    | cont => cases hq
end
/-! ### the end of a law whose def is called where nothing is shown -/
section
variable {P : Program} {w : World} {K : PySem.W.Frag} {mg mb : Str → Option Value} {CX : CXT} {k : Nat} {fa a : Addr} {fd : FuncData} {x : Str} {sp : Sp} {s₁ : Shared} {vs : List Value} {ns : List Int}
/-- the abstract heap at the law's call: the script alone, or nothing (where the script is one of the module's objects) -/
structure Ent (K : PySem.W.Frag) (P : Program) (w : World) (s₁ : Shared) (a : Addr) (ns : List Int) (H : Hp) : Prop where
  only : Only H
  seq : SqL K H a (ns.map V.int)
  hok : HOk P w H s₁.heap
  at_ : ∀ b, H b ≠ none → b = a
  offK : H a ≠ none → K.lookup a = none
theorem ent (KX : K.In s₁.heap) (ha : s₁.heap.get? a = some { cls := .type "list", data := .seq vs.toArray }) (hi : IntsAre vs ns) (hl : ns.length ≤ sizeLine) : ∃ H, Ent K P w s₁ a ns H := by
  have rv := vals_ints hi
  have lenV := hi.length
  cases hk : K.lookup a with
  | some o =>
    have e := KX a o hk
    rw [ha] at e
    cases e
    exact ⟨fun _ => none, fun _ => .inl rfl, .inr ⟨_, vs.toArray, _, hk, rfl, rfl, rfl, (by rw [List.size_toArray, lenV]; exact hl), by simpa using rv⟩, (fun b u z => nomatch z), (fun b z => absurd rfl z), fun z => absurd rfl z⟩
  | none =>
    let F : HO := .frz { cls := .type "list", data := .seq vs.toArray } (.lst (ns.map V.int))
    have atA : ∀ {b u}, (if b = a then some F else (none : Option HO)) = some u → b = a ∧ u = F := fun {b u} z => by
      by_cases hb : b = a
      · rw [if_pos hb] at z; cases z; exact ⟨hb, rfl⟩
      · rw [if_neg hb] at z; cases z
    refine ⟨fun b => if b = a then some F else none, fun b => ?_, .inl (.inr ⟨_, if_pos rfl⟩), fun b u z => ?_, fun b z => ?_, fun _ => hk⟩
    · by_cases hb : b = a
      · exact .inr ⟨_, _, if_pos hb⟩
      · exact .inl (if_neg hb)
    · obtain ⟨rfl, rfl⟩ := atA z
      exact ⟨ha, by rw [List.length_map]; exact hl, vs, _, rv, ha⟩
    · by_cases hb : b = a
      · exact hb
      · exact absurd (if_neg hb) z
theorem law_callG (KX : K.In s₁.heap) (hns : s₁.heap.Ns mainGlobals mg) (hb : s₁.heap.Ns builtinsNs mb) (hbb : ∀ x : Str, x ≠ "__name__" → mb x = bootBuiltins x) (hlim : s₁.heap.NoLimit) (hg : s₁.gens = #[])
    (ha : s₁.heap.get? a = some { cls := .type "list", data := .seq vs.toArray }) (hi : IntsAre vs ns) (hl : ns.length ≤ sizeLine) (hr : Room k callerA)
    (F : ∀ base : Heap, K.In base → base.Ns mainGlobals mg → FnG P w K mg base CX k fa fd [x] sp) (hbind : ∀ (s : Shared) (u : Value), BindsTo s fd ⟨[u], []⟩ [(x, u)])
    (hsp : ∀ H : Hp, Only H → SqL K H a (ns.map V.int) → sp [.ref a] H (fun v _ => v = .bl true) fun _ _ _ => False)
    (hCX : ∀ H e s', CX [] H s₁ (fun _ _ _ => False) e s' → False) :
    codeAny (model P w) callerA (.call (.ref fa) ⟨[.ref a], []⟩) (fun r s' => r = .ok (.ret (.bool true)) ∧ OldK s₁.heap s'.heap ∧ s'.os = s₁.os ∧ AllBare s'.gens) s₁ := by
  obtain ⟨H, T⟩ := ent (P := P) (w := w) KX ha hi hl
  have notDict : ∀ {b : Addr} {o : Obj} {es : Array DictEntry} {ep : Nat}, s₁.heap.get? b = some o → o.data = .dict es ep → H b = none := fun {b o es ep} e d => by
    cases q : H b with
    | none => rfl
    | some u =>
      have eb : b = a := T.at_ b (by rw [q]; exact fun z => nomatch z)
      subst eb
      rw [ha] at e
      cases e
      exact absurd d (fun z => by cases z)
  have ns_in : ∀ {b : Addr} {m : Str → Option Value}, s₁.heap.Ns b m → (hidT s₁.heap H).Ns b m := fun {b m} ⟨o, es, ep, e, d, r⟩ => ⟨o, es, ep, hidT_get e (notDict e d), d, r⟩
  have K_in : K.In (hidT s₁.heap H) := fun b o e => hidT_get (KX b o e) (by
    cases q : H b with
    | none => rfl
    | some u =>
      have eb : b = a := T.at_ b (by rw [q]; exact fun z => nomatch z)
      subst eb
      rw [T.offK (by rw [q]; exact fun z => nomatch z)] at e
      cases e)
  have M : Mod K mg (hidT s₁.heap H) := ⟨K_in, ns_in hns, ⟨mb, ns_in hb, hbb⟩, by
    obtain ⟨mc, h1, h2⟩ := hlim
    exact ⟨mc, ns_in h1, h2⟩⟩
  have e0 : Env0 P w K mg (hidT s₁.heap H) callerA [] s₁ H := ⟨rfl, M, fun b o e => of_hidT e, Nat.le_of_eq (hidT_size _ _), trivial, (fun b hb => absurd (show b ∈ ([] : List Addr) from hb) List.not_mem_nil), T.hok, .of_eq hg⟩
  refine codeAny_mono ((F _ K_in (ns_in hns)).run callerA [] s₁ H ⟨[.ref a], []⟩ [.ref a] [.ref a] _ _ rfl hr e0 (hbind s₁ (.ref a)) (.cons rfl .nil) (hsp H T.only T.seq)) fun r s' h => ?_
  cases r with
  | error e => exact (hCX H e s' h).elim
  | ok fl =>
    cases fl with
    | next => cases h
    | brk => cases h
    | cont => cases h
    | ret u =>
      obtain ⟨v, H', os, bare, un, hok', r', q⟩ := h
      have q' : v = .bl true := q
      subst q'
      obtain rfl : u = Value.bool true := r'
      refine ⟨rfl, OldK.of_keep fun b o e => ?_, os, bare⟩
      cases q : H b with
      | none => exact un.keep b o e q (fun z => absurd (show b ∈ ([] : List Addr) from z) List.not_mem_nil) List.not_mem_nil
      | some u =>
        rcases T.only b with z | ⟨ob, xs, z⟩
        · rw [q] at z; cases z
        · have z2 := un.frzs b ob _ z
          have e1 := (T.hok b _ z).1
          have e2 := (hok' b _ z2).1
          rw [e] at e1
          cases e1
          exact e2
end
theorem walk_G {l : PySem.W.OpenLaw} {n k : Nat} {q : Program} {loose : List Str} {XP : (Str → Option Value) → Heap → Prop} {YP : World → Heap → Prop} {d : DefRec} {K : Params → PySem.W.Frag} {CX : World → CXT} {sp : World → Sp} {x : Str}
    (hn : l.most = some n) (hn2 : n ≤ sizeLine) (hdf : d.params.defaults = []) (hr : Room k callerA)
    (hY : ∀ (w : World) (h : Heap), YP w h → (K w.params).In h)
    (F : ∀ (w : World) (mg : Str → Option Value) (fa : Addr) (h : Heap), (K w.params).In h → h.Ns mainGlobals mg → mg d.name = some (.ref fa) →
      ∃ fd : FuncData, (∀ (s : Shared) (u : Value), BindsTo s fd ⟨[u], []⟩ [(x, u)]) ∧
        ∀ base : Heap, (K w.params).In base → base.Ns mainGlobals mg → FnG l.prog w (K w.params) mg base (CX w) k fa fd [x] (sp w))
    (hsp : ∀ (w : World) (H : Hp) (a : Addr) (ns : List Int), ns.length ≤ n → Only H → SqL (K w.params) H a (ns.map V.int) → sp w [.ref a] H (fun v _ => v = .bl true) fun _ _ _ => False)
    (hCX : ∀ (w : World) (H : Hp) (s : Shared) (e : Value) (s' : Shared), CX w [] H s (fun _ _ _ => False) e s' → False) :
    PySem.W.WalkO q loose XP YP l.row.toRowW d [] (fun f vs => PySem.call f vs) := by
  refine Att.attach_call hn hdf fun w s₀ s₁ mg mb fa o pm cd doc a vs ns G Y ho hd hcd hmg hobj hints hlen hg => ?_
  have KX := hY w _ Y
  obtain ⟨fd, hb, hF⟩ := F w mg fa _ KX G.T.g hmg
  exact law_callG KX G.T.g G.T.b G.T.builtins G.T.nolimit hg hobj hints (Nat.le_trans hlen hn2) hr hF hb (fun H hO hS => hsp w H a ns hlen hO hS) fun H e s' => hCX w H s₁ e s'
end Ow

set_option Elab.async false
set_option linter.all false
set_option maxRecDepth 100000
/-! Loops and comprehensions over what is walked: one rule for all sources. -/
namespace Ow
open PySem L2
/-- n turns; while ok stands, turn i gives what Y says -/
structure Src (J : It) (n : Nat) (ok : Hp → Prop) (Y : Nat → Hp → V → Hp → Prop) : Prop where
  go : ∀ i H, i < n → ok H → J.go i H
  stop : ∀ H, ok H → J.stop n H
  yld : ∀ i H x H', i < n → ok H → J.yld i H x H' → Y i H x H'
section
variable {K : PySem.W.Frag} {a b : Addr} {xs ys : List V}
theorem src_range (lo : Int) (n : Nat) : Src (Itr lo n) n (fun _ => True) (fun i H x H' => H' = H ∧ x = .int (lo + i)) :=
  ⟨fun i H h _ => h, fun H _ => Nat.le_refl _, fun i H x H' _ _ y => y⟩
theorem src_list : Src (Itl K a) xs.length (fun H => SqL K H a xs) (fun i H x H' => H' = H ∧ xs[i]? = some x) :=
  ⟨fun i H h s => ⟨xs, xs[i], s, List.getElem?_eq_getElem h⟩, fun H s => ⟨xs, s, Nat.le_refl _⟩, fun i H x H' _ s y => ⟨y.1, y.2 xs s⟩⟩
theorem src_tup : Src (Itt K a) xs.length (fun H => SqT K H a xs) (fun i H x H' => H' = H ∧ xs[i]? = some x) :=
  ⟨fun i H h s => ⟨xs, xs[i], s, List.getElem?_eq_getElem h⟩, fun H s => ⟨xs, s, Nat.le_refl _⟩, fun i H x H' _ s y => ⟨y.1, y.2 xs s⟩⟩
theorem src_enum : Src (Ite K a) xs.length (fun H => SqL K H a xs) (fun i H v H' => ∃ T x, v = .ref T ∧ H T = none ∧ H' = upd H T (.tup [.int (i : Nat), x]) ∧ xs[i]? = some x) :=
  ⟨fun i H h s => ⟨xs, xs[i], s, List.getElem?_eq_getElem h⟩, fun H s => ⟨xs, s, Nat.le_refl _⟩, fun i H x H' _ s ⟨T, y, e1, e2, e3, e4⟩ => ⟨T, y, e1, e2, e3, e4 xs s⟩⟩
theorem src_zip (hl : xs.length = ys.length) : Src (Itz K a b) xs.length (fun H => SqL K H a xs ∧ SqL K H b ys) (fun i H v H' => ∃ T x y, v = .ref T ∧ H T = none ∧ H' = upd H T (.tup [x, y]) ∧ xs[i]? = some x ∧ ys[i]? = some y) :=
  ⟨fun i H h s => ⟨xs, ys, xs[i], ys[i]'(hl ▸ h), s.1, s.2, List.getElem?_eq_getElem h, List.getElem?_eq_getElem _⟩, fun H s => ⟨xs, ys, s.1, s.2, .inl (Nat.le_refl _)⟩,
   fun i H x H' _ s ⟨T, y, z, e1, e2, e3, e4, e5⟩ => ⟨T, y, z, e1, e2, e3, e4 xs s.1, e5 ys s.2⟩⟩
theorem src_str (x : Str) : Src (Its x) x.cps.size (fun _ => True) (fun i H v H' => H' = H ∧ ∃ c, x.cps[i]? = some c ∧ v = .str ⟨#[c]⟩) :=
  ⟨fun i H h _ => h, fun H _ => Nat.le_refl _, fun i H v H' _ _ y => y⟩
end
section
variable {wi : TI} {g : TG} {tb : TS} {tt : TT} {te : TE} {vs : List Nat} {nx : St → Hp → Prop} {rt : VK} {bk ct : St → Hp → Prop} {σ : St} {H : Hp} {Q : VK} {J : It} {n : Nat} {ok : Hp → Prop} {Y : Nat → Hp → V → Hp → Prop}
def forK (g : TG) (tb : TS) (nx : St → Hp → Prop) (rt : VK) (σ : St) (J : It) (H : Hp) : Prop := ∃ W : Nat → Nat → St → Hp → Prop, (∃ m, W 0 m σ H) ∧ ∀ i m σ H, W i m σ H →
  (J.stop i H ∧ nx σ H) ∨ (J.go i H ∧ ∃ N : St → Hp → Prop, (∀ σ' H', N σ' H' → ∃ m', m' < m ∧ W (i + 1) m' σ' H') ∧ ∀ x H', J.yld i H x H' → g x σ H' fun σ2 H2 => tb ⟨N, rt, nx, N⟩ σ2 H2)
theorem w_for (h : wi σ H fun J H1 => forK g tb nx rt σ J H1) : tFor wi g tb ⟨nx, rt, bk, ct⟩ σ H := h
theorem for_go (S : Src J n ok Y) (Pv : Nat → St → Hp → Prop) (h0 : Pv 0 σ H) (hok : ∀ i σ H, i ≤ n → Pv i σ H → ok H)
    (hs : ∀ i σ H x H', i < n → Pv i σ H → Y i H x H' → g x σ H' fun σ2 H2 => tb ⟨Pv (i + 1), rt, nx, Pv (i + 1)⟩ σ2 H2) (hd : ∀ σ H, Pv n σ H → nx σ H) : forK g tb nx rt σ J H := by
  refine ⟨fun i m σ H => m = n - i ∧ i ≤ n ∧ Pv i σ H, ⟨n, by simp, Nat.zero_le _, h0⟩, ?_⟩
  rintro i m σ H ⟨rfl, hi, p⟩
  by_cases hlt : i < n
  · exact .inr ⟨S.go i H hlt (hok i σ H hi p), Pv (i + 1), fun σ' H' p' => ⟨n - (i + 1), by omega, rfl, hlt, p'⟩, fun x H' y => hs i σ H x H' hlt p (S.yld i H x H' hlt (hok i σ H hi p) y)⟩
  · have e : i = n := by omega
    subst e
    exact .inl ⟨S.stop H (hok i σ H hi p), hd σ H p⟩
def lcK (g : TG) (tt : TT) (te : TE) (vs : List Nat) (σ : St) (Q : VK) (J : It) (H1 : Hp) : Prop := ∀ D, H1 D = none → ∃ W : Nat → Nat → Hp → Prop, (∃ m, W 0 m (upd H1 D (.lst []))) ∧ ∀ i m H, W i m H →
  (J.stop i H ∧ Q (.ref D) H) ∨ (J.go i H ∧ ∃ Nx : Hp → Prop, (∀ H', Nx H' → ∃ m', m' < m ∧ W (i + 1) m' H') ∧ ∀ x H', J.yld i H x H' → g x (wipe σ vs) H' fun σ2 H2 => wipe σ2 vs = wipe σ vs ∧ tt σ2 H2 fun b H3 =>
    if b = true then te σ2 H3 fun y H4 => ∃ acc, H4 D = some (.lst acc) ∧ acc.length < sizeLine ∧ Nx (upd H4 D (.lst (acc ++ [y]))) else Nx H3)
theorem w_lc (h : wi σ H fun J H1 => lcK g tt te vs σ Q J H1) : tLc wi g tt te vs σ H Q := h
def nxK (I : Nat → List V → Hp → Prop) (D : Addr) (i : Nat) (H : Hp) : Prop := ∃ ys, ys.length ≤ i + 1 ∧ H D = some (.lst ys) ∧ I (i + 1) ys H
/-- what the element is to leave: the list at D as it was, and the word with one more -/
def eltK (I : Nat → List V → Hp → Prop) (D : Addr) (i : Nat) (y : V) (H : Hp) : Prop := ∃ acc, H D = some (.lst acc) ∧ acc.length < sizeLine ∧ nxK I D i (upd H D (.lst (acc ++ [y])))
theorem w_elt {I : Nat → List V → Hp → Prop} {D : Addr} {i : Nat} {xs : List V} {y : V} (h : H D = some (.lst xs)) (hl : xs.length ≤ i) (hi : i < 100000) (q : ∀ H', Ch D (.lst (xs ++ [y])) H H' → I (i + 1) (xs ++ [y]) H') : eltK I D i y H :=
  ⟨xs, h, Nat.lt_of_le_of_lt hl (Nat.lt_of_lt_of_le hi (by decide)), xs ++ [y], by rw [List.length_append]; show xs.length + 1 ≤ i + 1; omega, upd_same, q _ Ch.upd⟩
theorem lc_go (S : Src J n ok Y) (I : Addr → Nat → List V → Hp → Prop) (h0 : ∀ D H', H D = none → Ch D (.lst []) H H' → I D 0 [] H') (hok : ∀ D i xs H', i ≤ n → I D i xs H' → ok H')
    (hs : ∀ D i xs H1 x H2, H D = none → i < n → xs.length ≤ i → H1 D = some (.lst xs) → I D i xs H1 → Y i H1 x H2 → g x (wipe σ vs) H2 fun σ2 H3 => wipe σ2 vs = wipe σ vs ∧ tt σ2 H3 fun b H4 =>
      if b = true then te σ2 H4 fun y H5 => eltK (I D) D i y H5 else nxK (I D) D i H4)
    (hd : ∀ D xs H', H D = none → xs.length ≤ n → H' D = some (.lst xs) → I D n xs H' → Q (.ref D) H') : lcK g tt te vs σ Q J H := by
  intro D hD
  refine ⟨fun i m H' => m = n - i ∧ i ≤ n ∧ ∃ xs, xs.length ≤ i ∧ H' D = some (.lst xs) ∧ I D i xs H', ⟨n, by simp, Nat.zero_le _, [], Nat.le_refl _, upd_same, h0 D _ hD Ch.upd⟩, ?_⟩
  rintro i m H' ⟨rfl, hi, xs, hl, hx, p⟩
  by_cases hlt : i < n
  · exact .inr ⟨S.go i H' hlt (hok D i xs H' hi p), nxK (I D) D i, fun H'' ⟨ys, l, h1, h2⟩ => ⟨n - (i + 1), by omega, rfl, hlt, ys, l, h1, h2⟩, fun x H2 y => hs D i xs H' x H2 hD hlt hl hx p (S.yld i H' x H2 hlt (hok D i xs H' hi p) y)⟩
  · have e : i = n := by omega
    subst e
    exact .inl ⟨S.stop H' (hok D i xs H' hi p), hd D xs H' hD hl hx p⟩
/-! ### the sources -/
variable {ta : TA} {R : It → Hp → Prop} {tl : TE} {K : PySem.W.Frag} {a : Addr} {xs : List V}
def rng1K (R : It → Hp → Prop) (vs : List V) (H : Hp) : Prop := ∃ j : Int, vs = [.int j] ∧ -(2 ^ 62) ≤ j ∧ j < 2 ^ 62 ∧ R (Itr 0 j.toNat) H
def rng2K (R : It → Hp → Prop) (vs : List V) (H : Hp) : Prop := ∃ i j : Int, vs = [.int i, .int j] ∧ (-(2 ^ 62) ≤ i ∧ i < 2 ^ 62 ∧ -(2 ^ 62) ≤ j ∧ j < 2 ^ 62) ∧ R (Itr i (j - i).toNat) H
theorem w_rng1 (h : ta σ H fun vs H1 => rng1K R vs H1) : iRng1 ta σ H R := h
theorem w_rng2 (h : ta σ H fun vs H1 => rng2K R vs H1) : iRng2 ta σ H R := h
theorem w_rng1K {j : Int} (h1 : -4611686018427387904 ≤ j) (h2 : j < 4611686018427387904) (q : R (Itr 0 j.toNat) H) : rng1K R [.int j] H := ⟨j, rfl, h1, h2, q⟩
theorem w_rng2K {i j : Int} (h1 : -4611686018427387904 ≤ i) (h2 : i < 4611686018427387904) (h3 : -4611686018427387904 ≤ j) (h4 : j < 4611686018427387904) (q : R (Itr i (j - i).toNat) H) : rng2K R [.int i, .int j] H := ⟨i, j, rfl, ⟨h1, h2, h3, h4⟩, q⟩
def iLstK (K : PySem.W.Frag) (R : It → Hp → Prop) (x : V) (H : Hp) : Prop := ∃ a, x = .ref a ∧ (∃ xs, SqL K H a xs) ∧ R (Itl K a) H
def iTupK (K : PySem.W.Frag) (R : It → Hp → Prop) (x : V) (H : Hp) : Prop := ∃ a, x = .ref a ∧ (∃ xs, SqT K H a xs) ∧ R (Itt K a) H
theorem w_ilist (h : tl σ H fun x H1 => iLstK K R x H1) : iList K tl σ H R := h
theorem w_itup (h : tl σ H fun x H1 => iTupK K R x H1) : iTup K tl σ H R := h
theorem w_ilistK (h : SqL K H a xs) (q : R (Itl K a) H) : iLstK K R (.ref a) H := ⟨a, rfl, ⟨xs, h⟩, q⟩
theorem w_itupK (h : SqT K H a xs) (q : R (Itt K a) H) : iTupK K R (.ref a) H := ⟨a, rfl, ⟨xs, h⟩, q⟩
def enumK (K : PySem.W.Frag) (R : It → Hp → Prop) (vs : List V) (H : Hp) : Prop := ∃ a xs, vs = [.ref a] ∧ SqL K H a xs ∧ R (Ite K a) H
theorem w_enum (h : ta σ H fun vs H1 => enumK K R vs H1) : iEnum K ta σ H R := h
theorem w_enumK (h : SqL K H a xs) (q : R (Ite K a) H) : enumK K R [.ref a] H := ⟨a, xs, rfl, h, q⟩
def zipK (K : PySem.W.Frag) (R : It → Hp → Prop) (vs : List V) (H : Hp) : Prop := ∃ a b xs ys, vs = [.ref a, .ref b] ∧ SqL K H a xs ∧ SqL K H b ys ∧ R (Itz K a b) H
theorem w_zip (h : ta σ H fun vs H1 => zipK K R vs H1) : iZip K ta σ H R := h
theorem w_zipK {b : Addr} {ys : List V} (h : SqL K H a xs) (h' : SqL K H b ys) (q : R (Itz K a b) H) : zipK K R [.ref a, .ref b] H := ⟨a, b, xs, ys, rfl, h, h', q⟩
def strK (R : It → Hp → Prop) (v : V) (H : Hp) : Prop := ∃ x, v = .str x ∧ R (Its x) H
theorem w_istr (h : tl σ H fun x H1 => strK R x H1) : iStr tl σ H R := h
theorem w_istrK {x : Str} (q : R (Its x) H) : strK R (.str x) H := ⟨x, rfl, q⟩
/-! targets -/
theorem w_yes {Q : Bool → Hp → Prop} (q : Q true H) : tYes σ H Q := q
theorem w_iteT {A B : Prop} (h : A) : if true = true then A else B := by rw [if_pos rfl]; exact h
theorem w_iteF {A B : Prop} (h : B) : if false = true then A else B := by rw [if_neg Bool.false_ne_true]; exact h
def tupG (t : TGs) (σ : St) (Q : St → Hp → Prop) (xs : List V) (H : Hp) : Prop := t xs σ H Q
theorem w_gTup {n : Nat} {t : TGs} {Q : St → Hp → Prop} (h : SqT K H a xs) (hl : xs.length = n) (q : tupG t σ Q xs H) : gTup K n t (.ref a) σ H Q := ⟨a, xs, rfl, h, hl, q⟩
theorem w_gCons {g : TG} {u : TGs} {Q : St → Hp → Prop} {v : V} {r : List V} (h : g v σ H fun σ' H' => tupG u σ' Q r H') : tupG (gCons g u) σ Q (v :: r) H := ⟨v, r, rfl, h⟩
theorem w_gNil {Q : St → Hp → Prop} (h : Q σ H) : tupG gNil σ Q [] H := ⟨rfl, h⟩
end
end Ow

set_option Elab.async false
set_option linter.all false
set_option maxRecDepth 100000
namespace Ow
open PySem L2
/-! ### texts of letters -/
abbrev AZ : Str := "abcdefghijklmnopqrstuvwxyz"
theorem az_list : AZ.cps.toList = (List.range 26).map (· + 97) := by decide +kernel
def Low (s : Str) : Prop := ∀ c ∈ s.cps.toList, 97 ≤ c ∧ c < 123
structure OkName (s : Str) : Prop where
  lo : 1 ≤ s.length
  hi : s.length ≤ 8
  az : Low s
instance (s : Str) : Decidable (Low s) := inferInstanceAs (Decidable (∀ c ∈ s.cps.toList, 97 ≤ c ∧ c < 123))
theorem len_eq (s : Str) : s.length = s.cps.toList.length := Array.length_toList.symm
theorem str_ext {s t : Str} (h : s.cps.toList = t.cps.toList) : s = t := by
  cases s; cases t
  exact congrArg Str.mk (Array.toList_inj.mp h)
theorem cut_list (z : Str) (lo hi : Option Int) : (cutS z lo hi).cps.toList = (z.cps.toList.drop (HT.sIx z.length 0 lo)).take (HT.sIx z.length z.length hi - HT.sIx z.length 0 lo) := rfl
theorem low_cut {z : Str} {lo hi : Option Int} (h : Low z) : Low (cutS z lo hi) := fun c hc => h c (List.mem_of_mem_drop (List.mem_of_mem_take hc))
theorem cat_list (s t : Str) : (s ++ t).cps.toList = s.cps.toList ++ t.cps.toList := Array.toList_append
theorem low_cat {s t : Str} (a : Low s) (b : Low t) : Low (s ++ t) := fun c hc => by
  rw [cat_list, List.mem_append] at hc
  exact hc.elim (a c) (b c)
theorem len_cat (s t : Str) : (s ++ t).length = s.length + t.length := by rw [len_eq, len_eq, len_eq, cat_list, List.length_append]
theorem len_pre {z : Str} {k : Nat} (h : k ≤ z.length) : (cutS z none (some (k : Int))).length = k := by
  rw [len_eq, cut_list, HT.sIx_nat, HT.sIx_none, List.length_take, List.length_drop, ← len_eq]
  omega
theorem az_at {i : Int} (h0 : 0 ≤ i) (h1 : i < 26) : atI AZ.cps.toList i = some (i.toNat + 97) := by
  have e : i = (i.toNat : Int) := by omega
  rw [e]
  refine atI_nat ?_
  rw [az_list, List.getElem?_map, List.getElem?_range (by omega)]
  rfl
theorem low_one {c : Nat} (h : 97 ≤ c ∧ c < 123) : Low ⟨#[c]⟩ := fun d hd => by
  have : d = c := by simpa using hd
  subst this; exact h
theorem join_ones (cs : List Nat) : (Txt.join "" (cs.map fun c => (⟨#[c]⟩ : Str))).cps.toList = cs := by
  rw [TL.join_eq]
  show TL.tl (Str.join "" _) = cs
  rw [TL.tl_join]
  have e : TL.tl ("" : Str) = [] := by decide +kernel
  rw [e, List.map_map]
  induction cs with
  | nil => rfl
  | cons c r ih =>
    cases r with
    | nil => rfl
    | cons d r => exact congrArg (c :: ·) ih
theorem az_has : ∀ c, 97 ≤ c → c < 123 → (!(Builtin.Str.occurrences AZ ⟨#[c]⟩ 0 AZ.length 1).isEmpty) = true := by
  have h : ∀ k, k < 26 → (!(Builtin.Str.occurrences AZ ⟨#[k + 97]⟩ 0 AZ.length 1).isEmpty) = true := by decide +kernel
  intro c h0 h1
  have := h (c - 97) (by omega)
  rwa [Nat.sub_add_cancel h0] at this
/-! ### no item twice -/
def Dist {α : Type} (xs : List α) : Prop := ∀ (i j : Nat) (x : α), xs[i]? = some x → xs[j]? = some x → i = j
theorem rng_at {α : Type} {f : Nat → α} {n i : Nat} {x : α} (h : ((List.range n).map f)[i]? = some x) : i < n ∧ x = f i := by
  have hl : i < n := by
    have := (List.getElem?_eq_some_iff.mp h).1
    simpa using this
  rw [List.getElem?_map, List.getElem?_range hl] at h
  exact ⟨hl, (Option.some.inj h).symm⟩
theorem dist_map {α : Type} {f : Nat → α} {n : Nat} (inj : ∀ i j, i < n → j < n → f i = f j → i = j) : Dist ((List.range n).map f) := fun i j x h1 h2 => by
  obtain ⟨l1, e1⟩ := rng_at h1
  obtain ⟨l2, e2⟩ := rng_at h2
  exact inj i j l1 l2 (e1.symm.trans e2)
theorem dist_app {α : Type} {xs : List α} {x : α} (d : Dist xs) (n : x ∉ xs) : Dist (xs ++ [x]) := fun i j y h1 h2 => by
  rcases Nat.lt_trichotomy i xs.length with a | a | a
  · rcases Nat.lt_trichotomy j xs.length with b | b | b
    · rw [List.getElem?_append_left a] at h1
      rw [List.getElem?_append_left b] at h2
      exact d i j y h1 h2
    · subst b
      rw [List.getElem?_append_left a] at h1
      have : x = y := by simpa using h2
      subst this
      exact absurd (List.mem_of_getElem? h1) n
    · rw [List.getElem?_eq_none (by rw [List.length_append, List.length_singleton]; omega)] at h2; cases h2
  · subst a
    have e : x = y := by simpa using h1
    subst e
    rcases Nat.lt_trichotomy j xs.length with b | b | b
    · rw [List.getElem?_append_left b] at h2
      exact absurd (List.mem_of_getElem? h2) n
    · exact b.symm
    · rw [List.getElem?_eq_none (by rw [List.length_append, List.length_singleton]; omega)] at h2; cases h2
  · rw [List.getElem?_eq_none (by rw [List.length_append, List.length_singleton]; omega)] at h1; cases h1
/-! ### sums, bounds -/
theorem sum_set : ∀ {xs : List Int} {i : Nat} {v x : Int}, xs[i]? = some x → (xs.set i v).sum = xs.sum - x + v
  | [], _, _, _, h => by simp at h
  | y :: ys, 0, v, x, h => by
    have : y = x := by simpa using h
    subst this
    rw [List.set_cons_zero, List.sum_cons, List.sum_cons]; omega
  | y :: ys, i + 1, v, x, h => by
    rw [List.set_cons_succ, List.sum_cons, List.sum_cons, sum_set (by simpa using h)]; omega
theorem sum_zeros (n : Nat) : (List.replicate n (0 : Int)).sum = 0 := by
  induction n with
  | zero => rfl
  | succ n ih => rw [List.replicate_succ, List.sum_cons, ih]; rfl
def In (lo hi : Int) (xs : List Int) : Prop := ∀ x ∈ xs, lo ≤ x ∧ x ≤ hi
theorem in_mono {lo hi lo' hi' : Int} {xs : List Int} (h : In lo hi xs) (a : lo' ≤ lo) (b : hi ≤ hi') : In lo' hi' xs := fun x m => ⟨Int.le_trans a (h x m).1, Int.le_trans (h x m).2 b⟩
theorem in_set {lo hi v : Int} {xs : List Int} {i : Nat} (h : In lo hi xs) (a : lo ≤ v) (b : v ≤ hi) : In lo hi (xs.set i v) := fun x m => by
  rcases List.mem_or_eq_of_mem_set m with m | rfl
  · exact h x m
  · exact ⟨a, b⟩
theorem in_zeros {lo hi : Int} (a : lo ≤ 0) (b : 0 ≤ hi) (n : Nat) : In lo hi (List.replicate n 0) := fun x m => by
  rw [List.eq_of_mem_replicate m]; exact ⟨a, b⟩
theorem in_at {lo hi x : Int} {xs : List Int} {i : Nat} (h : In lo hi xs) (e : xs[i]? = some x) : lo ≤ x ∧ x ≤ hi := h x (List.mem_of_getElem? e)
theorem at_some {α : Type} {xs : List α} {i : Int} (h0 : 0 ≤ i) (h1 : i < xs.length) : ∃ x, xs[i.toNat]? = some x := ⟨_, List.getElem?_eq_getElem (by omega)⟩
theorem atI_of {xs : List V} {i : Int} {v : V} (h0 : 0 ≤ i) (e : xs[i.toNat]? = some v) : atI xs i = some v := by
  have := atI_nat (j := i.toNat) e
  rwa [Int.toNat_of_nonneg h0] at this
theorem ixN_of {n : Nat} {i : Int} (h0 : 0 ≤ i) (h1 : i < n) : ixN n i = some i.toNat := by
  unfold ixN
  rw [if_pos h0, if_pos h1]
theorem atI_int {ns : List Int} {i : Int} {x : Int} (h0 : 0 ≤ i) (e : ns[i.toNat]? = some x) : atI (ns.map V.int) i = some (.int x) := atI_of h0 (by rw [List.getElem?_map, e]; rfl)
theorem map_set_int {ns : List Int} {m : Nat} {v : Int} : (ns.map V.int).set m (.int v) = (ns.set m v).map V.int := List.map_set.symm
theorem rep_int (n : Nat) (v : Int) : List.replicate n (V.int v) = (List.replicate n v).map V.int := by rw [List.map_replicate]
/-! ### more steps -/
section
variable {σ : St} {H : Hp} {Q : VK} {i j : Int} {v x y : V} {ta tb te : TE} {K : PySem.W.Frag} {t : TA} {a l : Addr} {xs : List V}
def bmK (K : PySem.W.Frag) (T : String) (r : V → List V → Hp → VK → Prop) (t : TA) (σ : St) (Q : VK) (x : V) (H : Hp) : Prop := tyV K T x H ∧ t σ H fun xs H2 => r x xs H2 Q
theorem w_bm {T : String} {r : V → List V → Hp → VK → Prop} (h : te σ H fun x H1 => bmK K T r t σ Q x H1) : tBM K T r te t σ H Q := h
theorem w_bmL {r : V → List V → Hp → VK → Prop} (h : H a = some (.lst xs)) (q : t σ H fun xs H2 => r (.ref a) xs H2 Q) : bmK K "list" r t σ Q (.ref a) H := ⟨.inl ⟨rfl, _, SqL.of h⟩, q⟩
theorem w_append (h : H l = some (.lst xs)) (hl : xs.length < 100000) (q : ∀ H', Ch l (.lst (xs ++ [y])) H H' → Q .non H') : rAppend (.ref l) [y] H Q :=
  ⟨l, xs, y, rfl, rfl, h, Nat.lt_of_lt_of_le hl (by decide), q _ Ch.upd⟩
theorem w_rep (h : H l = some (.lst [v])) (h0 : 0 ≤ j) (h1 : j ≤ 100000) (q : ∀ p H', H p = none → Ch p (.lst (List.replicate j.toNat v)) H H' → Q (.ref p) H') : rRep (.ref l) (.int j) H Q := by
  refine ⟨l, j, [v], rfl, rfl, h, by omega, by omega, ?_, fun p hp => q p _ hp ?_⟩
  · show 1 * j.toNat ≤ 16777216
    omega
  · rw [List.flatten_replicate_singleton]; exact Ch.upd
theorem w_ixS {z : Str} {c : Nat} (hl : z.length ≤ sizeLine) (e : atI z.cps.toList i = some c) (q : Q (.str ⟨#[c]⟩) H) : rIxS (.str z) (.int i) H Q := ⟨z, i, c, rfl, rfl, hl, e, q⟩
def prtK (Q : Option Int → Hp → Prop) (x : V) (H : Hp) : Prop := ∃ i, x = .int i ∧ Q (some i) H
theorem w_part {Q : Option Int → Hp → Prop} (h : te σ H fun x H1 => prtK Q x H1) : tPart te σ H Q := h
theorem w_prtK {Q : Option Int → Hp → Prop} (q : Q (some i) H) : prtK Q (.int i) H := ⟨i, rfl, q⟩
theorem w_nopart {Q : Option Int → Hp → Prop} (q : Q none H) : tNoPart σ H Q := q
theorem w_sl {r : V → Option Int → Option Int → Hp → VK → Prop} {tlo thi : TO} (h : te σ H fun x H1 => tlo σ H1 fun l H2 => thi σ H2 fun u H3 => r x l u H3 Q) : tSl r te tlo thi σ H Q := h
theorem w_slS {z : Str} {lo hi : Option Int} (hl : z.length ≤ 16777216) (q : Q (.str (cutS z lo hi)) H) : rSlS (.str z) lo hi H Q := ⟨z, rfl, hl, q⟩
def par3K (i j l : Nat) (nx : St → Hp → Prop) (σ : St) (vs : List V) (H : Hp) : Prop := ∃ u v w, vs = [u, v, w] ∧ nx (((σ.set i (some u)).set j (some v)).set l (some w)) H
theorem w_par3 {nx : St → Hp → Prop} {rt : VK} {bk ct : St → Hp → Prop} {i j l : Nat} (h : t σ H fun vs H1 => par3K i j l nx σ vs H1) : tPar3 i j l t ⟨nx, rt, bk, ct⟩ σ H := h
theorem w_par3K {nx : St → Hp → Prop} {i j l : Nat} {u v w : V} {σ' : St} (e : ((σ.set i (some u)).set j (some v)).set l (some w) = σ') (h : nx σ' H) : par3K i j l nx σ [u, v, w] H := ⟨u, v, w, rfl, by rw [e]; exact h⟩
def joinK (K : PySem.W.Frag) (te : TE) (σ : St) (Q : VK) (x : V) (H : Hp) : Prop := (∃ a, x = .str a) ∧ te σ H fun y H2 => rJoin K x [y] H2 Q
theorem w_join (h : ta σ H fun x H1 => joinK K te σ Q x H1) : tJoin K ta te σ H Q := h
theorem w_joinK {z : Str} (h : te σ H fun y H2 => rJoin K (.str z) [y] H2 Q) : joinK K te σ Q (.str z) H := ⟨⟨z, rfl⟩, h⟩
theorem w_min3 {k : Int} (q : Q (.int (if j < i then (if k < j then k else j) else (if k < i then k else i))) H) : rMin3 [.int i, .int j, .int k] H Q := ⟨i, j, k, rfl, q⟩
def tAndK (tb : TE) (σ : St) (Q : VK) (x : V) (H : Hp) : Prop := ∃ c, x = .bl c ∧ if c = true then tb σ H Q else Q (.bl false) H
theorem w_andV (h : ta σ H fun x H1 => tAndK tb σ Q x H1) : tAndV ta tb σ H Q := h
theorem w_andVK {c : Bool} (h : if c = true then tb σ H Q else Q (.bl false) H) : tAndK tb σ Q (.bl c) H := ⟨c, rfl, h⟩
end
/-! ### comprehensions -/
section
variable {g : TG} {tt : TT} {te : TE} {vs : List Nat} {σ : St} {H : Hp} {Q : VK} {J : It} {n : Nat} {ok : Hp → Prop} {Y : Nat → Hp → V → Hp → Prop} {α : Type} {F : Fam α}
/-- each turn a value that is known, nothing else changes -/
theorem lc_pure (S : Src J n ok Y) (f : Nat → V) (hn : n ≤ 100000) (hok : ∀ H', Same H H' → ok H')
    (hs : ∀ i H1 x H2 (N : VK), i < n → Same H H1 → Y i H1 x H2 → (∀ H4, Same H1 H4 → N (f i) H4) → g x (wipe σ vs) H2 fun σ2 H3 => wipe σ2 vs = wipe σ vs ∧ te σ2 H3 N)
    (mono : ∀ z σ H (Q Q' : St → Hp → Prop), (∀ σ2 H2, Q σ2 H2 → Q' σ2 H2) → g z σ H Q → g z σ H Q')
    (hd : ∀ D H', H D = none → Same H H' → H' D = some (.lst ((List.range n).map f)) → Q (.ref D) H') : lcK g tYes te vs σ Q J H := by
  refine lc_go S (fun D i ys H' => Same H H' ∧ ys = (List.range i).map f) (fun D H' hD c => ⟨c.same hD, rfl⟩) (fun D i ys H' _ h => hok H' h.1) ?_ (fun D ys H' hD hl hx h => hd D H' hD h.1 (by rw [hx, h.2]))
  rintro D i ys H1 x H2 hD hi hl hx ⟨s, rfl⟩ y
  refine mono _ _ _ _ _ (fun σ2 H3 h => ⟨h.1, w_yes (w_iteT h.2)⟩) (hs i H1 x H2 _ hi s y fun H4 s4 => ?_)
  exact w_elt (s4 _ _ hx) hl (Nat.lt_of_lt_of_le hi hn) fun H' c => ⟨sch (s.trans s4) hD c, by rw [List.range_succ, List.map_append]; rfl⟩
/-- each turn a new value of a family, and a rest of the heap that R tells of -/
theorem lc_fam (G : Good F) (S : Src J n ok Y) (P : Nat → List α → Prop) (R : Nat → Hp → Prop) (K2 : Hp → Hp → Prop) (hn : n ≤ 100000) (p0 : P 0 []) (r0 : R 0 H)
    (stab : ∀ i p o H1 H2, H p = none → R i H1 → Ch p o H1 H2 → R i H2) (hK : ∀ H1 H2 b o, K2 H1 H2 → H b = none → H1 b = some o → H2 b = some o) (hok : ∀ i H', i ≤ n → R i H' → ok H')
    (dom : ∀ i H1, R i H1 → ∀ b, H1 b = none → H b = none)
    (hs : ∀ i as H1 x H2 (N : V → Hp → Prop) (N' : Hp → Prop), i < n → P i as → R i H1 → Y i H1 x H2 → (∀ y a H5, K2 H1 H5 → R (i + 1) H5 → F (New H1) H5 y a → P (i + 1) (as ++ [a]) → N y H5) → (∀ H5, K2 H1 H5 → R (i + 1) H5 → P (i + 1) as → N' H5) →
      g x (wipe σ vs) H2 fun σ2 H3 => wipe σ2 vs = wipe σ vs ∧ tt σ2 H3 fun b H4 => if b = true then te σ2 H4 N else N' H4)
    (hd : ∀ D as H', H D = none → P n as → R n H' → fL F (New H) H' (.ref D) as → Q (.ref D) H') : lcK g tt te vs σ Q J H := by
  refine lc_go S (fun D i ys H' => R i H' ∧ ∃ as, P i as ∧ All2 (F (fun a => H a = none ∧ a ≠ D) H') ys as) (fun D H' hD c => ⟨stab 0 D _ _ _ hD r0 c, [], p0, .nil⟩) (fun D i ys H' hi h => hok i H' hi h.1) ?_ ?_
  · rintro D i ys H1 x H2 hD hi hl hx ⟨r, as, p, fa⟩ y
    have old : ∀ H5, K2 H1 H5 → All2 (F (fun a => H a = none ∧ a ≠ D) H5) ys as := fun H5 k => fa.imp fun _ _ q => G.keep (fun a o s e => hK _ _ a o k s.1 e) q
    refine hs i as H1 x H2 _ _ hi p r y (fun z a H5 k r5 f5 p5 => ?_) fun H5 k r5 p5 => ?_
    · refine w_elt (hK _ _ _ _ k hD hx) hl (Nat.lt_of_lt_of_le hi hn) fun H' c => ⟨stab _ D _ _ _ hD r5 c, as ++ [a], p5, ?_⟩
      have ch : ∀ {v : V} {b : α}, F (fun a => H a = none ∧ a ≠ D) H5 v b → F (fun a => H a = none ∧ a ≠ D) H' v b := fun q => G.keep (fun a o s e => c.keep s.2 e) q
      refine ((old H5 k).imp fun _ _ q => ch q).append (.one (ch (G.mono (fun b nb => ⟨?_, fun e => ?_⟩) f5)))
      · exact dom i H1 r b nb
      · subst e
        have nb' : H1 b = none := nb
        rw [hx] at nb'; cases nb'
    · exact ⟨ys, Nat.le_succ_of_le hl, hK _ _ _ _ k hD hx, r5, as, p5, old H5 k⟩
  · rintro D ys H' hD hl hx ⟨r, as, p, fa⟩
    exact hd D as H' hD p r ⟨D, ys, rfl, hD, hx, fa.imp fun _ _ q => G.mono (fun b s => s.1) q⟩
theorem dom_kw {w : Addr} {k : Nat} {H H1 : Hp} (kw : Kw w H H1) (W : Well H1 w k) : ∀ b, H1 b = none → H b = none := fun b nb => by
  by_cases e : b = w
  · subst e; exact absurd nb W.some
  · exact kw.free e nb
theorem dom_same {H H1 : Hp} (s : Same H H1) : ∀ b, H1 b = none → H b = none := fun b nb => by
  cases e : H b with
  | none => rfl
  | some o => rw [s b o e] at nb; cases nb
/-- as lc_fam, with draws from a well -/
theorem lc_well {w : Addr} {k : Nat} (G : Good F) (S : Src J n ok Y) (P : Nat → List α → Prop) (c : Nat) (hn : n ≤ 100000) (p0 : P 0 []) (W : Well H w k) (hok : ∀ H', Kw w H H' → ok H')
    (hs : ∀ i as H1 x H2 (N : V → Hp → Prop) (N' : Hp → Prop), i < n → P i as → Kw w H H1 → Well H1 w (k + c * i) → Y i H1 x H2 → (∀ y a H5, Kw w H1 H5 → Well H5 w (k + c * i + c) → F (New H1) H5 y a → P (i + 1) (as ++ [a]) → N y H5) →
      (∀ H5, Kw w H1 H5 → Well H5 w (k + c * i + c) → P (i + 1) as → N' H5) → g x (wipe σ vs) H2 fun σ2 H3 => wipe σ2 vs = wipe σ vs ∧ tt σ2 H3 fun b H4 => if b = true then te σ2 H4 N else N' H4)
    (hd : ∀ D as H', H D = none → Kw w H H' → Well H' w (k + c * n) → P n as → fL F (New H) H' (.ref D) as → Q (.ref D) H') : lcK g tt te vs σ Q J H := by
  have nw : ∀ {b : Addr}, H b = none → b ≠ w := fun hb e => W.some (e ▸ hb)
  refine lc_fam G S P (fun i H' => Kw w H H' ∧ Well H' w (k + c * i)) (Kw w) hn p0 ⟨.refl, W⟩ (fun i p o H1 H2 hp r ch => ⟨r.1.ch hp ch, r.2.ch (nw hp) ch⟩) (fun H1 H2 b o kw hb e => kw b o (nw hb) e) (fun i H' _ r => hok H' r.1) (fun i H1 r => dom_kw r.1 r.2) ?_ (fun D as H' hD p r f => hd D as H' hD r.1 r.2 p f)
  intro i as H1 x H2 N N' hi p r y hN hN'
  have e : k + c * (i + 1) = k + c * i + c := by rw [Nat.mul_add, Nat.mul_one, Nat.add_assoc]
  refine hs i as H1 x H2 N N' hi p r.1 r.2 y (fun z a H5 k5 w5 f5 p5 => hN z a H5 k5 ⟨r.1.trans k5, ?_⟩ f5 p5) fun H5 k5 w5 p5 => hN' H5 k5 ⟨r.1.trans k5, ?_⟩ p5
  · show Well H5 w (k + c * (i + 1)); rw [e]; exact w5
  · show Well H5 w (k + c * (i + 1)); rw [e]; exact w5
/-- as lc_fam, where nothing is drawn -/
theorem lc_same (G : Good F) (S : Src J n ok Y) (P : Nat → List α → Prop) (hn : n ≤ 100000) (p0 : P 0 []) (hok : ∀ H', Same H H' → ok H')
    (hs : ∀ i as H1 x H2 (N : V → Hp → Prop) (N' : Hp → Prop), i < n → P i as → Same H H1 → Y i H1 x H2 → (∀ y a H5, Same H1 H5 → F (New H1) H5 y a → P (i + 1) (as ++ [a]) → N y H5) →
      (∀ H5, Same H1 H5 → P (i + 1) as → N' H5) → g x (wipe σ vs) H2 fun σ2 H3 => wipe σ2 vs = wipe σ vs ∧ tt σ2 H3 fun b H4 => if b = true then te σ2 H4 N else N' H4)
    (hd : ∀ D as H', H D = none → Same H H' → P n as → fL F (New H) H' (.ref D) as → Q (.ref D) H') : lcK g tt te vs σ Q J H := by
  refine lc_fam G S P (fun i H' => Same H H') Same hn p0 (Same.refl H) (fun i p o H1 H2 hp r ch => sch r hp ch) (fun H1 H2 b o kw hb e => kw b o e) (fun i H' _ r => hok H' r) (fun i H1 r => dom_same r) ?_ (fun D as H' hD p r f => hd D as H' hD r p f)
  intro i as H1 x H2 N N' hi p r y hN hN'
  exact hs i as H1 x H2 N N' hi p r y (fun z a H5 k5 f5 p5 => hN z a H5 k5 (r.trans k5) f5 p5) fun H5 k5 p5 => hN' H5 k5 (r.trans k5) p5
end
end Ow
namespace Ow
open PySem L2
theorem take_snoc {α : Type} : ∀ {xs : List α} {i : Nat} {x : α}, xs[i]? = some x → xs.take i ++ [x] = xs.take (i + 1)
  | [], _, _, h => by simp at h
  | y :: ys, 0, x, h => by
    have : y = x := by simpa using h
    subst this; rfl
  | y :: ys, i + 1, x, h => congrArg (y :: ·) (take_snoc (xs := ys) (by simpa using h))
theorem take_all {α : Type} (xs : List α) : xs.take xs.length = xs := List.take_length
section
variable {σ : St} {H : Hp} {Q : VK} {i j : Int} {v x y : V} {K : PySem.W.Frag} {a l : Addr} {ns : List Int}
theorem w_setI {Q : St → Hp → Prop} {z : Int} (h : H a = some (.lst (ns.map V.int))) (h0 : 0 ≤ i) (h1 : i < ns.length) (q : ∀ H', Ch a (.lst ((ns.set i.toNat z).map V.int)) H H' → Q σ H') : subK rSetL σ Q (.ref a) (.int i) (.int z) H :=
  w_setN h (ixN_of h0 (by rw [List.length_map]; exact h1)) map_set_int q
theorem w_ixI (h : H a = some (.lst (ns.map V.int))) (h0 : 0 ≤ i) (h1 : i < ns.length) (q : ∀ x, ns[i.toNat]? = some x → Q (.int x) H) : rIxL K (.ref a) (.int i) H Q := by
  obtain ⟨x, e⟩ := at_some h0 h1
  exact w_ixL (SqL.of h) (atI_int h0 e) (q x e)
theorem w_repI {y' : Int} (h : H l = some (.lst [.int y'])) (h0 : 0 ≤ j) (h1 : j ≤ 100000) (q : ∀ p H', H p = none → Ch p (.lst ((List.replicate j.toNat y').map V.int)) H H' → Q (.ref p) H') : rRep (.ref l) (.int j) H Q :=
  w_rep h h0 h1 fun p H' hp c => q p H' hp (by rw [← rep_int]; exact c)
theorem w_lenI (h : H a = some (.lst (ns.map V.int))) (q : Q (.int ns.length) H) : rLen K [.ref a] H Q := w_len (SqL.of h) (by rw [List.length_map]; exact q)
/-! families as they are used -/
variable {α β : Type} {F : Fam α} {G : Fam β} {S : Addr → Prop} {as : List α} {p : α × β}
theorem w_gT2 {t : TGs} {Q : St → Hp → Prop} (h : fT F G S H x p) (q : ∀ u w, F S H u p.1 → G S H w p.2 → tupG t σ Q [u, w] H) : gTup K 2 t x σ H Q := by
  obtain ⟨a, u, w, rfl, _, h, f, g⟩ := h
  exact w_gTup (SqT.of h) rfl (q u w f g)
theorem w_lenF (h : fL F S H v as) (q : Q (.int as.length) H) : rLen K [v] H Q := by
  obtain ⟨a, vs, rfl, _, h, r⟩ := h
  exact w_len (SqL.of h) (by rw [r.length]; exact q)
theorem w_ixF (h : fL F S H v as) (h0 : 0 ≤ i) (h1 : i < as.length) (q : ∀ u x, as[i.toNat]? = some x → F S H u x → Q u H) : rIxL K v (.int i) H Q := by
  obtain ⟨a, vs, rfl, _, h, r⟩ := h
  obtain ⟨x, e⟩ := at_some (xs := as) h0 h1
  obtain ⟨u, e1, e2⟩ := r.getR e
  exact w_ixL (SqL.of h) (atI_of h0 e1) (q u x e e2)
theorem w_ixP0 (h : fT F G S H x p) (q : ∀ u, F S H u p.1 → Q u H) : rIxT K x (.int 0) H Q := by
  obtain ⟨a, u, w, rfl, _, h, f, g⟩ := h
  exact w_ixT (SqT.of h) rfl (q u f)
theorem w_ixP1 (h : fT F G S H x p) (q : ∀ u, G S H u p.2 → Q u H) : rIxT K x (.int 1) H Q := by
  obtain ⟨a, u, w, rfl, _, h, f, g⟩ := h
  exact w_ixT (SqT.of h) rfl (q w g)
end
/-! what a list of draws adds to -/
theorem sum_take {xs : List Int} : ∀ (h : ∀ x ∈ xs, 0 ≤ x), 0 ≤ xs.sum := by
  induction xs with
  | nil => intro _; exact Int.le_refl 0
  | cons x r ih =>
    intro h
    have a := h x (List.mem_cons_self ..)
    have b := ih fun y m => h y (List.mem_cons_of_mem _ m)
    rw [List.sum_cons]; omega
theorem le_sum {xs : List Int} : ∀ (h : ∀ x ∈ xs, 0 ≤ x), ∀ x ∈ xs, x ≤ xs.sum := by
  induction xs with
  | nil => intro _ x m; cases m
  | cons y r ih =>
    intro h x m
    have a := h y (List.mem_cons_self ..)
    have hr : ∀ z ∈ r, 0 ≤ z := fun z m => h z (List.mem_cons_of_mem _ m)
    have b := sum_take hr
    rw [List.sum_cons]
    rcases List.mem_cons.mp m with rfl | m
    · omega
    · have := ih hr x m; omega
end Ow

set_option Elab.async false
set_option linter.all false
set_option maxRecDepth 100000
namespace Ow
open PySem PySem.Spec PyProof.Rows L2
/-! ### calls by names alone -/
def tMethK (C : Addr) (m : Str) (n : Nat) (sp : Sp) (gV : List V → List V → List V) (E : XK) (ta : TE) (tk : TA) : TE := fun σ H Q => ta σ H fun x H1 => ∃ a dx fs, x = .ref a ∧ H1 a = some (.ins C dx fs) ∧ fs.lookup m = none ∧
  tk σ H1 fun zs H2 => zs.length = n ∧ sp (gV [x] zs) H2 Q E
def tCallK0 (n : Nat) (sp : Sp) (gV : List V → List V → List V) (E : XK) (tk : TA) : TE := fun σ H Q => tk σ H fun zs H2 => zs.length = n ∧ sp (gV [] zs) H2 Q E
/-- by the places of the names -/
def pick {α : Type} (is : List Nat) (zs : List α) : List α := is.filterMap fun i => zs[i]?
theorem pick_rel {zs : List V} {ws : List Value} (r : Vals zs ws) : ∀ is : List Nat, Vals (pick is zs) (pick is ws)
  | [] => .nil
  | i :: is => by
    have ih := pick_rel r is
    have hl := r.length
    unfold pick at ih ⊢
    rw [List.filterMap_cons, List.filterMap_cons]
    cases e : ws[i]? with
    | none =>
      have e2 : zs[i]? = none := by
        rw [List.getElem?_eq_none_iff] at e ⊢
        omega
      rw [e2]
      exact ih
    | some u =>
      obtain ⟨x, e2, rx⟩ := vals_getR r e
      rw [e2]
      exact .cons rx ih
section
variable {X : Cx} {CX : CXT} {k n : Nat} {f C : Addr} {fd : FuncData} {ps ks : List Str} {sp : Sp} {E : XK} {x m : Str} {p pos apos : Pos} {o : Expr} {kws : List Keyword} {ta : TE} {tk : TA} {g : List Value → List Value → List Value} {gV : List V → List V → List V}
theorem run_kn {pins : List (Addr × Obj)} {σ : L2.St} {H : Hp} {s : Shared} {Q : VK} {us ws : List Value} {vs zs : List V} (F : FnOk X.prog X.w X.K X.mg X.base CX k f fd ps sp) (hr : Room k X.A) (hb : KBn X.K fd ps n ks g gV) (hx : Passes CX X E)
    (I : Inv X pins σ H s) (r : Vals vs us) (rz : Vals zs ws) (l1 : vs.length = n) (l2 : zs.length = ks.length) (h : sp (gV vs zs) H Q E) : wpAny (model X.prog X.w) X.A (call (.ref f) us (ks.zip ws)) (EP X pins σ Q) X.xe s := by
  have r2 := hb.rel r rz
  refine wpAny_call (codeAny_mono (F.run X.A X.stack s H ⟨us, ks.zip ws⟩ (g us ws) (gV vs zs) Q E hr I.env0 (hb.to s us ws I.kIn (r.length.symm.trans l1) (rz.length.symm.trans l2)) r2 h) fun r s' hq => ?_)
  cases r with
  | error e => exact hx pins σ H s e s' I hq
  | ok fl =>
    cases fl with
    | ret u => exact I.after hq
    | next => exact False.elim hq
    | brk => exact False.elim hq
    | cont => exact False.elim hq
theorem pe_methK0 {pl : Sem Bool} (he : PE X o ta) (c : Cls X.K C) (hm : Meth X.K C m f) (F : FnOk X.prog X.w X.K X.mg X.base CX k f fd ps sp) (hr : Room k X.A) (hb : KBn X.K fd ps 1 ks g gV) (hx : Passes CX X E) (hkw : PK X kws tk) (hn : ks.length = n)
    (hall : (backToKw pos (keywordEach kws X.env)).all (·.1.isSome) = true := by rfl) (hks : (backToKw pos (keywordEach kws X.env)).filterMap (·.1) = ks := by rfl)
    (hpl : ((backTo pos (starEach [] X.env)).any (·.1) || (backToKw pos (keywordEach kws X.env)).any (·.1.isNone)) = false := by rfl)
    (ht : eval (.Call (.Attribute o m apos) [] kws pos) X.env = (do
      let ov ← eval o X.env
      standAt apos.atName
      let (f, first) ← holding [ov] (getMethod ov m pl)
      callWith pos f first (backTo pos (starEach [] X.env)) (backToKw pos (keywordEach kws X.env))) := by rfl) :
    PE X (.Call (.Attribute o m apos) [] kws pos) (tMethK C m n sp gV E ta tk) := by
  subst hn
  refine ⟨fun pins s σ H Q I h => ?_⟩
  refine PySem.W.methodCall_KW (pl := pl) (thn (he.run pins s σ H _ I h) fun u s1 ⟨x, H1, I1, rx, a, dx, fs, ex, ea, l, q⟩ => ?_) ht
  subst ex
  obtain rfl : u = Value.ref a := rx
  refine getmeth_ok I1 ea c hm l ?_
  refine PySem.W.callWith_KW0 (first := [.ref a]) (h₀ := X.base) I.ok.mod.kin hm.kp hall ?_ hpl
  refine thn (hkw.run pos pins s1 σ H1 _ I1 q) fun ws s2 ⟨zs, H2, I2, rz, l2, q2⟩ => ⟨I2.kIn, ?_⟩
  rw [hks]
  exact run_kn (us := [.ref a]) (vs := [.ref a]) F hr hb hx I2 (.cons rfl .nil) rz rfl l2 q2
theorem pe_callK0 (F : FnOk X.prog X.w X.K X.mg X.base CX k f fd ps sp) (hr : Room k X.A) (hg : Gl X x) (hm : X.mg x = some (.ref f)) (hk : PySem.W.keepIn X.K (.ref f) = true) (hb : KBn X.K fd ps 0 ks g gV) (hx : Passes CX X E) (hkw : PK X kws tk) (hn : ks.length = n)
    (hall : (backToKw pos (keywordEach kws X.env)).all (·.1.isSome) = true := by rfl) (hks : (backToKw pos (keywordEach kws X.env)).filterMap (·.1) = ks := by rfl) (hdb : (x == ("__debug__" : Str)) = false := by decide)
    (hpl : ((backTo pos (starEach [] X.env)).any (·.1) || (backToKw pos (keywordEach kws X.env)).any (·.1.isNone)) = false := by rfl) :
    PE X (.Call (.Name x p) [] kws pos) (tCallK0 n sp gV E tk) := by
  subst hn
  refine ⟨fun pins s σ H Q I h => ?_⟩
  refine wpAny_Call_Name_kw (ld_glob I hg hm ?_ hdb)
  refine PySem.W.callWith_KW0 (h₀ := X.base) I.ok.mod.kin hk hall ?_ hpl
  refine thn (hkw.run pos pins s σ H _ I h) fun ws s2 ⟨zs, H2, I2, rz, l2, q2⟩ => ⟨I2.kIn, ?_⟩
  rw [hks]
  exact run_kn (us := []) (vs := []) F hr hb hx I2 .nil rz rfl l2 q2
end
end Ow

set_option Elab.async false
set_option linter.all false
set_option maxRecDepth 100000
set_option maxHeartbeats 2000000
namespace PySem.W
open PySem PySem.Spec PySem.Calls PyProof.Rows
section
variable {prog : Program} {w : World} {A : Around} {E : Value → Shared → Prop} {s : Shared} {K : Frag} {x D : Addr} {ox od : Obj}
theorem findObj_dataD {C : Addr} {name : Str} {a g : Value} (hc : (clsIn K C).isSome = true) (ha : findIn K (.ref C) name = some (some a)) (hg : specialIn K a "__get__" = some (some g)) (ht : takesIn K a = some true) : findObj K C (some od) name = some (.bind g a) := by
  obtain ⟨cd, hc⟩ := Option.isSome_iff_exists.mp hc
  unfold findObj
  rw [hc, Option.bind_some, ha, Option.bind_some]
  simp [hg, ht]
theorem kin_classED {Q : Option Value → Shared → Prop} (hga : findIn K (.ref D) "__getattribute__" = some (some (.builtin "BaseException.__getattribute__"))) (hgt : findIn K (.ref D) "__getattr__" = some none) (hsub : subIn K (.ref D) (.type "BaseException") = some true)
    (hdct : hasDictIn K D = true) (ha : findIn K (.ref D) "__class__" = some (some (.builtin "object.__class__")))
    (hn : specialIn K (.builtin "object.__class__") "__get__" = some (some (.builtin "getset_descriptor.__get__"))) (htk : takesIn K (.builtin "object.__class__") = some true) (hm : mroIn K D (.type "object") = some true)
    (X : K.In s.heap) (I : InstAt s.heap x ox D (some od)) (h : Q (some (.ref D)) { s with toks := s.toks + 1 }) : wpAny (model prog w) A (getAttr? (.ref x) "__class__") Q E s := by
  have hf : findObj K D (some od) "__class__" = some (.bind (.builtin "getset_descriptor.__get__") (.builtin "object.__class__")) := findObj_dataD (by obtain ⟨cd, hc, _⟩ := any_some hdct; rw [hc]; rfl) ha hn htk
  obtain ⟨hp, g, d, t, os⟩ := s
  have L0 := I.type (M := model prog w)
  have L1 := looks_findIn (M := model prog w) X hga
  have L2 := looks_findIn (M := model prog w) X hgt
  have L3 := looks_find (M := model prog w) X I hf
  have sub : Looks (model prog w) hp (isInstance (.ref x) (.type "BaseException")) true := L0.andThen (looks_subIn X hsub)
  have hx0 : (false && onTheHeap (Value.builtin "BaseException.__getattribute__")) = false := rfl
  have hx2 : (Value.builtin "BaseException.__getattribute__" == Value.builtin "object.__getattribute__") = false := by decide +kernel
  have hx1 : (onTheHeap (Value.ref D) && Value.builtin "BaseException.__getattribute__" == Value.builtin "object.__getattribute__") = false := by rw [hx2]; rfl
  unfold getAttr? getAttrBy? getAttrBy
  refine wpAny_bind (wpAny_mkText (wpAny_bind (wpAny_attempt (wpAny_holding (wpAny_bind (L0.at (wpAny_bind (L1.at ?_))))))))
  show wpAny _ _ (if (onTheHeap (Value.ref D) && Value.builtin "BaseException.__getattribute__" == Value.builtin "object.__getattribute__") = true then _ else _) _ _ _
  rw [hx1, if_neg Bool.false_ne_true]
  unfold getAttrByItsOwn hookBefore
  refine wpAny_bind ?_
  rw [if_pos (show onTheHeap (Value.ref D) = true from rfl)]
  refine L2.at ?_
  refine wpAny_bind (wpAny_attempt (wpAny_holding ?_))
  unfold callGetattribute
  rw [hx0, if_neg Bool.false_ne_true]
  unfold boundAndCalled
  rw [PySem.F.excAttr_ValueError.ga.bind (.ref x)]
  refine wpAny_bind (wpAny_pure ?_)
  show wpAny _ _ (call (.builtin "BaseException.__getattribute__") [.ref x, .str "__class__" t]) _ _ _
  refine wpAny_call (codeAny_call_builtin PySem.F.excAttr_ValueError.ga.plain PySem.F.entry_bexc_ga ?_)
  refine @check_slot (model prog w) _ _ ⟨hp, g, d, t + 1, os⟩ "BaseException.__getattribute__" "BaseException" "__getattribute__" (.ref x) [.str "__class__" t] [] _ (by decide +kernel) (by decide +kernel) sub (PySem.F.args_bexc_ga (.ref x) (.str "__class__" t)) ?_
  unfold Builtin.«object.__getattribute__»
  refine wpAny_bind (wpAny_of_eq (a := ((Value.ref x : Value), [Value.str "__class__" t])) (by first | rfl | (simp only [slotArgs]; rfl)) ?_)
  refine wpAny_bind (wpAny_pure (wpAny_bind (L0.at (wpAny_bind (L3.at ?_)))))
  show wpAny _ _ (holding [Value.builtin "object.__class__"] (call (.builtin "getset_descriptor.__get__") [.builtin "object.__class__", .ref x, .ref D]) >>= ret) _ _ _
  refine wpAny_bind (wpAny_holding (wpAny_call (class_get (s := ⟨hp, g, d, t + 1, os⟩) (ox := ox) (od := some od) X I hm ?_)))
  refine wpAny_pure ?_
  show wpAny _ _ (handedOut (.ref D)) _ _ _
  rw [handedOut_of (v := .ref D) rfl]
  first
    | exact wpAny_pure (wpAny_pure h)
    | exact wpAny_pure h
    | exact wpAny_pure (wpAny_bind (wpAny_pure (wpAny_pure h)))
theorem kitx_excD (hga : findIn K (.ref D) "__getattribute__" = some (some (.builtin "BaseException.__getattribute__"))) (hgt : findIn K (.ref D) "__getattr__" = some none) (hsub : subIn K (.ref D) (.type "BaseException") = some true) (hdct : hasDictIn K D = true) (ha : findIn K (.ref D) "__class__" = some (some (.builtin "object.__class__")))
    (hn : specialIn K (.builtin "object.__class__") "__get__" = some (some (.builtin "getset_descriptor.__get__"))) (htk : takesIn K (.builtin "object.__class__") = some true) (hm : mroIn K D (.type "object") = some true) :
    KitX K (.ref x) (.ref D) (fun h => InstAt h x ox D (some od)) where
  ty := fun _ _ _ I => I.type
  it := fun _ _ X _ => by
    obtain ⟨cdD, hcD, _⟩ := any_some hdct
    unfold clsIn at hcD
    split at hcD
    · rename_i c' d' cd' sl' ho
      intro A' Q' E' s' k q
      unfold isType loadHead
      exact wpAny_bind (wpAny_loadPart (k _ _ (X _ _ ho)) (wpAny_pure q))
    · cases hcD
  ne := fun h tp dd its n sl X htp => by
    obtain ⟨cdD, hcD, _⟩ := any_some hdct
    refine Bool.eq_false_iff.mpr fun q => ?_
    have e : D = tp := Value.ref.inj (beq_iff_eq.mp q)
    subst e
    unfold clsIn at hcD
    split at hcD
    · rename_i c' d' cd' sl' ho
      have z := (X _ _ ho).symm.trans htp
      cases z
    · cases hcD
  ca := fun X I k => kin_classED hga hgt hsub hdct ha hn htk hm X I k
end
end PySem.W
namespace Ow
open PySem PySem.Spec PyProof.Rows L2
/-- raise C(e) -/
def tRaise (C : Addr) (sp : Sp) (ta : TA) (E : XK) : TS := fun _ σ H => tMkO C sp [] ta σ H fun cls d H' => E cls d H'
/-- try: .. except c as x: .. -/
def tTryAs (K : PySem.W.Frag) (c : Value) (i : Nat) (tb : WX → TS) (ts : Addr → Value → Option Addr → TS) : TS := fun D σ H => tb (wAs K c i ts (fun _ _ _ _ => False) D) D σ H
/-- a call by names alone that may raise -/
def tCallKS (n : Nat) (sp : Sp) (gV : List V → List V → List V) (E : L2.St → XK) (tk : TA) : TE := fun σ H Q => tk σ H fun zs H2 => zs.length = n ∧ sp (gV [] zs) H2 Q (E σ)
section
variable {X : Cx} {CX : CXT} {k n : Nat} {f C : Addr} {fd : FuncData} {ps ks : List Str} {sp : Sp} {E : L2.St → XK} {x m : Str} {p pos apos : Pos} {o : Expr} {kws : List Keyword} {ta : TE} {tk : TA} {g : List Value → List Value → List Value} {gV : List V → List V → List V}
theorem run_knS {pins : List (Addr × Obj)} {σ : L2.St} {H : Hp} {s : Shared} {Q : VK} {us ws : List Value} {vs zs : List V} (F : FnOk X.prog X.w X.K X.mg X.base CX k f fd ps sp) (hr : Room k X.A) (hb : KBn X.K fd ps n ks g gV) (hx : PassesAt CX X σ (E σ))
    (I : Inv X pins σ H s) (r : Vals vs us) (rz : Vals zs ws) (l1 : vs.length = n) (l2 : zs.length = ks.length) (h : sp (gV vs zs) H Q (E σ)) : wpAny (model X.prog X.w) X.A (call (.ref f) us (ks.zip ws)) (EP X pins σ Q) X.xe s := by
  have r2 := hb.rel r rz
  refine wpAny_call (codeAny_mono (F.run X.A X.stack s H ⟨us, ks.zip ws⟩ (g us ws) (gV vs zs) Q (E σ) hr I.env0 (hb.to s us ws I.kIn (r.length.symm.trans l1) (rz.length.symm.trans l2)) r2 h) fun r s' hq => ?_)
  cases r with
  | error e => exact hx pins H s e s' I hq
  | ok fl =>
    cases fl with
    | ret u => exact I.after hq
    | next => exact False.elim hq
    | brk => exact False.elim hq
    | cont => exact False.elim hq
theorem pe_callKS (F : FnOk X.prog X.w X.K X.mg X.base CX k f fd ps sp) (hr : Room k X.A) (hg : Gl X x) (hm : X.mg x = some (.ref f)) (hk : PySem.W.keepIn X.K (.ref f) = true) (hb : KBn X.K fd ps 0 ks g gV) (hx : ∀ σ, PassesAt CX X σ (E σ)) (hkw : PK X kws tk) (hn : ks.length = n)
    (hall : (backToKw pos (keywordEach kws X.env)).all (·.1.isSome) = true := by rfl) (hks : (backToKw pos (keywordEach kws X.env)).filterMap (·.1) = ks := by rfl) (hdb : (x == ("__debug__" : Str)) = false := by decide)
    (hpl : ((backTo pos (starEach [] X.env)).any (·.1) || (backToKw pos (keywordEach kws X.env)).any (·.1.isNone)) = false := by rfl) :
    PE X (.Call (.Name x p) [] kws pos) (tCallKS n sp gV E tk) := by
  subst hn
  refine ⟨fun pins s σ H Q I h => ?_⟩
  refine wpAny_Call_Name_kw (ld_glob I hg hm ?_ hdb)
  refine PySem.W.callWith_KW0 (h₀ := X.base) I.ok.mod.kin hk hall ?_ hpl
  refine thn (hkw.run pos pins s σ H _ I h) fun ws s2 ⟨zs, H2, I2, rz, l2, q2⟩ => ⟨I2.kIn, ?_⟩
  rw [hks]
  exact run_knS (us := []) (vs := []) F hr hb (hx σ) I2 .nil rz rfl l2 q2
/-- isinstance(e, c), e the error that the suite holds, with its dict -/
def rIsEd (K : PySem.W.Frag) (D a : Addr) (cls : Value) (d : Option Addr) : RC := fun xs H Q => ∃ (c : Addr) (b : Bool) (dd : Addr) (fs : List (Str × V)), xs = [.ref a, .ref c] ∧ cls = .ref D ∧ d = some dd ∧ H dd = some (.xd fs) ∧ PySem.W.kitOne K (.ref D) (.ref c) = some b ∧ Q (.bl b) H
theorem call_isEd {a D : Addr} {oe : Obj} {cls : Value} {d : Option Addr} {pn : List (Addr × Obj)} (C : ExcC X.K D) (hz : Zc cls d oe) (hf : ∃ vs, oe.data = .fields vs) : CallR (X.suite a ((a, oe) :: pn)) (.builtin "isinstance") (rIsEd X.K D a cls d) := by
  intro pins s σ H xs us Q I r h
  obtain ⟨c, b, dd, fs, rfl, rfl, rfl, ea, e, q⟩ := h
  cases r with
  | cons rx rr =>
    cases rr with
    | cons rt rr =>
      cases rr
      cases rx
      cases rt
      obtain ⟨hget, _⟩ := I.pin (a, oe) (List.mem_append.mpr (.inl List.mem_cons_self))
      obtain ⟨vs, hv⟩ := hf
      have hx : ObjOk X.prog X.w H s.heap dd (.xd fs) := I.hok dd _ ea
      obtain ⟨mA, hns, hr⟩ := hx
      obtain ⟨od, ho, hl⟩ := lookIn_ns hns
      have J : PySem.W.InstAt s.heap a oe D (some od) := ⟨hget, hz.1, by unfold PySem.W.notCls; rw [hv] <;> rfl, by rw [hz.2]; exact ho⟩
      exact PySem.W.kia_one (PySem.W.kitx_excD C.hg C.hk C.hs C.hd C.ha C.hn C.ht C.hm) I.kIn J e (fun z => nomatch z) fun tk => ⟨.bl b, H, I.kept (t' := tk) fun _ _ z => z, rfl, q⟩
/-- repr(n), repr(b) -/
def rReprI : RC := fun xs H Q => ∃ i, xs = [.int i] ∧ i.natAbs.log2 < 1920 ∧ Q (.str (toString i)) H
def rReprB : RC := fun xs H Q => ∃ b, xs = [.bl b] ∧ Q (.str (if b then "True" else "False")) H
theorem call_reprI : CallR X (.builtin "repr") rReprI := SkE.call_repr_int
theorem call_reprB : CallR X (.builtin "repr") rReprB := by
  intro pins s σ H xs us Q I r h
  obtain ⟨b, rfl, q⟩ := h
  cases r with
  | cons rx rr =>
    cases rr
    cases rx
    exact PySem.P.repr_of_bool ⟨.str _, H, I.tok _, ⟨_, rfl⟩, q⟩
end
end Ow
namespace Ow
open PySem PySem.Spec PyProof.Rows L2
theorem kit_sub {K : PySem.W.Frag} {t : Value} {C : Addr} {v : Bool} (h1 : PySem.W.isClsIn K C = true) (h2 : PySem.W.typeIn K (.ref C) = some (.type "type")) (h3 : PySem.W.subIn K t (.ref C) = some v) : PySem.W.kitCls K t (.ref C) = some v := by
  have h1' : (PySem.W.clsIn K C).isSome = true := h1
  have e : ((PySem.W.clsIn K C).isSome && PySem.W.typeIn K (.ref C) == some (.type "type")) = true := by rw [h1', h2] <;> rfl
  show (if ((PySem.W.clsIn K C).isSome && PySem.W.typeIn K (.ref C) == some (.type "type")) = true then PySem.W.subIn K t (.ref C) else none) = some v
  rw [if_pos e]; exact h3
theorem kit_true {K : PySem.W.Frag} {t : Value} {C : Addr} (h1 : PySem.W.isClsIn K C = true) (h2 : PySem.W.typeIn K (.ref C) = some (.type "type")) (h3 : PySem.W.subIn K t (.ref C) = some true) : PySem.W.kitOne K t (.ref C) = some true := by
  unfold PySem.W.kitOne
  split
  · rfl
  · exact kit_sub h1 h2 h3
theorem kit_false {K : PySem.W.Frag} {t : Value} {C : Addr} (h1 : PySem.W.isClsIn K C = true) (h2 : PySem.W.typeIn K (.ref C) = some (.type "type")) (h3 : PySem.W.subIn K t (.ref C) = some false) (h4 : PySem.W.subIn K t t = some true) : PySem.W.kitOne K t (.ref C) = some false := by
  unfold PySem.W.kitOne
  split
  · rename_i e
    have e' : t = .ref C := beq_iff_eq.mp e
    subst e'
    rw [h4] at h3; cases h3
  · exact kit_sub h1 h2 h3
end Ow

set_option Elab.async false
set_option linter.all false
set_option maxRecDepth 100000
set_option maxHeartbeats 2000000
/-! zip(*rows): a zip over any number of lists and tuples. -/
namespace OwS
open PySem PySem.Spec PyProof.Rows
theorem ltn {a b : Nat} (h : a < b) : @Ne Addr a b := Nat.ne_of_lt h
theorem gtn {a b : Nat} (h : b < a) : @Ne Addr a b := Nat.ne_of_gt h
/-- one of those that are walked: a tuple or a list, where it lies, its items -/
structure Sr where
  tup : Bool
  at_ : Nat
  xs : Array Value
def SrAt (h : Heap) (q : Sr) : Prop := match q.tup with
  | true => h.IsTuple q.at_ q.xs
  | false => h.IsList q.at_ q.xs
def ItAt (h : Heap) (q : Sr) (it : Addr) (i : Nat) : Prop := match q.tup with
  | true => h.IsTupleIter it q.at_ i
  | false => h.IsListIter it q.at_ i
theorem SrAt.keep {h h' : Heap} {q : Sr} (x : SrAt h q) (k : ∀ o, h.get? q.at_ = some o → h'.get? q.at_ = some o) : SrAt h' q := by
  obtain ⟨t, a, xs⟩ := q
  cases t with
  | true => obtain ⟨o, e, r⟩ := x; exact ⟨o, k o e, r⟩
  | false => obtain ⟨o, e, r⟩ := x; exact ⟨o, k o e, r⟩
theorem ItAt.keep {h h' : Heap} {q : Sr} {it : Addr} {i : Nat} (x : ItAt h q it i) (k : ∀ o, h.get? it = some o → h'.get? it = some o) : ItAt h' q it i := by
  obtain ⟨t, a, xs⟩ := q
  cases t with
  | true => obtain ⟨o, e, r⟩ := x; exact ⟨o, k o e, r⟩
  | false => obtain ⟨o, e, r⟩ := x; exact ⟨o, k o e, r⟩
theorem ItAt.lt {h : Heap} {q : Sr} {it : Addr} {i : Nat} (x : ItAt h q it i) : it < h.objs.size := by
  obtain ⟨t, a, xs⟩ := q
  cases t with
  | true => obtain ⟨o, e, r⟩ := x; exact Heap.lt_size e
  | false => obtain ⟨o, e, r⟩ := x; exact Heap.lt_size e
section
variable {prog : Program} {w : World} {A : Around} {E : Value → Shared → Prop} {R : Result → Shared → Prop} {s : Shared}
theorem next_item {q : Sr} {it : Addr} {i : Nat} {x : Value} {Q : Value → Shared → Prop} (hi : ItAt s.heap q it i) (hs : SrAt s.heap q) (hx : q.xs[i]? = some x)
    (hQ : ∀ h', ItAt h' q it (i + 1) → Heap.SameBut it s.heap h' → Q x { s with heap := h' }) : wpAny (model prog w) A (Builtin.SmallTypes.nextOf (.ref it)) Q E s := by
  obtain ⟨t, a, xs⟩ := q
  cases t with
  | true => exact wpAny_nextOf_tuple_item hi hs hx hQ
  | false => exact wpAny_nextOf_list_item hi hs hx hQ
theorem next_end {q : Sr} {it : Addr} {i : Nat} {Q : Value → Shared → Prop} (hh : A.handled = none) (hi : ItAt s.heap q it i) (hs : SrAt s.heap q) (hx : q.xs[i]? = none)
    (hE : ∀ h' e, Heap.ExtBut it s.heap h' → (∃ o, h'.get? e = some o ∧ o.cls = .type "StopIteration") → E (.ref e) { s with heap := h' }) : wpAny (model prog w) A (Builtin.SmallTypes.nextOf (.ref it)) Q E s := by
  obtain ⟨t, a, xs⟩ := q
  cases t with
  | true => exact wpAny_nextOf_tuple_end hh hi hs hx hE
  | false => exact wpAny_nextOf_list_end hh hi hs hx hE
end
/-- the iterators lie at B, B + 1, ..; those ahead of k are one item further -/
def Mid (h : Heap) (B : Nat) (qs : List Sr) (i k : Nat) : Prop := ∀ j q, qs[j]? = some q → q.at_ < B ∧ SrAt h q ∧ ItAt h q (B + j) (if j < k then i + 1 else i)
abbrev Its (h : Heap) (B : Nat) (qs : List Sr) (i : Nat) : Prop := Mid h B qs i 0
theorem Mid.keep {h h' : Heap} {B : Nat} {qs : List Sr} {i k : Nat} (m : Mid h B qs i k) (kp : ∀ b o, b < B + qs.length → h.get? b = some o → h'.get? b = some o) : Mid h' B qs i k := fun j q e => by
  obtain ⟨a, b, c⟩ := m j q e
  have lj := (List.getElem?_eq_some_iff.mp e).1
  exact ⟨a, b.keep fun o z => kp _ o (show @LT.lt Nat _ q.at_ (B + qs.length) by omega) z, c.keep fun o z => kp _ o (show @LT.lt Nat _ (B + j) (B + qs.length) by omega) z⟩
theorem Mid.step {h h' : Heap} {B : Nat} {qs : List Sr} {i k : Nat} {q : Sr} (m : Mid h B qs i k) (eq : qs[k]? = some q) (hi : ItAt h' q (B + k) (i + 1)) (hs : Heap.SameBut (B + k) h h') : Mid h' B qs i (k + 1) := fun j r e => by
  obtain ⟨a, b, c⟩ := m j r e
  refine ⟨a, b.keep fun o z => hs.extBut _ o (Nat.ne_of_lt (Nat.lt_of_lt_of_le a (Nat.le_add_right B k))) z, ?_⟩
  by_cases ej : j = k
  · subst ej
    rw [eq] at e
    cases e
    rw [if_pos (Nat.lt_succ_self _)]
    exact hi
  · have e2 : (if j < k + 1 then i + 1 else i) = (if j < k then i + 1 else i) := by
      by_cases l : j < k
      · rw [if_pos l, if_pos (Nat.lt_succ_of_lt l)]
      · rw [if_neg l, if_neg fun z => l (Nat.lt_of_le_of_ne (Nat.le_of_lt_succ z) ej)]
    rw [e2]
    exact c.keep fun o z => hs.extBut _ o (fun z => ej (Nat.add_left_cancel z)) z
theorem Mid.all {h : Heap} {B : Nat} {qs : List Sr} {i : Nat} (m : Mid h B qs i qs.length) : Its h B qs (i + 1) := fun j q e => by
  obtain ⟨a, b, c⟩ := m j q e
  rw [if_pos (List.getElem?_eq_some_iff.mp e).1] at c
  exact ⟨a, b, by rw [if_neg (Nat.not_lt_zero _)]; exact c⟩
/-- the row of the items at i -/
def rowAt (qs : List Sr) (i : Nat) : List Value := qs.map fun q => q.xs.getD i .none
def itRefs (B : Nat) (n : Nat) : List Value := (List.range n).map fun j => Value.ref (B + j)
def itPairs (B : Nat) (n k : Nat) : List (Value × Nat) := (List.range' k (n - k)).map fun j => (Value.ref (B + j), j)
theorem itPairs_all (B : Nat) (n : Nat) : (itRefs B n).zipIdx = itPairs B n 0 := by
  unfold itRefs itPairs
  refine List.ext_getElem? fun j => ?_
  rw [List.getElem?_zipIdx, List.getElem?_map, List.getElem?_map]
  by_cases h : j < n
  · rw [List.getElem?_range h, List.getElem?_range' (by omega)]
    simp
  · rw [List.getElem?_eq_none (by rw [List.length_range]; omega), List.getElem?_eq_none (by rw [List.length_range']; omega)]
    rfl
theorem itPairs_cons {B : Nat} {n k : Nat} (h : k < n) : itPairs B n k = (Value.ref (B + k), k) :: itPairs B n (k + 1) := by
  unfold itPairs
  have e : n - k = (n - (k + 1)) + 1 := by omega
  rw [e, List.range'_succ, List.map_cons]
theorem itPairs_nil {B : Nat} {n k : Nat} (h : n ≤ k) : itPairs B n k = [] := by
  unfold itPairs
  rw [Nat.sub_eq_zero_of_le h]; rfl
abbrev IsTupV (h : Heap) (T : Addr) (vs : Array Value) : Prop := h.get? T = some { cls := .type "tuple", data := .seq vs }
/-- the zip's own object, its iterators and its tuple lie one behind the other -/
structure ZN (h : Heap) (B : Nat) (qs : List Sr) (i : Nat) (f0 f1 : Value) : Prop where
  z : h.get? (B + qs.length + 2) = some { cls := .type "zip", dict := none, data := .fields #[f0, f1, .bool false, .ref (B + qs.length), .ref (B + qs.length + 1)], slots := #[] }
  ti : IsTupV h (B + qs.length) (itRefs B qs.length).toArray
  to : ∃ arr, IsTupV h (B + qs.length + 1) arr ∧ arr.size = qs.length
  its : Its h B qs i
section
variable {prog : Program} {w : World} {A : Around} {E : Value → Shared → Prop} {R : Result → Shared → Prop} {s : Shared}
/-- what stays when the zip is asked -/
def StayN (B : Nat) (n : Nat) (h h' : Heap) : Prop := ∀ (b : Nat) o, (b < B ∨ b = B + n ∨ B + n + 2 < b) → h.get? b = some o → h'.get? b = some o
theorem off3 {B n b : Nat} (h : b < B ∨ b = B + n ∨ B + n + 2 < b) : @Ne Addr b (B + n + 2) ∧ @Ne Addr b (B + n + 1) ∧ ∀ k, k < n → @Ne Addr b (B + k) := by
  have key : ∀ c : Nat, b ≠ c → @Ne Addr b c := fun _ z => z
  refine ⟨key _ ?_, key _ ?_, fun k hk => key _ ?_⟩ <;> omega
theorem zipN_itemF {B : Nat} {qs : List Sr} {i : Nat} {f0 f1 : Value} {Q : Value → Shared → Prop} (Z : ZN s.heap B qs i f0 f1) (hfree : ∀ {E : Value → Shared → Prop} {Q : Bool → Shared → Prop}, Q true s → wpAny (model prog w) A (Builtin.SmallTypes.ownedTupleIsFree (.ref (B + qs.length + 2))) Q E s) (h0 : qs ≠ []) (hn : qs.length ≤ 1000) (hx : ∀ q ∈ qs, i < q.xs.size)
    (hQ : ∀ h', ZN h' B qs (i + 1) (rawInt s.heap.objs.size) (.bool false) → IsTupV h' s.heap.objs.size (rowAt qs i).toArray → h'.objs.size = s.heap.objs.size + 1 → StayN B qs.length s.heap h' → Q (.ref s.heap.objs.size) { s with heap := h' }) :
    wpAny (model prog w) A (Builtin.«zip.__next__» ⟨[.ref (B + qs.length + 2)], []⟩) (fun fin s' => ∃ v, fin = .done (.ret v) ∧ Q v s') E s := by
  obtain ⟨hz, hTI, ⟨arr, hTO, ha⟩, hits⟩ := Z
  generalize en : qs.length = n at *
  have n0 : n ≠ 0 := fun e => h0 (List.length_eq_zero_iff.mp (by omega))
  show wpAny _ _ (field (.ref (B + n + 2)) 2 >>= _) _ _ _
  refine wpAny_bind (wpAny_field hz rfl (x := .bool false) rfl ?_)
  show wpAny _ _ (field (.ref (B + n + 2)) 3 >>= _) _ _ _
  refine wpAny_bind (wpAny_field hz rfl (x := .ref (B + n)) rfl ?_)
  refine wpAny_bind (wpAny_seqItems hTI rfl ?_)
  have ne : (itRefs B n).toArray.isEmpty = false := by
    unfold itRefs
    cases n with
    | zero => exact absurd rfl n0
    | succ n => rw [List.range_succ_eq_map]; rfl
  simp only [ne, Bool.false_eq_true, if_false]
  show wpAny _ _ (Builtin.SmallTypes.ownedTupleIsFree (.ref (B + n + 2)) >>= _) _ _ _
  refine wpAny_bind (hfree ?_)
  simp only [if_true]
  refine wpAny_bind (wpAny_rule ?_)
  refine wpAny_bind (wpAny_field hz rfl (x := .ref (B + n + 1)) rfl ?_)
  refine wpAny_bind (wpAny_setField_rec hz (by simp) fun h₁ hz₁ hs₁ => ?_)
  refine wpAny_bind ?_
  rw [itPairs_all]
  have its₁ : Its h₁ B qs i := hits.keep fun b o hb e => hs₁.extBut _ o (Nat.ne_of_lt (by rw [en] at hb; omega)) e
  refine wpAny_forIn_list _ (fun rest b s' => b = (none, ()) ∧ ∃ k h arr, k ≤ n ∧ rest = itPairs B n k ∧ s' = { s with heap := h } ∧ Mid h B qs i k ∧
      h.get? (B + n + 2) = some { cls := .type "zip", dict := none, data := .fields #[.ellipsis, f1, .bool false, .ref (B + n), .ref (B + n + 1)], slots := #[] } ∧ IsTupV h (B + n + 1) arr ∧ arr.size = n ∧ (∀ j, j < k → arr[j]? = (rowAt qs i)[j]?) ∧
      h.objs.size = s.heap.objs.size ∧ StayN B n s.heap h) _ ?_ ?_ _ _ ⟨rfl, 0, h₁, arr, Nat.zero_le _, rfl, rfl, its₁, hz₁, hs₁.extBut _ _ (ltn (by omega)) hTO, ha, fun j z => absurd z (Nat.not_lt_zero _), hs₁.1, fun b o hb e => hs₁.extBut _ o (off3 hb).1 e⟩
  · rintro x rest b s' ⟨rfl, k, h, arr, hk, er, rfl, mid, hz, hTO, ha, row, hsz, st⟩
    have kn : k < n := Nat.lt_of_le_of_ne hk fun z => by rw [itPairs_nil (Nat.le_of_eq z.symm)] at er; cases er
    rw [itPairs_cons kn] at er
    cases er
    have eq : qs[k]? = some (qs[k]'(by omega)) := List.getElem?_eq_getElem (by omega)
    generalize (qs[k]'(by omega)) = q at eq
    have qx := hx q (List.mem_of_getElem? eq)
    obtain ⟨qa, qs', qi⟩ := mid k q eq
    rw [if_neg (Nat.lt_irrefl _)] at qi
    have ex : q.xs[i]? = some (q.xs[i]) := Array.getElem?_eq_getElem qx
    refine wpAny_bind (wpAny_onRaise ?_)
    show wpAny _ _ (Builtin.SmallTypes.nextOf (.ref (B + k)) >>= _) _ _ _
    refine wpAny_bind (next_item (s := { s with heap := h }) qi qs' ex fun h₂ qi₂ hs₂ => wpAny_pure ?_)
    have hTO₂ : IsTupV h₂ (B + n + 1) arr := hs₂.extBut _ _ (gtn (by omega)) hTO
    refine wpAny_bind (wpAny_seqItems hTO₂ rfl ?_)
    refine wpAny_bind (wpAny_updateSeq hTO₂ rfl ?_)
    refine wpAny_bind (wpAny_letGo (wpAny_pure ?_))
    have hTO₃ : IsTupV (h₂.update (B + n + 1) (Obj.mapSeq fun x => x.setIfInBounds k q.xs[i])) (B + n + 1) (arr.setIfInBounds k q.xs[i]) := by rw [IsTupV, Heap.get?_update_self _ hTO₂ rfl]; simp [Obj.mapSeq]
    have up : ∀ (b : Nat) o, b ≠ B + n + 1 → h₂.get? b = some o → (h₂.update (B + n + 1) (Obj.mapSeq fun x => x.setIfInBounds k q.xs[i])).get? b = some o := fun b o z e => (Heap.get?_update_other _ _ (Ne.symm z)).trans e
    have er : (rowAt qs i)[k]? = some q.xs[i] := by
      unfold rowAt
      rw [List.getElem?_map, eq]
      show some (q.xs.getD i .none) = _
      simp [Array.getD, qx]
    refine ⟨rfl, k + 1, _, _, kn, rfl, rfl, (mid.step eq qi₂ hs₂).keep fun b o hb e => up b o (by rw [en] at hb; exact ltn (Nat.lt_succ_of_lt hb)) e, up _ _ (gtn (by omega)) (hs₂.extBut _ _ (gtn (by omega)) hz), hTO₃, by rw [Array.size_setIfInBounds]; exact ha, fun j hj => ?_, ?_, fun b o hb e => up b o (off3 hb).2.1 (hs₂.extBut _ _ ((off3 hb).2.2 k kn) (st b o hb e))⟩
    · rw [Array.getElem?_setIfInBounds]
      by_cases ej : k = j
      · subst ej
        rw [if_pos rfl, if_pos (by omega), er]
      · rw [if_neg ej]
        exact row j (by omega)
    · rw [Heap.size_update]
      exact hs₂.1.trans hsz
  · rintro b s' ⟨rfl, k, h, arr, hk, er, rfl, mid, hz, hTO, ha, row, hsz, st⟩
    have kn : k = n := by
      rcases Nat.lt_or_ge k n with z | z
      · rw [itPairs_cons z] at er; cases er
      · omega
    subst kn
    have earr : arr.toList = rowAt qs i := by
      refine List.ext_getElem? fun j => ?_
      rw [Array.getElem?_toList]
      by_cases hj : j < k
      · exact row j hj
      · rw [Array.getElem?_eq_none (by omega), List.getElem?_eq_none (by unfold rowAt; rw [List.length_map]; omega)]
    refine wpAny_bind (wpAny_seqItems hTO rfl ?_)
    refine wpAny_bind (wpAny_newTuple ?_ (by rw [Array.length_toList, ha]; exact Nat.le_trans hn (by decide)))
    show wpAny _ _ (Builtin.SmallTypes.ownedTupleHandOut (.ref (B + k + 2)) (.ref h.objs.size) >>= _) _ _ _
    refine wpAny_bind ?_
    unfold Builtin.SmallTypes.ownedTupleHandOut
    have hz₆ := Heap.get?_push_of_some { cls := .type "tuple", data := .seq arr.toList.toArray } hz
    refine wpAny_bind (wpAny_setField_rec hz₆ (by simp) fun h₇ hz₇ hs₇ => ?_)
    refine wpAny_setField_rec hz₇ (by simp) fun h₈ hz₈ hs₈ => ?_
    have up : ∀ (c : Nat) o, c ≠ B + k + 2 → h.get? c = some o → h₈.get? c = some o := fun c o c1 e => hs₈.extBut _ _ c1 (hs₇.extBut _ _ c1 (Heap.get?_push_of_some _ e))
    have zlt : B + k + 2 < h.objs.size := Heap.lt_size hz
    have hT₈ : IsTupV h₈ h.objs.size arr.toList.toArray := hs₈.extBut _ _ (gtn zlt) (hs₇.extBut _ _ (gtn zlt) (Heap.get?_push_size _ rfl))
    have hz8 : h₈.objs.size = h.objs.size + 1 := by rw [hs₈.1, hs₇.1, Heap.size_push]
    rw [earr] at hT₈
    refine wpAny_pure ⟨_, rfl, ?_⟩
    show Q (.ref h.objs.size) _
    have hz₉ : h₈.get? (B + k + 2) = some { cls := .type "zip", dict := none, data := .fields #[rawInt h.objs.size, .bool false, .bool false, .ref (B + k), .ref (B + k + 1)], slots := #[] } := hz₈
    rw [hsz] at hT₈ hz8 hz₉ ⊢
    refine hQ h₈ ⟨?_, ?_, ⟨arr, ?_, ?_⟩, ?_⟩ hT₈ hz8 fun b o hb e => up b o (off3 hb).1 (st b o hb e)
    · rw [en]
      exact hz₉
    · rw [en]
      exact up _ _ (ltn (by omega)) (st _ _ (.inr (.inl rfl)) hTI)
    · rw [en]
      exact up _ _ (ltn (by omega)) hTO
    · rw [en]; exact ha
    · have mid' : Mid h B qs i qs.length := by rw [en]; exact mid
      exact (mid'.all).keep fun b o hb e => up b o (by rw [en] at hb; exact ltn (by omega)) e
theorem zipN_endF {B : Nat} {qs : List Sr} {i : Nat} {f0 f1 : Value} {Q : Fin → Shared → Prop} (hh : A.handled = none) (Z : ZN s.heap B qs i f0 f1) (hfree : ∀ {E : Value → Shared → Prop} {Q : Bool → Shared → Prop}, Q true s → wpAny (model prog w) A (Builtin.SmallTypes.ownedTupleIsFree (.ref (B + qs.length + 2))) Q E s) (h0 : qs ≠ []) (hx : ∀ q ∈ qs, q.xs.size ≤ i)
    (hE : ∀ h' e, StayN B qs.length s.heap h' → (∃ o, h'.get? e = some o ∧ o.cls = .type "StopIteration") → E (.ref e) { s with heap := h' }) :
    wpAny (model prog w) A (Builtin.«zip.__next__» ⟨[.ref (B + qs.length + 2)], []⟩) Q E s := by
  obtain ⟨hz, hTI, ⟨arr, hTO, ha⟩, hits⟩ := Z
  generalize en : qs.length = n at *
  have n0 : n ≠ 0 := fun e => h0 (List.length_eq_zero_iff.mp (by omega))
  show wpAny _ _ (field (.ref (B + n + 2)) 2 >>= _) _ _ _
  refine wpAny_bind (wpAny_field hz rfl (x := .bool false) rfl ?_)
  show wpAny _ _ (field (.ref (B + n + 2)) 3 >>= _) _ _ _
  refine wpAny_bind (wpAny_field hz rfl (x := .ref (B + n)) rfl ?_)
  refine wpAny_bind (wpAny_seqItems hTI rfl ?_)
  have ne : (itRefs B n).toArray.isEmpty = false := by
    unfold itRefs
    cases n with
    | zero => exact absurd rfl n0
    | succ n => rw [List.range_succ_eq_map]; rfl
  simp only [ne, Bool.false_eq_true, if_false]
  show wpAny _ _ (Builtin.SmallTypes.ownedTupleIsFree (.ref (B + n + 2)) >>= _) _ _ _
  refine wpAny_bind (hfree ?_)
  simp only [if_true]
  refine wpAny_bind (wpAny_rule ?_)
  refine wpAny_bind (wpAny_field hz rfl (x := .ref (B + n + 1)) rfl ?_)
  refine wpAny_bind (wpAny_setField_rec hz (by simp) fun h₁ hz₁ hs₁ => ?_)
  refine wpAny_bind ?_
  rw [itPairs_all, itPairs_cons (Nat.pos_of_ne_zero n0), List.forIn_cons]
  have its₁ : Its h₁ B qs i := hits.keep fun b o hb e => hs₁.extBut _ o (Nat.ne_of_lt (by rw [en] at hb; omega)) e
  have eq : qs[0]? = some (qs[0]'(by omega)) := List.getElem?_eq_getElem (by omega)
  generalize (qs[0]'(by omega)) = q at eq
  obtain ⟨qa, qs', qi⟩ := its₁ 0 q eq
  rw [if_neg (Nat.lt_irrefl _)] at qi
  refine wpAny_bind (wpAny_bind (wpAny_onRaise ?_))
  show wpAny _ _ (Builtin.SmallTypes.nextOf (.ref (B + 0)) >>= _) _ _ _
  refine wpAny_bind (next_end (s := { s with heap := h₁ }) hh qi qs' (Array.getElem?_eq_none (hx q (List.mem_of_getElem? eq))) fun h₂ e hs₂ he => ?_)
  obtain ⟨oe, hoe, hce⟩ := he
  have hz₂ := hs₂ _ _ (gtn (by omega)) hz₁
  have hez : e ≠ B + n + 2 := fun x => by subst x; rw [hz₂] at hoe; cases hoe; simp at hce
  refine wpAny_setField_rec hz₂ (by simp) fun h₃ _ hs₃ => hE h₃ e (fun b o hb x => hs₃.extBut _ _ (off3 hb).1 (hs₂ _ _ ((off3 hb).2.2 0 (Nat.pos_of_ne_zero n0)) (hs₁.extBut _ _ (off3 hb).1 x))) ⟨oe, hs₃.extBut _ _ hez hoe, hce⟩
theorem free_new {B n : Nat} {f1 : Value} {E : Value → Shared → Prop} {Q : Bool → Shared → Prop} (hz : s.heap.get? (B + n + 2) = some { cls := .type "zip", dict := none, data := .fields #[.none, f1, .bool false, .ref (B + n), .ref (B + n + 1)], slots := #[] }) (q : Q true s) : wpAny (model prog w) A (Builtin.SmallTypes.ownedTupleIsFree (.ref (B + n + 2))) Q E s := by
  unfold Builtin.SmallTypes.ownedTupleIsFree
  exact wpAny_bind (wpAny_field hz rfl (x := .none) rfl (wpAny_pure q))
theorem free_dead {B n T : Nat} {f1 : Value} {E : Value → Shared → Prop} {Q : Bool → Shared → Prop} (hz : s.heap.get? (B + n + 2) = some { cls := .type "zip", dict := none, data := .fields #[rawInt T, f1, .bool false, .ref (B + n), .ref (B + n + 1)], slots := #[] }) (hT : s.heap.get? T = none) (q : Q true s) : wpAny (model prog w) A (Builtin.SmallTypes.ownedTupleIsFree (.ref (B + n + 2))) Q E s := by
  unfold Builtin.SmallTypes.ownedTupleIsFree
  refine wpAny_bind (wpAny_field hz rfl (x := rawInt T) rfl ?_)
  show wpAny _ _ (loadIfAlive ((T : Int).toNat) >>= _) _ _ _
  rw [Int.toNat_natCast]
  have dead : ∀ {Q' : Option Obj → Shared → Prop}, Q' none s → wpAny (model prog w) A (loadIfAlive T) Q' E s := fun {Q'} h => by
    have h' : Q' (s.heap.get? T) s := by rw [hT]; exact h
    exact fun _ _ _ => h'
  refine wpAny_bind (dead ?_)
  exact wpAny_pure q
theorem zipN_item {B : Nat} {qs : List Sr} {i : Nat} {Q : Value → Shared → Prop} (Z : ZN s.heap B qs i .none (.bool false)) (h0 : qs ≠ []) (hn : qs.length ≤ 1000) (hx : ∀ q ∈ qs, i < q.xs.size)
    (hQ : ∀ h', ZN h' B qs (i + 1) (rawInt s.heap.objs.size) (.bool false) → IsTupV h' s.heap.objs.size (rowAt qs i).toArray → h'.objs.size = s.heap.objs.size + 1 → StayN B qs.length s.heap h' → Q (.ref s.heap.objs.size) { s with heap := h' }) :
    wpAny (model prog w) A (Builtin.«zip.__next__» ⟨[.ref (B + qs.length + 2)], []⟩) (fun fin s' => ∃ v, fin = .done (.ret v) ∧ Q v s') E s := zipN_itemF Z (fun q => free_new Z.z q) h0 hn hx hQ
theorem zipN_end {B : Nat} {qs : List Sr} {i : Nat} {Q : Fin → Shared → Prop} (hh : A.handled = none) (Z : ZN s.heap B qs i .none (.bool false)) (h0 : qs ≠ []) (hx : ∀ q ∈ qs, q.xs.size ≤ i)
    (hE : ∀ h' e, StayN B qs.length s.heap h' → (∃ o, h'.get? e = some o ∧ o.cls = .type "StopIteration") → E (.ref e) { s with heap := h' }) :
    wpAny (model prog w) A (Builtin.«zip.__next__» ⟨[.ref (B + qs.length + 2)], []⟩) Q E s := zipN_endF hh Z (fun q => free_new Z.z q) h0 hx hE
theorem freeHeld {B n : Nat} {T : Addr} {f : Bool} {oT : Obj} {Q : Bool → Shared → Prop} (hz : s.heap.get? (B + n + 2) = some { cls := .type "zip", dict := none, data := .fields #[rawInt T, .bool f, .bool false, .ref (B + n), .ref (B + n + 1)], slots := #[] }) (hT : s.heap.get? T = some oT)
    (h : ∀ h', h'.get? (B + n + 2) = some { cls := .type "zip", dict := none, data := .fields #[rawInt T, .bool true, .bool false, .ref (B + n), .ref (B + n + 1)], slots := #[] } → Heap.SameBut (B + n + 2) s.heap h' → Q false { s with heap := h' }) : wpAny (model prog w) A (Builtin.SmallTypes.ownedTupleIsFree (.ref (B + n + 2))) Q E s :=
  wpAny_tupleHeld_zip hz hT h
theorem zipN_item_held {B : Nat} {qs : List Sr} {i : Nat} {T : Addr} {f : Bool} {oT : Obj} {Q : Value → Shared → Prop} (Z : ZN s.heap B qs i (rawInt T) (.bool f)) (hT : s.heap.get? T = some oT) (h0 : qs ≠ []) (hn : qs.length ≤ 1000) (hx : ∀ q ∈ qs, i < q.xs.size)
    (hQ : ∀ h', ZN h' B qs (i + 1) (rawInt T) (.bool true) → IsTupV h' s.heap.objs.size (rowAt qs i).toArray → h'.objs.size = s.heap.objs.size + 1 → StayN B qs.length s.heap h' → Q (.ref s.heap.objs.size) { s with heap := h' }) :
    wpAny (model prog w) A (Builtin.«zip.__next__» ⟨[.ref (B + qs.length + 2)], []⟩) (fun fin s' => ∃ v, fin = .done (.ret v) ∧ Q v s') E s := by
  obtain ⟨hz, hTI, ⟨arr, hTO, ha⟩, hits⟩ := Z
  generalize en : qs.length = n at *
  have n0 : n ≠ 0 := fun e => h0 (List.length_eq_zero_iff.mp (by omega))
  show wpAny _ _ (field (.ref (B + n + 2)) 2 >>= _) _ _ _
  refine wpAny_bind (wpAny_field hz rfl (x := .bool false) rfl ?_)
  show wpAny _ _ (field (.ref (B + n + 2)) 3 >>= _) _ _ _
  refine wpAny_bind (wpAny_field hz rfl (x := .ref (B + n)) rfl ?_)
  refine wpAny_bind (wpAny_seqItems hTI rfl ?_)
  have ne : (itRefs B n).toArray.isEmpty = false := by
    unfold itRefs
    cases n with
    | zero => exact absurd rfl n0
    | succ n => rw [List.range_succ_eq_map]; rfl
  simp only [ne, Bool.false_eq_true, if_false]
  show wpAny _ _ (Builtin.SmallTypes.ownedTupleIsFree (.ref (B + n + 2)) >>= _) _ _ _
  refine wpAny_bind (freeHeld hz hT fun h₁ hz₁ hs₁ => ?_)
  simp only [Bool.false_eq_true, if_false]
  refine wpAny_bind ?_
  have its₁ : Its h₁ B qs i := hits.keep fun b o hb e => hs₁.extBut _ o (Nat.ne_of_lt (by rw [en] at hb; omega)) e
  have hl : ∀ k, k ≤ n → ((itRefs B n).drop k) = (List.range' k (n - k)).map fun j => Value.ref (B + j) := fun k hk => by
    unfold itRefs
    rw [← List.map_drop, List.range_eq_range', List.drop_range']
    simp
  refine PySem.MeetsSeq2.wpAny_forIn_array _ (fun rest b s' => ∃ k h, k ≤ n ∧ rest = (itRefs B n).drop k ∧ b = (none, ((rowAt qs i).take k).toArray) ∧ s' = { s with heap := h } ∧ Mid h B qs i k ∧
      h.get? (B + n + 2) = some { cls := .type "zip", dict := none, data := .fields #[rawInt T, .bool true, .bool false, .ref (B + n), .ref (B + n + 1)], slots := #[] } ∧ IsTupV h (B + n + 1) arr ∧
      h.objs.size = s.heap.objs.size ∧ StayN B n s.heap h) _ ?_ ?_ _ _ ⟨0, h₁, Nat.zero_le _, rfl, rfl, rfl, its₁, hz₁, hs₁.extBut _ _ (ltn (by omega)) hTO, hs₁.1, fun b o hb e => hs₁.extBut _ o (off3 hb).1 e⟩
  · rintro x rest b s' ⟨k, h, hk, er, rfl, rfl, mid, hz, hTO, hsz, st⟩
    have kn : k < n := Nat.lt_of_le_of_ne hk fun z => by rw [hl k hk, z, Nat.sub_self] at er; cases er
    have er' := er
    rw [hl k hk, show n - k = (n - (k + 1)) + 1 by omega, List.range'_succ, List.map_cons] at er
    cases er
    have eq : qs[k]? = some (qs[k]'(by omega)) := List.getElem?_eq_getElem (by omega)
    generalize (qs[k]'(by omega)) = q at eq
    have qx := hx q (List.mem_of_getElem? eq)
    obtain ⟨qa, qs', qi⟩ := mid k q eq
    rw [if_neg (Nat.lt_irrefl _)] at qi
    have ex : q.xs[i]? = some (q.xs[i]) := Array.getElem?_eq_getElem qx
    have er2 : (rowAt qs i)[k]? = some q.xs[i] := by
      unfold rowAt
      rw [List.getElem?_map, eq]
      show some (q.xs.getD i .none) = _
      simp [Array.getD, qx]
    refine wpAny_bind (wpAny_holding ?_)
    show wpAny _ _ (Builtin.SmallTypes.nextOf (.ref (B + k)) >>= _) _ _ _
    refine wpAny_bind (next_item (s := { s with heap := h }) qi qs' ex fun h₂ qi₂ hs₂ => wpAny_pure (wpAny_pure ?_))
    refine ⟨k + 1, h₂, kn, (hl (k + 1) kn).symm, ?_, rfl, mid.step eq qi₂ hs₂, hs₂.extBut _ _ (gtn (by omega)) hz, hs₂.extBut _ _ (gtn (by omega)) hTO, hs₂.1.trans hsz, fun b o hb e => hs₂.extBut _ _ ((off3 hb).2.2 k kn) (st b o hb e)⟩
    rw [List.take_add_one, er2]
    simp
  · rintro b s' ⟨k, h, hk, er, rfl, rfl, mid, hz, hTO, hsz, st⟩
    have kn : k = n := by
      rcases Nat.lt_or_ge k n with z | z
      · rw [hl k hk, show n - k = (n - (k + 1)) + 1 by omega, List.range'_succ, List.map_cons] at er; cases er
      · omega
    subst kn
    have el : (rowAt qs i).take k = rowAt qs i := List.take_of_length_le (by unfold rowAt; rw [List.length_map]; omega)
    rw [el]
    show wpAny _ _ (newTuple (rowAt qs i) >>= _) _ _ _
    refine wpAny_bind (wpAny_newTuple ?_ (by unfold rowAt; rw [List.length_map, en]; exact Nat.le_trans hn (by decide)))
    refine wpAny_pure ⟨_, rfl, ?_⟩
    show Q (.ref h.objs.size) _
    have up : ∀ (c : Nat) o, h.get? c = some o → (h.push { cls := .type "tuple", data := .seq (rowAt qs i).toArray }).get? c = some o := fun c o e => Heap.get?_push_of_some _ e
    have hT₈ : IsTupV (h.push { cls := .type "tuple", data := .seq (rowAt qs i).toArray }) h.objs.size (rowAt qs i).toArray := Heap.get?_push_size _ rfl
    have hz8 : (h.push { cls := .type "tuple", data := .seq (rowAt qs i).toArray }).objs.size = h.objs.size + 1 := Heap.size_push ..
    rw [hsz] at hT₈ hz8 ⊢
    refine hQ _ ⟨?_, ?_, ⟨arr, ?_, ?_⟩, ?_⟩ hT₈ hz8 fun b o hb e => up b o (st b o hb e)
    · rw [en]; exact up _ _ hz
    · rw [en]; exact up _ _ (st _ _ (.inr (.inl rfl)) hTI)
    · rw [en]; exact up _ _ hTO
    · rw [en]; exact ha
    · have mid' : Mid h B qs i qs.length := by rw [en]; exact mid
      exact (mid'.all).keep fun b o hb e => up b o e
theorem zipN_end_held {B : Nat} {qs : List Sr} {i : Nat} {T : Addr} {f : Bool} {oT : Obj} {Q : Fin → Shared → Prop} (hh : A.handled = none) (Z : ZN s.heap B qs i (rawInt T) (.bool f)) (hT : s.heap.get? T = some oT) (h0 : qs ≠ []) (hx : ∀ q ∈ qs, q.xs.size ≤ i)
    (hE : ∀ h' e, StayN B qs.length s.heap h' → (∃ o, h'.get? e = some o ∧ o.cls = .type "StopIteration") → E (.ref e) { s with heap := h' }) :
    wpAny (model prog w) A (Builtin.«zip.__next__» ⟨[.ref (B + qs.length + 2)], []⟩) Q E s := by
  obtain ⟨hz, hTI, ⟨arr, hTO, ha⟩, hits⟩ := Z
  generalize en : qs.length = n at *
  have n0 : n ≠ 0 := fun e => h0 (List.length_eq_zero_iff.mp (by omega))
  show wpAny _ _ (field (.ref (B + n + 2)) 2 >>= _) _ _ _
  refine wpAny_bind (wpAny_field hz rfl (x := .bool false) rfl ?_)
  show wpAny _ _ (field (.ref (B + n + 2)) 3 >>= _) _ _ _
  refine wpAny_bind (wpAny_field hz rfl (x := .ref (B + n)) rfl ?_)
  refine wpAny_bind (wpAny_seqItems hTI rfl ?_)
  have e1 : itRefs B n = Value.ref (B + 0) :: ((itRefs B n).drop 1) := by
    unfold itRefs
    cases n with
    | zero => exact absurd rfl n0
    | succ n => rw [List.range_succ_eq_map]; rfl
  have ne : (itRefs B n).toArray.isEmpty = false := by rw [e1]; rfl
  simp only [ne, Bool.false_eq_true, if_false]
  show wpAny _ _ (Builtin.SmallTypes.ownedTupleIsFree (.ref (B + n + 2)) >>= _) _ _ _
  refine wpAny_bind (freeHeld hz hT fun h₁ hz₁ hs₁ => ?_)
  simp only [Bool.false_eq_true, if_false]
  refine wpAny_bind ?_
  rw [← Array.forIn_toList, List.toList_toArray]
  generalize (itRefs B n).drop 1 = tl at e1
  rw [e1, List.forIn_cons]
  have its₁ : Its h₁ B qs i := hits.keep fun b o hb e => hs₁.extBut _ o (Nat.ne_of_lt (by rw [en] at hb; omega)) e
  have eq : qs[0]? = some (qs[0]'(by omega)) := List.getElem?_eq_getElem (by omega)
  generalize (qs[0]'(by omega)) = q at eq
  obtain ⟨qa, qs', qi⟩ := its₁ 0 q eq
  rw [if_neg (Nat.lt_irrefl _)] at qi
  refine wpAny_bind (wpAny_bind (wpAny_holding ?_))
  show wpAny _ _ (Builtin.SmallTypes.nextOf (.ref (B + 0)) >>= _) _ _ _
  refine wpAny_bind (next_end (s := { s with heap := h₁ }) hh qi qs' (Array.getElem?_eq_none (hx q (List.mem_of_getElem? eq))) fun h₂ e hs₂ he => ?_)
  exact hE h₂ e (fun b o hb x => hs₂ _ _ ((off3 hb).2.2 0 (Nat.pos_of_ne_zero n0)) (hs₁.extBut _ _ (off3 hb).1 x)) he
end
end OwS

set_option Elab.async false
set_option linter.all false
set_option maxRecDepth 100000
set_option maxHeartbeats 2000000
namespace OwS
open PySem PySem.Spec PyProof.Rows
/-- where the zip stands: untouched, or one of its rows is out, behind S -/
def ZS (h : Heap) (B : Nat) (qs : List Sr) (i S : Nat) : Prop := ZN h B qs i .none (.bool false) ∨ ∃ (T : Nat) (f : Bool) (oT : Obj), ZN h B qs i (rawInt T) (.bool f) ∧ h.get? T = some oT ∧ S < T
theorem ZN.keep {h h' : Heap} {B : Nat} {qs : List Sr} {i : Nat} {f0 f1 : Value} (Z : ZN h B qs i f0 f1) (k : ∀ (b : Nat) o, b < B + qs.length + 3 → h.get? b = some o → h'.get? b = some o) : ZN h' B qs i f0 f1 := by
  obtain ⟨a, b, ⟨arr, c, d⟩, e⟩ := Z
  exact ⟨k _ _ (by omega) a, k _ _ (by omega) b, ⟨arr, k _ _ (by omega) c, d⟩, e.keep fun b o hb z => k b o (Nat.lt_of_lt_of_le hb (Nat.le_add_right _ 3)) z⟩
theorem ZS.keep {h h' : Heap} {B : Nat} {qs : List Sr} {i S : Nat} (Z : ZS h B qs i S) (hS : B + qs.length + 2 < S) (k : ∀ (b : Nat) o, b ≠ S → h.get? b = some o → h'.get? b = some o) : ZS h' B qs i S := by
  rcases Z with Z | ⟨T, f, oT, Z, hT, l⟩
  · exact .inl (Z.keep fun b o hb e => k b o (by omega) e)
  · exact .inr ⟨T, f, oT, Z.keep fun b o hb e => k b o (by omega) e, k T oT (Nat.ne_of_gt l) hT, l⟩
theorem ZS.ty {s : Shared} {B : Nat} {qs : List Sr} {i S : Nat} (Z : ZS s.heap B qs i S) : s.TypeIs (.ref (B + qs.length + 2)) "zip" := by
  rcases Z with Z | ⟨T, f, oT, Z, hT, l⟩
  · exact ⟨_, Z.z, rfl⟩
  · exact ⟨_, Z.z, rfl⟩
section
variable {prog : Program} {w : World} {A : Around} {E : Value → Shared → Prop} {R : Result → Shared → Prop} {s : Shared} {B S i : Nat} {qs : List Sr}
/-- one more row -/
theorem ZS.item {Q : Option Value → Shared → Prop} (Z : ZS s.heap B qs i S) (h0 : qs ≠ []) (hn : qs.length ≤ 1000) (hx : ∀ q ∈ qs, i < q.xs.size) (hB : B + qs.length + 2 < S) (hS : S < s.heap.objs.size)
    (hQ : ∀ h', ZS h' B qs (i + 1) S → IsTupV h' s.heap.objs.size (rowAt qs i).toArray → h'.objs.size = s.heap.objs.size + 1 → StayN B qs.length s.heap h' → Q (some (.ref s.heap.objs.size)) { s with heap := h' }) :
    wpAny (model prog w) A (pyNext (.ref (B + qs.length + 2))) Q E s := by
  have hT := Z.ty
  unfold pyNext
  rcases Z with Z | ⟨T, f, oT, Z, hT', l⟩
  · exact wpAny_bind (wpAny_attempt (wpAny_callSpecial?_slot (name := Str.ofString "__next__") hT F.slot_zip_next
      (wpAny_call_entry F.slot_zip_next hT F.entry_zip_next (zipN_item Z h0 hn hx fun h' a1 a2 a3 a4 => wpAny_pure (hQ h' (.inr ⟨_, false, _, a1, a2, hS⟩) a2 a3 a4)) (F.args_zip_next_1 _))))
  · exact wpAny_bind (wpAny_attempt (wpAny_callSpecial?_slot (name := Str.ofString "__next__") hT F.slot_zip_next
      (wpAny_call_entry F.slot_zip_next hT F.entry_zip_next (zipN_item_held Z hT' h0 hn hx fun h' a1 a2 a3 a4 => wpAny_pure (hQ h' (.inr ⟨T, true, oT, a1, a4 T oT (.inr (.inr (Nat.lt_trans hB l))) hT', l⟩) a2 a3 a4)) (F.args_zip_next_1 _))))
theorem ZS.over {Q : Option Value → Shared → Prop} (hh : A.handled = none) (Z : ZS s.heap B qs i S) (h0 : qs ≠ []) (hx : ∀ q ∈ qs, q.xs.size ≤ i)
    (hQ : ∀ h', StayN B qs.length s.heap h' → Q none { s with heap := h' }) : wpAny (model prog w) A (pyNext (.ref (B + qs.length + 2))) Q E s := by
  have hT := Z.ty
  unfold pyNext
  have fin : ∀ h' e, StayN B qs.length s.heap h' → (∃ o, h'.get? e = some o ∧ o.cls = .type "StopIteration") →
      wpAny (model prog w) A (do if ← isInstance (.ref e) (.type "StopIteration") then pure none else throw (.ref e)) Q E { s with heap := h' } := fun h' e st he => by
    obtain ⟨o, ho, hc⟩ := he
    exact wpAny_bind (wpAny_isInstance (T := "StopIteration") (b := true) ⟨o, ho, hc⟩ isSubtype_stop (wpAny_pure (hQ _ st)))
  rcases Z with Z | ⟨T, f, oT, Z, hT', l⟩
  · exact wpAny_bind (wpAny_attempt (wpAny_callSpecial?_slot (name := Str.ofString "__next__") hT F.slot_zip_next
      (wpAny_call_entry F.slot_zip_next hT F.entry_zip_next (zipN_end hh Z h0 hx fin) (F.args_zip_next_1 _))))
  · exact wpAny_bind (wpAny_attempt (wpAny_callSpecial?_slot (name := Str.ofString "__next__") hT F.slot_zip_next
      (wpAny_call_entry F.slot_zip_next hT F.entry_zip_next (zipN_end_held hh Z hT' h0 hx fin) (F.args_zip_next_1 _))))
/-- the rows that are out -/
def OutN (h : Heap) (S : Nat) (qs : List Sr) (as : List Addr) : Prop := (∀ a ∈ as, S < a) ∧ as.Nodup ∧ ∀ (j : Nat) (a : Addr), as[j]? = some a → IsTupV h a (rowAt qs j).toArray
theorem OutN.keep {h h' : Heap} {as : List Addr} (g : OutN h S qs as) (k : ∀ (b : Nat) o, S < b → h.get? b = some o → h'.get? b = some o) : OutN h' S qs as :=
  ⟨g.1, g.2.1, fun j a e => k a _ (g.1 a (List.mem_of_getElem? e)) (g.2.2 j a e)⟩
theorem OutN.more {h : Heap} {as : List Addr} {T : Nat} (g : OutN h S qs as) (hT : IsTupV h T (rowAt qs as.length).toArray) (l : S < T) (fresh : ∀ a ∈ as, a ≠ T) : OutN h S qs (as ++ [T]) := by
  refine ⟨fun a ha => ?_, ?_, fun j a hj => ?_⟩
  · rcases List.mem_append.mp ha with ha | ha
    · exact g.1 a ha
    · rw [List.mem_singleton.mp ha]; exact l
  · refine List.nodup_append.mpr ⟨g.2.1, by simp, fun a ha b hb e => ?_⟩
    rw [List.mem_singleton.mp hb] at e
    exact fresh a ha e
  · rcases Nat.lt_trichotomy j as.length with m | m | m
    · rw [List.getElem?_append_left m] at hj
      exact g.2.2 j a hj
    · subst m
      have e : T = a := by simpa using hj
      subst e
      exact hT
    · rw [List.getElem?_eq_none (by rw [List.length_append, List.length_singleton]; omega)] at hj
      cases hj
theorem zipN_loop {m : Nat} (hh : A.handled = none) (h0 : qs ≠ []) (hq : qs.length ≤ 1000) (hm : ∀ q ∈ qs, q.xs.size = m) (hn : m ≤ sizeLine) (hB : B + qs.length + 2 < S) (res : Value) {hB0 : Heap}
    (hR : ∀ h' tk acc c as, (∀ (b : Nat) o, b ≠ S → (b < B ∨ b = B + qs.length ∨ B + qs.length + 2 < b) → hB0.get? b = some o → h'.get? b = some o) → h'.get? S = some { cls := .type "list", dict := none, data := .seq acc c, slots := #[] } →
      as.length = m → OutN h' S qs as → acc.toList = as.map Value.ref → R (.ok (.ret res)) { s with heap := h', toks := tk }) :
    ∀ (k i : Nat) (h : Heap) (tk c : Nat) (acc : Array Value) (as : List Addr), m - i = k → i ≤ m → ZS h B qs i S →
      (∀ (b : Nat) o, b ≠ S → (b < B ∨ b = B + qs.length ∨ B + qs.length + 2 < b) → hB0.get? b = some o → h.get? b = some o) → h.get? S = some { cls := .type "list", dict := none, data := .seq acc c, slots := #[] } →
      acc.toList = as.map Value.ref → as.length = i → OutN h S qs as → codeAny (model prog w) A (.builtin "list.extend.loop" ⟨[.ref S, .ref (B + qs.length + 2), res], []⟩) R { s with heap := h, toks := tk } := by
  intro k
  induction k with
  | zero =>
    intro i h tk c acc as hk hi Z kb hS hacc hal g
    have hin : i = m := by omega
    refine codeAny_builtin PySem.F.entry_extend_loop ?_
    rw [Around.under_plainId PySem.F.plain_extend_loop _]
    show wpAny _ A.in1 (pyNext (.ref (B + qs.length + 2)) >>= _) _ _ _
    refine wpAny_bind (ZS.over (s := { s with heap := h, toks := tk }) (A := A.in1) hh Z h0 (fun q hq => by rw [hm q hq]; omega) fun h' st => ?_)
    refine wpAny_pure (hR h' tk acc c as (fun b o m1 hb e => st b o hb (kb b o m1 hb e)) (st S _ (.inr (.inr hB)) hS) (by omega) (g.keep fun b o hb e => st b o (.inr (.inr (Nat.lt_trans hB hb))) e) hacc)
  | succ k ih =>
    intro i h tk c acc as hk hi Z kb hS hacc hal g
    have hlt : i < m := by omega
    have hasz : acc.size = i := by rw [← Array.length_toList, hacc, List.length_map, hal]
    have hSl : S < h.objs.size := Heap.lt_size hS
    refine codeAny_builtin PySem.F.entry_extend_loop ?_
    rw [Around.under_plainId PySem.F.plain_extend_loop _]
    show wpAny _ A.in1 (pyNext (.ref (B + qs.length + 2)) >>= _) _ _ _
    refine wpAny_bind (ZS.item (s := { s with heap := h, toks := tk }) (S := S) Z h0 hq (fun q hq => by rw [hm q hq]; exact hlt) hB hSl fun h' Z' pr hz st => ?_)
    dsimp only at pr hz st ⊢
    have hS' := st S _ (.inr (.inr hB)) hS
    have up : ∀ (b : Nat) o, b ≠ S → h'.get? b = some o → (h'.update S (Obj.mapSeq (·.push (Value.ref h.objs.size)))).get? b = some o := fun b o hb e => (Heap.get?_update_other _ _ (Ne.symm hb)).trans e
    show wpAny _ A.in1 (updateSeq S (·.push (Value.ref h.objs.size)) >>= _) _ _ _
    refine wpAny_bind ?_
    refine wpAny_updateSeq hS' rfl (wpAny_pure ⟨plainId_quiet PySem.F.plain_extend_loop _, ih (i + 1) _ tk _ (acc.push (Value.ref h.objs.size)) (as ++ [h.objs.size]) (by omega) hlt (Z'.keep hB up)
      (fun b o m1 hb e => up b o m1 (st b o hb (kb b o m1 hb e))) (Heap.get?_update_self _ hS' rfl) (by rw [Array.toList_push, hacc, List.map_append]; rfl) (by rw [List.length_append, hal]; rfl) ?_⟩) (by rw [hasz]; omega) (by rw [Array.size_push, hasz]; omega)
    have g' : OutN h' S qs as := g.keep fun b o hb e => st b o (.inr (.inr (Nat.lt_trans hB hb))) e
    have pr' : IsTupV h' h.objs.size (rowAt qs as.length).toArray := by rw [hal]; exact pr
    refine (g'.more pr' hSl fun a ha e => ?_).keep fun b o hb e => up b o (Nat.ne_of_gt hb) e
    subst e
    obtain ⟨j, hj⟩ := List.mem_iff_getElem?.mp ha
    exact Nat.lt_irrefl _ (Heap.lt_size (g.2.2 j _ hj))
theorem iter_zipN {f0 f1 : Value} {Q : Value → Shared → Prop} (Z : ZN s.heap B qs i f0 f1) (h : Q (.ref (B + qs.length + 2)) s) : wpAny (model prog w) A (pyIter (.ref (B + qs.length + 2))) Q E s := by
  have hT : s.TypeIs (.ref (B + qs.length + 2)) "zip" := ⟨_, Z.z, rfl⟩
  refine wpAny_pyIter_slot hT F.slot_zip_iter (wpAny_call_entry F.slot_zip_iter hT F.entry_zip_iter ?_ (F.args_zip_iter_1 _))
  show wpAny _ _ (ret (.ref (B + qs.length + 2))) _ _ s
  exact wpAny_pure ⟨_, rfl, "zip", _, hT, F.slot_zip_next.lookup, h⟩
theorem hint_zipN {z : Addr} {Q : Bool → Shared → Prop} (hT : s.TypeIs (.ref z) "zip") (h : Q true s) : wpAny (model prog w) A (Builtin.List.listLengthHint (.ref z)) Q E s := by
  have n1 : typeLookup (.type "zip") "__len__" = pure none := am_miss_of_fast (by decide +kernel)
  have n2 : typeLookup (.type "zip") "__length_hint__" = pure none := am_miss_of_fast (by decide +kernel)
  unfold Builtin.List.listLengthHint
  refine wpAny_bind (wpAny_specialOf hT n1 ?_)
  refine wpAny_ite_split (fun hab => absurd hab (by decide)) (fun _ => ?_)
  show wpAny _ _ (specialOf (.ref z) "__length_hint__" >>= _) _ _ _
  refine wpAny_bind (wpAny_specialOf hT n2 ?_)
  exact wpAny_pure h
/-- a list at S, empty, is filled with the rows -/
theorem zipN_extend {m : Nat} (hh : A.handled = none) (Z : ZN s.heap B qs 0 .none (.bool false)) (h0 : qs ≠ []) (hq : qs.length ≤ 1000) (hm : ∀ q ∈ qs, q.xs.size = m) (hn : m ≤ sizeLine) (hB : B + qs.length + 2 < S) (res : Value) (c₀ : Nat)
    (hS : s.heap.get? S = some { cls := .type "list", dict := none, data := .seq #[] c₀, slots := #[] })
    (hR : ∀ h' tk acc c as, (∀ (b : Nat) o, b ≠ S → (b < B ∨ b = B + qs.length ∨ B + qs.length + 2 < b) → s.heap.get? b = some o → h'.get? b = some o) → h'.get? S = some { cls := .type "list", dict := none, data := .seq acc c, slots := #[] } →
      as.length = m → OutN h' S qs as → acc.toList = as.map Value.ref → R (.ok (.ret res)) { s with heap := h', toks := tk }) :
    wpAny (model prog w) A.in1 (Builtin.List.listExtendWith (.ref S) (.ref (B + qs.length + 2)) res)
      (fun fin s' => match fin with | .done f => R (.ok f) s' | .again c' => c'.quiet = true ∧ codeAny (model prog w) A c' R s') (fun e s' => R (.error e) s') s := by
  have hT : s.TypeIs (.ref (B + qs.length + 2)) "zip" := ⟨_, Z.z, rfl⟩
  unfold Builtin.List.listExtendWith
  refine wpAny_bind (wpAny_typeOf (T := "zip") hT ?_)
  have e1 : Builtin.List.listSameRef (.ref S) (.ref (B + qs.length + 2)) = false := by simp [Builtin.List.listSameRef, Nat.ne_of_gt hB]
  have e2 : (Value.type "zip" == Value.type "list") = false := by decide
  have e3 : (Value.type "zip" == Value.type "tuple") = false := by decide
  simp only [e1, e2, e3, Bool.or_false, Bool.false_eq_true, if_false]
  refine wpAny_bind (iter_zipN Z ?_)
  refine wpAny_bind (wpAny_holding (hint_zipN hT ?_))
  refine wpAny_ite_split (fun _ => ?_) (fun hab => absurd (by simp) hab)
  refine wpAny_bind (wpAny_rule ?_)
  refine wpAny_bind ?_
  show wpAny _ _ (updateSeq S (·.push .none) >>= fun _ => updateSeq S (·.pop)) _ _ _
  refine wpAny_bind (wpAny_updateSeq hS rfl ?_)
  have hS2 := Heap.get?_update_self (Obj.mapSeq (·.push Value.none)) hS rfl
  refine wpAny_updateSeq (hz := by seq_fits) hS2 rfl ?_
  have hS3 := Heap.get?_update_self (Obj.mapSeq (·.pop)) hS2 rfl
  have kk : ∀ (b : Nat) o, b ≠ S → s.heap.get? b = some o → ((s.heap.update S (Obj.mapSeq (·.push Value.none))).update S (Obj.mapSeq (·.pop))).get? b = some o :=
    fun b o hb e => (Heap.get?_update_other _ _ (Ne.symm hb)).trans ((Heap.get?_update_other _ _ (Ne.symm hb)).trans e)
  have Z' : ZS ((s.heap.update S (Obj.mapSeq (·.push Value.none))).update S (Obj.mapSeq (·.pop))) B qs 0 S := ZS.keep (.inl Z) hB kk
  exact wpAny_pure ⟨plainId_quiet PySem.F.plain_extend_loop _, zipN_loop (s := s) hh h0 hq hm hn hB res (hB0 := s.heap) hR m 0 _ _ _ #[] [] (Nat.sub_zero _) (Nat.zero_le _) Z' (fun b o hb _ e => kk b o hb e) hS3 rfl rfl ⟨(fun a ha => nomatch ha), List.nodup_nil, fun j a hj => by cases j <;> cases hj⟩⟩
end
end OwS

set_option linter.all false
set_option maxRecDepth 100000
namespace OwS
open PySem PySem.Spec PyProof.Rows
theorem typeCall_zip (vs : List Value) : checkTypeCall "zip" ⟨vs, []⟩ = pure () := by kernel_rfl
theorem newCall_zip : ∀ vs : List Value, vs.length ≤ 16 → checkBuiltinCall "zip.__new__" ⟨.type "zip" :: vs, []⟩ = pure ()
  | [], _ => by kernel_rfl
  | [_], _ => by kernel_rfl
  | [_, _], _ => by kernel_rfl
  | [_, _, _], _ => by kernel_rfl
  | [_, _, _, _], _ => by kernel_rfl
  | [_, _, _, _, _], _ => by kernel_rfl
  | [_, _, _, _, _, _], _ => by kernel_rfl
  | [_, _, _, _, _, _, _], _ => by kernel_rfl
  | [_, _, _, _, _, _, _, _], _ => by kernel_rfl
  | [_, _, _, _, _, _, _, _, _], _ => by kernel_rfl
  | [_, _, _, _, _, _, _, _, _, _], _ => by kernel_rfl
  | [_, _, _, _, _, _, _, _, _, _, _], _ => by kernel_rfl
  | [_, _, _, _, _, _, _, _, _, _, _, _], _ => by kernel_rfl
  | [_, _, _, _, _, _, _, _, _, _, _, _, _], _ => by kernel_rfl
  | [_, _, _, _, _, _, _, _, _, _, _, _, _, _], _ => by kernel_rfl
  | [_, _, _, _, _, _, _, _, _, _, _, _, _, _, _], _ => by kernel_rfl
  | [_, _, _, _, _, _, _, _, _, _, _, _, _, _, _, _], _ => by kernel_rfl
  | _ :: _ :: _ :: _ :: _ :: _ :: _ :: _ :: _ :: _ :: _ :: _ :: _ :: _ :: _ :: _ :: _ :: _, h => absurd h (by simp)
theorem args_init (obj : Value) : ∀ vs : List Value, vs.length ≤ 16 → argsOk "object.__init__" ⟨obj :: vs, []⟩
  | [], _ => by unfold argsOk; kernel_rfl
  | [_], _ => by unfold argsOk; kernel_rfl
  | [_, _], _ => by unfold argsOk; kernel_rfl
  | [_, _, _], _ => by unfold argsOk; kernel_rfl
  | [_, _, _, _], _ => by unfold argsOk; kernel_rfl
  | [_, _, _, _, _], _ => by unfold argsOk; kernel_rfl
  | [_, _, _, _, _, _], _ => by unfold argsOk; kernel_rfl
  | [_, _, _, _, _, _, _], _ => by unfold argsOk; kernel_rfl
  | [_, _, _, _, _, _, _, _], _ => by unfold argsOk; kernel_rfl
  | [_, _, _, _, _, _, _, _, _], _ => by unfold argsOk; kernel_rfl
  | [_, _, _, _, _, _, _, _, _, _], _ => by unfold argsOk; kernel_rfl
  | [_, _, _, _, _, _, _, _, _, _, _], _ => by unfold argsOk; kernel_rfl
  | [_, _, _, _, _, _, _, _, _, _, _, _], _ => by unfold argsOk; kernel_rfl
  | [_, _, _, _, _, _, _, _, _, _, _, _, _], _ => by unfold argsOk; kernel_rfl
  | [_, _, _, _, _, _, _, _, _, _, _, _, _, _], _ => by unfold argsOk; kernel_rfl
  | [_, _, _, _, _, _, _, _, _, _, _, _, _, _, _], _ => by unfold argsOk; kernel_rfl
  | [_, _, _, _, _, _, _, _, _, _, _, _, _, _, _, _], _ => by unfold argsOk; kernel_rfl
  | _ :: _ :: _ :: _ :: _ :: _ :: _ :: _ :: _ :: _ :: _ :: _ :: _ :: _ :: _ :: _ :: _ :: _, h => absurd h (by simp)
def srRefs (qs : List Sr) : List Value := qs.map fun q => Value.ref q.at_
section
variable {prog : Program} {w : World} {A : Around} {E : Value → Shared → Prop} {s : Shared} {qs : List Sr}
theorem iter_src {q : Sr} {Q : Value → Shared → Prop} (hs : SrAt s.heap q) (hQ : ∀ h', ItAt h' q s.heap.objs.size 0 → h'.objs.size = s.heap.objs.size + 1 → (∀ (b : Nat) o, s.heap.get? b = some o → h'.get? b = some o) → Q (.ref s.heap.objs.size) { s with heap := h' }) :
    wpAny (model prog w) A (pyIter (.ref q.at_)) Q E s := by
  obtain ⟨t, a, xs⟩ := q
  cases t with
  | true => exact wpAny_pyIter_tuple hs (hQ _ ⟨_, Heap.get?_push_size _ rfl, rfl, rfl⟩ (Heap.size_push ..) fun b o e => Heap.get?_push_of_some _ e)
  | false => exact wpAny_pyIter_list hs (hQ _ ⟨_, Heap.get?_push_size _ rfl, rfl, rfl⟩ (Heap.size_push ..) fun b o e => Heap.get?_push_of_some _ e)
theorem iterAll_ok {Q : List Value → Shared → Prop} (hs : ∀ q ∈ qs, SrAt s.heap q ∧ q.at_ < s.heap.objs.size)
    (hQ : ∀ h', Its h' s.heap.objs.size qs 0 → h'.objs.size = s.heap.objs.size + qs.length → (∀ (b : Nat) o, s.heap.get? b = some o → h'.get? b = some o) → Q (itRefs s.heap.objs.size qs.length) { s with heap := h' }) :
    wpAny (model prog w) A (Builtin.SmallTypes.iterAll (srRefs qs)) Q E s := by
  unfold Builtin.SmallTypes.iterAll
  refine wpAny_bind ?_
  refine wpAny_forIn_list _ (fun rest b s' => ∃ k h, k ≤ qs.length ∧ rest = srRefs (qs.drop k) ∧ b = (itRefs s.heap.objs.size k).toArray ∧ s' = { s with heap := h } ∧ h.objs.size = s.heap.objs.size + k ∧ (∀ (b : Nat) o, s.heap.get? b = some o → h.get? b = some o) ∧
      ∀ j q, j < k → qs[j]? = some q → ItAt h q (s.heap.objs.size + j) 0) _ ?_ ?_ _ _ ⟨0, s.heap, Nat.zero_le _, rfl, rfl, rfl, rfl, fun _ _ e => e, fun j q z => absurd z (Nat.not_lt_zero _)⟩
  · rintro x rest b s' ⟨k, h, hk, er, rfl, rfl, hsz, kp, its⟩
    have kn : k < qs.length := Nat.lt_of_le_of_ne hk fun z => by rw [z, List.drop_length] at er; cases er
    have eq : qs[k]? = some qs[k] := List.getElem?_eq_getElem kn
    rw [List.drop_eq_getElem_cons kn] at er
    cases er
    generalize qs[k] = q at eq
    obtain ⟨hq, _⟩ := hs q (List.mem_of_getElem? eq)
    refine wpAny_bind (wpAny_holding ?_)
    refine iter_src (s := { s with heap := h }) (hq.keep fun o e => kp _ o e) fun h' it hz k2 => ?_
    refine wpAny_pure ⟨k + 1, h', kn, rfl, ?_, rfl, by rw [hz, hsz]; rfl, fun b o e => k2 b o (kp b o e), fun j r hj e => ?_⟩
    · show ((itRefs s.heap.objs.size k).toArray.push (.ref h.objs.size)) = _
      unfold itRefs
      rw [hsz, List.range_succ, List.map_append]
      simp
    · by_cases ej : j = k
      · subst ej
        rw [eq] at e
        cases e
        have it' : ItAt h' q h.objs.size 0 := it
        rw [hsz] at it'
        exact it'
      · exact (its j r (by omega) e).keep fun o z => k2 _ o z
  · rintro b s' ⟨k, h, hk, er, rfl, rfl, hsz, kp, its⟩
    have kn : k = qs.length := by
      rcases Nat.lt_or_ge k qs.length with z | z
      · rw [List.drop_eq_getElem_cons z] at er; cases er
      · omega
    subst kn
    refine wpAny_pure ?_
    rw [List.toList_toArray]
    refine hQ h (fun j q e => ?_) hsz kp
    have hj := (List.getElem?_eq_some_iff.mp e).1
    obtain ⟨hq, hl⟩ := hs q (List.mem_of_getElem? e)
    exact ⟨hl, hq.keep fun o z => kp _ o z, its j q hj e⟩
abbrev zT1 (h : Heap) (B n : Nat) : Heap := h.push { cls := .type "tuple", data := .seq (itRefs B n).toArray }
abbrev zT2 (h : Heap) (B n : Nat) : Heap := (zT1 h B n).push { cls := .type "tuple", data := .seq (List.map (fun _ => Value.none) (itRefs B n)).toArray }
abbrev zT3 (h : Heap) (B n : Nat) : Heap := (zT2 h B n).push { cls := .type "zip", data := .fields [Value.none, .bool false, .bool false, .ref h.objs.size, .ref (zT1 h B n).objs.size].toArray }
theorem zn_made {h : Heap} {B : Nat} {qs : List Sr} (hsz : h.objs.size = B + qs.length) (its : Its h B qs 0) :
    ZN (zT3 h B qs.length) B qs 0 .none (.bool false) ∧ (zT2 h B qs.length).objs.size = B + qs.length + 2 ∧ (zT3 h B qs.length).objs.size = B + qs.length + 3 ∧ ∀ (b : Nat) o, h.get? b = some o → (zT3 h B qs.length).get? b = some o := by
  have z1 : (zT1 h B qs.length).objs.size = B + qs.length + 1 := by rw [Heap.size_push, hsz]
  have z2 : (zT2 h B qs.length).objs.size = B + qs.length + 2 := by rw [Heap.size_push, z1]
  have z3 : (zT3 h B qs.length).objs.size = B + qs.length + 3 := by rw [Heap.size_push, z2]
  have kp : ∀ (b : Nat) o, h.get? b = some o → (zT3 h B qs.length).get? b = some o := fun b o e => Heap.get?_push_of_some _ (Heap.get?_push_of_some _ (Heap.get?_push_of_some _ e))
  have g1 : (zT3 h B qs.length).get? h.objs.size = some { cls := .type "tuple", data := .seq (itRefs B qs.length).toArray } := Heap.get?_push_of_some _ (Heap.get?_push_of_some _ (Heap.get?_push_size _ rfl))
  have g2 : (zT3 h B qs.length).get? (zT1 h B qs.length).objs.size = some { cls := .type "tuple", data := .seq (List.map (fun _ => Value.none) (itRefs B qs.length)).toArray } := Heap.get?_push_of_some _ (Heap.get?_push_size _ rfl)
  have g3 : (zT3 h B qs.length).get? (zT2 h B qs.length).objs.size = some { cls := .type "zip", data := .fields [Value.none, .bool false, .bool false, .ref h.objs.size, .ref (zT1 h B qs.length).objs.size].toArray } := Heap.get?_push_size _ rfl
  rw [hsz] at g1
  rw [z1] at g2
  rw [z2, hsz, z1] at g3
  exact ⟨⟨g3, g1, ⟨_, g2, by unfold itRefs; simp⟩, its.keep fun b o _ e => kp b o e⟩, z2, z3, kp⟩
theorem meets_zipN (qs : List Sr) (hn : qs.length ≤ 1000) : Meets (Builtin.«zip.__new__» ⟨.type "zip" :: srRefs qs, []⟩) (fun _ R s => (∀ q ∈ qs, SrAt s.heap q ∧ q.at_ < s.heap.objs.size) ∧
    ∀ h', ZN h' s.heap.objs.size qs 0 .none (.bool false) → h'.objs.size = s.heap.objs.size + qs.length + 3 → (∀ (b : Nat) o, s.heap.get? b = some o → h'.get? b = some o) → R (.ok (.ret (.ref (s.heap.objs.size + qs.length + 2)))) { s with heap := h' }) :=
  .of_wp fun prog w A R s h => by
    obtain ⟨hs, h⟩ := h
    have hsub := sub_zip
    have key : ∀ {A' : Around} {E : Value → Shared → Prop} {Q : List Value → Shared → Prop}, (∀ h', Its h' s.heap.objs.size qs 0 → h'.objs.size = s.heap.objs.size + qs.length → (∀ (b : Nat) o, s.heap.get? b = some o → h'.get? b = some o) → Q (itRefs s.heap.objs.size qs.length) { s with heap := h' }) →
      wpAny (model prog w) A' (Builtin.SmallTypes.iterAll (srRefs qs)) Q E s := fun q => iterAll_ok hs q
    unfold Builtin.«zip.__new__»
    wp_walk using key
    intro h₁ its hsz kp
    have ln : (itRefs s.heap.objs.size qs.length).length = qs.length := by unfold itRefs; rw [List.length_map, List.length_range]
    refine wpAny_bind (wpAny_newTuple ?_ (by rw [ln]; exact Nat.le_trans hn (by decide)))
    refine wpAny_bind (wpAny_newTuple ?_ (by rw [List.length_map, ln]; exact Nat.le_trans hn (by decide)))
    refine wpAny_bind ?_
    show wpAny _ _ (newObj (.type "zip") (.fields [Value.none, .bool false, .bool false, .ref h₁.objs.size, .ref (h₁.push { cls := .type "tuple", data := .seq (itRefs s.heap.objs.size qs.length).toArray }).objs.size].toArray)) _ _ _
    refine wpAny_newObj_type (wpAny_pure ⟨_, rfl, ?_⟩)
    obtain ⟨a, b, c, d⟩ := zn_made hsz its
    have fin := h _ a c fun x o e => d x o (kp x o e)
    rw [← b] at fin
    exact fin
/-- zip(*rows) -/
theorem call_zipN {Q : Value → Shared → Prop} (hn : qs.length ≤ 16) (hs : ∀ q ∈ qs, SrAt s.heap q ∧ q.at_ < s.heap.objs.size)
    (hQ : ∀ h', ZN h' s.heap.objs.size qs 0 .none (.bool false) → h'.objs.size = s.heap.objs.size + qs.length + 3 → (∀ (b : Nat) o, s.heap.get? b = some o → h'.get? b = some o) → Q (.ref (s.heap.objs.size + qs.length + 2)) { s with heap := h' }) :
    wpAny (model prog w) A (call (.type "zip") (srRefs qs)) Q E s := by
  have ln : (srRefs qs).length ≤ 16 := by unfold srRefs; rw [List.length_map]; exact hn
  exact callType_new F.called_zip (by decide) (typeCall_zip _) (newCall_zip _ ln) (fun obj => args_init obj _ ln) F.entry_zip_new
    (meets_zipN qs (by omega)) ⟨hs, fun h' Z hz kp => ⟨⟨_, Z.z, rfl⟩, hQ h' Z hz kp⟩⟩
/-- list(z) -/
theorem list_zipN {m : Nat} {B : Nat} {Q : Value → Shared → Prop} (hh : A.handled = none) (Z : ZN s.heap B qs 0 .none (.bool false)) (hB : B + qs.length + 2 < s.heap.objs.size) (h0 : qs ≠ []) (hq : qs.length ≤ 1000) (hm : ∀ q ∈ qs, q.xs.size = m) (hn : m ≤ sizeLine)
    (hQ : ∀ h' tk acc c as, (∀ (b : Nat) o, (b < B ∨ b = B + qs.length ∨ B + qs.length + 2 < b) → s.heap.get? b = some o → h'.get? b = some o) → h'.get? s.heap.objs.size = some { cls := .type "list", dict := none, data := .seq acc c, slots := #[] } →
      as.length = m → OutN h' s.heap.objs.size qs as → acc.toList = as.map Value.ref → Q (.ref s.heap.objs.size) { s with heap := h', toks := tk }) :
    wpAny (model prog w) A (call (.type "list") [.ref (B + qs.length + 2)]) Q E s := by
  refine callType_codes (Q₁ := fun obj s₁ => obj = .ref s.heap.objs.size ∧ s₁ = { s with heap := s.heap.push { cls := .type "list", data := .seq #[] } }) PySem.F.called_list (PySem.F.typeCall_list_1 _) PySem.F.entry_list_init
    (code_list_new _ ⟨rfl, rfl⟩) fun obj s₁ h₁ => ?_
  obtain ⟨rfl, rfl⟩ := h₁
  have hS : (s.heap.push { cls := .type "list", data := .seq #[] }).get? s.heap.objs.size = some { cls := .type "list", data := .seq #[] } := Heap.get?_push_size _ rfl
  refine ⟨⟨_, hS, rfl⟩, PySem.F.args_list_init_2 _ _, ?_⟩
  show wpAny _ _ (do let old ← Builtin.List.listItems (.ref s.heap.objs.size); Builtin.List.listUpdate (.ref s.heap.objs.size) (fun _ => #[]); letGo old.toList.reverse; Builtin.List.listExtendWith (.ref s.heap.objs.size) (.ref (B + qs.length + 2)) .none) _ _ _
  refine wpAny_bind ?_
  unfold Builtin.List.listItems
  refine wpAny_bind (wpAny_seqItems hS rfl (wpAny_pure ?_))
  show wpAny _ _ (updateSeq s.heap.objs.size (fun _ => #[]) >>= fun _ => letGo (#[] : Array Value).toList.reverse >>= fun _ => Builtin.List.listExtendWith (.ref s.heap.objs.size) (.ref (B + qs.length + 2)) .none) _ _ _
  refine wpAny_bind (wpAny_updateSeq hS rfl ?_)
  have hS2 := Heap.get?_update_self (Obj.mapSeq (fun _ => (#[] : Array Value))) hS rfl
  have kk : ∀ (b : Nat) o, b ≠ s.heap.objs.size → s.heap.get? b = some o → ((s.heap.push { cls := .type "list", data := .seq #[] }).update s.heap.objs.size (Obj.mapSeq (fun _ => (#[] : Array Value)))).get? b = some o :=
    fun b o hb e => (Heap.get?_update_other _ _ (Ne.symm hb)).trans (Heap.get?_push_of_some _ e)
  refine wpAny_bind (wpAny_letGo ?_)
  refine zipN_extend (A := A.in1) hh (Z.keep fun b o hb e => kk b o (by omega) e) h0 hq hm hn hB .none _ hS2 fun h' tk acc c as k hS' hl g hacc => ?_
  exact ⟨rfl, hQ h' tk acc c as (fun b o hb e => by
    have m1 : b ≠ s.heap.objs.size := Nat.ne_of_lt (Heap.lt_size e)
    exact k b o m1 hb (kk b o m1 e)) hS' hl g hacc⟩
theorem collect_zipN {m : Nat} {B : Nat} {Q : List Value → Shared → Prop} (hh : A.handled = none) (Z : ZN s.heap B qs 0 .none (.bool false)) (hB : B + qs.length + 2 < s.heap.objs.size) (h0 : qs ≠ []) (hq : qs.length ≤ 1000) (hm : ∀ q ∈ qs, q.xs.size = m) (hn : m ≤ sizeLine)
    (hQ : ∀ h' tk as, (∀ (b : Nat) o, (b < B ∨ b = B + qs.length ∨ B + qs.length + 2 < b) → s.heap.get? b = some o → h'.get? b = some o) → as.length = m → OutN h' s.heap.objs.size qs as → Q (as.map Value.ref) { s with heap := h', toks := tk }) :
    wpAny (model prog w) A (collect (.ref (B + qs.length + 2))) Q E s := by
  unfold collect
  refine wpAny_bind (wpAny_runValue (codeAny_builtin F.entry_proto_collect ?_))
  rw [Around.under_plainId F.plain_proto_collect _]
  show wpAny _ A.in1 (newList [] >>= fun l' => again (.builtin "list.__iadd__" ⟨[l', .ref (B + qs.length + 2)], []⟩)) _ _ s
  refine wpAny_bind (wpAny_newObj_type ?_)
  refine wpAny_pure ⟨plainId_quiet F.plain_list_iadd _, codeAny_builtin F.entry_list_iadd ?_⟩
  rw [Around.under_plainId F.plain_list_iadd _]
  have hS₁ : (s.heap.push { cls := .type "list", data := .seq ([] : List Value).toArray }).get? s.heap.objs.size = some { cls := .type "list", data := .seq ([] : List Value).toArray } := Heap.get?_push_size _ rfl
  show wpAny _ A.in1 (Builtin.List.listExtendWith (.ref s.heap.objs.size) (.ref (B + qs.length + 2)) (.ref s.heap.objs.size)) _ _ _
  refine zipN_extend (A := A) (R := fun r s' => match r with
      | Except.ok (Flow.ret v) => wpAny (model prog w) A (match v with
        | Value.ref a => do
          let o ← load a
          match o.data with
            | Data.seq xs _ => pure xs.toList
            | _ => unsupported "internal:collect"
        | _ => unsupported "internal:collect") Q E s'
      | Except.ok _ => False
      | Except.error e => E e s') (s := { s with heap := s.heap.push { cls := .type "list", data := .seq ([] : List Value).toArray } }) hh (Z.keep fun b o hb e => Heap.get?_push_of_some _ e) h0 hq hm hn hB (.ref s.heap.objs.size) _ hS₁ fun h' tk acc c as k hS' hl g hacc => ?_
  show wpAny _ A (load s.heap.objs.size >>= _) _ _ _
  refine wpAny_bind (wpAny_load hS' ?_)
  refine wpAny_pure ?_
  show Q acc.toList _
  rw [hacc]
  exact hQ h' tk as (fun b o hb e => k b o (Nat.ne_of_lt (Heap.lt_size e)) hb (Heap.get?_push_of_some _ e)) hl g
theorem code_tuple_zipN {m : Nat} {B : Nat} {Q₁ : Value → Shared → Prop} (hh : A.handled = none) (Z : ZN s.heap B qs 0 .none (.bool false)) (hB : B + qs.length + 2 < s.heap.objs.size) (h0 : qs ≠ []) (hq : qs.length ≤ 1000) (hm : ∀ q ∈ qs, q.xs.size = m) (hn : m ≤ sizeLine)
    (h : ∀ h' tk as, (∀ (b : Nat) o, (b < B ∨ b = B + qs.length ∨ B + qs.length + 2 < b) → s.heap.get? b = some o → h'.get? b = some o) → as.length = m → OutN h' s.heap.objs.size qs as → Q₁ (.ref h'.objs.size) { s with heap := h'.push { cls := .type "tuple", data := .seq (as.map Value.ref).toArray }, toks := tk }) :
    codeAny (model prog w) A (.call (.builtin "tuple.__new__") ⟨[.type "tuple", .ref (B + qs.length + 2)], []⟩) (wants Q₁ E) s := by
  refine codeAny_of_tree ?_
  show wpAny _ A.in1 (do checkBuiltinCall "tuple.__new__" ⟨[.type "tuple", .ref (B + qs.length + 2)], []⟩; again (.builtin "tuple.__new__" ⟨[.type "tuple", .ref (B + qs.length + 2)], []⟩)) _ _ s
  refine wpAny_bind (wpAny_of_eq (F.newCall_tuple_1 _) (wpAny_pure ⟨plainId_quiet F.plain_tuple_new _, codeAny_builtin F.entry_tuple_new ?_⟩))
  rw [Around.under_plainId F.plain_tuple_new _]
  have hsub := sub_tuple_self
  have hinit := init_tuple_lookup
  have hmh := madeHere_tuple
  have hTI : s.TypeIs (.ref (B + qs.length + 2)) "zip" := ⟨_, Z.z, rfl⟩
  have hh1 : A.in1.handled = none := hh
  wp_walk using wpAny_typeOf hTI, collect_zipN (A := A.in1) hh1 Z hB h0 hq hm hn
  intro h' tk as hk hl g
  show wpAny _ _ (Builtin.Tuple.tupleExact (as.map Value.ref).toArray >>= fun v => ret v) _ _ _
  unfold Builtin.Tuple.tupleExact
  refine wpAny_bind (wpAny_newObj_type ?_ (by show (as.map Value.ref).toArray.size ≤ sizeLine; rw [List.size_toArray, List.length_map, hl]; exact hn))
  exact wpAny_pure (h h' tk as hk hl g)
/-- tuple(z) -/
theorem tuple_zipN {m : Nat} {B : Nat} {Q : Value → Shared → Prop} (hh : A.handled = none) (Z : ZN s.heap B qs 0 .none (.bool false)) (hB : B + qs.length + 2 < s.heap.objs.size) (h0 : qs ≠ []) (hq : qs.length ≤ 1000) (hm : ∀ q ∈ qs, q.xs.size = m) (hn : m ≤ sizeLine)
    (hQ : ∀ h' tk as, (∀ (b : Nat) o, (b < B ∨ b = B + qs.length ∨ B + qs.length + 2 < b) → s.heap.get? b = some o → h'.get? b = some o) → as.length = m → OutN h' s.heap.objs.size qs as → Q (.ref h'.objs.size) { s with heap := h'.push { cls := .type "tuple", data := .seq (as.map Value.ref).toArray }, toks := tk }) :
    wpAny (model prog w) A (call (.type "tuple") [.ref (B + qs.length + 2)]) Q E s := by
  refine callType_codes (Q₁ := fun obj s₁ => s₁.TypeIs obj "tuple" ∧ Q obj s₁) F.called_tuple (F.typeCall_tuple_1 _) F.entry_object_init
    (code_tuple_zipN (A := A.in1) hh Z hB h0 hq hm hn fun h' tk as hk hl g => ⟨⟨_, Heap.get?_push_size _ rfl, rfl⟩, hQ h' tk as hk hl g⟩) fun obj s₁ h₁ => ?_
  exact ⟨h₁.1, F.args_object_init_2 obj _, object_init_meets F.called_tuple.init.lookup F.called_tuple.made (by decide) prog w A.in1 _ s₁ ⟨h₁.1, rfl, h₁.2⟩⟩
end
end OwS

set_option Elab.async false
set_option linter.all false
set_option maxRecDepth 100000
set_option maxHeartbeats 2000000
namespace Ow
open PySem PySem.Spec PyProof.Rows L2
/-- a tuple or a list with these items -/
def Rw (K : PySem.W.Frag) (H : Hp) (t : V) (xs : List V) : Prop := ∃ a, t = .ref a ∧ (SqT K H a xs ∨ SqL K H a xs)
def colAt (xss : List (List V)) (j : Nat) : List V := xss.map fun xs => xs.getD j .non
section
variable {X : Cx} {pins : List (Addr × Obj)} {σ : L2.St} {H : Hp} {s : Shared}
theorem srs_of (I : Inv X pins σ H s) : ∀ {ts : List V} {us : List Value} {xss : List (List V)}, Vals ts us → All2 (Rw X.K H) ts xss →
    ∃ qs : List OwS.Sr, us = OwS.srRefs qs ∧ qs.length = xss.length ∧ (∀ q ∈ qs, OwS.SrAt s.heap q ∧ q.at_ < s.heap.objs.size) ∧ All2 (fun (q : OwS.Sr) xs => Vals xs q.xs.toList) qs xss
  | _, _, _, .nil, .nil => ⟨[], rfl, rfl, (fun _ m => nomatch m), .nil⟩
  | _, _, _, .cons r rs, .cons w ws => by
    obtain ⟨qs, e, l, hs, al⟩ := srs_of I rs ws
    obtain ⟨a, rfl, w⟩ := w
    cases r
    rcases w with w | w
    · obtain ⟨its, rv, pl, _⟩ := I.tuple w
      refine ⟨⟨true, a, its.toArray⟩ :: qs, by rw [e]; rfl, by rw [List.length_cons, List.length_cons, l], fun q m => ?_, .cons (by simpa using rv) al⟩
      rcases List.mem_cons.mp m with rfl | m
      · have pl' : s.heap.IsTuple a its.toArray := pl
        obtain ⟨o, ho, _⟩ := id pl'
        exact ⟨pl', Heap.lt_size ho⟩
      · exact hs q m
    · obtain ⟨its, rv, pl, _⟩ := I.list w
      refine ⟨⟨false, a, its.toArray⟩ :: qs, by rw [e]; rfl, by rw [List.length_cons, List.length_cons, l], fun q m => ?_, .cons (by simpa using rv) al⟩
      rcases List.mem_cons.mp m with rfl | m
      · exact ⟨pl.isList, pl.lt⟩
      · exact hs q m
theorem col_row {j m : Nat} (hj : j < m) : ∀ {qs : List OwS.Sr} {xss : List (List V)}, All2 (fun (q : OwS.Sr) xs => Vals xs q.xs.toList) qs xss → (∀ xs ∈ xss, xs.length = m) → Vals (colAt xss j) (OwS.rowAt qs j)
  | _, _, .nil, _ => .nil
  | q :: qs, xs :: xss, .cons a al, h => by
    refine .cons ?_ (col_row hj al fun x m => h x (List.mem_cons_of_mem _ m))
    have hl := h xs (List.mem_cons_self ..)
    have e : xs[j]? = some (xs[j]'(by omega)) := List.getElem?_eq_getElem _
    obtain ⟨u, eu, ru⟩ := a.get e
    have e1 : xs.getD j .non = xs[j]'(by omega) := by rw [List.getD_eq_getElem?_getD, e]; rfl
    have e2 : q.xs.getD j .none = u := by
      have hu : q.xs[j]? = some u := by simpa using eu
      rw [Array.getD_eq_getD_getElem?, hu]; rfl
    show RelV (xs.getD j .non) (q.xs.getD j .none)
    rw [e1, e2]; exact ru
theorem sizes_of {m : Nat} : ∀ {qs : List OwS.Sr} {xss : List (List V)}, All2 (fun (q : OwS.Sr) xs => Vals xs q.xs.toList) qs xss → (∀ xs ∈ xss, xs.length = m) → ∀ q ∈ qs, q.xs.size = m
  | _, _, .nil, _, _, z => nomatch z
  | q :: qs, xs :: xss, .cons a al, h, r, z => by
    rcases List.mem_cons.mp z with rfl | z
    · rw [← h xs (List.mem_cons_self ..), a.length, Array.length_toList]
    · exact sizes_of al (fun x m => h x (List.mem_cons_of_mem _ m)) r z
/-- new rows at as, and what holds them at D -/
theorem laid_rows {h' : Heap} {tk : Nat} {D : Addr} {o : HO} {as : List Addr} {cols : Nat → List V} (I : Inv X pins σ H s) (kold : ∀ b x, s.heap.get? b = some x → h'.get? b = some x) (bigD : s.heap.objs.size ≤ D) (bigA : ∀ a ∈ as, s.heap.objs.size ≤ a) (nd : as.Nodup) (hD : D ∉ as)
    (od : ∀ H2, ObjOk X.prog X.w H2 h' D o) (oa : ∀ (j : Nat) a, as[j]? = some a → ∀ H2, ObjOk X.prog X.w H2 h' a (.tup (cols j))) :
    ∃ H2, Inv X pins σ H2 { s with heap := h', toks := tk } ∧ Same H H2 ∧ H2 D = some o ∧ (∀ (j : Nat) a, as[j]? = some a → H a = none ∧ H2 a = some (.tup (cols j))) ∧ H D = none := by
  let Pr : Addr → HO → Prop := fun x z => ∃ j : Nat, as[j]? = some x ∧ z = HO.tup (cols j)
  have dec : ∀ x, Decidable (∃ z, Pr x z) := fun x => Classical.propDecidable _
  let H2 : Hp := fun x => if x = D then some o else if z : ∃ z, Pr x z then some z.choose else H x
  have atD : H2 D = some o := if_pos rfl
  have atas : ∀ (j : Nat) (x : Addr), as[j]? = some x → H2 x = some (.tup (cols j)) := fun j x hj => by
    have hx : x ∈ as := List.mem_of_getElem? hj
    have ex : ∃ z, Pr x z := ⟨_, j, hj, rfl⟩
    show (if x = D then _ else if z : ∃ z, Pr x z then some z.choose else H x) = _
    rw [if_neg (fun e : x = D => hD (by rw [← e]; exact hx)), dif_pos ex]
    obtain ⟨j', g1, g2⟩ := ex.choose_spec
    have : j' = j := by
      obtain ⟨m1, n1⟩ := List.getElem?_eq_some_iff.mp g1
      obtain ⟨m2, n2⟩ := List.getElem?_eq_some_iff.mp hj
      exact (List.getElem_inj nd).mp (n1.trans n2.symm)
    subst this
    rw [g2]
  have old : ∀ x, x < s.heap.objs.size → H2 x = H x := fun x hx => by
    show (if x = D then _ else if z : ∃ z, Pr x z then some z.choose else H x) = _
    rw [if_neg (Nat.ne_of_lt (Nat.lt_of_lt_of_le hx bigD)), dif_neg]
    rintro ⟨z, j, hj, _⟩
    exact Nat.lt_irrefl _ (Nat.lt_of_lt_of_le hx (bigA x (List.mem_of_getElem? hj)))
  have I2 : Inv X pins σ H2 { s with heap := h', toks := tk } := by
    refine inv_more I kold old fun x z hx eo => ?_
    by_cases hxl : x = D
    · subst hxl
      rw [atD] at eo
      cases eo
      exact od _
    · by_cases hm : x ∈ as
      · obtain ⟨j, hj⟩ := List.mem_iff_getElem?.mp hm
        rw [atas j x hj] at eo
        cases eo
        exact oa j x hj _
      · have e0 : H2 x = H x := by
          show (if x = D then _ else if z : ∃ z, Pr x z then some z.choose else H x) = _
          rw [if_neg hxl, dif_neg]
          rintro ⟨z, j, hj, _⟩
          exact hm (List.mem_of_getElem? hj)
        rw [e0, I.hok.fresh hx] at eo
        cases eo
  exact ⟨H2, I2, fun x z eo => (old x (I.hok.lt eo)).trans eo, atD, fun j a hj => ⟨I.hok.fresh (bigA a (List.mem_of_getElem? hj)), atas j a hj⟩, I.hok.fresh bigD⟩
end
theorem callWith_typeStar {M : Model} {A : Around} {E : Value → Shared → Prop} {s : Shared} {env : Env} {pos p : Pos} {T : String} {Q : Value → Shared → Prop} {e : Expr}
    (h : wpAny M A (eval e env) (fun v s₁ => PySem.W.StarOf M A E v (fun vs s₂ => wpAny M A (call (.type T) vs) Q E s₂) s₁) E s) (he : starEach [.Starred e p] env = [(true, eval e env)] := by rfl) :
    wpAny M A (callWith pos (.type T) [] (backTo pos (starEach [.Starred e p] env)) []) Q E s := by
  rw [he]
  refine PySem.W.ks_call (P := fun _ => True) rfl (fun h _ => ⟨.machine, .inr (.inl rfl), ?_⟩) (PySem.W.ks_lone ?_)
  · exact PySem.W.Looks.now
  · exact wpAny_mono h (fun v s1 q => wpAny_mono q (fun b s2 q2 => ⟨q2.1, wpAny_mono q2.2 (fun vs s3 q3 => ⟨trivial, q3⟩) fun _ _ z => z⟩) fun _ _ z => z) fun _ _ z => z
/-- tuple(zip(*rows)) -/
def tTupZip (K : PySem.W.Frag) (te : TE) : TE := fun σ H Q => te σ H fun x H1 => ∃ (p : Addr) (ts : List V) (xss : List (List V)) (m : Nat), x = .ref p ∧ (SqT K H1 p ts ∨ SqL K H1 p ts) ∧ 1 ≤ ts.length ∧ ts.length ≤ 16 ∧ All2 (Rw K H1) ts xss ∧ (∀ xs ∈ xss, xs.length = m) ∧ m ≤ 100000 ∧
  ∀ (l : Addr) (as : List Addr) (H2 : Hp), H1 l = none → Same H1 H2 → H2 l = some (.tup (as.map V.ref)) → as.length = m → (∀ (j : Nat) (a : Addr), as[j]? = some a → H1 a = none ∧ H2 a = some (.tup (colAt xss j))) → Q (.ref l) H2
section
variable {X : Cx}
theorem pe_tupzip {e : Expr} {te : TE} {p p2 p3 pos pos2 : Pos} (hg : Gl X "tuple") (hm : X.mg "tuple" = none) (hg2 : Gl X "zip") (hm2 : X.mg "zip" = none) (he : PE X e te) (hc : X.calm = true := by rfl)
    (na : starEach [Expr.Call (.Name "zip" p2) [.Starred e p3] [] pos2] X.env = (false, eval (Expr.Call (.Name "zip" p2) [.Starred e p3] [] pos2) X.env) :: starEach [] X.env := by rfl) (hs : starEach [.Starred e p3] X.env = [(true, eval e X.env)] := by rfl) :
    PE X (.Call (.Name "tuple" p) [.Call (.Name "zip" p2) [.Starred e p3] [] pos2] [] pos) (tTupZip X.K te) := by
  refine ⟨fun pins s σ H Q I h => ?_⟩
  refine Call_ (ld_blt I hg hm PyProof.Rows.Boot.«tuple» (PyProof.Rows.callWith_type1 (args_cons ?_ na) na))
  refine Call_ (ld_blt I hg2 hm2 PyProof.Rows.boot_zip (callWith_typeStar (thn (he.run pins s σ H _ I h) fun u s1 ⟨x, H1, I1, r1, q1⟩ => ?_) hs))
  obtain ⟨a, ts, xss, m, rfl, hq, h1, h16, al, hlen, hm5, q⟩ := q1
  cases r1
  refine StX.star_any I1 hq fun us s2 I2 r2 => ?_
  obtain ⟨qs, rfl, ql, hsr, ar⟩ := srs_of I2 r2 al
  have tl : qs.length = ts.length := by rw [ql, al.length]
  refine OwS.call_zipN (by omega) hsr fun h' Z hz kp => ?_
  refine args_nil ?_
  refine OwS.tuple_zipN (s := { s2 with heap := h' }) (m := m) (I2.ok.hd hc) Z (by show _ < h'.objs.size; rw [hz]; omega) (fun e => by rw [e] at tl; simp at tl; omega) (by omega) (sizes_of ar hlen) (by rw [sizeLine_eq]; omega) fun h'' tk as kz hl g => ?_
  dsimp only at kz g
  have tilt : s2.heap.objs.size + qs.length < h''.objs.size := Heap.lt_size (kz _ _ (.inr (.inl rfl)) Z.ti)
  have kold : ∀ b x, s2.heap.get? b = some x → (h''.push { cls := .type "tuple", data := .seq (as.map Value.ref).toArray }).get? b = some x := fun b x e => Heap.get?_push_of_some _ (kz b x (.inl (Heap.lt_size e)) (kp b x e))
  have alt : ∀ a ∈ as, a < h''.objs.size := fun a ha => by
    obtain ⟨j, hj⟩ := List.mem_iff_getElem?.mp ha
    exact Heap.lt_size (g.2.2 j a hj)
  have big : s2.heap.objs.size ≤ h'.objs.size := by rw [hz]; omega
  have mt : m ≤ sizeLine := by rw [sizeLine_eq]; omega
  obtain ⟨H2, J, sm, aD, aA, nD⟩ := laid_rows (tk := tk) (D := h''.objs.size) (o := .tup (as.map V.ref)) (as := as) (cols := colAt xss) I2 kold (Nat.le_trans (Nat.le_add_right _ _) (Nat.le_of_lt tilt)) (fun a ha => Nat.le_trans big (Nat.le_of_lt (g.1 a ha))) g.2.1 (fun z => Nat.lt_irrefl _ (alt _ z))
    (fun H2 => ⟨by rw [List.length_map, hl]; exact mt, as.map Value.ref, vals_refs as, ⟨_, Heap.get?_push_size _ rfl, rfl, _, rfl⟩⟩)
    (fun j a hj H2 => ⟨by unfold colAt; rw [List.length_map, ← ql, sizeLine_eq]; omega, OwS.rowAt qs j, col_row (m := m) (by rw [← hl]; exact (List.getElem?_eq_some_iff.mp hj).1) ar hlen, ⟨_, Heap.get?_push_of_some _ (g.2.2 j a hj), rfl, _, rfl⟩⟩)
  exact ⟨.ref h''.objs.size, H2, J, rfl, q _ as H2 nD sm aD hl aA⟩
end
end Ow

set_option Elab.async false
set_option linter.all false
set_option maxRecDepth 100000
set_option maxHeartbeats 2000000
namespace Ow
open PySem PySem.Spec PyProof.Rows L2
/-- what is walked: whether it is a tuple, where it lies; and the items -/
def Srcs (K : PySem.W.Frag) (H : Hp) (ks : List (Bool × Nat)) (xss : List (List V)) : Prop := All2 (fun (k : Bool × Nat) xs => match k.1 with | true => SqT K H k.2 xs | false => SqL K H k.2 xs) ks xss
def Itn (K : PySem.W.Frag) (ks : List (Bool × Nat)) : It :=
  ⟨fun i H => ∃ xss, Srcs K H ks xss ∧ ∀ xs ∈ xss, i < xs.length,
    fun i H v H' => ∃ T row, v = .ref T ∧ H T = none ∧ H' = upd H T (.tup row) ∧ ∀ xss, Srcs K H ks xss → row = colAt xss i,
    fun i H => ∃ xss, Srcs K H ks xss ∧ ∀ xs ∈ xss, xs.length ≤ i⟩
/-- the zip's own objects -/
structure Zown (h : Heap) (B : Nat) (ks : List (Bool × Nat)) (i : Nat) (f0 f1 : Value) : Prop where
  z : h.get? (B + ks.length + 2) = some { cls := .type "zip", dict := none, data := .fields #[f0, f1, .bool false, .ref (B + ks.length), .ref (B + ks.length + 1)], slots := #[] }
  ti : OwS.IsTupV h (B + ks.length) (OwS.itRefs B ks.length).toArray
  to : ∃ arr, OwS.IsTupV h (B + ks.length + 1) arr ∧ arr.size = ks.length
  its : ∀ (j : Nat) (k : Bool × Nat), ks[j]? = some k → OwS.ItAt h ⟨k.1, k.2, #[]⟩ (B + j) i
def F01 (f0 f1 : Value) : Prop := (f0 = .none ∧ f1 = .bool false) ∨ ∃ (T : Nat) (f : Bool), f0 = rawInt T ∧ f1 = .bool f
def zfp (B n : Nat) : List Addr := (List.range (n + 3)).map fun j => B + j
theorem zfp_mem {B n b : Nat} : b ∈ zfp B n ↔ B ≤ b ∧ b < B + n + 3 := by
  unfold zfp
  rw [List.mem_map]
  constructor
  · rintro ⟨j, hj, e⟩
    rw [List.mem_range] at hj
    have e' : B + j = b := e
    omega
  · rintro ⟨h1, h2⟩
    exact ⟨b - B, List.mem_range.mpr (by omega), (show B + (b - B) = b by omega)⟩
theorem itAt_any {h : Heap} {q : OwS.Sr} {xs : Array Value} {it : Addr} {i : Nat} (x : OwS.ItAt h ⟨q.tup, q.at_, xs⟩ it i) : OwS.ItAt h q it i := by
  obtain ⟨t, a, ys⟩ := q
  cases t <;> exact x
theorem itAt_any' {h : Heap} {q : OwS.Sr} {xs : Array Value} {it : Addr} {i : Nat} (x : OwS.ItAt h q it i) : OwS.ItAt h ⟨q.tup, q.at_, xs⟩ it i := by
  obtain ⟨t, a, ys⟩ := q
  cases t <;> exact x
section
variable {X : Cx} {pins : List (Addr × Obj)} {σ : L2.St} {H : Hp} {s : Shared}
theorem srcs_of (I : Inv X pins σ H s) : ∀ {ks : List (Bool × Nat)} {xss : List (List V)}, Srcs X.K H ks xss → ∃ qs : List OwS.Sr, qs.map (fun q => (q.tup, q.at_)) = ks ∧ (∀ q ∈ qs, OwS.SrAt s.heap q) ∧ All2 (fun (q : OwS.Sr) xs => Vals xs q.xs.toList) qs xss
  | _, _, .nil => ⟨[], rfl, (fun _ m => nomatch m), .nil⟩
  | (t, a) :: ks, _, .cons w ws => by
    obtain ⟨qs, e, hs, al⟩ := srcs_of I ws
    cases t with
    | true =>
      obtain ⟨its, rv, pl, _⟩ := I.tuple w
      refine ⟨⟨true, a, its.toArray⟩ :: qs, by rw [List.map_cons, e], fun q m => ?_, .cons (by simpa using rv) al⟩
      rcases List.mem_cons.mp m with rfl | m
      · exact pl
      · exact hs q m
    | false =>
      obtain ⟨its, rv, pl, _⟩ := I.list w
      refine ⟨⟨false, a, its.toArray⟩ :: qs, by rw [List.map_cons, e], fun q m => ?_, .cons (by simpa using rv) al⟩
      rcases List.mem_cons.mp m with rfl | m
      · exact pl.isList
      · exact hs q m
theorem Zown.zn {h : Heap} {B i : Nat} {qs : List OwS.Sr} {f0 f1 : Value} (Z : Zown h B (qs.map fun q => (q.tup, q.at_)) i f0 f1) (hb : ∀ q ∈ qs, q.at_ < B) (hs : ∀ q ∈ qs, OwS.SrAt h q) : OwS.ZN h B qs i f0 f1 := by
  obtain ⟨a, b, c, d⟩ := Z
  rw [List.length_map] at a b c
  refine ⟨a, b, c, fun j q e => ⟨hb q (List.mem_of_getElem? e), hs q (List.mem_of_getElem? e), ?_⟩⟩
  rw [if_neg (Nat.not_lt_zero _)]
  exact itAt_any (d j _ (by rw [List.getElem?_map, e]; rfl))
theorem Zown.of {h : Heap} {B i : Nat} {qs : List OwS.Sr} {f0 f1 : Value} (Z : OwS.ZN h B qs i f0 f1) : Zown h B (qs.map fun q => (q.tup, q.at_)) i f0 f1 := by
  obtain ⟨a, b, c, d⟩ := Z
  refine ⟨by rw [List.length_map]; exact a, by rw [List.length_map]; exact b, by rw [List.length_map]; exact c, fun j k e => ?_⟩
  rw [List.getElem?_map] at e
  cases eq : qs[j]? with
  | none => rw [eq] at e; cases e
  | some q =>
    rw [eq] at e
    cases e
    have := (d j q eq).2.2
    rw [if_neg (Nat.not_lt_zero _)] at this
    exact itAt_any' this
end
section
variable {prog : Program} {w : World} {A : Around} {E : Value → Shared → Prop} {s : Shared} {B i : Nat} {qs : List OwS.Sr}
/-- one more row, whether the last one is still there or not -/
theorem nextN {f0 f1 : Value} {Q : Option Value → Shared → Prop} (Z : OwS.ZN s.heap B qs i f0 f1) (FF : F01 f0 f1) (h0 : qs ≠ []) (hn : qs.length ≤ 1000) (hx : ∀ q ∈ qs, i < q.xs.size)
    (hQ : ∀ h' f0' f1', F01 f0' f1' → (f0 = .none → f0' = rawInt s.heap.objs.size ∧ f1' = .bool false) → OwS.ZN h' B qs (i + 1) f0' f1' → OwS.IsTupV h' s.heap.objs.size (OwS.rowAt qs i).toArray → h'.objs.size = s.heap.objs.size + 1 → OwS.StayN B qs.length s.heap h' → Q (some (.ref s.heap.objs.size)) { s with heap := h' }) :
    wpAny (model prog w) A (pyNext (.ref (B + qs.length + 2))) Q E s := by
  have hT : s.TypeIs (.ref (B + qs.length + 2)) "zip" := ⟨_, Z.z, rfl⟩
  unfold pyNext
  refine wpAny_bind (wpAny_attempt (wpAny_callSpecial?_slot (name := Str.ofString "__next__") hT F.slot_zip_next (wpAny_call_entry F.slot_zip_next hT F.entry_zip_next ?_ (F.args_zip_next_1 _))))
  rcases FF with ⟨rfl, rfl⟩ | ⟨T, f, rfl, rfl⟩
  · exact OwS.zipN_item Z h0 hn hx fun h' a1 a2 a3 a4 => wpAny_pure (hQ h' _ _ (.inr ⟨_, _, rfl, rfl⟩) (fun _ => ⟨rfl, rfl⟩) a1 a2 a3 a4)
  · cases e : s.heap.get? T with
    | some oT => exact OwS.zipN_item_held Z e h0 hn hx fun h' a1 a2 a3 a4 => wpAny_pure (hQ h' _ _ (.inr ⟨_, _, rfl, rfl⟩) (fun z => nomatch z) a1 a2 a3 a4)
    | none => exact OwS.zipN_itemF Z (fun q => OwS.free_dead Z.z e q) h0 hn hx fun h' a1 a2 a3 a4 => wpAny_pure (hQ h' _ _ (.inr ⟨_, _, rfl, rfl⟩) (fun z => nomatch z) a1 a2 a3 a4)
theorem overN {f0 f1 : Value} {Q : Option Value → Shared → Prop} (hh : A.handled = none) (Z : OwS.ZN s.heap B qs i f0 f1) (FF : F01 f0 f1) (h0 : qs ≠ []) (hx : ∀ q ∈ qs, q.xs.size ≤ i)
    (hQ : ∀ h', OwS.StayN B qs.length s.heap h' → Q none { s with heap := h' }) : wpAny (model prog w) A (pyNext (.ref (B + qs.length + 2))) Q E s := by
  have hT : s.TypeIs (.ref (B + qs.length + 2)) "zip" := ⟨_, Z.z, rfl⟩
  unfold pyNext
  have fin : ∀ h' e, OwS.StayN B qs.length s.heap h' → (∃ o, h'.get? e = some o ∧ o.cls = .type "StopIteration") →
      wpAny (model prog w) A (do if ← isInstance (.ref e) (.type "StopIteration") then pure none else throw (.ref e)) Q E { s with heap := h' } := fun h' e st he => by
    obtain ⟨o, ho, hc⟩ := he
    exact wpAny_bind (wpAny_isInstance (T := "StopIteration") (b := true) ⟨o, ho, hc⟩ isSubtype_stop (wpAny_pure (hQ _ st)))
  refine wpAny_bind (wpAny_attempt (wpAny_callSpecial?_slot (name := Str.ofString "__next__") hT F.slot_zip_next (wpAny_call_entry F.slot_zip_next hT F.entry_zip_next ?_ (F.args_zip_next_1 _))))
  rcases FF with ⟨rfl, rfl⟩ | ⟨T, f, rfl, rfl⟩
  · exact OwS.zipN_end hh Z h0 hx fin
  · cases e : s.heap.get? T with
    | some oT => exact OwS.zipN_end_held hh Z e h0 hx fin
    | none => exact OwS.zipN_endF hh Z (fun q => OwS.free_dead Z.z e q) h0 hx fin
end
theorem outZ {B n b : Nat} (h : ¬ (B ≤ b ∧ b < B + n + 3)) : b < B ∨ B + n + 2 < b := by omega
theorem inZ {B n b : Nat} (h0 : B ≤ b) (h1 : b < B + n + 3) : (∃ j, j < n ∧ b = B + j) ∨ b = B + n ∨ b = B + n + 1 ∨ b = B + n + 2 := by
  by_cases z : b < B + n
  · exact .inl ⟨b - B, by omega, by omega⟩
  · exact .inr (by omega)
theorem keepsN {B n : Nat} {h h' : Heap} (st : OwS.StayN B n h h') (b : Addr) (o : Obj) (hb : b ∉ zfp B n) (e : h.get? b = some o) : h'.get? b = some o := by
  refine st b o ?_ e
  have this := outZ fun z => hb (zfp_mem.mpr z)
  rcases this with z | z
  · exact .inl z
  · exact .inr (.inr z)
/-- the state of the walk: the zip's own objects, what lies at B and behind it -/
def tnN (B : Nat) (ks : List (Bool × Nat)) (i : Nat) (h : Heap) : Prop := ∃ f0 f1, F01 f0 f1 ∧ Zown h B ks i f0 f1
theorem zfp_here {B n j : Nat} (h : j < n + 3) : (B + j : Nat) ∈ zfp B n := zfp_mem.mpr ⟨Nat.le_add_right _ _, by omega⟩
theorem turn_zipN {P : Program} {w : World} {K : PySem.W.Frag} {tg : Expr} {B : Nat} {ks : List (Bool × Nat)} (htg : ∀ it v, letOwnedTupleGo tg it v = pure ()) (h0 : ks ≠ []) (h1 : ks.length ≤ 1000) (hB : ∀ k ∈ ks, k.2 < B) :
    Turn P w K tg (Itn K ks) (zfp B ks.length) (B + ks.length + 2) (tnN B ks) where
  mem := zfp_here (j := ks.length + 2) (by omega)
  obj := fun i h st b hb => by
    obtain ⟨f0, f1, _, Z⟩ := st
    obtain ⟨b0, b1⟩ := zfp_mem.mp hb
    have cases4 := inZ b0 b1
    rcases cases4 with ⟨j, hj, rfl⟩ | rfl | rfl | rfl
    · have it := Z.its j _ (List.getElem?_eq_getElem hj)
      generalize ks[j] = k at it
      obtain ⟨t, a⟩ := k
      cases t with
      | true => obtain ⟨o, e, _, d⟩ := it; exact ⟨o, e, fun v z => by rw [d] at z; cases z⟩
      | false => obtain ⟨o, e, _, d⟩ := it; exact ⟨o, e, fun v z => by rw [d] at z; cases z⟩
    · exact ⟨_, Z.ti, fun v q => nomatch q⟩
    · obtain ⟨arr, e, _⟩ := Z.to; exact ⟨_, e, fun v q => nomatch q⟩
    · exact ⟨_, Z.z, fun v q => nomatch q⟩
  keep := fun i h h' st k => by
    obtain ⟨f0, f1, FF, Z⟩ := st
    obtain ⟨a, b, ⟨arr, c, d⟩, e⟩ := Z
    refine ⟨f0, f1, FF, k _ (zfp_here (j := ks.length + 2) (by omega)) _ a, k _ (zfp_here (j := ks.length) (by omega)) _ b, ⟨arr, k _ (zfp_here (j := ks.length + 1) (by omega)) _ c, d⟩, fun j q eq => (e j q eq).keep fun o z => k _ (zfp_here (by have := (List.getElem?_eq_some_iff.mp eq).1; omega)) o z⟩
  item := by
    intro X hP hw hK hc i pins s σ H E I hf st hg
    subst hP hw hK
    obtain ⟨f0, f1, FF, Z⟩ := st
    obtain ⟨xss, hq, hx⟩ := hg
    obtain ⟨qs, rfl, hs, ar⟩ := srcs_of I hq
    have hb : ∀ q ∈ qs, q.at_ < B := fun q m => hB _ (List.mem_map.mpr ⟨q, m, rfl⟩)
    have ZN := Z.zn hb hs
    have ln : (qs.map fun q => (q.tup, q.at_)).length = qs.length := List.length_map ..
    have qx : ∀ q ∈ qs, i < q.xs.size := fun q m => by
      obtain ⟨j, hj⟩ := List.mem_iff_getElem?.mp m
      obtain ⟨xs, e, r⟩ := ar.get hj
      have := hx xs (List.mem_of_getElem? e)
      rw [r.length, Array.length_toList] at this
      exact this
    rw [ln] at hf h1 ⊢
    refine nextN ZN FF (fun e => h0 (by rw [e]; rfl)) h1 qx fun h' f0' f1' F' _ Z' hT hsz st => ?_
    refine ⟨_, rfl, ?_⟩
    rw [htg]
    refine wpAny_pure ?_
    have row : Vals (colAt xss i) (OwS.rowAt qs i) := by
      have : ∀ {qs : List OwS.Sr} {xss : List (List V)}, All2 (fun (q : OwS.Sr) xs => Vals xs q.xs.toList) qs xss → (∀ xs ∈ xss, i < xs.length) → Vals (colAt xss i) (OwS.rowAt qs i) := by
        intro qs xss al
        induction al with
        | nil => intro _; exact .nil
        | @cons q xs qs xss a al ih =>
          intro h
          have hl := h xs (List.mem_cons_self ..)
          have e : xs[i]? = some (xs[i]'hl) := List.getElem?_eq_getElem _
          obtain ⟨u, eu, ru⟩ := a.get e
          have e1 : xs.getD i .non = xs[i]'hl := by rw [List.getD_eq_getElem?_getD, e]; rfl
          have e2 : q.xs.getD i .none = u := by
            have hu : q.xs[i]? = some u := by simpa using eu
            rw [Array.getD_eq_getD_getElem?, hu]; rfl
          refine .cons ?_ (ih fun x m => h x (List.mem_cons_of_mem _ m))
          show RelV (xs.getD i .non) (q.xs.getD i .none)
          rw [e1, e2]; exact ru
      exact this ar hx
    have rl : (colAt xss i).length ≤ sizeLine := by
      unfold colAt
      rw [List.length_map, ← ar.length, sizeLine_eq]; omega
    have new : ObjOk X.prog X.w (upd H s.heap.objs.size (.tup (colAt xss i))) h' s.heap.objs.size (.tup (colAt xss i)) := ⟨rl, OwS.rowAt qs i, row, ⟨_, hT, rfl, _, rfl⟩⟩
    have I1 : Inv X pins σ (upd H s.heap.objs.size (.tup (colAt xss i))) { s with heap := h' } := I.turnedNew (t' := s.toks) (ch := zfp B qs.length) (fun b o hb e => keepsN st b o hb e) hf (Nat.le_refl _) new
    refine ⟨.ref s.heap.objs.size, _, I1, rfl, ⟨_, _, rfl, I.hok.fresh (Nat.le_refl _), rfl, fun yss hy => ?_⟩, ⟨f0', f1', F', Zown.of Z'⟩, fun b hbm => ?_⟩
    · have inj : ∀ {ks : List (Bool × Nat)} {xss yss : List (List V)}, Srcs X.K H ks xss → Srcs X.K H ks yss → xss = yss := by
        intro ks xss yss h
        induction h generalizing yss with
        | nil => intro h2; cases h2; rfl
        | @cons k xs ks xss a al ih =>
          intro h2
          cases h2 with
          | cons a2 al2 =>
            rw [ih al2]
            obtain ⟨t, p⟩ := k
            cases t with
            | true => rw [I.tuple_inj a a2]
            | false => rw [I.list_inj a a2]
      rw [inj hq hy]
    · have hlt : b < s.heap.objs.size := by
        obtain ⟨_, hb1⟩ := zfp_mem.mp hbm
        have zl : B + qs.length + 2 < s.heap.objs.size := Heap.lt_size ZN.z
        exact Nat.lt_of_lt_of_le hb1 zl
      rw [upd_ne (Nat.ne_of_lt hlt)]
      exact (hf b hbm).1
  done := by
    intro X hP hw hK hc i pins s σ H E I hf st hg
    subst hP hw hK
    obtain ⟨f0, f1, FF, Z⟩ := st
    obtain ⟨xss, hq, hx⟩ := hg
    obtain ⟨qs, rfl, hs, ar⟩ := srcs_of I hq
    have hb : ∀ q ∈ qs, q.at_ < B := fun q m => hB _ (List.mem_map.mpr ⟨q, m, rfl⟩)
    have ZN := Z.zn hb hs
    have ln : (qs.map fun q => (q.tup, q.at_)).length = qs.length := List.length_map ..
    have qx : ∀ q ∈ qs, q.xs.size ≤ i := fun q m => by
      obtain ⟨j, hj⟩ := List.mem_iff_getElem?.mp m
      obtain ⟨xs, e, r⟩ := ar.get hj
      have := hx xs (List.mem_of_getElem? e)
      rw [r.length, Array.length_toList] at this
      exact this
    rw [ln] at hf ⊢
    exact overN (I.ok.hd hc) ZN FF (fun e => h0 (by rw [e]; rfl)) qx fun h' st => ⟨rfl, I.turnedL (t' := s.toks) (ch := zfp B qs.length) (fun b o hb e => keepsN st b o hb e) hf⟩
  self := fun A i s Q E st h => by
    obtain ⟨f0, f1, _, Z⟩ := st
    have hT : s.TypeIs (.ref (B + ks.length + 2)) "zip" := ⟨_, Z.z, rfl⟩
    refine wpAny_pyIter_slot hT F.slot_zip_iter (wpAny_call_entry F.slot_zip_iter hT F.entry_zip_iter ?_ (F.args_zip_iter_1 _))
    show wpAny _ _ (ret (.ref (B + ks.length + 2))) _ _ s
    exact wpAny_pure ⟨_, rfl, "zip", _, hT, F.slot_zip_next.lookup, h⟩
end Ow

set_option Elab.async false
set_option linter.all false
set_option maxRecDepth 100000
set_option maxHeartbeats 2000000
namespace Ow
open PySem PySem.Spec PyProof.Rows L2
def refsOf (ks : List (Bool × Nat)) : List V := ks.map fun k => V.ref k.2
theorem refs_us : ∀ {qs : List OwS.Sr} {us : List Value}, Vals (refsOf (qs.map fun q => (q.tup, q.at_))) us → us = OwS.srRefs qs
  | [], _, .nil => rfl
  | _ :: _, _, .cons r rs => by
    cases r
    rw [refs_us rs]; rfl
theorem sr_lt {h : Heap} {q : OwS.Sr} (x : OwS.SrAt h q) : q.at_ < h.objs.size := by
  obtain ⟨t, a, xs⟩ := q
  cases t with
  | true => obtain ⟨o, e, _⟩ := x; exact Heap.lt_size e
  | false => obtain ⟨o, e, _⟩ := x; exact Heap.lt_size e
/-- for row in zip(*rows) -/
def iStar (K : PySem.W.Frag) (te : TE) : TI := fun σ H R => te σ H fun x H1 => ∃ (p : Addr) (ks : List (Bool × Nat)) (xss : List (List V)), x = .ref p ∧ (SqT K H1 p (refsOf ks) ∨ SqL K H1 p (refsOf ks)) ∧ 1 ≤ ks.length ∧ ks.length ≤ 16 ∧ Srcs K H1 ks xss ∧ R (Itn K ks) H1
theorem zip_pie {X : Cx} {tg : Expr} {pins : List (Addr × Obj)} {σ : L2.St} {H : Hp} {s : Shared} {R : It → Hp → Prop} {h' : Heap} {qs : List OwS.Sr} (I : Inv X pins σ H s) (htg : ∀ it v, letOwnedTupleGo tg it v = pure ()) (h0 : qs ≠ []) (h1 : qs.length ≤ 1000) (hlt : ∀ q ∈ qs, q.at_ < s.heap.objs.size)
    (Z : OwS.ZN h' s.heap.objs.size qs 0 .none (.bool false)) (kp : ∀ (b : Nat) o, s.heap.get? b = some o → h'.get? b = some o) (q : R (Itn X.K (qs.map fun q => (q.tup, q.at_))) H) :
    PIE X pins σ tg R (.ref (s.heap.objs.size + qs.length + 2)) { s with heap := h' } := by
  have ln : (qs.map fun q => (q.tup, q.at_)).length = qs.length := List.length_map ..
  have I2 : Inv X pins σ H { s with heap := h' } := I.kept (t' := s.toks) kp
  have T := turn_zipN (P := X.prog) (w := X.w) (K := X.K) (tg := tg) (B := s.heap.objs.size) (ks := qs.map fun q => (q.tup, q.at_)) htg (fun e => h0 (List.map_eq_nil_iff.mp e)) (by rw [ln]; exact h1) (fun k m => by
    obtain ⟨q, mq, rfl⟩ := List.mem_map.mp m
    exact hlt q mq)
  rw [ln] at T
  exact ⟨_, zfp s.heap.objs.size qs.length, _, _, H, rfl, I2, T, ⟨_, _, .inl ⟨rfl, rfl⟩, Zown.of Z⟩, fun c hc => I.fpOk (zfp_mem.mp hc).1 (I.hok.fresh (zfp_mem.mp hc).1), q⟩
theorem pi_star {X : Cx} {e : Expr} {te : TE} {p p3 pos : Pos} {tg : Expr} (hg : Gl X "zip") (hm : X.mg "zip" = none) (he : PE X e te) (htg : ∀ it v, letOwnedTupleGo tg it v = pure () := by intros; rfl) (hs : starEach [.Starred e p3] X.env = [(true, eval e X.env)] := by rfl) :
    PI X tg (.Call (.Name "zip" p) [.Starred e p3] [] pos) (iStar X.K te) := by
  refine ⟨fun pins s σ H R I h => ?_⟩
  refine Call_ (ld_blt I hg hm PyProof.Rows.boot_zip (callWith_typeStar (thn (he.run pins s σ H _ I h) fun u s1 ⟨x, H1, I1, r1, q1⟩ => ?_) hs))
  obtain ⟨a, ks, xss, rfl, hq, k1, k16, sr, q⟩ := q1
  cases r1
  refine StX.star_any I1 hq fun us s2 I2 r2 => ?_
  obtain ⟨qs, rfl, hs2, ar⟩ := srcs_of I2 sr
  rw [List.length_map] at k1 k16
  rw [refs_us r2]
  refine OwS.call_zipN k16 (fun q m => ⟨hs2 q m, sr_lt (hs2 q m)⟩) fun h' Z hz kp => ?_
  refine OwS.iter_zipN (s := { s2 with heap := h' }) Z ?_
  exact zip_pie I2 htg (fun e => by rw [e] at k1; simp at k1) (by omega) (fun q m => sr_lt (hs2 q m)) Z kp q
/-- list(zip(a, b)), each a list or a tuple -/
def tListZipM (K : PySem.W.Frag) (ta : TA) : TE := fun σ H Q => ta σ H fun vs H1 => ∃ (ks : List (Bool × Nat)) (xss : List (List V)) (m : Nat), vs = refsOf ks ∧ Srcs K H1 ks xss ∧ 1 ≤ ks.length ∧ ks.length ≤ 16 ∧ (∀ xs ∈ xss, xs.length = m) ∧ m ≤ 100000 ∧
  ∀ (l : Addr) (as : List Addr) (H2 : Hp), H1 l = none → Same H1 H2 → H2 l = some (.lst (as.map V.ref)) → as.length = m → (∀ (j : Nat) (a : Addr), as[j]? = some a → H1 a = none ∧ H2 a = some (.tup (colAt xss j))) → Q (.ref l) H2
theorem pe_listzipM {X : Cx} {e : Expr} {es : List Expr} {ta : TA} {p p2 pos pos2 : Pos} (hg : Gl X "list") (hm : X.mg "list" = none) (hg2 : Gl X "zip") (hm2 : X.mg "zip" = none) (ha : PA X (e :: es) ta) (hc : X.calm = true := by rfl)
    (hs : starEach (e :: es) X.env = (false, eval e X.env) :: starEach es X.env := by rfl) (hpl : (backTo pos2 (starEach es X.env)).any (·.1) = false := by rfl)
    (na : starEach [Expr.Call (.Name "zip" p2) (e :: es) [] pos2] X.env = (false, eval (Expr.Call (.Name "zip" p2) (e :: es) [] pos2) X.env) :: starEach [] X.env := by rfl) :
    PE X (.Call (.Name "list" p) [.Call (.Name "zip" p2) (e :: es) [] pos2] [] pos) (tListZipM X.K ta) := by
  refine ⟨fun pins s σ H Q I h => ?_⟩
  refine Call_ (ld_blt I hg hm boot_list (PyProof.Rows.callWith_type1 (args_cons ?_ na) na))
  refine Call_ (ld_blt I hg2 hm2 PyProof.Rows.boot_zip (PyProof.Rows.callWith_type1 (thn (ha.run pos2 pins s σ H _ I h) fun us s1 ⟨vs, H1, I1, r1, q1⟩ => ?_) hs hpl))
  obtain ⟨ks, xss, m, rfl, sr, k1, k16, hlen, hm5, q⟩ := q1
  obtain ⟨qs, rfl, hs2, ar⟩ := srcs_of I1 sr
  rw [List.length_map] at k1 k16
  rw [refs_us r1]
  refine OwS.call_zipN k16 (fun q m => ⟨hs2 q m, sr_lt (hs2 q m)⟩) fun h' Z hz kp => ?_
  refine args_nil ?_
  have zlt : s1.heap.objs.size + qs.length + 2 < h'.objs.size := by rw [hz]; omega
  refine OwS.list_zipN (s := { s1 with heap := h' }) (m := m) (I1.ok.hd hc) Z zlt (fun e => by rw [e] at k1; simp at k1) (by omega) (sizes_of ar hlen) (by rw [sizeLine_eq]; omega) fun h'' tk acc c as kz hS hl g hacc => ?_
  dsimp only at kz g hS
  have kold : ∀ b x, s1.heap.get? b = some x → h''.get? b = some x := fun b x e => kz b x (.inl (Heap.lt_size e)) (kp b x e)
  have big : s1.heap.objs.size ≤ h'.objs.size := by rw [hz]; omega
  have mt : m ≤ sizeLine := by rw [sizeLine_eq]; omega
  obtain ⟨H2, J, sm, aD, aA, nD⟩ := laid_rows (tk := tk) (D := h'.objs.size) (o := .lst (as.map V.ref)) (as := as) (cols := colAt xss) I1 kold big (fun a ha => Nat.le_trans big (Nat.le_of_lt (g.1 a ha))) g.2.1 (fun z => Nat.lt_irrefl _ (g.1 _ z))
    (fun H2 => ⟨by rw [List.length_map, hl]; exact mt, as.map Value.ref, c, vals_refs as, by
      have e : (as.map Value.ref).toArray = acc := by rw [← hacc]
      rw [e]; exact hS⟩)
    (fun j a hj H2 => ⟨by unfold colAt; rw [List.length_map, ← ar.length, sizeLine_eq]; omega, OwS.rowAt qs j, col_row (m := m) (by rw [← hl]; exact (List.getElem?_eq_some_iff.mp hj).1) ar hlen, ⟨_, g.2.2 j a hj, rfl, _, rfl⟩⟩)
  exact ⟨.ref h'.objs.size, H2, J, rfl, q _ as H2 nD sm aD hl aA⟩
end Ow

set_option Elab.async false
set_option linter.all false
set_option maxRecDepth 100000
set_option maxHeartbeats 2000000
namespace Ow
open PySem PySem.Spec PyProof.Rows L2
theorem turn_zipP {P : Program} {w : World} {K : PySem.W.Frag} {elts : List Expr} {kk : Nat} {tpos : Pos} {B : Nat} {ks : List (Bool × Nat)} (h0 : ks ≠ []) (h1 : ks.length ≤ 1000) (hB : ∀ k ∈ ks, k.2 < B) :
    Turn P w K (.Tuple elts kk tpos) (Itn K ks) (zfp B ks.length) (B + ks.length + 2) (fun i h => Zown h B ks i .none (.bool false)) where
  mem := zfp_here (j := ks.length + 2) (by omega)
  obj := fun i h st b hb => by
    have Z := st
    obtain ⟨b0, b1⟩ := zfp_mem.mp hb
    have cases4 := inZ b0 b1
    rcases cases4 with ⟨j, hj, rfl⟩ | rfl | rfl | rfl
    · have it := Z.its j _ (List.getElem?_eq_getElem hj)
      generalize ks[j] = k at it
      obtain ⟨t, a⟩ := k
      cases t with
      | true => obtain ⟨o, e, _, d⟩ := it; exact ⟨o, e, fun v z => by rw [d] at z; cases z⟩
      | false => obtain ⟨o, e, _, d⟩ := it; exact ⟨o, e, fun v z => by rw [d] at z; cases z⟩
    · exact ⟨_, Z.ti, fun v q => nomatch q⟩
    · obtain ⟨arr, e, _⟩ := Z.to; exact ⟨_, e, fun v q => nomatch q⟩
    · exact ⟨_, Z.z, fun v q => nomatch q⟩
  keep := fun i h h' st k => by
    have Z := st
    obtain ⟨a, b, ⟨arr, c, d⟩, e⟩ := Z
    refine ⟨k _ (zfp_here (j := ks.length + 2) (by omega)) _ a, k _ (zfp_here (j := ks.length) (by omega)) _ b, ⟨arr, k _ (zfp_here (j := ks.length + 1) (by omega)) _ c, d⟩, fun j q eq => (e j q eq).keep fun o z => k _ (zfp_here (by have := (List.getElem?_eq_some_iff.mp eq).1; omega)) o z⟩
  item := by
    intro X hP hw hK hc i pins s σ H E I hf st hg
    subst hP hw hK
    have Z := st
    obtain ⟨xss, hq, hx⟩ := hg
    obtain ⟨qs, rfl, hs, ar⟩ := srcs_of I hq
    have hb : ∀ q ∈ qs, q.at_ < B := fun q m => hB _ (List.mem_map.mpr ⟨q, m, rfl⟩)
    have ZN := Z.zn hb hs
    have ln : (qs.map fun q => (q.tup, q.at_)).length = qs.length := List.length_map ..
    have qx : ∀ q ∈ qs, i < q.xs.size := fun q m => by
      obtain ⟨j, hj⟩ := List.mem_iff_getElem?.mp m
      obtain ⟨xs, e, r⟩ := ar.get hj
      have := hx xs (List.mem_of_getElem? e)
      rw [r.length, Array.length_toList] at this
      exact this
    rw [ln] at hf h1 ⊢
    refine nextN ZN (.inl ⟨rfl, rfl⟩) (fun e => h0 (by rw [e]; rfl)) h1 qx fun h₁ f0' f1' F' ff Z₁ hT₁ hsz₁ st₁ => ?_
    obtain ⟨rfl, rfl⟩ := ff rfl
    refine ⟨_, rfl, ?_⟩
    refine wpAny_letOwnedTupleGo_zip (s := { s with heap := h₁ }) Z₁.z fun h' hz' sb => ?_
    have zl : B + qs.length + 2 < s.heap.objs.size := Heap.lt_size ZN.z
    have hT : OwS.IsTupV h' s.heap.objs.size (OwS.rowAt qs i).toArray := (sb.2 _ (Nat.ne_of_gt zl)).trans hT₁
    have st : OwS.StayN B qs.length s.heap h' := fun b o hb e => (sb.2 _ (OwS.off3 hb).1).trans (st₁ b o hb e)
    have Z' : OwS.ZN h' B qs (i + 1) .none (.bool false) := by
      obtain ⟨_, b, ⟨arr, c, d⟩, e⟩ := Z₁
      refine ⟨hz', (sb.2 _ (OwS.ltn (by omega))).trans b, ⟨arr, (sb.2 _ (OwS.ltn (by omega))).trans c, d⟩, e.keep fun b o hb z => (sb.2 _ (OwS.ltn (show (b : Nat) < B + qs.length + 2 by omega))).trans z⟩
    have row : Vals (colAt xss i) (OwS.rowAt qs i) := by
      have : ∀ {qs : List OwS.Sr} {xss : List (List V)}, All2 (fun (q : OwS.Sr) xs => Vals xs q.xs.toList) qs xss → (∀ xs ∈ xss, i < xs.length) → Vals (colAt xss i) (OwS.rowAt qs i) := by
        intro qs xss al
        induction al with
        | nil => intro _; exact .nil
        | @cons q xs qs xss a al ih =>
          intro h
          have hl := h xs (List.mem_cons_self ..)
          have e : xs[i]? = some (xs[i]'hl) := List.getElem?_eq_getElem _
          obtain ⟨u, eu, ru⟩ := a.get e
          have e1 : xs.getD i .non = xs[i]'hl := by rw [List.getD_eq_getElem?_getD, e]; rfl
          have e2 : q.xs.getD i .none = u := by
            have hu : q.xs[i]? = some u := by simpa using eu
            rw [Array.getD_eq_getD_getElem?, hu]; rfl
          refine .cons ?_ (ih fun x m => h x (List.mem_cons_of_mem _ m))
          show RelV (xs.getD i .non) (q.xs.getD i .none)
          rw [e1, e2]; exact ru
      exact this ar hx
    have rl : (colAt xss i).length ≤ sizeLine := by
      unfold colAt
      rw [List.length_map, ← ar.length, sizeLine_eq]; omega
    have new : ObjOk X.prog X.w (upd H s.heap.objs.size (.tup (colAt xss i))) h' s.heap.objs.size (.tup (colAt xss i)) := ⟨rl, OwS.rowAt qs i, row, ⟨_, hT, rfl, _, rfl⟩⟩
    have I1 : Inv X pins σ (upd H s.heap.objs.size (.tup (colAt xss i))) { s with heap := h' } := I.turnedNew (t' := s.toks) (ch := zfp B qs.length) (fun b o hb e => keepsN st b o hb e) hf (Nat.le_refl _) new
    refine ⟨.ref s.heap.objs.size, _, I1, rfl, ⟨_, _, rfl, I.hok.fresh (Nat.le_refl _), rfl, fun yss hy => ?_⟩, Zown.of Z', fun b hbm => ?_⟩
    · have inj : ∀ {ks : List (Bool × Nat)} {xss yss : List (List V)}, Srcs X.K H ks xss → Srcs X.K H ks yss → xss = yss := by
        intro ks xss yss h
        induction h generalizing yss with
        | nil => intro h2; cases h2; rfl
        | @cons k xs ks xss a al ih =>
          intro h2
          cases h2 with
          | cons a2 al2 =>
            rw [ih al2]
            obtain ⟨t, p⟩ := k
            cases t with
            | true => rw [I.tuple_inj a a2]
            | false => rw [I.list_inj a a2]
      rw [inj hq hy]
    · have hlt : b < s.heap.objs.size := by
        obtain ⟨_, hb1⟩ := zfp_mem.mp hbm
        have zl : B + qs.length + 2 < s.heap.objs.size := Heap.lt_size ZN.z
        exact Nat.lt_of_lt_of_le hb1 zl
      rw [upd_ne (Nat.ne_of_lt hlt)]
      exact (hf b hbm).1
  done := by
    intro X hP hw hK hc i pins s σ H E I hf st hg
    subst hP hw hK
    have Z := st
    obtain ⟨xss, hq, hx⟩ := hg
    obtain ⟨qs, rfl, hs, ar⟩ := srcs_of I hq
    have hb : ∀ q ∈ qs, q.at_ < B := fun q m => hB _ (List.mem_map.mpr ⟨q, m, rfl⟩)
    have ZN := Z.zn hb hs
    have ln : (qs.map fun q => (q.tup, q.at_)).length = qs.length := List.length_map ..
    have qx : ∀ q ∈ qs, q.xs.size ≤ i := fun q m => by
      obtain ⟨j, hj⟩ := List.mem_iff_getElem?.mp m
      obtain ⟨xs, e, r⟩ := ar.get hj
      have := hx xs (List.mem_of_getElem? e)
      rw [r.length, Array.length_toList] at this
      exact this
    rw [ln] at hf ⊢
    exact overN (I.ok.hd hc) ZN (.inl ⟨rfl, rfl⟩) (fun e => h0 (by rw [e]; rfl)) qx fun h' st => ⟨rfl, I.turnedL (t' := s.toks) (ch := zfp B qs.length) (fun b o hb e => keepsN st b o hb e) hf⟩
  self := fun A i s Q E st h => by
    have Z := st
    have hT : s.TypeIs (.ref (B + ks.length + 2)) "zip" := ⟨_, Z.z, rfl⟩
    refine wpAny_pyIter_slot hT F.slot_zip_iter (wpAny_call_entry F.slot_zip_iter hT F.entry_zip_iter ?_ (F.args_zip_iter_1 _))
    show wpAny _ _ (ret (.ref (B + ks.length + 2))) _ _ s
    exact wpAny_pure ⟨_, rfl, "zip", _, hT, F.slot_zip_next.lookup, h⟩
/-- for a, b in zip(xs, ys), each a list or a tuple -/
def iZipM (K : PySem.W.Frag) (ta : TA) : TI := fun σ H R => ta σ H fun vs H1 => ∃ (ks : List (Bool × Nat)) (xss : List (List V)), vs = refsOf ks ∧ Srcs K H1 ks xss ∧ 1 ≤ ks.length ∧ ks.length ≤ 16 ∧ R (Itn K ks) H1
theorem pi_zipM {X : Cx} {e : Expr} {es : List Expr} {ta : TA} {p pos tpos : Pos} {elts : List Expr} {kk : Nat} (hg : Gl X "zip") (hm : X.mg "zip" = none) (ha : PA X (e :: es) ta)
    (hs : starEach (e :: es) X.env = (false, eval e X.env) :: starEach es X.env := by rfl) (hpl : (backTo pos (starEach es X.env)).any (·.1) = false := by rfl) :
    PI X (.Tuple elts kk tpos) (.Call (.Name "zip" p) (e :: es) [] pos) (iZipM X.K ta) := by
  refine ⟨fun pins s σ H R I h => ?_⟩
  refine Call_ (ld_blt I hg hm PyProof.Rows.boot_zip (PyProof.Rows.callWith_type1 (thn (ha.run pos pins s σ H _ I h) fun us s1 ⟨vs, H1, I1, r1, q1⟩ => ?_) hs hpl))
  obtain ⟨ks, xss, rfl, sr, k1, k16, q⟩ := q1
  obtain ⟨qs, rfl, hs2, ar⟩ := srcs_of I1 sr
  rw [List.length_map] at k1 k16
  rw [refs_us r1]
  refine OwS.call_zipN k16 (fun q m => ⟨hs2 q m, sr_lt (hs2 q m)⟩) fun h' Z hz kp => ?_
  refine OwS.iter_zipN (s := { s1 with heap := h' }) Z ?_
  have ln : (qs.map fun q => (q.tup, q.at_)).length = qs.length := List.length_map ..
  have I2 : Inv X pins σ H1 { s1 with heap := h' } := I1.kept (t' := s1.toks) kp
  have T := turn_zipP (P := X.prog) (w := X.w) (K := X.K) (elts := elts) (kk := kk) (tpos := tpos) (B := s1.heap.objs.size) (ks := qs.map fun q => (q.tup, q.at_)) (fun e => by rw [List.map_eq_nil_iff.mp e] at k1; simp at k1) (by rw [ln]; omega) (fun k m => by
    obtain ⟨q, mq, rfl⟩ := List.mem_map.mp m
    exact sr_lt (hs2 q mq))
  rw [ln] at T
  exact ⟨_, zfp s1.heap.objs.size qs.length, _, _, H1, rfl, I2, T, Zown.of Z, fun c hc => I1.fpOk (zfp_mem.mp hc).1 (I1.hok.fresh (zfp_mem.mp hc).1), q⟩
end Ow

set_option Elab.async false
set_option linter.all false
set_option maxRecDepth 100000
set_option maxHeartbeats 2000000
namespace OwS
open PySem PySem.Spec PyProof.Rows
theorem meets_enumerate_newB1 {v : Value} {o : Obj} {H : Heap → Prop} (B : Begins v o H) :
    Meets (Builtin.«enumerate.__new__» ⟨[.type "enumerate", v], []⟩) (fun _ R s => H s.heap ∧
      R (.ok (.ret (.ref (s.heap.push o).objs.size))) { s with heap := (s.heap.push o).push { cls := .type "enumerate", data := .fields #[.none, .bool false, .ref s.heap.objs.size, rawInt 0, .none, .none] } }) :=
  .of_wp fun prog w A R s h => by
    obtain ⟨hp, g, d, tk, os⟩ := s; obtain ⟨h1, h⟩ := h
    have hsub := sub_enumerate
    have q1 : ∀ {A' : Around} {E : Value → Shared → Prop} {Q : Value → Shared → Prop}, Q (.ref hp.objs.size) ⟨hp.push o, g, d, tk, os⟩ → wpAny (model prog w) A' (pyIter v) Q E ⟨hp, g, d, tk, os⟩ :=
      fun q => B.iter prog w _ _ ⟨hp, g, d, tk, os⟩ _ h1 q
    wp_walk using q1
    all_goals first
      | exact ⟨_, rfl, h⟩
      | (refine wpAny_stack_any fun st => wpAny_pure ?_
         split
         · rename_i c _ _ _ _ _
           cases (c == Value.type "enumerate")
           · wp_walk using q1
             exact ⟨_, rfl, h⟩
           · wp_walk using q1
             exact ⟨_, rfl, h⟩
         · wp_walk using q1
           exact ⟨_, rfl, h⟩)
section
variable {prog : Program} {w : World} {A : Around} {E : Value → Shared → Prop} {s : Shared}
theorem enum_begins1 {v : Value} {o : Obj} {H : Heap → Prop} {Q : Value → Shared → Prop} (B : Begins v o H) (h1 : H s.heap)
    (h : ∀ h', IsEnum h' (s.heap.objs.size + 1) s.heap.objs.size 0 .none → h'.get? s.heap.objs.size = some o → h'.objs.size = s.heap.objs.size + 2 →
      (∀ b o, s.heap.get? b = some o → h'.get? b = some o) → Q (.ref (s.heap.objs.size + 1)) { s with heap := h' }) :
    wpAny (model prog w) A (call (.type "enumerate") [v]) Q E s := by
  refine callType_new F.called_enumerate (by decide) (F.typeCall_enumerate_1 _) (F.newCall_enumerate_1 _) (fun obj => F.args_object_init_2 obj _) F.entry_enumerate_new
    (meets_enumerate_newB1 B) ⟨h1, ?_⟩
  have hz : (s.heap.push o).objs.size = s.heap.objs.size + 1 := Heap.size_push ..
  show _ ∧ _
  rw [hz]
  have he : IsEnum ((s.heap.push o).push { cls := .type "enumerate", data := .fields #[.none, .bool false, .ref s.heap.objs.size, rawInt 0, .none, .none] }) (s.heap.objs.size + 1) s.heap.objs.size 0 .none := by
    have := Heap.get?_push_size (s.heap.push o) (o := { cls := .type "enumerate", data := .fields #[.none, .bool false, .ref s.heap.objs.size, rawInt 0, .none, .none] }) rfl
    rw [hz] at this; exact this
  refine ⟨⟨_, he, rfl⟩, h _ he (Heap.get?_push_of_some _ (Heap.get?_push_size _ B.free)) (by rw [Heap.size_push, hz]) fun b o x => Heap.get?_push_of_some _ (Heap.get?_push_of_some _ x)⟩
end
end OwS
namespace Ow
open PySem PySem.Spec PyProof.Rows L2
/-- enumerate of a tuple -/
def IteT (K : PySem.W.Frag) (a : Addr) : It :=
  ⟨fun i H => ∃ (xs : List V) (x : V), SqT K H a xs ∧ xs[i]? = some x, fun i H v H' => ∃ T x, v = .ref T ∧ H T = none ∧ H' = upd H T (.tup [.int (i : Nat), x]) ∧ ∀ xs, SqT K H a xs → xs[i]? = some x, fun i H => ∃ xs : List V, SqT K H a xs ∧ xs.length = i⟩
theorem turn_enumT {P : Program} {w : World} {K : PySem.W.Frag} {elts : List Expr} {kk : Nat} {tpos : Pos} (a e it : Addr) :
    Turn P w K (.Tuple elts kk tpos) (IteT K a) [e, it] e (fun i h => (∃ old, IsEnum h e it ((i : Nat) : Int) old) ∧ h.IsTupleIter it a i ∧ e ≠ it) where
  mem := by simp
  obj := fun i h st b hb => by
    obtain ⟨⟨old, he⟩, ⟨o, ho, hc, hd⟩, _⟩ := st
    have e' : b = e ∨ b = it := by simpa using hb
    rcases e' with z | z
    · rw [z]; exact ⟨_, he, fun v q => nomatch q⟩
    · rw [z]; exact ⟨o, ho, fun v q => by rw [hd] at q; cases q⟩
  keep := fun i h h' st k => let ⟨⟨old, he⟩, hi, hne⟩ := st; ⟨⟨old, k e (by simp) _ he⟩, hi.at fun o q => k it (by simp) o q, hne⟩
  item := by
    intro X hP hw hK hc i pins s σ H E I hf st hg
    subst hP hw hK
    obtain ⟨⟨old, he⟩, hit, hne⟩ := st
    obtain ⟨xs, x, hq, hx⟩ := hg
    obtain ⟨its, rv, p, hz⟩ := I.tuple hq
    have p' : s.heap.IsTuple a its.toArray := p
    obtain ⟨u, hu, ru⟩ := rv.get hx
    have hel : e < s.heap.objs.size := Heap.lt_size he
    have hil : it < s.heap.objs.size := by obtain ⟨_, q, _⟩ := hit; exact Heap.lt_size q
    have hat : a ≠ it := fun z => by
      subst z
      obtain ⟨o1, e1, c1, _⟩ := hit
      obtain ⟨o2, e2, c2, _⟩ := p'
      rw [e1] at e2
      cases e2
      rw [c1] at c2
      exact absurd (Value.type.inj c2) (by decide)
    have hea : e ≠ a := fun z => by
      subst z
      obtain ⟨o2, e2, c2, _⟩ := p'
      have e1 : s.heap.get? e = some _ := he
      rw [e1] at e2
      cases e2
      exact absurd (Value.type.inj c2) (by decide)
    have D := Draws.tuple (prog := X.prog) (w := X.w) (A := X.A.in1) (I.ok.hd hc) it a hat its.toArray
    refine wpAny_pyNext_enum_itemC D he ⟨hit, p'⟩ (by have := (List.getElem?_eq_some_iff.mp hu).1; simpa using this) hne (by simp; exact ⟨hne, hea⟩) fun y h' tk hP ho hst hT hsz hk => ?_
    have hy : y = u := by
      have e1 : its.toArray[i]? = some y := hP
      rw [List.getElem?_toArray] at e1
      exact Option.some.inj (e1.symm.trans hu)
    subst hy
    refine ⟨_, rfl, wpAny_letOwnedTupleGo_enum (s := { s with heap := h', toks := tk + 1 }) ho fun h'' he' sb => ?_⟩
    have hT2 : h''.get? s.heap.objs.size = some { cls := .type "tuple", data := .seq #[.int i tk, y] } := (sb.2 _ (Nat.ne_of_gt hel)).trans hT
    have new : ObjOk X.prog X.w (upd H s.heap.objs.size (.tup [.int (i : Nat), x])) h'' s.heap.objs.size (.tup [.int (i : Nat), x]) :=
      ⟨by show 2 ≤ sizeLine; decide, [.int i tk, y], .cons ⟨_, rfl⟩ (.cons ru .nil), ⟨_, hT2, rfl, _, rfl⟩⟩
    have I1 : Inv X pins σ (upd H s.heap.objs.size (.tup [.int (i : Nat), x])) { s with heap := h'', toks := tk + 1 } :=
      I.turnedNew (ch := [e, it]) (fun b ob hb q => (sb.2 b (fun z => hb (by simp [z]))).trans (hk b ob (fun z => hb (by simp [z])) (fun z => hb (by simp [z])) q)) hf (Nat.le_refl _) new
    refine ⟨.ref s.heap.objs.size, _, I1, rfl, ⟨_, x, rfl, I.hok.fresh (Nat.le_refl _), rfl, fun ys hy => by rw [I.tuple_inj hy hq]; exact hx⟩, ⟨⟨y, ?_⟩, hst.1.at fun o q => (sb.2 it (Ne.symm hne)).trans q, hne⟩, fun b hb => ?_⟩
    · have e1 : ((i + 1 : Nat) : Int) = (i : Int) + 1 := by omega
      rw [e1]; exact he'
    · have hb' : b < s.heap.objs.size := by
        have e' : b = e ∨ b = it := by simpa using hb
        rcases e' with z | z
        · rw [z]; exact hel
        · rw [z]; exact hil
      rw [upd_ne (Nat.ne_of_lt hb')]
      exact (hf b hb).1
  done := by
    intro X hP hw hK hc i pins s σ H E I hf st hg
    subst hP hw hK
    obtain ⟨⟨old, he⟩, hit, hne⟩ := st
    obtain ⟨xs, hq, hx⟩ := hg
    obtain ⟨its, rv, p, hz⟩ := I.tuple hq
    have p' : s.heap.IsTuple a its.toArray := p
    obtain ⟨f0, f1, f2, f3, f4, f5⟩ := hf it (by simp)
    have hl := rv.length
    have hat : a ≠ it := fun z => by
      subst z
      obtain ⟨o1, e1, c1, _⟩ := hit
      obtain ⟨o2, e2, c2, _⟩ := p'
      rw [e1] at e2
      cases e2
      rw [c1] at c2
      exact absurd (Value.type.inj c2) (by decide)
    have hi : i = its.toArray.size := by rw [List.size_toArray]; omega
    subst hi
    have D := Draws.tuple (prog := X.prog) (w := X.w) (A := X.A.in1) (I.ok.hd hc) it a hat its.toArray
    exact wpAny_pyNext_enum_endD D he ⟨hit, p'⟩ fun h' eb => ⟨rfl, I.turned (t' := s.toks) (fun b o hb q => eb b o hb q) f0 f1 f3 f4 f5⟩
  self := fun A i s Q E st h => let ⟨⟨_, he⟩, _⟩ := st; wpAny_pyIter_enum he h
def iEnumT (K : PySem.W.Frag) (ta : TA) : TI := fun σ H R => ta σ H fun vs H1 => ∃ a xs, vs = [.ref a] ∧ SqT K H1 a xs ∧ R (IteT K a) H1
theorem pi_enumT {X : Cx} {e : Expr} {ta : TA} {p pos tpos : Pos} {elts : List Expr} {kk : Nat} (hg : Gl X "enumerate") (hm : X.mg "enumerate" = none) (ha : PA X [e] ta) (hs : starEach [e] X.env = [(false, eval e X.env)] := by rfl) :
    PI X (.Tuple elts kk tpos) (.Call (.Name "enumerate" p) [e] [] pos) (iEnumT X.K ta) := by
  refine ⟨fun pins s σ H R I h => ?_⟩
  refine Call_ (ld_blt I hg hm boot_enumerate (PyProof.Rows.callWith_type1 (thn (ha.run pos pins s σ H _ I h) fun us s1 ⟨vs, H1, I1, r1, q1⟩ => ?_) hs rfl))
  obtain ⟨a, xs, ex, hq, q⟩ := q1
  subst ex
  cases r1 with
  | cons r rr =>
    cases rr
    cases r
    obtain ⟨its, rv, p', hz⟩ := I1.tuple hq
    refine OwS.enum_begins1 (begins_tuple a its.toArray) (show s1.heap.IsTuple a its.toArray from p') fun h' he hit hsz hk => wpAny_pyIter_enum he ?_
    have I2 : Inv X pins σ H1 { s1 with heap := h' } := I1.kept (t' := s1.toks) hk
    refine ⟨s1.heap.objs.size + 1, [s1.heap.objs.size + 1, s1.heap.objs.size], _, _, H1, rfl, I2, turn_enumT a (s1.heap.objs.size + 1) s1.heap.objs.size, ⟨⟨.none, he⟩, ⟨_, hit, rfl, rfl⟩, Nat.succ_ne_self _⟩, fun b hb => ?_, q⟩
    have e' : b = s1.heap.objs.size + 1 ∨ b = s1.heap.objs.size := by simpa using hb
    have hle : s1.heap.objs.size ≤ b := by
      rcases e' with z | z
      · rw [z]; exact Nat.le_succ _
      · rw [z]; exact Nat.le_refl _
    exact I1.fpOk hle (I1.hok.fresh hle)
end Ow

set_option Elab.async false
set_option linter.all false
set_option maxRecDepth 100000
/-! tuples of any length: what they are in plain Lean; steps for zip(*rows), enumerate, tuple(..). -/
namespace Ow
open PySem L2
def rTuple1 (K : PySem.W.Frag) : RC := fun xs H Q => ∃ p ys, xs = [.ref p] ∧ ((SqL K H p ys ∧ ∀ l, H l = none → Q (.ref l) (upd H l (.tup ys))) ∨ (SqT K H p ys ∧ Q (.ref p) H))
def fV {α : Type} (F : Fam α) : Fam (List α) := fun S H v xs => ∃ a vs, v = .ref a ∧ S a ∧ H a = some (.tup vs) ∧ All2 (F S H) vs xs
theorem gV {α : Type} {F : Fam α} (g : Good F) : Good (fV F) :=
  ⟨fun m ⟨a, vs, e, s, h, r⟩ => ⟨a, vs, e, m a s, h, r.imp fun _ _ q => g.mono m q⟩,
   fun k ⟨a, vs, e, s, h, r⟩ => ⟨a, vs, e, s, k a _ s h, r.imp fun _ _ q => g.keep k q⟩,
   fun ⟨a, vs, e, s, h, r⟩ => ⟨a, vs, e, ⟨s, by rw [h]; exact fun z => nomatch z⟩, h, r.imp fun _ _ q => g.there q⟩⟩
theorem tupI_of {S : Addr → Prop} {H : Hp} {v : V} {ns : List Int} (h : fV fI S H v ns) : ∃ a, v = .ref a ∧ S a ∧ H a = some (.tup (ns.map V.int)) := by
  obtain ⟨a, vs, e, s, h, r⟩ := h
  exact ⟨a, e, s, by rw [h, All2.eq_map r]⟩
theorem tupI_mk {S : Addr → Prop} {H : Hp} {a : Addr} {ns : List Int} (s : S a) (h : H a = some (.tup (ns.map V.int))) : fV fI S H (.ref a) ns := ⟨a, _, rfl, s, h, All2.map_eq⟩
theorem listI_mk {S : Addr → Prop} {H : Hp} {a : Addr} {ns : List Int} (s : S a) (h : H a = some (.lst (ns.map V.int))) : fL fI S H (.ref a) ns := ⟨a, _, rfl, s, h, All2.map_eq⟩
/-- columns: what the rows hold at each place -/
def colsI (m : Nat) (rss : List (List Int)) : List (List Int) := (List.range m).map fun j => rss.map fun r => r.getD j 0
theorem colsI_len (m : Nat) (rss : List (List Int)) : (colsI m rss).length = m := by unfold colsI; rw [List.length_map, List.length_range]
theorem colsI_at {m : Nat} {rss : List (List Int)} {j : Nat} (h : j < m) : (colsI m rss)[j]? = some (rss.map fun r => r.getD j 0) := by
  unfold colsI
  rw [List.getElem?_map, List.getElem?_range h]; rfl
theorem colAt_int {m j : Nat} (hj : j < m) : ∀ {rss : List (List Int)}, (∀ r ∈ rss, r.length = m) → colAt (rss.map fun r => r.map V.int) j = (rss.map fun r => r.getD j 0).map V.int
  | [], _ => rfl
  | r :: rss, h => by
    have ih := colAt_int hj (rss := rss) fun x m => h x (List.mem_cons_of_mem _ m)
    have hl := h r (List.mem_cons_self ..)
    unfold colAt at ih ⊢
    rw [List.map_cons, List.map_cons, List.map_cons, List.map_cons, ih]
    congr 1
    rw [List.getD_eq_getElem?_getD, List.getD_eq_getElem?_getD, List.getElem?_map, List.getElem?_eq_getElem (by omega)]; rfl
section
variable {K : PySem.W.Frag} {H : Hp} {Q : VK} {a : Addr} {xs ys : List V} {σ : St} {R : It → Hp → Prop} {ta : TA} {te : TE}
theorem w_tuple1 (h : SqL K H a xs) (q : ∀ p H', H p = none → Ch p (.tup xs) H H' → Q (.ref p) H') : rTuple1 K [.ref a] H Q := ⟨a, xs, rfl, .inl ⟨h, fun l hl => q l _ hl Ch.upd⟩⟩
def enumTK (K : PySem.W.Frag) (R : It → Hp → Prop) (vs : List V) (H : Hp) : Prop := ∃ a xs, vs = [.ref a] ∧ SqT K H a xs ∧ R (IteT K a) H
theorem w_enumT (h : ta σ H fun vs H1 => enumTK K R vs H1) : iEnumT K ta σ H R := h
theorem w_enumTK (h : SqT K H a xs) (q : R (IteT K a) H) : enumTK K R [.ref a] H := ⟨a, xs, rfl, h, q⟩
theorem src_enumT : Src (IteT K a) xs.length (fun H => SqT K H a xs) (fun i H v H' => ∃ T x, v = .ref T ∧ H T = none ∧ H' = upd H T (.tup [.int (i : Nat), x]) ∧ xs[i]? = some x) :=
  ⟨fun i H h s => ⟨xs, xs[i], s, List.getElem?_eq_getElem h⟩, fun H s => ⟨xs, s, rfl⟩, fun i H x H' _ s ⟨T, y, e1, e2, e3, e4⟩ => ⟨T, y, e1, e2, e3, e4 xs s⟩⟩
/-- rows of columns (of one length) -/
theorem src_star {ks : List (Bool × Nat)} {xss : List (List V)} {m : Nat} (hm : ∀ x ∈ xss, x.length = m) : Src (Itn K ks) m (fun H => Srcs K H ks xss) (fun i H v H' => ∃ T, v = .ref T ∧ H T = none ∧ H' = upd H T (.tup (colAt xss i))) :=
  ⟨fun i H h s => ⟨xss, s, fun x mx => by rw [hm x mx]; exact h⟩, fun H s => ⟨xss, s, fun x mx => by rw [hm x mx]; exact Nat.le_refl _⟩, fun i H x H' _ s ⟨T, row, e1, e2, e3, e4⟩ => ⟨T, e1, e2, by rw [e3, e4 xss s]⟩⟩
def starK (K : PySem.W.Frag) (R : It → Hp → Prop) (x : V) (H : Hp) : Prop := ∃ (p : Addr) (ks : List (Bool × Nat)) (xss : List (List V)), x = .ref p ∧ (SqT K H p (refsOf ks) ∨ SqL K H p (refsOf ks)) ∧ 1 ≤ ks.length ∧ ks.length ≤ 16 ∧ Srcs K H ks xss ∧ R (Itn K ks) H
theorem w_star (h : te σ H fun x H1 => starK K R x H1) : iStar K te σ H R := h
def tupZipK (K : PySem.W.Frag) (Q : VK) (x : V) (H1 : Hp) : Prop := ∃ (p : Addr) (ts : List V) (xss : List (List V)) (m : Nat), x = .ref p ∧ (SqT K H1 p ts ∨ SqL K H1 p ts) ∧ 1 ≤ ts.length ∧ ts.length ≤ 16 ∧ All2 (Rw K H1) ts xss ∧ (∀ xs ∈ xss, xs.length = m) ∧ m ≤ 100000 ∧
  ∀ (l : Addr) (as : List Addr) (H2 : Hp), H1 l = none → Same H1 H2 → H2 l = some (.tup (as.map V.ref)) → as.length = m → (∀ (j : Nat) (a : Addr), as[j]? = some a → H1 a = none ∧ H2 a = some (.tup (colAt xss j))) → Q (.ref l) H2
theorem w_tupZip (h : te σ H fun x H1 => tupZipK K Q x H1) : tTupZip K te σ H Q := h
end
/-- tuple(zip(*rows)): the columns of rows of ints -/
theorem w_tupZipI {K : PySem.W.Frag} {H : Hp} {Q : VK} {S : Addr → Prop} {v : V} {rss : List (List Int)} {m : Nat} (h : fL (fL fI) S H v rss) (h1 : 1 ≤ rss.length) (h16 : rss.length ≤ 16) (hm : ∀ r ∈ rss, r.length = m) (hm5 : m ≤ 100000)
    (q : ∀ u H', Same H H' → fV (fV fI) (New H) H' u (colsI m rss) → Q u H') : tupZipK K Q v H := by
  obtain ⟨a, vs, rfl, _, ha, al⟩ := h
  have rw_ : ∀ {vs : List V} {rss : List (List Int)}, All2 (fL fI S H) vs rss → All2 (Rw K H) vs (rss.map fun r => r.map V.int) := by
    intro vs rss al
    induction al with
    | nil => exact .nil
    | cons f _ ih =>
      obtain ⟨b, rfl, _, hb⟩ := ints_of f
      exact .cons ⟨b, rfl, .inr (SqL.of hb)⟩ ih
  refine ⟨a, vs, rss.map fun r => r.map V.int, m, rfl, .inr (SqL.of ha), by rw [al.length]; exact h1, by rw [al.length]; exact h16, rw_ al, fun x mx => ?_, hm5, fun l as H2 nl s hl la ha2 => ?_⟩
  · obtain ⟨r, mr, rfl⟩ := List.mem_map.mp mx
    rw [List.length_map]; exact hm r mr
  · refine q _ H2 s ⟨l, _, rfl, nl, hl, ?_⟩
    have each : ∀ (j : Nat) (b : Addr), as[j]? = some b → fV fI (New H) H2 (.ref b) (rss.map fun r => r.getD j 0) := fun j b e => by
      have hj : j < m := by rw [← la]; exact (List.getElem?_eq_some_iff.mp e).1
      have := ha2 j b e
      rw [colAt_int hj hm] at this
      exact tupI_mk this.1 this.2
    have lc := colsI_len m rss
    have key : ∀ {vs : List V} {cs : List (List Int)}, vs.length = cs.length → (∀ (j : Nat) u c, vs[j]? = some u → cs[j]? = some c → fV fI (New H) H2 u c) → All2 (fV fI (New H) H2) vs cs := by
      intro vs
      induction vs with
      | nil =>
        intro cs hl _
        cases cs with
        | nil => exact .nil
        | cons c cs => cases hl
      | cons u vs ih =>
        intro cs hl hq
        cases cs with
        | nil => cases hl
        | cons c cs => exact .cons (hq 0 u c rfl rfl) (ih (Nat.succ.inj hl) fun j u' c' e1 e2 => hq (j + 1) u' c' e1 e2)
    refine key (by rw [List.length_map, la, lc]) fun j u c e1 e2 => ?_
    rw [List.getElem?_map] at e1
    cases e3 : as[j]? with
    | none => rw [e3] at e1; cases e1
    | some b =>
      rw [e3] at e1
      cases e1
      have hj : j < m := by rw [← la]; exact (List.getElem?_eq_some_iff.mp e3).1
      rw [colsI_at hj] at e2
      cases e2
      exact each j b e3
/-- the walk over zip(*columns), columns of ints -/
theorem w_starI {K : PySem.W.Frag} {H : Hp} {R : It → Hp → Prop} {S : Addr → Prop} {v : V} {css : List (List Int)} (h : fV (fV fI) S H v css) (h1 : 1 ≤ css.length) (h16 : css.length ≤ 16)
    (q : ∀ ks, (∀ H', Same H H' → Srcs K H' ks (css.map fun c => c.map V.int)) → R (Itn K ks) H) : starK K R v H := by
  obtain ⟨a, vs, rfl, _, ha, al⟩ := h
  have ex : ∀ {vs : List V} {css : List (List Int)}, All2 (fV fI S H) vs css → ∃ ks : List (Bool × Nat), vs = refsOf ks ∧ ks.length = css.length ∧ ∀ H', Same H H' → Srcs K H' ks (css.map fun c => c.map V.int) := by
    intro vs css al
    induction al with
    | nil => exact ⟨[], rfl, rfl, fun _ _ => .nil⟩
    | cons f _ ih =>
      obtain ⟨b, rfl, _, hb⟩ := tupI_of f
      obtain ⟨ks, e, l, hs⟩ := ih
      exact ⟨(true, b) :: ks, by rw [e]; rfl, by rw [List.length_cons, List.length_cons, l], fun H' s => .cons (SqT.of (s _ _ hb)) (hs H' s)⟩
  obtain ⟨ks, rfl, l, hs⟩ := ex al
  exact ⟨a, ks, _, rfl, .inl (SqT.of ha), by rw [l]; exact h1, by rw [l]; exact h16, hs H (Same.refl _), q ks hs⟩
end Ow

set_option Elab.async false
set_option linter.all false
set_option maxRecDepth 100000
/-! Data that is shown and compared. -/
namespace Ow
open PySem L2
structure Tame (j k : Nat) (d : PyData) : Prop where
  lay : d.canLay0 = true
  short : d.intsShort 13 = true
  show_ : d.showable = true
  dep : d.depth ≤ j
  wt : d.weight ≤ k
structure TameAll (j k : Nat) (ds : List PyData) : Prop where
  lay : PyData.canLayAll0 ds = true
  short : PyData.intsShortAll 13 ds = true
  show_ : PyData.showableAll ds = true
  dep : PyData.depthAll ds ≤ j
  wt : PyData.weightAll ds ≤ (k + 1) * ds.length
theorem tame_all {j k : Nat} : ∀ {ds : List PyData}, (∀ d ∈ ds, Tame j k d) → TameAll j k ds
  | [], _ => ⟨rfl, rfl, rfl, Nat.zero_le _, Nat.zero_le _⟩
  | d :: ds, h => by
    have a := h d (List.mem_cons_self ..)
    have b := tame_all (ds := ds) fun x m => h x (List.mem_cons_of_mem _ m)
    refine ⟨?_, ?_, ?_, ?_, ?_⟩
    · show (d.canLay0 && PyData.canLayAll0 ds) = true
      rw [a.lay, b.lay]; rfl
    · show (d.intsShort 13 && PyData.intsShortAll 13 ds) = true
      rw [a.short, b.short]; rfl
    · show (d.showable && PyData.showableAll ds) = true
      rw [a.show_, b.show_]; rfl
    · show max d.depth (PyData.depthAll ds) ≤ j
      exact Nat.max_le.mpr ⟨a.dep, b.dep⟩
    · show d.weight + 1 + PyData.weightAll ds ≤ (k + 1) * (ds.length + 1)
      have := a.wt
      have := b.wt
      rw [Nat.mul_add]; omega
theorem Tame.list {j k : Nat} {ds : List PyData} (h : ∀ d ∈ ds, Tame j k d) : Tame (j + 1) ((k + 1) * ds.length) (.list ds) := by
  have a := tame_all h
  exact ⟨by simpa only [PyData.canLay0] using a.lay, by simpa only [PyData.intsShort] using a.short, by simpa only [PyData.showable] using a.show_, by simpa only [PyData.depth] using Nat.succ_le_succ a.dep, by simpa only [PyData.weight] using a.wt⟩
theorem Tame.tuple {j k : Nat} {ds : List PyData} (h : ∀ d ∈ ds, Tame j k d) : Tame (j + 1) ((k + 1) * ds.length) (.tuple ds) := by
  have a := tame_all h
  exact ⟨by simpa only [PyData.canLay0] using a.lay, by simpa only [PyData.intsShort] using a.short, by simpa only [PyData.showable] using a.show_, by simpa only [PyData.depth] using Nat.succ_le_succ a.dep, by simpa only [PyData.weight] using a.wt⟩
theorem Tame.mono {j k j' k' : Nat} {d : PyData} (t : Tame j k d) (a : j ≤ j') (b : k ≤ k') : Tame j' k' d := ⟨t.lay, t.short, t.show_, Nat.le_trans t.dep a, Nat.le_trans t.wt b⟩
theorem Tame.int {i : Int} (h1 : -999999999999 ≤ i) (h2 : i ≤ 999999999999) : Tame 0 41 (.int i) := by
  have lg : i = 0 ∨ i.natAbs.log2 < 40 := by
    by_cases h : i = 0
    · exact .inl h
    · exact .inr ((Nat.log2_lt (by omega)).mpr (by omega))
  refine ⟨rfl, ?_, ?_, Nat.le_refl 0, ?_⟩
  · show decide _ = true
    exact decide_eq_true (PyData.shown_int_le2 h1 h2)
  · show decide (i.natAbs.log2 < 1920) = true
    rcases lg with rfl | lg
    · decide
    · exact decide_eq_true (by omega)
  · show (if i == 0 then 0 else i.natAbs.log2 + 1) ≤ 41
    rcases lg with rfl | lg
    · decide
    · split <;> omega
theorem Tame.ints {ns : List Int} (h : In (-999999999999) 999999999999 ns) : Tame 1 (42 * ns.length) (.list (ns.map PyData.int)) := by
  have := Tame.list (j := 0) (k := 41) (ds := ns.map PyData.int) fun d m => by
    obtain ⟨i, hi, rfl⟩ := List.mem_map.mp m
    exact Tame.int (h i hi).1 (h i hi).2
  rwa [List.length_map] at this
theorem dpAll_ints {K : PySem.W.Frag} {H : Hp} : ∀ ns : List Int, DpAll K H (ns.map V.int) (ns.map PyData.int)
  | [] => .nil
  | n :: ns => .cons (.int n) (dpAll_ints ns)
theorem dp_ints {K : PySem.W.Frag} {H : Hp} {a : Addr} {ns : List Int} (h : H a = some (.lst (ns.map V.int))) : Dp K H (.ref a) (.list (ns.map PyData.int)) := .lst (SqL.of h) (dpAll_ints ns)
section
variable {K : PySem.W.Frag} {H : Hp} {Q : VK} {a : Addr} {d e : PyData} {x y : V}
theorem w_repr {j k : Nat} (h : Dp K H (.ref a) d) (t : Tame j k d) (hj : j ≤ 40) (hk : k ≤ 1048576) (q : Q (.str d.shown) H) : rRepr K [.ref a] H Q := by
  have lay : d.layable0 = true := by
    unfold PyData.layable0
    rw [t.lay, decide_eq_true (Nat.le_trans t.dep (by omega)), decide_eq_true (Nat.le_trans t.wt (by omega))]; rfl
  exact ⟨a, d, rfl, h, t.show_, Nat.le_trans t.dep hj, PyData.shown_fits_of_layable0 (by decide) (by decide) lay t.short, q⟩
theorem shaped_of {j k : Nat} (t : Tame j k d) (hj : j ≤ 40) : SeqAt.shaped d = true := by
  unfold SeqAt.shaped
  rw [t.lay, decide_eq_true (Nat.le_trans t.dep (by omega))]; rfl
theorem w_neD {j k j' k' : Nat} (h : Dp K H x d) (h' : Dp K H y e) (t : Tame j k d) (t' : Tame j' k' e) (hj : j ≤ 40) (hj' : j' ≤ 40) (q : Q (.bl (!PyData.eqv d e)) H) : rNeD K x y H Q := ⟨d, e, h, h', shaped_of t hj, shaped_of t' hj', q⟩
theorem w_eqD {j k j' k' : Nat} (h : Dp K H x d) (h' : Dp K H y e) (t : Tame j k d) (t' : Tame j' k' e) (hj : j ≤ 40) (hj' : j' ≤ 40) (q : Q (.bl (PyData.eqv d e)) H) : rEqD K x y H Q := ⟨d, e, h, h', shaped_of t hj, shaped_of t' hj', q⟩
theorem w_neS {s t : Str} (q : Q (.bl (!decide (s = t))) H) : rNe (.str s) (.str t) H Q := ⟨rfl, by rw [dec_eqS]; exact q⟩
end
theorem eqv_ints : ∀ ns ms : List Int, PyData.eqvAll (ns.map PyData.int) (ms.map PyData.int) = decide (ns = ms)
  | [], [] => rfl
  | [], _ :: _ => rfl
  | _ :: _, [] => rfl
  | n :: ns, m :: ms => by
    show (n == m && PyData.eqvAll (ns.map PyData.int) (ms.map PyData.int)) = _
    rw [eqv_ints ns ms]
    by_cases e : n = m
    · subst e
      simp
    · simp [e]
theorem eqv_list {ns ms : List Int} : PyData.eqv (.list (ns.map PyData.int)) (.list (ms.map PyData.int)) = decide (ns = ms) := eqv_ints ns ms
end Ow

set_option Elab.async false
set_option linter.all false
set_option maxRecDepth 100000
/-! Texts that are drawn: s * n, s.upper(), range(a, b); how long they are and of what signs. -/
namespace Ow
open PySem PySem.Spec PyProof.Rows L2
def rRepS : R2 := fun x y H Q => ∃ s n, x = V.str s ∧ y = V.int n ∧ MulOk s n ∧ Q (.str (Txt.mul s n)) H
theorem op_repS {X : Cx} : OpR X (binaryOp .Mult) rRepS := by
  intro pins s σ H x y v u Q I rx ry h
  obtain ⟨i, n, rfl, rfl, ok, q⟩ := h
  obtain ⟨t, rfl⟩ := rx
  obtain ⟨t', rfl⟩ := ry
  exact SB.mul ok fun t2 k => ⟨.str _, H, I.tok _, ⟨_, rfl⟩, q⟩
def rUp (x : V) (xs : List V) (H : Hp) (Q : VK) : Prop := ∃ a, x = .str a ∧ xs = [] ∧ a.length ≤ 5592405 ∧ Q (.str (Txt.upper a)) H
def rRange2 : RC := fun vs H Q => ∃ i j, vs = [V.int i, V.int j] ∧ ∀ p, H p = none → Q (.ref p) (upd H p (.rng i j))
theorem call_range2 {X : Cx} : CallR X (.type "range") rRange2 := by
  intro pins s σ H vs us Q I r h
  obtain ⟨i, j, rfl, q⟩ := h
  have hu := Vals.length r
  cases r with
  | cons ri r' =>
    cases r' with
    | cons rj r'' =>
      cases r''
      obtain ⟨t, rfl⟩ := ri
      obtain ⟨t', rfl⟩ := rj
      refine PySem.call_range_2 ⟨.ref s.heap.objs.size, upd H s.heap.objs.size (.rng i j), I.laid (t' := s.toks + 1) (fun b o e => Heap.get?_push_of_some _ e) (Nat.le_refl _) ?_, rfl, q _ (I.hok.fresh (Nat.le_refl _))⟩
      exact ⟨t, t', s.toks, Heap.get?_push_size _ rfl⟩
theorem w_range2 {H : Hp} {Q : VK} {i j : Int} (q : ∀ p H', H p = none → Ch p (.rng i j) H H' → Q (.ref p) H') : rRange2 [.int i, .int j] H Q := ⟨i, j, rfl, fun p hp => q p _ hp Ch.upd⟩
/-- a text of at most so many signs -/
structure Tx (n : Nat) (s : Str) : Prop where
  len : s.length ≤ n
  cps : ∀ c ∈ s.cps.toList, c < 0x110000
theorem Tx.mono {n m : Nat} {s : Str} (t : Tx n s) (h : n ≤ m) : Tx m s := ⟨Nat.le_trans t.len h, t.cps⟩
theorem Tx.cat {n m : Nat} {s t : Str} (a : Tx n s) (b : Tx m t) : Tx (n + m) (s ++ t) := by
  have la := a.len
  have lb := b.len
  refine ⟨?_, fun c m => ?_⟩
  · rw [len_eq, cat_list, List.length_append, ← len_eq, ← len_eq]; omega
  · rw [cat_list] at m
    rcases List.mem_append.mp m with m | m
    · exact a.cps c m
    · exact b.cps c m
theorem Tx.cut {n : Nat} {s : Str} {lo hi : Option Int} (a : Tx n s) : Tx n (cutS s lo hi) := by
  have la := a.len
  refine ⟨?_, fun c m => ?_⟩
  · rw [len_eq, cut_list, List.length_take, List.length_drop, ← len_eq]; omega
  · rw [cut_list] at m
    exact a.cps c (List.mem_of_mem_drop (List.mem_of_mem_take m))
theorem fold_list (x : Array Nat) : ∀ (k : Nat) (b : Array Nat), ((List.replicate k x).foldl (· ++ ·) b).toList = b.toList ++ (List.replicate k x.toList).flatten
  | 0, b => by simp
  | k + 1, b => by
    show ((List.replicate k x).foldl (· ++ ·) (b ++ x)).toList = _
    rw [fold_list x k, Array.toList_append, List.replicate_succ, List.flatten_cons, List.append_assoc]
theorem Tx.mul {n k : Nat} {s : Str} (a : Tx n s) : Tx (n * k) (Txt.mul s (k : Int)) := by
  have la := a.len
  unfold Txt.mul
  split
  · exact ⟨Nat.zero_le _, fun c m => by simp [Str.empty] at m⟩
  · rename_i h
    split
    · refine ⟨Nat.le_trans la (Nat.le_mul_of_pos_right _ (by omega)), a.cps⟩
    · refine ⟨?_, fun c m => ?_⟩
      · rw [len_eq]
        show (((List.replicate (k : Int).toNat s.cps).foldl (· ++ ·) #[]).toList).length ≤ _
        rw [fold_list, List.length_append, List.length_flatten, List.map_replicate, List.sum_replicate_nat, Int.toNat_natCast, ← len_eq]
        show 0 + k * s.length ≤ n * k
        rw [Nat.zero_add, Nat.mul_comm]
        exact Nat.mul_le_mul_right _ la
      · have m' : c ∈ ((List.replicate (k : Int).toNat s.cps).foldl (· ++ ·) #[]).toList := m
        rw [fold_list] at m'
        rcases List.mem_append.mp m' with m' | m'
        · simp at m'
        · obtain ⟨l, ml, mc⟩ := List.mem_flatten.mp m'
          rw [List.eq_of_mem_replicate ml] at mc
          exact a.cps c mc
theorem mul_ok3 {s : Str} (h : s.length ≤ 100) : MulOk s 3 := by
  refine ⟨by decide, fun _ _ => ?_, fun _ _ => ?_⟩
  · have : ((2 : Int) ^ 63 - 1) / 3 = 3074457345618258602 := by decide
    rw [this]; omega
  · show decide (s.length * (3 : Int).toNat > 2 ^ 24) = false
    exact decide_eq_false (by show ¬ (s.length * 3 > 2 ^ 24); omega)
theorem mul_ok9 {s : Str} (h : s.length ≤ 100) : MulOk s 9 := by
  refine ⟨by decide, fun _ _ => ?_, fun _ _ => ?_⟩
  · have : ((2 : Int) ^ 63 - 1) / 9 = 1024819115206086200 := by decide
    rw [this]; omega
  · show decide (s.length * (9 : Int).toNat > 2 ^ 24) = false
    exact decide_eq_false (by show ¬ (s.length * 9 > 2 ^ 24); omega)
theorem w_repS {s : Str} {n : Int} {H : Hp} {Q : VK} (ok : MulOk s n) (q : Q (.str (Txt.mul s n)) H) : rRepS (.str s) (.int n) H Q := ⟨s, n, rfl, rfl, ok, q⟩
theorem upper_az : ∀ k, k < 26 → Unicode.upperOf (k + 97) = [k + 65] := by decide +kernel
theorem Tx.upper {n : Nat} {s : Str} (h : s.length ≤ n) (lo : ∀ c ∈ s.cps.toList, 97 ≤ c ∧ c < 123) : Tx (3 * n) (Txt.upper s) := by
  refine ⟨Nat.le_trans (PyProof.Rows.len_upper s) (Nat.mul_le_mul_left 3 h), fun c m => ?_⟩
  have m' : c ∈ (s.cps.mapIdx fun i c => (Unicode.upperOf c).toArray).flatten.toList := m
  rw [Array.mem_toList_iff, Array.mem_flatten] at m'
  obtain ⟨l, ml, mc⟩ := m'
  rw [Array.mem_mapIdx] at ml
  obtain ⟨i, hi, rfl⟩ := ml
  have b := lo s.cps[i] (Array.mem_toList_iff.mpr (Array.getElem_mem hi))
  have e : s.cps[i] = (s.cps[i] - 97) + 97 := by omega
  rw [e, upper_az _ (by omega)] at mc
  have : c = s.cps[i] - 97 + 65 := by simpa using mc
  omega
def upK (Q : VK) (x : V) (H1 : Hp) : Prop := (∃ a, x = .str a) ∧ rUp x [] H1 Q
theorem w_m0 {to : TE} {σ : L2.St} {H : Hp} {Q : VK} (h : to σ H fun x H1 => upK Q x H1) : tM0 rUp to σ H Q := h
theorem w_up {s : Str} {H : Hp} {Q : VK} (h : s.length ≤ 1000) (q : Q (.str (Txt.upper s)) H) : upK Q (.str s) H := ⟨⟨s, rfl⟩, s, rfl, rfl, by omega, q⟩
theorem Tame.tx {n : Nat} {s : Str} (t : Tx n s) : Tame 0 n (.str s) := by
  refine ⟨?_, rfl, rfl, Nat.le_refl 0, by show s.cps.size ≤ n; exact t.len⟩
  show s.cps.all (· < 0x110000) = true
  rw [Array.all_eq_true_iff_forall_mem]
  intro c hc
  exact decide_eq_true (t.cps c (Array.mem_toList_iff.mpr hc))
/-! ### texts that can be names -/
theorem in_letters (x : Str) (c : Nat) : (!(Builtin.Str.occurrences x ⟨#[c]⟩ 0 x.length 1).isEmpty) = decide (c ∈ x.cps.toList) := StrLaws.found_one x c
end Ow

set_option Elab.async false
set_option linter.all false
set_option maxRecDepth 100000
namespace Ow
open PySem PySem.Spec PyProof.Rows L2
def rAbs : RC := fun xs H Q => ∃ i, xs = [.int i] ∧ Q (.int (if i < 0 then -i else i)) H
/-! ### len(o), o[k] by own methods -/
def rLenO (C : Addr) (sp : Sp) (E : XK) : RC := fun xs H Q => ∃ a dx fs, xs = [.ref a] ∧ H a = some (.ins C dx fs) ∧ sp [.ref a] H (fun v H' => ∃ n : Int, v = .int n ∧ 0 ≤ n ∧ n < 9223372036854775808 ∧ Q (.int n) H') E
def rIxO (C : Addr) (sp : Sp) (E : XK) : R2 := fun x y H Q => ∃ a dx fs, x = .ref a ∧ H a = some (.ins C dx fs) ∧ sp [.ref a, y] H Q E
section
variable {X : Cx} {CX : CXT} {k : Nat} {f C : Addr} {fd : FuncData} {ps : List Str} {sp : Sp} {E : XK}
/-- the callee runs, asked from within a builtin -/
theorem run_in1 {pins : List (Addr × Obj)} {σ : L2.St} {H : Hp} {s : Shared} {Q : VK} {us : List Value} {vs : List V} (F : FnOk X.prog X.w X.K X.mg X.base CX k f fd ps sp) (hr : Room (k + 1) X.A) (hb : Binds X.K fd ps []) (hx : Passes CX X E)
    (I : Inv X pins σ H s) (r : Vals vs us) (h : sp vs H Q E) : wpAny (model X.prog X.w) X.A.in1 (call (.ref f) us) (EP X pins σ Q) X.xe s := by
  have hl : (us ++ []).length = ps.length := by rw [List.append_nil, ← r.length]; exact F.len _ _ _ _ h
  have bd := hb s us I.kIn hl
  rw [List.append_nil] at bd
  refine wpAny_call (codeAny_mono (F.run X.A.in1 X.stack s H ⟨us, []⟩ us vs Q E hr.in1 I.env0.in1 bd r h) fun r s' hq => ?_)
  cases r with
  | error e => exact hx pins σ H s e s' I hq
  | ok fl =>
    cases fl with
    | ret u => exact I.after hq
    | next => exact False.elim hq
    | brk => exact False.elim hq
    | cont => exact False.elim hq
theorem call_lenO (F : FnOk X.prog X.w X.K X.mg X.base CX k f fd ps sp) (hs : PySem.W.findIn X.K (.ref C) "__len__" = some (some (.ref f))) (hf : PySem.W.isFn X.K (.ref f) = true) (hb : Binds X.K fd ps []) (hx : Passes CX X E) (hr : Room (k + 1) X.A) :
    CallR X (.builtin "len") (rLenO C sp E) := by
  intro pins s σ H xs us Q I r h
  obtain ⟨a, dx, fs, rfl, ha, q⟩ := h
  rw [Vals.ref1 r]
  obtain ⟨mA, J, _⟩ := ins_get I.hok ha
  obtain ⟨od, J, _⟩ := J.look
  obtain ⟨m, hF⟩ := I.fr
  refine PySem.W.len_K hF I.ok.mod.kin J hs hf (wpAny_mono (run_in1 (us := [.ref a]) (vs := [.ref a]) F hr hb hx I (.cons rfl .nil) q) (fun u s' z => ?_) fun _ _ z => z)
  obtain ⟨v, H', I', rv, n, rfl, h0, h1, q'⟩ := z
  obtain ⟨t, rfl⟩ := rv
  exact ⟨⟨h0, h1⟩, ⟨.int n, H', I'.tok _, ⟨_, rfl⟩, q'⟩⟩
theorem pe_ixO {a b : Expr} {ta tb : TE} {pos : Pos} (ha : PE X a ta) (hb' : PE X b tb) (F : FnOk X.prog X.w X.K X.mg X.base CX k f fd ps sp) (hs : PySem.W.findIn X.K (.ref C) "__getitem__" = some (some (.ref f))) (hf : PySem.W.isFn X.K (.ref f) = true) (hn : PySem.W.fnIn X.K f = true)
    (hb : Binds X.K fd ps []) (hx : Passes CX X E) (hr : Room (k + 1) X.A) (hsl : ∀ (x : Addr) (i : Value), subscripted b true (.ref x) i = runValue (.builtin "lifetime.subscript" ⟨[.ref x, i], []⟩)) : PE X (.Subscript a b pos) (tOp (rIxO C sp E) ta tb) := by
  refine ⟨fun pins s σ H Q I h => ?_⟩
  refine Subscript_ (binT ha hb' I h fun v u s2 x y H2 I2 rx ry q => ?_)
  obtain ⟨o, dx, fs, rfl, ho, q⟩ := q
  cases rx
  obtain ⟨mA, J, _⟩ := ins_get I2.hok ho
  obtain ⟨od, J, _⟩ := J.look
  obtain ⟨m, hF⟩ := I2.fr
  exact PySem.W.sub_K hF I2.ok.mod.kin J hs hn hf (run_in1 (us := [.ref o, u]) (vs := [.ref o, y]) F hr hb hx I2 (.cons rfl (.cons ry .nil)) q) (hsl _ _)
end
end Ow

set_option Elab.async false
set_option linter.all false
set_option maxRecDepth 100000
/-! != of instances with an own == and no own !=. -/
namespace OwN
open PySem PySem.Spec PyProof.Rows
section
variable {prog : Program} {w : World} {A : Around} {E : Value → Shared → Prop} {s : Shared} {K : PySem.W.Frag} {x y C f : Addr} {ox : Obj} {od : Option Obj}
theorem entry_ne (X : K.In s.heap) (I : PySem.W.InstAt s.heap x ox C od) (hu : A.units < cLine) (hs : PySem.W.findIn K (.ref C) "__eq__" = some (some (.ref f))) (hf : PySem.W.isFn K (.ref f) = true) {Q : Fin → Shared → Prop}
    (hcall : wpAny (model prog w) A (call (.ref f) [.ref x, .ref y]) (fun v s' => ∃ b, v = .bool b ∧ Q (.done (.ret (.bool (!b)))) s') E s) :
    wpAny (model prog w) A (Builtin.«object.__ne__» ⟨[.ref x, .ref y], []⟩) Q E s := by
  unfold Builtin.«object.__ne__»
  repeat (first
    | with_reducible refine wpAny_cRoomFor hu ?_
    | (refine wpAny_bind (m := callSpecialIfBound? (.ref x) (Str.ofString "__eq__") [.ref y])
        (PySem.W.ifBound_K X I hs hf (wpAny_mono hcall (fun r s' hr => by
          obtain ⟨b, rfl, hq⟩ := hr
          repeat (first | exact hq | exact wpAny_pure hq | exact wpAny_truthy_bool hq | (refine wpAny_bind (m := truthy (.bool _)) (wpAny_truthy_bool ?_)) | wp_step)) fun _ _ e => e)))
    | wp_step)
theorem ifBound_ne {M : Model} {args : List Value} {Q : Option Value → Shared → Prop} (X : K.In s.heap) (I : PySem.W.InstAt s.heap x ox C od) (hs : PySem.W.findIn K (.ref C) "__ne__" = some (some (.builtin "object.__ne__")))
    (h : wpAny M A (call (.builtin "object.__ne__") (.ref x :: args)) (fun v => Q (some v)) E s) : wpAny M A (callSpecialIfBound? (.ref x) "__ne__" args) Q E s := by
  simp only [callSpecialIfBound?, bindSpecialIfBound?]
  refine wpAny_holding (wpAny_bind (wpAny_bind (wpAny_bind (I.type.here ((PySem.W.looks_findIn X hs).here ?_)))))
  refine wpAny_bind (wpAny_askSetting (wpAny_ite ?_))
  have fin : wpAny M A (call (.builtin "object.__ne__") ([.ref x] ++ args) >>= fun v => pure (some v)) Q E s := wpAny_bind (wpAny_mono h (fun v s' h' => wpAny_pure h') fun _ _ h' => h')
  split
  · exact wpAny_bind (wpAny_of_eq (F.cmp_object.ne.bind _) (wpAny_pure (by exact fin)))
  · exact wpAny_tryCatch (wpAny_bind (wpAny_of_eq (F.cmp_object.ne.bind _) (wpAny_pure (by exact fin))))
theorem try_ne (X : K.In s.heap) (I : PySem.W.InstAt s.heap x ox C od) (hu : A.units + 1 < cLine) (hm : PySem.W.mroIn K C (.type "object") = some true) (hn : PySem.W.findIn K (.ref C) "__ne__" = some (some (.builtin "object.__ne__")))
    (hs : PySem.W.findIn K (.ref C) "__eq__" = some (some (.ref f))) (hf : PySem.W.isFn K (.ref f) = true) {Q : Option Value → Shared → Prop}
    (hcall : wpAny (model prog w) A.in1 (call (.ref f) [.ref x, .ref y]) (fun v s' => ∃ b, v = .bool b ∧ Q (some (.bool (!b))) s') E s) : wpAny (model prog w) A (tryCompare (.ref x) "__ne__" (.ref y)) Q E s := by
  simp only [tryCompare]
  refine wpAny_bind (ifBound_ne X I hn (wpAny_call (codeAny_call_builtin F.cmp_object.ne.plain F.cmpEntry_ne
    (PySem.W.check_slot F.cmpKind_ne F.cmpSplit_ne (I.type.andThen (PySem.W.looks_mroIn X hm)) (F.cmpArgs_ne _ _) (entry_ne (A := A.in1) X I hu hs hf (wpAny_mono hcall (fun v s' hv => ?_) fun _ _ e => e))))))
  obtain ⟨b, rfl, hq⟩ := hv
  first | exact ⟨b, rfl, wpAny_pure hq⟩ | exact ⟨b, rfl, wpAny_pure (wpAny_pure hq)⟩ | exact ⟨b, rfl, hq⟩
theorem rich_ne (X : K.In s.heap) (I : PySem.W.InstAt s.heap x ox C od) {oy : Obj} {od' : Option Obj} (J : PySem.W.InstAt s.heap y oy C od') (hu : A.units + 1 < cLine) (hm : PySem.W.mroIn K C (.type "object") = some true) (hn : PySem.W.findIn K (.ref C) "__ne__" = some (some (.builtin "object.__ne__")))
    (hs : PySem.W.findIn K (.ref C) "__eq__" = some (some (.ref f))) (hf : PySem.W.isFn K (.ref f) = true) {Q : Value → Shared → Prop}
    (hcall : wpAny (model prog w) A.in1 (call (.ref f) [.ref x, .ref y]) (fun v s' => ∃ b, v = .bool b ∧ Q (.bool (!b)) s') E s) : wpAny (model prog w) A (compareOp .NotEq (.ref x) (.ref y)) Q E s := by
  refine PySem.W.cmp_ofNotEq ?_
  unfold richCompare
  simp only [oneThing_ref]
  refine wpAny_holding (wpAny_bind (wpAny_cRoomFor (Nat.lt_of_succ_lt hu) ?_))
  refine wpAny_bind (I.type.here (wpAny_bind (J.type.here ?_)))
  rw [cmpInfo_NotEq]
  dsimp only
  rw [show (Value.ref C != Value.ref C) = false from by simp]
  simp only [Bool.false_eq_true, if_false]
  refine wpAny_bind (wpAny_pure ?_)
  simp only [Bool.false_eq_true, if_false]
  refine wpAny_bind (try_ne X I hu hm hn hs hf (wpAny_mono hcall (fun v s' hv => ?_) fun _ _ e => e))
  obtain ⟨b, rfl, hq⟩ := hv
  first | exact ⟨b, rfl, wpAny_pure hq⟩ | exact ⟨b, rfl, wpAny_pure (wpAny_pure hq)⟩
end
end OwN

set_option Elab.async false
set_option linter.all false
set_option maxRecDepth 100000
namespace Ow
open PySem PySem.Spec PyProof.Rows L2
/-- a == b, a != b of two instances of one class with an own == -/
def rCmpO (C : Addr) (neg : Bool) (sp : Sp) (E : XK) : R2 := fun x y H Q => ∃ a b dx dy fs gs, x = .ref a ∧ y = .ref b ∧ H a = some (.ins C dx fs) ∧ H b = some (.ins C dy gs) ∧ sp [.ref a, .ref b] H (fun v H' => ∃ c, v = .bl c ∧ Q (.bl (if neg then !c else c)) H') E
section
variable {X : Cx} {CX : CXT} {k : Nat} {f C : Addr} {fd : FuncData} {ps : List Str} {sp : Sp} {E : XK}
theorem op_eqO (F : FnOk X.prog X.w X.K X.mg X.base CX k f fd ps sp) (hs : PySem.W.findIn X.K (.ref C) "__eq__" = some (some (.ref f))) (hf : PySem.W.isFn X.K (.ref f) = true) (hb : Binds X.K fd ps []) (hx : Passes CX X E) (hr : Room (k + 1) X.A) :
    OpR X (compareOp .Eq) (rCmpO C false sp E) := by
  intro pins s σ H x y v u Q I rx ry hq
  obtain ⟨a, b, dx, dy, fs, gs, rfl, rfl, ha, hb', q⟩ := hq
  cases rx; cases ry
  obtain ⟨mA, J, _⟩ := ins_get I.hok ha
  obtain ⟨mB, J', _⟩ := ins_get I.hok hb'
  obtain ⟨od, J, _⟩ := J.look
  obtain ⟨od', J', _⟩ := J'.look
  obtain ⟨m, hF⟩ := I.fr
  refine PySem.W.cmp_ofEq (PySem.W.cmp_K (op := .Eq) (tb := .ref C) (by have := hr.un; omega) hF I.ok.mod.kin J J'.type (by simp [PySem.W.notFirst]) hs hf ?_)
  have hb2 : Binds X.K fd ps ([] : List Value) := hb
  refine wpAny_mono (run_fn (us := [.ref a, .ref b]) (vs := [.ref a, .ref b]) (dvs := []) F (hr.mono (Nat.le_succ k)) hb2 .nil hx I (.cons rfl (.cons rfl .nil)) q) (fun w' s' z => ?_) fun _ _ z => z
  obtain ⟨v, H', I', rv, c, rfl, q'⟩ := z
  cases rv
  exact ⟨.bl c, H', I', rfl, q'⟩
theorem op_neO (F : FnOk X.prog X.w X.K X.mg X.base CX k f fd ps sp) (hs : PySem.W.findIn X.K (.ref C) "__eq__" = some (some (.ref f))) (hf : PySem.W.isFn X.K (.ref f) = true) (hm : PySem.W.mroIn X.K C (.type "object") = some true) (hn : PySem.W.findIn X.K (.ref C) "__ne__" = some (some (.builtin "object.__ne__")))
    (hb : Binds X.K fd ps []) (hx : Passes CX X E) (hr : Room (k + 1) X.A) : OpR X (compareOp .NotEq) (rCmpO C true sp E) := by
  intro pins s σ H x y v u Q I rx ry hq
  obtain ⟨a, b, dx, dy, fs, gs, rfl, rfl, ha, hb', q⟩ := hq
  cases rx; cases ry
  obtain ⟨mA, J, _⟩ := ins_get I.hok ha
  obtain ⟨mB, J', _⟩ := ins_get I.hok hb'
  obtain ⟨od, J, _⟩ := J.look
  obtain ⟨od', J', _⟩ := J'.look
  refine OwN.rich_ne I.kIn J J' (by have := hr.un; omega) hm hn hs hf (wpAny_mono (run_in1 (us := [.ref a, .ref b]) (vs := [.ref a, .ref b]) F hr hb hx I (.cons rfl (.cons rfl .nil)) q) (fun w' s' z => ?_) fun _ _ z => z)
  obtain ⟨v, H', I', rv, c, rfl, q'⟩ := z
  cases rv
  exact ⟨c, rfl, .bl (!c), H', I', rfl, q'⟩
end
end Ow

set_option Elab.async false
set_option linter.all false
set_option maxRecDepth 100000
/-! An instance with an own == beside any value. -/
namespace Ow
open PySem PySem.Spec PyProof.Rows L2
/-- what a value is: its type -/
inductive Ty7 (H : Hp) : V → Value → Prop where
  | non : Ty7 H .non (.type "NoneType")
  | bl (b : Bool) : Ty7 H (.bl b) (.type "bool")
  | int (i : Int) : Ty7 H (.int i) (.type "int")
  | str (s : Str) : Ty7 H (.str s) (.type "str")
  | lst {a : Addr} {xs : List V} (e : H a = some (.lst xs)) : Ty7 H (.ref a) (.type "list")
  | tup {a : Addr} {xs : List V} (e : H a = some (.tup xs)) : Ty7 H (.ref a) (.type "tuple")
  | ins {a C dx : Addr} {fs : List (Str × V)} (e : H a = some (.ins C dx fs)) : Ty7 H (.ref a) (.ref C)
section
variable {X : Cx} {CX : CXT} {k : Nat} {f C : Addr} {fd : FuncData} {ps : List Str} {sp : Sp} {E : XK} {pins : List (Addr × Obj)} {σ : L2.St} {H : Hp} {s : Shared}
theorem looks7 {y : V} {u t : Value} (I : Inv X pins σ H s) (r : RelV y u) (ty : Ty7 H y t) : PySem.W.Looks (model X.prog X.w) s.heap (typeOf u) t := by
  cases ty with
  | non => cases (show u = Value.none from r); exact .now
  | bl b => cases (show u = Value.bool b from r); exact .now
  | int i => obtain ⟨t, q⟩ := (show ∃ t, u = Value.int i t from r); cases q; exact .now
  | str i => obtain ⟨t, q⟩ := (show ∃ t, u = Value.str i t from r); cases q; exact .now
  | @lst a xs e =>
    cases (show u = Value.ref a from r)
    obtain ⟨_, _, n, _, h1⟩ := (show ObjOk X.prog X.w H s.heap a (.lst xs) from I.hok a _ e)
    exact fun A Q E s' k q => wpAny_typeOf_ref (k _ _ h1) q
  | @tup a xs e =>
    cases (show u = Value.ref a from r)
    obtain ⟨_, _, _, o, h1, h2, _⟩ := (show ObjOk X.prog X.w H s.heap a (.tup xs) from I.hok a _ e)
    exact fun A Q E s' k q => wpAny_typeOf_ref (k _ _ h1) (by rw [h2]; exact q)
  | @ins a C dx fs e =>
    cases (show u = Value.ref a from r)
    obtain ⟨mA, J, _⟩ := ins_get I.hok e
    obtain ⟨od, J, _⟩ := J.look
    exact J.type
/-- a == y, y of any type that is none of a's class below it -/
def rCmpX (K : PySem.W.Frag) (C : Addr) (sp : Sp) (E : XK) : R2 := fun x y H Q => ∃ a dx fs t, x = .ref a ∧ H a = some (.ins C dx fs) ∧ Ty7 H y t ∧ PySem.W.notFirst K C t = true ∧ sp [.ref a, y] H (fun v H' => ∃ c, v = .bl c ∧ Q (.bl c) H') E
theorem op_eqX (F : FnOk X.prog X.w X.K X.mg X.base CX k f fd ps sp) (hs : PySem.W.findIn X.K (.ref C) "__eq__" = some (some (.ref f))) (hf : PySem.W.isFn X.K (.ref f) = true) (hb : Binds X.K fd ps []) (hx : Passes CX X E) (hr : Room (k + 1) X.A) :
    OpR X (compareOp .Eq) (rCmpX X.K C sp E) := by
  intro pins s σ H x y v u Q I rx ry hq
  obtain ⟨a, dx, fs, t, rfl, ha, ty, nf, q⟩ := hq
  cases rx
  obtain ⟨mA, J, _⟩ := ins_get I.hok ha
  obtain ⟨od, J, _⟩ := J.look
  obtain ⟨m, hF⟩ := I.fr
  refine PySem.W.cmp_ofEq (PySem.W.cmp_K (op := .Eq) (tb := t) (by have := hr.un; omega) hF I.ok.mod.kin J (looks7 I ry ty) nf hs hf ?_)
  have hb2 : Binds X.K fd ps ([] : List Value) := hb
  refine wpAny_mono (run_fn (us := [.ref a, u]) (vs := [.ref a, y]) (dvs := []) F (hr.mono (Nat.le_succ k)) hb2 .nil hx I (.cons rfl (.cons ry .nil)) q) (fun w' s' z => ?_) fun _ _ z => z
  obtain ⟨v, H', I', rv, c, rfl, q'⟩ := z
  cases rv
  exact ⟨.bl c, H', I', rfl, q'⟩
theorem Ty7.tyx {K : PySem.W.Frag} {y : V} {t : String} (ty : Ty7 H y (.type t)) : TyX K H y (.type t) := by
  cases ty with
  | non => exact .base .non
  | bl b => exact .base (.bl b)
  | int i => exact .base (.int i)
  | str i => exact .base (.str i)
  | lst e => exact .base (.lst e)
  | tup e => exact .base (.tup e)
/-- isinstance(y, t) of a built-in t -/
theorem w_isi {K : PySem.W.Frag} {Q : VK} {y : V} {t u : String} {b : Bool} (ty : Ty7 H y (.type t)) (h : kitB t u = some b) (q : Q (.bl b) H) : rIsi K [y, .ty u] H Q := ⟨y, .ty u, _, _, b, rfl, .ty u, ty.tyx, kit_ty h, q⟩
/-- repr of a number, of True and False, or of lists and tuples -/
def rReprA (K : PySem.W.Frag) : RC := fun xs H Q => rReprI xs H Q ∨ rReprB xs H Q ∨ rRepr K xs H Q
theorem call_reprA (hG : X.A.guards = some []) (hu : X.A.units + 64 < cLine) : CallR X (.builtin "repr") (rReprA X.K) := by
  intro pins s σ H xs us Q I r h
  rcases h with h | h | h
  · exact call_reprI pins s σ H xs us Q I r h
  · exact call_reprB pins s σ H xs us Q I r h
  · exact call_repr hG hu pins s σ H xs us Q I r h
theorem w_reprAI {K : PySem.W.Frag} {Q : VK} {i : Int} (h1 : -999999999999 ≤ i) (h2 : i ≤ 999999999999) (q : Q (.str (toString i)) H) : rReprA K [.int i] H Q := by
  refine .inl ⟨i, rfl, ?_, q⟩
  by_cases h : i = 0
  · subst h; decide
  · exact Nat.lt_trans ((Nat.log2_lt (by omega)).mpr (show i.natAbs < 2 ^ 40 by omega)) (by decide)
theorem w_reprAB {K : PySem.W.Frag} {Q : VK} {b : Bool} (q : Q (.str (if b then "True" else "False")) H) : rReprA K [.bl b] H Q := .inr (.inl ⟨b, rfl, q⟩)
theorem w_reprAR {K : PySem.W.Frag} {Q : VK} {a : Addr} {d : PyData} {j k : Nat} (h : Dp K H (.ref a) d) (t : Tame j k d) (hj : j ≤ 40) (hk : k ≤ 1048576) (q : Q (.str d.shown) H) : rReprA K [.ref a] H Q := .inr (.inr (w_repr h t hj hk q))
end
theorem kit_no {K : PySem.W.Frag} {t : String} {C : Addr} (h1 : PySem.W.isClsIn K C = true) (h2 : PySem.W.typeIn K (.ref C) = some (.type "type")) (h3 : PySem.W.subIn K (.type t) (.ref C) = some false) : PySem.W.kitOne K (.type t) (.ref C) = some false := by
  unfold PySem.W.kitOne
  split
  · rename_i e
    have e' : Value.type t = .ref C := beq_iff_eq.mp e
    cases e'
  · exact kit_sub h1 h2 h3
theorem not_first {K : PySem.W.Frag} {t : String} {C : Addr} (h3 : PySem.W.subIn K (.type t) (.ref C) = some false) : PySem.W.notFirst K C (.type t) = true := by
  unfold PySem.W.notFirst
  rw [h3]
  exact Bool.or_true _
end Ow

set_option Elab.async false
set_option linter.all false
set_option maxRecDepth 100000
/-! A built-in value beside an instance with an own ==: the left one declines. An instance != any value. -/
namespace PySem
open PySem.Spec PyProof.Rows
section
variable {prog : Program} {w : World}
theorem int_eq_ins (b : Int) (u : Tok) (l : Addr) (c : Value) (dd : Option Addr) (sl : Array (Option Value)) :
    Meets (Builtin.«int.__eq__» ⟨[.int b u, .ref l], []⟩) (fun _ R s => s.heap.get? l = some { cls := c, dict := dd, data := .plain, slots := sl } ∧ R (.ok (.ret .notImplemented)) s) :=
  .of_wp fun prog w A R s h => by obtain ⟨hp, g, d, tk, os⟩ := s; obtain ⟨hl, h⟩ := h; wp_walk using wpAny_loadPart' hl, wpAny_load hl; exact ⟨_, rfl, h⟩
theorem bool_eq_ins (b : Bool) (l : Addr) (c : Value) (dd : Option Addr) (sl : Array (Option Value)) :
    Meets (Builtin.«int.__eq__» ⟨[.bool b, .ref l], []⟩) (fun _ R s => s.heap.get? l = some { cls := c, dict := dd, data := .plain, slots := sl } ∧ R (.ok (.ret .notImplemented)) s) :=
  .of_wp fun prog w A R s h => by obtain ⟨hp, g, d, tk, os⟩ := s; obtain ⟨hl, h⟩ := h; wp_walk using wpAny_loadPart' hl, wpAny_load hl; exact ⟨_, rfl, h⟩
theorem str_eq_ins (b : Str) (u : Tok) (l : Addr) (c : Value) (dd : Option Addr) (sl : Array (Option Value)) :
    Meets (Builtin.«str.__eq__» ⟨[.str b u, .ref l], []⟩) (fun _ R s => s.heap.get? l = some { cls := c, dict := dd, data := .plain, slots := sl } ∧ R (.ok (.ret .notImplemented)) s) :=
  .of_wp fun prog w A R s h => by obtain ⟨hp, g, d, tk, os⟩ := s; obtain ⟨hl, h⟩ := h; wp_walk using wpAny_loadPart' hl, wpAny_load hl; exact ⟨_, rfl, h⟩
theorem list_eq_ins (l b : Addr) (C : Value) (items : Array Value) (n : Nat) (dd dd2 : Option Addr) (sl sl2 : Array (Option Value)) :
    MeetsIn prog w (Builtin.«list.__eq__» ⟨[.ref l, .ref b], []⟩) (fun _ R s => s.heap.get? l = some { cls := .type "list", dict := dd, data := .seq items n, slots := sl } ∧ s.heap.get? b = some { cls := C, dict := dd2, data := .plain, slots := sl2 } ∧ PySem.W.Looks (model prog w) s.heap (isSubtype C (.type "list")) false ∧ R (.ok (.ret .notImplemented)) s) :=
  .of_wp fun A R s h => by
    obtain ⟨hp, g, d, tk, os⟩ := s
    obtain ⟨hl, hb, L2, h⟩ := h
    wp_walk using wpAny_loadPart' hl, wpAny_loadPart' hb
    refine L2 _ _ _ _ (fun _ _ e => e) ?_
    wp_walk
    exact ⟨_, rfl, h⟩
theorem tuple_eq_ins (l b : Addr) (C : Value) (items : Array Value) (n : Nat) (dd dd2 : Option Addr) (sl sl2 : Array (Option Value)) :
    MeetsIn prog w (Builtin.«tuple.__eq__» ⟨[.ref l, .ref b], []⟩) (fun _ R s => s.heap.get? l = some { cls := .type "tuple", dict := dd, data := .seq items n, slots := sl } ∧ s.heap.get? b = some { cls := C, dict := dd2, data := .plain, slots := sl2 } ∧ PySem.W.Looks (model prog w) s.heap (isSubtype C (.type "tuple")) false ∧ R (.ok (.ret .notImplemented)) s) :=
  .of_wp fun A R s h => by
    obtain ⟨hp, g, d, tk, os⟩ := s
    obtain ⟨hl, hb, L2, h⟩ := h
    wp_walk using wpAny_loadPart' hl, wpAny_loadPart' hb
    refine L2 _ _ _ _ (fun _ _ e => e) ?_
    wp_walk
    exact ⟨_, rfl, h⟩
end
end PySem
namespace OwN
open PySem PySem.Spec PyProof.Rows
section
variable {prog : Program} {w : World} {A : Around} {E : Value → Shared → Prop} {s : Shared} {K : PySem.W.Frag} {x C f : Addr} {y tb : Value} {ox : Obj} {od : Option Obj}
theorem entry_neX (X : K.In s.heap) (I : PySem.W.InstAt s.heap x ox C od) (hu : A.units < cLine) (hs : PySem.W.findIn K (.ref C) "__eq__" = some (some (.ref f))) (hf : PySem.W.isFn K (.ref f) = true) {Q : Fin → Shared → Prop}
    (hcall : wpAny (model prog w) A (call (.ref f) [.ref x, y]) (fun v s' => ∃ b, v = .bool b ∧ Q (.done (.ret (.bool (!b)))) s') E s) :
    wpAny (model prog w) A (Builtin.«object.__ne__» ⟨[.ref x, y], []⟩) Q E s := by
  unfold Builtin.«object.__ne__»
  repeat (first
    | with_reducible refine wpAny_cRoomFor hu ?_
    | (refine wpAny_bind (m := callSpecialIfBound? (.ref x) (Str.ofString "__eq__") [y])
        (PySem.W.ifBound_K X I hs hf (wpAny_mono hcall (fun r s' hr => by
          obtain ⟨b, rfl, hq⟩ := hr
          repeat (first | exact hq | exact wpAny_pure hq | exact wpAny_truthy_bool hq | (refine wpAny_bind (m := truthy (.bool _)) (wpAny_truthy_bool ?_)) | wp_step)) fun _ _ e => e)))
    | wp_step)
theorem try_neX (X : K.In s.heap) (I : PySem.W.InstAt s.heap x ox C od) (hu : A.units + 1 < cLine) (hm : PySem.W.mroIn K C (.type "object") = some true) (hn : PySem.W.findIn K (.ref C) "__ne__" = some (some (.builtin "object.__ne__")))
    (hs : PySem.W.findIn K (.ref C) "__eq__" = some (some (.ref f))) (hf : PySem.W.isFn K (.ref f) = true) {Q : Option Value → Shared → Prop}
    (hcall : wpAny (model prog w) A.in1 (call (.ref f) [.ref x, y]) (fun v s' => ∃ b, v = .bool b ∧ Q (some (.bool (!b))) s') E s) : wpAny (model prog w) A (tryCompare (.ref x) "__ne__" y) Q E s := by
  simp only [tryCompare]
  refine wpAny_bind (ifBound_ne X I hn (wpAny_call (codeAny_call_builtin F.cmp_object.ne.plain F.cmpEntry_ne
    (PySem.W.check_slot F.cmpKind_ne F.cmpSplit_ne (I.type.andThen (PySem.W.looks_mroIn X hm)) (F.cmpArgs_ne _ _) (entry_neX (A := A.in1) X I hu hs hf (wpAny_mono hcall (fun v s' hv => ?_) fun _ _ e => e))))))
  obtain ⟨b, rfl, hq⟩ := hv
  first | exact ⟨b, rfl, wpAny_pure hq⟩ | exact ⟨b, rfl, wpAny_pure (wpAny_pure hq)⟩ | exact ⟨b, rfl, hq⟩
theorem rich_neX (X : K.In s.heap) (I : PySem.W.InstAt s.heap x ox C od) (hb : PySem.W.Looks (model prog w) s.heap (typeOf y) tb) (ho : PySem.W.notFirst K C tb = true) (hu : A.units + 1 < cLine) (hm : PySem.W.mroIn K C (.type "object") = some true) (hn : PySem.W.findIn K (.ref C) "__ne__" = some (some (.builtin "object.__ne__")))
    (hs : PySem.W.findIn K (.ref C) "__eq__" = some (some (.ref f))) (hf : PySem.W.isFn K (.ref f) = true) {Q : Value → Shared → Prop}
    (hcall : wpAny (model prog w) A.in1 (call (.ref f) [.ref x, y]) (fun v s' => ∃ b, v = .bool b ∧ Q (.bool (!b)) s') E s) : wpAny (model prog w) A (compareOp .NotEq (.ref x) y) Q E s := by
  refine PySem.W.cmp_ofNotEq ?_
  unfold richCompare
  simp only [oneThing_ref]
  refine wpAny_holding (wpAny_bind (wpAny_cRoomFor (Nat.lt_of_succ_lt hu) ?_))
  refine wpAny_bind (I.type.here (wpAny_bind (hb.here ?_)))
  rw [cmpInfo_NotEq]
  dsimp only
  split
  · rename_i q
    have e : PySem.W.subIn K tb (.ref C) = some false := by
      rcases Bool.or_eq_true_iff.mp ho with e | e
      · rw [beq_iff_eq.mp e] at q; simp at q
      · exact beq_iff_eq.mp e
    refine wpAny_bind ((PySem.W.looks_subIn X e).here ?_)
    simp only [Bool.false_eq_true, if_false]
    refine wpAny_bind (try_neX X I hu hm hn hs hf (wpAny_mono hcall (fun v s' hv => ?_) fun _ _ e => e))
    obtain ⟨b, rfl, hq⟩ := hv
    first | exact ⟨b, rfl, wpAny_pure hq⟩ | exact ⟨b, rfl, wpAny_pure (wpAny_pure hq)⟩
  · refine wpAny_bind (wpAny_pure ?_)
    simp only [Bool.false_eq_true, if_false]
    refine wpAny_bind (try_neX X I hu hm hn hs hf (wpAny_mono hcall (fun v s' hv => ?_) fun _ _ e => e))
    obtain ⟨b, rfl, hq⟩ := hv
    first | exact ⟨b, rfl, wpAny_pure hq⟩ | exact ⟨b, rfl, wpAny_pure (wpAny_pure hq)⟩
/-- a value that declines, and then the instance at its right -/
theorem rich_right {u : Value} {T : String} (X : K.In s.heap) (I : PySem.W.InstAt s.heap x ox C od) (hT : s.TypeIs u T) (hu : A.units < cLine) (e : PySem.W.subIn K (.ref C) (.type T) = some false)
    (hs : PySem.W.findIn K (.ref C) "__eq__" = some (some (.ref f))) (hf : PySem.W.isFn K (.ref f) = true) {Q : Value → Shared → Prop}
    (hd : ∀ Q' : Option Value → Shared → Prop, Q' none s → wpAny (model prog w) A (tryCompare u "__eq__" (.ref x)) Q' E s)
    (hcall : wpAny (model prog w) A (call (.ref f) [.ref x, u]) (fun v s' => ∃ b, v = .bool b ∧ Q (.bool b) s') E s) : wpAny (model prog w) A (compareOp .Eq u (.ref x)) Q E s := by
  refine PySem.W.cmp_ofEq ?_
  unfold richCompare
  simp only [hT.oneThing_none]
  refine wpAny_holding (wpAny_bind (wpAny_cRoomFor hu ?_))
  refine wpAny_bind (wpAny_typeOf hT (wpAny_bind (I.type.here ?_)))
  rw [show cmpInfo CmpOp.Eq = ("==", Str.ofString "__eq__", Str.ofString "__eq__") from rfl]
  dsimp only
  rw [show (Value.type T != Value.ref C) = true from by simp]
  simp only [if_true]
  refine wpAny_bind ((PySem.W.looks_subIn X e).here ?_)
  simp only [Bool.false_eq_true, if_false, Bool.not_false, if_true]
  refine wpAny_bind (m := tryCompare u _ _) (hd _ ?_)
  have one : wpAny (model prog w) A (tryCompare (.ref x) "__eq__" u) (fun r s' => ∃ v, r = some v ∧ Q v s') E s := by
    unfold tryCompare
    refine wpAny_bind (PySem.W.ifBound_K X I hs hf (wpAny_mono hcall (fun v s' hv => ?_) fun _ _ e => e))
    obtain ⟨b, rfl, hv⟩ := hv
    exact wpAny_pure ⟨_, rfl, hv⟩
  refine wpAny_bind (wpAny_mono one (fun r s' z => ?_) fun _ _ e => e)
  obtain ⟨v, rfl, hq⟩ := z
  exact wpAny_pure hq
end
end OwN
namespace Ow
open PySem PySem.Spec PyProof.Rows L2
section
variable {X : Cx} {CX : CXT} {k : Nat} {f C : Addr} {fd : FuncData} {ps : List Str} {sp : Sp} {E : XK} {pins : List (Addr × Obj)} {σ : L2.St} {H : Hp} {s : Shared}
theorem type7 {y : V} {u : Value} {T : String} (I : Inv X pins σ H s) (r : RelV y u) (ty : Ty7 H y (.type T)) : s.TypeIs u T := by
  generalize ht : Value.type T = t at ty
  cases ty with
  | non => cases ht; cases (show u = Value.none from r); exact rfl
  | bl b => cases ht; cases (show u = Value.bool b from r); exact rfl
  | int i => cases ht; obtain ⟨t, q⟩ := (show ∃ t, u = Value.int i t from r); cases q; exact typeIs_int _ _ _
  | str i => cases ht; obtain ⟨t, q⟩ := (show ∃ t, u = Value.str i t from r); cases q; exact typeIs_str _ _ _
  | @lst a xs e =>
    cases ht
    cases (show u = Value.ref a from r)
    obtain ⟨_, _, n, _, h1⟩ := (show ObjOk X.prog X.w H s.heap a (.lst xs) from I.hok a _ e)
    exact ⟨_, h1, rfl⟩
  | @tup a xs e =>
    cases ht
    cases (show u = Value.ref a from r)
    obtain ⟨_, _, _, o, h1, h2, _⟩ := (show ObjOk X.prog X.w H s.heap a (.tup xs) from I.hok a _ e)
    exact ⟨_, h1, h2⟩
  | ins e => cases ht
theorem decl7 {y : V} {u : Value} {T : String} {a dx : Addr} {fs : List (Str × V)} {A : Around} {EE : Value → Shared → Prop} (I : Inv X pins σ H s) (r : RelV y u) (ty : Ty7 H y (.type T)) (ha : H a = some (.ins C dx fs)) (hsub : PySem.W.subIn X.K (.ref C) (.type T) = some false)
    (Q' : Option Value → Shared → Prop) (q : Q' none s) : wpAny (model X.prog X.w) A (tryCompare u "__eq__" (.ref a)) Q' EE s := by
  have hT := type7 I r ty
  obtain ⟨_, _, _, hob, _⟩ := (show ObjOk X.prog X.w H s.heap a (.ins C dx fs) from I.hok a _ ha)
  have Ls : PySem.W.Looks (model X.prog X.w) s.heap (isSubtype (.ref C) (.type T)) false := PySem.W.looks_subIn I.kIn hsub
  generalize ht : Value.type T = t at ty
  cases ty with
  | non => cases ht; cases (show u = Value.none from r); exact wpAny_tryCompare_declines hT F.slot_NoneType_eq (call_gives F.slot_NoneType_eq hT F.entry_NoneType_eq (F.args_NoneType_eq_2 _ _) (SeqAt.NoneType___eq___none_ref_0 a) ⟨rfl, q⟩)
  | bl b => cases ht; cases (show u = Value.bool b from r); exact wpAny_tryCompare_declines hT F.slot_bool_eq (call_meetsIn F.slot_bool_eq hT F.entry_int_eq (F.args_int_eq_2 _ _) ((bool_eq_ins _ _ _ _ _).inModel _ _) ⟨hob, rfl, q⟩)
  | int i => cases ht; obtain ⟨t, q'⟩ := (show ∃ t, u = Value.int i t from r); cases q'; exact wpAny_tryCompare_declines hT F.slot_int_eq (call_meetsIn F.slot_int_eq hT F.entry_int_eq (F.args_int_eq_2 _ _) ((int_eq_ins _ _ _ _ _ _).inModel _ _) ⟨hob, rfl, q⟩)
  | str i => cases ht; obtain ⟨t, q'⟩ := (show ∃ t, u = Value.str i t from r); cases q'; exact wpAny_tryCompare_declines hT F.slot_str_eq (call_meetsIn F.slot_str_eq hT F.entry_str_eq (F.args_str_eq_2 _ _) ((str_eq_ins _ _ _ _ _ _).inModel _ _) ⟨hob, rfl, q⟩)
  | @lst b xs e =>
    cases ht
    cases (show u = Value.ref b from r)
    obtain ⟨_, _, n, _, h1⟩ := (show ObjOk X.prog X.w H s.heap b (.lst xs) from I.hok b _ e)
    exact wpAny_tryCompare_declines hT F.slot_list_eq (call_meetsIn F.slot_list_eq hT F.entry_list_eq (F.args_list_eq_2 _ _) (list_eq_ins _ _ _ _ _ _ _ _ _) ⟨h1, hob, Ls, rfl, q⟩)
  | @tup b xs e =>
    cases ht
    cases (show u = Value.ref b from r)
    obtain ⟨_, _, _, ⟨oc, od, odt, osl⟩, h1, h2, n, h3⟩ := (show ObjOk X.prog X.w H s.heap b (.tup xs) from I.hok b _ e)
    cases h2; cases h3
    exact wpAny_tryCompare_declines hT F.slot_tuple_eq (call_meetsIn F.slot_tuple_eq hT F.entry_tuple_eq (F.args_tuple_eq_2 _ _) (tuple_eq_ins _ _ _ _ _ _ _ _ _) ⟨h1, hob, Ls, rfl, q⟩)
  | ins e => cases ht
/-- a != y, y of any type -/
def rCmpXN (K : PySem.W.Frag) (C : Addr) (sp : Sp) (E : XK) : R2 := fun x y H Q => ∃ a dx fs t, x = .ref a ∧ H a = some (.ins C dx fs) ∧ Ty7 H y t ∧ PySem.W.notFirst K C t = true ∧ sp [.ref a, y] H (fun v H' => ∃ c, v = .bl c ∧ Q (.bl (!c)) H') E
theorem op_neX (F : FnOk X.prog X.w X.K X.mg X.base CX k f fd ps sp) (hs : PySem.W.findIn X.K (.ref C) "__eq__" = some (some (.ref f))) (hf : PySem.W.isFn X.K (.ref f) = true) (hm : PySem.W.mroIn X.K C (.type "object") = some true) (hn : PySem.W.findIn X.K (.ref C) "__ne__" = some (some (.builtin "object.__ne__")))
    (hb : Binds X.K fd ps []) (hx : Passes CX X E) (hr : Room (k + 1) X.A) : OpR X (compareOp .NotEq) (rCmpXN X.K C sp E) := by
  intro pins s σ H x y v u Q I rx ry hq
  obtain ⟨a, dx, fs, t, rfl, ha, ty, nf, q⟩ := hq
  cases rx
  obtain ⟨mA, J, _⟩ := ins_get I.hok ha
  obtain ⟨od, J, _⟩ := J.look
  refine OwN.rich_neX I.kIn J (looks7 I ry ty) nf (by have := hr.un; omega) hm hn hs hf (wpAny_mono (run_in1 (us := [.ref a, u]) (vs := [.ref a, y]) F hr hb hx I (.cons rfl (.cons ry .nil)) q) (fun w' s' z => ?_) fun _ _ z => z)
  obtain ⟨v, H', I', rv, c, rfl, q'⟩ := z
  cases rv
  exact ⟨c, rfl, .bl (!c), H', I', rfl, q'⟩
/-- y == a, y of a built-in type -/
def rCmpL (K : PySem.W.Frag) (C : Addr) (sp : Sp) (E : XK) : R2 := fun y x H Q => ∃ a dx fs T, x = .ref a ∧ H a = some (.ins C dx fs) ∧ Ty7 H y (.type T) ∧ PySem.W.subIn K (.ref C) (.type T) = some false ∧ sp [.ref a, y] H (fun v H' => ∃ c, v = .bl c ∧ Q (.bl c) H') E
theorem op_eqL (F : FnOk X.prog X.w X.K X.mg X.base CX k f fd ps sp) (hs : PySem.W.findIn X.K (.ref C) "__eq__" = some (some (.ref f))) (hf : PySem.W.isFn X.K (.ref f) = true) (hb : Binds X.K fd ps []) (hx : Passes CX X E) (hr : Room (k + 1) X.A) :
    OpR X (compareOp .Eq) (rCmpL X.K C sp E) := by
  intro pins s σ H y x u v Q I ry rx hq
  obtain ⟨a, dx, fs, T, rfl, ha, ty, e, q⟩ := hq
  cases rx
  obtain ⟨mA, J, _⟩ := ins_get I.hok ha
  obtain ⟨od, J, _⟩ := J.look
  have hb2 : Binds X.K fd ps ([] : List Value) := hb
  refine OwN.rich_right I.kIn J (type7 I ry ty) (by have := hr.un; omega) e hs hf (fun Q' q' => decl7 I ry ty ha e Q' q') ?_
  refine wpAny_mono (run_fn (us := [.ref a, u]) (vs := [.ref a, y]) (dvs := []) F (hr.mono (Nat.le_succ k)) hb2 .nil hx I (.cons rfl (.cons ry .nil)) q) (fun w' s' z => ?_) fun _ _ z => z
  obtain ⟨v, H', I', rv, c, rfl, q'⟩ := z
  cases rv
  exact ⟨c, rfl, .bl c, H', I', rfl, q'⟩
end
end Ow

set_option Elab.async false
set_option linter.all false
set_option maxRecDepth 100000
/-! repr tells plain data apart: whole numbers, words of a to z, lists and tuples of two parts or more. -/
namespace Ow
open PySem L2
def Az (x : Str) : Prop := ∀ c ∈ x.cps.toList, 97 ≤ c ∧ c ≤ 122
def Pl : Nat → PyData → Prop
  | _, .int _ => True
  | _, .str x => Az x
  | n + 1, .list xs => ∀ d ∈ xs, Pl n d
  | n + 1, .tuple xs => 2 ≤ xs.length ∧ ∀ d ∈ xs, Pl n d
  | _, _ => False
def sL (d : PyData) : List Nat := TL.tl d.shown
theorem sL_nat (n : Nat) : sL (.int (n : Int)) = TL.numL n := by
  show TL.tl ((PyData.int (n : Int)).shown) = _
  rw [PyData.shown]; exact TL.tl_num n
theorem sL_neg {i : Int} (h : i < 0) : sL (.int i) = 45 :: TL.numL (-i).toNat := by
  show TL.tl ((PyData.int i).shown) = _
  rw [PyData.shown, PyProof.Rows.toString_neg h, TL.tl_ofString, String.toList_append, List.map_append, ← TL.tl_ofString (toString (0 - i)), show (0 - i) = (((-i).toNat : Nat) : Int) by omega, TL.tl_num]
  rfl
theorem reprChar_az {c : Nat} (h1 : 97 ≤ c) (h2 : c ≤ 122) : Builtin.Str.reprChar 39 c = [c] := by
  have : ∀ c : Fin 26, Builtin.Str.reprChar 39 (97 + c.val) = [97 + c.val] := by decide +kernel
  have := this ⟨c - 97, by omega⟩
  rwa [show 97 + (c - 97) = c by omega] at this
theorem sL_str {x : Str} (h : Az x) : sL (.str x) = 39 :: (x.cps.toList ++ [39]) := by
  have q : reprQuote x = 39 := by
    unfold reprQuote
    rw [show x.cps.contains 39 = false from by
      rw [Bool.eq_false_iff]; intro hc
      have := h 39 (by simpa using hc)
      omega]
    rfl
  have f : ∀ (l : List Nat) (acc : Array Nat), (∀ c ∈ l, 97 ≤ c ∧ c ≤ 122) → (l.foldl (fun out c => out ++ (Builtin.Str.reprChar 39 c).toArray) acc).toList = acc.toList ++ l := by
    intro l
    induction l with
    | nil => intro acc _; simp
    | cons c r ih =>
      intro acc hc
      rw [List.foldl_cons, ih _ (fun x m => hc x (List.mem_cons_of_mem _ m)), reprChar_az (hc c (List.mem_cons_self ..)).1 (hc c (List.mem_cons_self ..)).2]
      simp
  show TL.tl ((PyData.str x).shown) = _
  rw [PyData.shown]
  unfold reprText
  rw [q]
  show ((x.cps.foldl _ #[39]).push 39).toList = _
  rw [Array.toList_push, ← Array.foldl_toList, f _ _ h]
  rfl
def tk (k : Nat) : List PyData → List Nat → List Nat
  | [], r => k :: r
  | d :: ds, r => 44 :: 32 :: (sL d ++ tk k ds r)
def bk (k : Nat) : List PyData → List Nat → List Nat
  | [], r => k :: r
  | d :: ds, r => sL d ++ tk k ds r
theorem text_tk : ∀ (ds : List PyData) (j : Nat) (acc : Str) (r : List Nat), TL.tl (textFrom (j + 1) acc (PyData.shownAll ds)) ++ 93 :: r = TL.tl acc ++ tk 93 ds r
  | [], j, acc, r => by simp only [PyData.shownAll]; rfl
  | d :: ds, j, acc, r => by
    simp only [PyData.shownAll]
    show TL.tl (textFrom (j + 1 + 1) (acc ++ (if j + 1 > 0 then ", " else "" : String) ++ d.shown) (PyData.shownAll ds)) ++ 93 :: r = _
    rw [text_tk ds (j + 1), TL.tl_append, TL.tl_append, if_pos (Nat.succ_pos j), List.append_assoc, List.append_assoc]
    rfl
theorem sL_list (ds : List PyData) (r : List Nat) : sL (.list ds) ++ r = 91 :: bk 93 ds r := by
  show TL.tl ((PyData.list ds).shown) ++ r = _
  rw [PyData.shown]
  unfold listText
  rw [TL.tl_append, List.append_assoc]
  cases ds with
  | nil => simp only [PyData.shownAll]; rfl
  | cons d ds =>
    simp only [PyData.shownAll]
    show TL.tl (textFrom (0 + 1) (("[" : Str) ++ (if 0 > 0 then ", " else "" : String) ++ d.shown) (PyData.shownAll ds)) ++ 93 :: r = _
    rw [text_tk ds 0, TL.tl_append, TL.tl_append, List.append_assoc, List.append_assoc]
    rfl
theorem join_bk : ∀ (d : PyData) (ds : List PyData) (r : List Nat), TL.tl (Str.join ", " (PyData.shownAll (d :: ds))) ++ 41 :: r = bk 41 (d :: ds) r
  | d, [], r => by simp only [PyData.shownAll]; rfl
  | d, e :: ds, r => by
    have h := join_bk e ds r
    simp only [PyData.shownAll] at h ⊢
    show TL.tl (d.shown ++ ", " ++ Str.join ", " (e.shown :: PyData.shownAll ds)) ++ 41 :: r = _
    rw [TL.tl_append, TL.tl_append, List.append_assoc, List.append_assoc, h]
    rfl
theorem sL_tuple {ds : List PyData} (h : 2 ≤ ds.length) (r : List Nat) : sL (.tuple ds) ++ r = 40 :: bk 41 ds r := by
  show TL.tl ((PyData.tuple ds).shown) ++ r = _
  rw [PyData.shown]
  unfold tupleText
  match ds, h with
  | d :: e :: ds, h =>
    rw [← join_bk d (e :: ds) r, TL.tl_append, TL.tl_append, List.append_assoc, List.append_assoc]
    rw [show ((PyData.shownAll (d :: e :: ds)).length == 1) = false from by simp [PyData.shownAll]]
    rfl
theorem pre_split (p : Nat → Prop) : ∀ (a b r r' : List Nat), (∀ c ∈ a, p c) → (∀ c ∈ b, p c) → (∀ c t, r = c :: t → ¬ p c) → (∀ c t, r' = c :: t → ¬ p c) → a ++ r = b ++ r' → a = b ∧ r = r'
  | [], [], _, _, _, _, _, _, h => ⟨rfl, h⟩
  | [], y :: b, r, r', _, hb, hr, _, h => absurd (hb y (List.mem_cons_self ..)) (hr y _ h)
  | x :: a, [], r, r', ha, _, _, hr, h => absurd (ha x (List.mem_cons_self ..)) (hr x _ h.symm)
  | x :: a, y :: b, r, r', ha, hb, hr, hr', h => by
    injection h with h1 h2
    obtain ⟨e1, e2⟩ := pre_split p a b r r' (fun c m => ha c (List.mem_cons_of_mem _ m)) (fun c m => hb c (List.mem_cons_of_mem _ m)) hr hr' h2
    exact ⟨by rw [h1, e1], e2⟩
def Dl (r : List Nat) : Prop := ∀ c t, r = c :: t → c = 44 ∨ c = 93 ∨ c = 41
theorem Dl.tk {k : Nat} (hk : k = 93 ∨ k = 41) : ∀ (ds : List PyData) (r : List Nat), Dl (tk k ds r)
  | [], r => fun c t h => by injection h with h1 h2; omega
  | d :: ds, r => fun c t h => by injection h with h1 h2; omega
theorem num_pre {m n : Nat} {r r' : List Nat} (hr : Dl r) (hr' : Dl r') (h : TL.numL m ++ r = TL.numL n ++ r') : m = n ∧ r = r' := by
  obtain ⟨e, e'⟩ := pre_split (fun c => 48 ≤ c ∧ c ≤ 57) _ _ r r' (TL.numL_digits m) (TL.numL_digits n) (fun c t e => by have := hr c t e; omega) (fun c t e => by have := hr' c t e; omega) h
  exact ⟨TL.numL_inj e, e'⟩
/-- how a plain value's text begins -/
inductive Hd : PyData → Nat → Prop where
  | nat (n : Nat) (c : Nat) (h : 48 ≤ c ∧ c ≤ 57) : Hd (.int (n : Int)) c
  | neg (i : Int) (h : i < 0) : Hd (.int i) 45
  | str (x : Str) : Hd (.str x) 39
  | lst (xs : List PyData) : Hd (.list xs) 91
  | tup (xs : List PyData) : Hd (.tuple xs) 40
theorem hd_of {n : Nat} {d : PyData} (h : Pl n d) (r : List Nat) : ∃ c t, sL d ++ r = c :: t ∧ Hd d c := by
  cases d with
  | int i =>
    by_cases hi : i < 0
    · exact ⟨45, _, by rw [sL_neg hi]; rfl, .neg i hi⟩
    · obtain ⟨m, rfl⟩ : ∃ m : Nat, i = (m : Int) := ⟨i.toNat, by omega⟩
      rw [sL_nat]
      have hne := TL.numL_ne m
      have hd := TL.numL_digits m
      cases hl : TL.numL m with
      | nil => exact absurd hl hne
      | cons c t => exact ⟨c, t ++ r, rfl, .nat m c (hd c (by rw [hl]; exact List.mem_cons_self ..))⟩
  | str x =>
    have h : Az x := by cases n <;> exact h
    exact ⟨39, _, by rw [sL_str h]; rfl, .str x⟩
  | list xs => exact ⟨91, _, sL_list xs r, .lst xs⟩
  | tuple xs =>
    cases n with
    | zero => exact h.elim
    | succ n => exact ⟨40, _, sL_tuple h.1 r, .tup xs⟩
  | _ => cases n <;> exact h.elim
theorem Hd.not_close {d : PyData} {c : Nat} (h : Hd d c) : c ≠ 93 ∧ c ≠ 41 := by cases h <;> omega
theorem bk_pre {n m k : Nat} (hk : k = 93 ∨ k = 41) (ih : ∀ (d e : PyData) (r r' : List Nat), Pl n d → Pl m e → Dl r → Dl r' → sL d ++ r = sL e ++ r' → d = e ∧ r = r') :
    ∀ (ds es : List PyData) (r r' : List Nat), (∀ d ∈ ds, Pl n d) → (∀ d ∈ es, Pl m d) → tk k ds r = tk k es r' → ds = es ∧ r = r'
  | [], [], r, r', _, _, h => by injection h with h1 h2; exact ⟨rfl, h2⟩
  | [], e :: es, r, r', _, _, h => by injection h with h1 h2; omega
  | d :: ds, [], r, r', _, _, h => by injection h with h1 h2; omega
  | d :: ds, e :: es, r, r', hd, he, h => by
    injection h with h1 h2
    injection h2 with h3 h4
    obtain ⟨e1, e2⟩ := ih d e _ _ (hd d (List.mem_cons_self ..)) (he e (List.mem_cons_self ..)) (Dl.tk hk ds r) (Dl.tk hk es r') h4
    obtain ⟨e3, e4⟩ := bk_pre hk ih ds es r r' (fun x m => hd x (List.mem_cons_of_mem _ m)) (fun x m => he x (List.mem_cons_of_mem _ m)) e2
    exact ⟨by rw [e1, e3], e4⟩
theorem bk_pre2 {n m k : Nat} (hk : k = 93 ∨ k = 41) (ih : ∀ (d e : PyData) (r r' : List Nat), Pl n d → Pl m e → Dl r → Dl r' → sL d ++ r = sL e ++ r' → d = e ∧ r = r') :
    ∀ (ds es : List PyData) (r r' : List Nat), (∀ d ∈ ds, Pl n d) → (∀ d ∈ es, Pl m d) → bk k ds r = bk k es r' → ds = es ∧ r = r'
  | [], [], r, r', _, _, h => by injection h with h1 h2; exact ⟨rfl, h2⟩
  | [], e :: es, r, r', _, he, h => by
    obtain ⟨c, t, h1, h2⟩ := hd_of (he e (List.mem_cons_self ..)) (tk k es r')
    have h : k :: r = sL e ++ tk k es r' := h
    rw [h1] at h
    injection h with h3 h4
    have := h2.not_close
    omega
  | d :: ds, [], r, r', hd, _, h => by
    obtain ⟨c, t, h1, h2⟩ := hd_of (hd d (List.mem_cons_self ..)) (tk k ds r)
    have h : sL d ++ tk k ds r = k :: r' := h
    rw [h1] at h
    injection h with h3 h4
    have := h2.not_close
    omega
  | d :: ds, e :: es, r, r', hd, he, h => by
    obtain ⟨e1, e2⟩ := ih d e _ _ (hd d (List.mem_cons_self ..)) (he e (List.mem_cons_self ..)) (Dl.tk hk ds r) (Dl.tk hk es r') h
    obtain ⟨e3, e4⟩ := bk_pre hk ih ds es r r' (fun x m => hd x (List.mem_cons_of_mem _ m)) (fun x m => he x (List.mem_cons_of_mem _ m)) e2
    exact ⟨by rw [e1, e3], e4⟩
theorem sh_pre : ∀ (n m : Nat) (d e : PyData) (r r' : List Nat), Pl n d → Pl m e → Dl r → Dl r' → sL d ++ r = sL e ++ r' → d = e ∧ r = r' := by
  intro n
  induction n with
  | zero =>
    intro m d e r r' hd he hr hr' h
    obtain ⟨c, t, h1, h2⟩ := hd_of hd r
    obtain ⟨c', t', h1', h2'⟩ := hd_of he r'
    have hc : c = c' := by rw [h1, h1'] at h; injection h
    subst hc
    cases h2 with
    | nat a c hc =>
      generalize hz : c = c1 at h2'
      cases h2' with
      | nat b _ hc' => rw [sL_nat, sL_nat] at h; obtain ⟨e1, e2⟩ := num_pre hr hr' h; exact ⟨by rw [e1], e2⟩
      | _ => omega
    | neg i hi =>
      generalize hz : 45 = c1 at h2'
      cases h2' with
      | neg j hj =>
        rw [sL_neg hi, sL_neg hj] at h
        injection h with _ h
        obtain ⟨e1, e2⟩ := num_pre hr hr' h
        exact ⟨by rw [show i = j by omega], e2⟩
      | _ => omega
    | str x =>
      generalize hz : 39 = c1 at h2'
      cases h2' with
      | str y =>
        have hx : Az x := hd
        have hy : Az y := by cases m <;> exact he
        rw [sL_str hx, sL_str hy] at h
        injection h with _ h
        have h : x.cps.toList ++ [39] ++ r = y.cps.toList ++ [39] ++ r' := h
        rw [List.append_assoc, List.append_assoc] at h
        obtain ⟨e1, e2⟩ := pre_split (fun c => 97 ≤ c ∧ c ≤ 122) _ _ _ _ hx hy (fun c t e => by injection e with e1 e2; omega) (fun c t e => by injection e with e1 e2; omega) h
        injection e2 with _ e2
        exact ⟨by rw [show x = y from TL.ext_tl e1], e2⟩
      | _ => omega
    | lst xs => exact hd.elim
    | tup xs => exact hd.elim
  | succ n ih =>
    intro m d e r r' hd he hr hr' h
    obtain ⟨c, t, h1, h2⟩ := hd_of hd r
    obtain ⟨c', t', h1', h2'⟩ := hd_of he r'
    have hc : c = c' := by rw [h1, h1'] at h; injection h
    subst hc
    cases h2 with
    | nat a c hc =>
      generalize hz : c = c1 at h2'
      cases h2' with
      | nat b _ hc' => rw [sL_nat, sL_nat] at h; obtain ⟨e1, e2⟩ := num_pre hr hr' h; exact ⟨by rw [e1], e2⟩
      | _ => omega
    | neg i hi =>
      generalize hz : 45 = c1 at h2'
      cases h2' with
      | neg j hj =>
        rw [sL_neg hi, sL_neg hj] at h
        injection h with _ h
        obtain ⟨e1, e2⟩ := num_pre hr hr' h
        exact ⟨by rw [show i = j by omega], e2⟩
      | _ => omega
    | str x =>
      generalize hz : 39 = c1 at h2'
      cases h2' with
      | str y =>
        have hx : Az x := hd
        have hy : Az y := by cases m <;> exact he
        rw [sL_str hx, sL_str hy] at h
        injection h with _ h
        have h : x.cps.toList ++ [39] ++ r = y.cps.toList ++ [39] ++ r' := h
        rw [List.append_assoc, List.append_assoc] at h
        obtain ⟨e1, e2⟩ := pre_split (fun c => 97 ≤ c ∧ c ≤ 122) _ _ _ _ hx hy (fun c t e => by injection e with e1 e2; omega) (fun c t e => by injection e with e1 e2; omega) h
        injection e2 with _ e2
        exact ⟨by rw [show x = y from TL.ext_tl e1], e2⟩
      | _ => omega
    | lst xs =>
      generalize hz : 91 = c1 at h2'
      cases h2' with
      | lst ys =>
        cases m with
        | zero => exact he.elim
        | succ m =>
          rw [sL_list, sL_list] at h
          injection h with _ h
          obtain ⟨e1, e2⟩ := bk_pre2 (.inl rfl) (fun d e r r' => ih m d e r r') xs ys r r' hd he h
          exact ⟨by rw [e1], e2⟩
      | _ => omega
    | tup xs =>
      generalize hz : 40 = c1 at h2'
      cases h2' with
      | tup ys =>
        cases m with
        | zero => exact he.elim
        | succ m =>
          rw [sL_tuple hd.1, sL_tuple he.1] at h
          injection h with _ h
          obtain ⟨e1, e2⟩ := bk_pre2 (.inr rfl) (fun d e r r' => ih m d e r r') xs ys r r' hd.2 he.2 h
          exact ⟨by rw [e1], e2⟩
      | _ => omega
theorem shown_pl {n m : Nat} {d e : PyData} (hd : Pl n d) (he : Pl m e) : d.shown = e.shown ↔ d = e :=
  ⟨fun h => (sh_pre n m d e [] [] hd he (fun _ _ h => nomatch h) (fun _ _ h => nomatch h) (by unfold sL; rw [h])).1, fun h => by rw [h]⟩
theorem eqv_pl : ∀ (n m : Nat) (d e : PyData), Pl n d → Pl m e → (PyData.eqv d e = true ↔ d = e) := by
  have all : ∀ (n m : Nat), (∀ d e, Pl n d → Pl m e → (PyData.eqv d e = true ↔ d = e)) → ∀ ds es : List PyData, (∀ d ∈ ds, Pl n d) → (∀ d ∈ es, Pl m d) → (PyData.eqvAll ds es = true ↔ ds = es) := by
    intro n m ih ds
    induction ds with
    | nil => intro es _ _; cases es <;> simp [PyData.eqvAll]
    | cons d ds ih2 =>
      intro es hd he
      cases es with
      | nil => simp [PyData.eqvAll]
      | cons e es =>
        simp only [PyData.eqvAll, Bool.and_eq_true, List.cons.injEq]
        rw [ih d e (hd d (List.mem_cons_self ..)) (he e (List.mem_cons_self ..)), ih2 es (fun x m => hd x (List.mem_cons_of_mem _ m)) (fun x m => he x (List.mem_cons_of_mem _ m))]
  intro n
  induction n with
  | zero =>
    intro m d e hd he
    cases d with
    | int i => cases e <;> first | (cases m <;> exact he.elim) | simp [PyData.eqv]
    | str x => cases e <;> first | (cases m <;> exact he.elim) | simp [PyData.eqv]
    | _ => exact hd.elim
  | succ n ih =>
    intro m d e hd he
    cases d with
    | int i => cases e <;> first | (cases m <;> exact he.elim) | simp [PyData.eqv]
    | str x => cases e <;> first | (cases m <;> exact he.elim) | simp [PyData.eqv]
    | list xs =>
      cases e with
      | list ys =>
        cases m with
        | zero => exact he.elim
        | succ m => simp only [PyData.eqv, PyData.list.injEq]; exact all n m (ih m) xs ys hd he
      | _ => first | (cases m <;> exact he.elim) | simp [PyData.eqv]
    | tuple xs =>
      cases e with
      | tuple ys =>
        cases m with
        | zero => exact he.elim
        | succ m => simp only [PyData.eqv, PyData.tuple.injEq]; exact all n m (ih m) xs ys hd.2 he.2
      | _ => first | (cases m <;> exact he.elim) | simp [PyData.eqv]
    | _ => exact hd.elim
end Ow

set_option Elab.async false
set_option linter.all false
set_option maxRecDepth 100000
/-! More steps: lists of texts, extend, pop, while. -/
namespace Ow
open PySem L2
theorem w_catV9 {H : Hp} {Q : VK} {a b : Addr} {xs ys : List V} (h : H a = some (.lst xs)) (h' : H b = some (.lst ys)) (hl : xs.length + ys.length ≤ 100000) (q : ∀ p H', H p = none → Ch p (.lst (xs ++ ys)) H H' → Q (.ref p) H') : rCat (.ref a) (.ref b) H Q :=
  ⟨a, b, _, _, rfl, rfl, h, h', Nat.le_trans hl (by decide), fun p hp => q p _ hp Ch.upd⟩
theorem w_extend {H : Hp} {Q : VK} {a b : Addr} {xs ys : List V} (h : H a = some (.lst xs)) (h' : H b = some (.lst ys)) (hl : xs.length + ys.length ≤ 100000) (q : ∀ H', Ch a (.lst (xs ++ ys)) H H' → Q .non H') : rExtend (.ref a) [.ref b] H Q :=
  ⟨a, b, xs, ys, rfl, rfl, h, h', Nat.le_trans hl (by decide), q _ Ch.upd⟩
theorem w_pop {H : Hp} {Q : VK} {a : Addr} {xs : List V} {y : V} (h : H a = some (.lst (xs ++ [y]))) (q : ∀ H', Ch a (.lst xs) H H' → Q y H') : rPop (.ref a) [] H Q := by
  refine ⟨a, _, y, rfl, rfl, h, ?_, ?_⟩
  · rw [List.length_append, List.length_singleton, Nat.add_sub_cancel, List.getElem?_append_right (Nat.le_refl _), Nat.sub_self]; rfl
  · rw [List.dropLast_concat]; exact q _ Ch.upd
theorem inV_strs (s : Str) (os : List Str) : inV (.str s) (os.map V.str) = decide (s ∈ os) := by
  by_cases h : s ∈ os
  · rw [decide_eq_true h]
    unfold inV
    rw [List.any_eq_true]
    exact ⟨.str s, List.mem_map_of_mem h, by show (s == s) = true; exact beq_self_eq_true s⟩
  · rw [decide_eq_false h]
    unfold inV
    rw [List.any_eq_false]
    intro x hx
    obtain ⟨i, hi, rfl⟩ := List.mem_map.mp hx
    show ¬ (i == s) = true
    intro e
    exact h ((beq_iff_eq.mp e) ▸ hi)
theorem flat_strs9 (ns : List Str) : (ns.map V.str).all flatV = true := by
  induction ns with
  | nil => rfl
  | cons n r ih => show (true && (r.map V.str).all flatV) = true; rw [ih]; rfl
theorem w_inStrs {K : PySem.W.Frag} {p : Addr} {s : Str} {ns : List Str} {neg : Bool} {H : Hp} {Q : VK} (h : H p = some (.lst (ns.map V.str))) (q : Q (.bl (if neg then !decide (s ∈ ns) else decide (s ∈ ns))) H) : rIn K neg (.str s) (.ref p) H Q :=
  ⟨p, _, rfl, .inl (SqL.of h), rfl, flat_strs9 ns, by rw [inV_strs]; exact q⟩
theorem w_ixStr {K : PySem.W.Frag} {a : Addr} {ns : List Str} {i : Int} {H : Hp} {Q : VK} (h : H a = some (.lst (ns.map V.str))) (h0 : 0 ≤ i) (h1 : i < ns.length) (q : ∀ x, ns[i.toNat]? = some x → Q (.str x) H) : rIxL K (.ref a) (.int i) H Q := by
  obtain ⟨x, e⟩ := at_some h0 h1
  exact w_ixL (SqL.of h) (atI_of h0 (by rw [List.getElem?_map, e]; rfl)) (q x e)
theorem dp_strs {K : PySem.W.Frag} {H : Hp} {a : Addr} {ns : List Str} (h : H a = some (.lst (ns.map V.str))) : Dp K H (.ref a) (.list (ns.map PyData.str)) := by
  refine .lst (SqL.of h) ?_
  have : ∀ ns : List Str, DpAll K H (ns.map V.str) (ns.map PyData.str) := fun ns => by
    induction ns with
    | nil => exact .nil
    | cons n ns ih => exact .cons (.str n) ih
  exact this ns
section
variable {nx : St → Hp → Prop} {rt : VK} {bk ct : St → Hp → Prop} {σ : St} {H : Hp}
def whileK (c : TT) (tb : TS) (nx : St → Hp → Prop) (rt : VK) (σ : St) (H : Hp) : Prop := ∃ W : Nat → St → Hp → Prop, (∃ m, W m σ H) ∧ ∀ m σ H, W m σ H →
  c σ H fun b H' => if b = true then ∃ N : St → Hp → Prop, (∀ σ' H'', N σ' H'' → ∃ m', m' < m ∧ W m' σ' H'') ∧ tb ⟨N, rt, nx, N⟩ σ H' else nx σ H'
theorem w_while {c : TT} {tb : TS} (h : whileK c tb nx rt σ H) : tWhile c tb ⟨nx, rt, bk, ct⟩ σ H := h
/-- the body's end brings what holds, with a lower number -/
def lowK (W : Nat → St → Hp → Prop) (m : Nat) (σ : St) (H : Hp) : Prop := ∃ m', m' < m ∧ W m' σ H
end
def signsL : List Nat := [65, 49]
theorem tx_e : Tx 0 "" := ⟨by decide +kernel, by decide +kernel⟩
theorem tx_sp : Tx 1 " " := ⟨by decide +kernel, by decide +kernel⟩
end Ow

set_option Elab.async false
set_option linter.all false
set_option maxRecDepth 100000
namespace Ow
open PySem L2
structure Ad where
  c_Rule : Addr
/-- what the written part says of the classes -/
structure RuleK (K : PySem.W.Frag) (Z : Ad) : Prop where
  cl : Cls K Z.c_Rule
  np : NoAttr K Z.c_Rule "_people"
  nc : NoAttr K Z.c_Rule "_cents"
  nn : NoAttr K Z.c_Rule "_nexts"
  nw : NoAttr K Z.c_Rule "_weight"
  ic : C8.InsC K Z.c_Rule
  nk_tuple : PySem.W.kitOne K (.type "tuple") (.ref Z.c_Rule) = some false
  nf_tuple : PySem.W.notFirst K Z.c_Rule (.type "tuple") = true
  nk_list : PySem.W.kitOne K (.type "list") (.ref Z.c_Rule) = some false
  nf_list : PySem.W.notFirst K Z.c_Rule (.type "list") = true
  nk_str : PySem.W.kitOne K (.type "str") (.ref Z.c_Rule) = some false
  nf_str : PySem.W.notFirst K Z.c_Rule (.type "str") = true
  nk_NoneType : PySem.W.kitOne K (.type "NoneType") (.ref Z.c_Rule) = some false
  nf_NoneType : PySem.W.notFirst K Z.c_Rule (.type "NoneType") = true
  nk_int : PySem.W.kitOne K (.type "int") (.ref Z.c_Rule) = some false
  nf_int : PySem.W.notFirst K Z.c_Rule (.type "int") = true
  nk_bool : PySem.W.kitOne K (.type "bool") (.ref Z.c_Rule) = some false
  nf_bool : PySem.W.notFirst K Z.c_Rule (.type "bool") = true
  nb_tuple : PySem.W.subIn K (.ref Z.c_Rule) (.type "tuple") = some false
  nb_list : PySem.W.subIn K (.ref Z.c_Rule) (.type "list") = some false
  nb_str : PySem.W.subIn K (.ref Z.c_Rule) (.type "str") = some false
  nb_NoneType : PySem.W.subIn K (.ref Z.c_Rule) (.type "NoneType") = some false
  nb_int : PySem.W.subIn K (.ref Z.c_Rule) (.type "int") = some false
  nb_bool : PySem.W.subIn K (.ref Z.c_Rule) (.type "bool") = some false
/-- one step after another, as far as nothing is to be said -/
local macro_rules | `(tactic| walk_at "go") => `(tactic| (repeat (with_reducible first
  | refine w_seq ?_ | refine w_asg ?_ | refine w_ret ?_ | refine w_if ?_ | refine w_next ?_ | refine w_drop ?_
  | refine w_var (by with_unfolding_all rfl) ?_ | refine w_c ?_ | refine w_op ?_ | refine w_cons ?_ | refine w_nil ?_ | refine w_cb ?_ | refine w_call ?_
  | refine w_name (by simp only [List.set_cons_zero, List.set_cons_succ]; exact rfl) ?_
  | refine w_add ?_ | refine w_sub ?_ | refine w_lt ?_ | refine w_le ?_ | refine w_gt ?_ | refine w_ge ?_ | refine w_eqI ?_ | refine w_neI ?_
  | refine w_test ?_ | refine w_testK ?_ | refine w_tB ?_ | refine w_intI ?_ | refine w_intB ?_ | refine w_max2 ?_ | refine w_min2 ?_
  | refine w_lst ?_ | refine w_tup ?_ | refine w_gSub ?_ | refine w_fld ?_ | refine w_un ?_ | refine w_neg ?_ | refine w_par ?_ | refine w_tIf ?_ | refine w_and ?_ | refine w_or ?_ | refine w_not ?_
  | refine w_mod (by omega) ?_ | refine w_div (cdiv (by omega) (by omega)) ?_ | refine w_mul (cmulL (by omega) (by omega)) ?_ | refine w_mul (cmulR (by omega) (by omega)) ?_ | refine w_pow (cpow (by omega) (by omega) (by omega) (by omega)) ?_
  | refine w_ixL (SqL.of (by assumption)) (by with_unfolding_all rfl) ?_)))

def sp__law_draw (K : PySem.W.Frag) (Z : Ad) : Sp := fun vs H Q _ => ∃ (w : Addr) (k : Nat) (m : Int), vs = [.ref w, .int m] ∧ Well H w k ∧ k < 1099511627776 ∧ 0 < m ∧ m < 1073741824 ∧
  ∀ r H', 0 ≤ r → r < m → Kw w H H' → Well H' w (k + 1) → Q (.int r) H'
abbrev N__law_draw : List Str := ["well", "many", "mixed", "digit"]
def t__law_draw (K : PySem.W.Frag) (Z : Ad) : TS :=
  (tSeq (tIfS (tTest (tOp oGt (tOp (rIxL K) (tVar 0) (tC (.int 0))) (tC (.int 1)))) (tSeq (tAsg (tOp oMod (tCB rInt1 (tCons (tOp (rIxL K) (tVar 0) (tC (.int 0))) tNil)) (tVar 1)) (gName 3)) (tSeq (tAsg (tOp oDiv (tOp (rIxL K) (tVar 0) (tC (.int 0))) (tVar 1)) (gSub (tVar 0) (tC (.int 0)) rSetL)) (tRet (tVar 3)))) tNext) (tSeq (tAsg (tOp oAdd (tOp (rIxL K) (tVar 0) (tC (.int 2))) (tC (.int 1))) (gSub (tVar 0) (tC (.int 2)) rSetL)) (tSeq (tAsg (tOp oAdd (tOp (rIxL K) (tVar 0) (tC (.int 1))) (tOp oMul (tOp oMul (tC (.int 999999937)) (tOp (rIxL K) (tVar 0) (tC (.int 2)))) (tOp (rIxL K) (tVar 0) (tC (.int 2))))) (gName 2)) (tSeq (tAsg (tOp oMod (tCB rInt1 (tCons (tOp oAdd (tVar 2) (tOp oMul (tC (.int 15485863)) (tOp (rIxL K) (tVar 0) (tC (.int 2))))) tNil)) (tC (.int 1000000000000000003))) (gName 2)) (tSeq (tAsg (tOp oMod (tCB rInt1 (tCons (tOp oAdd (tOp oPow (tVar 2) (tC (.int 5))) (tVar 2)) tNil)) (tC (.int 1000000000000000009))) (gName 2)) (tSeq (tAsg (tOp oMod (tCB rInt1 (tCons (tOp oPow (tVar 2) (tC (.int 3))) tNil)) (tC (.int 2305843009213693951))) (gName 2)) (tRet (tOp oMod (tCB rInt1 (tCons (tOp oDiv (tVar 2) (tC (.int 1024))) tNil)) (tVar 1)))))))))
theorem l__law_draw {K : PySem.W.Frag} {Z : Ad} {vs : List V} {H : Hp} {Q : VK} {E : XK} : sp__law_draw K Z vs H Q E → vs.length = 2 := by
  rintro ⟨_, _, _, rfl, _⟩; rfl
theorem r__law_draw {K : PySem.W.Frag} {Z : Ad} {vs : List V} {H : Hp} {Q : VK} {E : XK} (R : RuleK K Z) (h : sp__law_draw K Z vs H Q E) : t__law_draw K Z { nx := fun _ H' => Q .non H', rt := Q } (start N__law_draw vs) H := by
  obtain ⟨w, k, m, rfl, ⟨a, b, n, hn, hw⟩, hk, m0, m1, q⟩ := h
  show t__law_draw K Z _ [some (.ref w), some (.int m), none, none] H
  unfold t__law_draw
  walk_at "go"
  refine w_ite (fun _ => ?_) fun _ => ?_
  · walk_at "go"
    refine w_setN hw (by with_unfolding_all rfl) (by with_unfolding_all rfl) fun H1 c => ?_
    walk_at "go"
    exact q _ _ (Int.emod_nonneg _ (by omega)) (Int.emod_lt_of_pos _ m0) (Kw.refl.chw c) ⟨_, _, n, by omega, c.at_⟩
  · walk_at "go"
    refine w_setN (ys := [.int a, .int b, .int ((n + 1 : Nat) : Int)]) hw (by with_unfolding_all rfl) (by with_unfolding_all rfl) fun H1 c => ?_
    have hw' := c.at_
    walk_at "go"
    generalize hx : (_ : Int) % 1000000000000000003 = x
    have x0 : 0 ≤ x := hx ▸ Int.emod_nonneg _ (by decide)
    have x1 : x < 1000000000000000003 := hx ▸ Int.emod_lt_of_pos _ (by decide)
    clear hx
    walk_at "go"
    generalize hy : (_ : Int) % 1000000000000000009 = y
    have y0 : 0 ≤ y := hy ▸ Int.emod_nonneg _ (by decide)
    have y1 : y < 1000000000000000009 := hy ▸ Int.emod_lt_of_pos _ (by decide)
    clear hy
    walk_at "go"
    exact q _ _ (Int.emod_nonneg _ (by omega)) (Int.emod_lt_of_pos _ m0) (Kw.refl.chw c) ⟨_, _, n + 1, by omega, c.at_⟩
def sp__law_well (K : PySem.W.Frag) (Z : Ad) : Sp := fun vs H Q _ => ∃ (a : Addr) (ns : List Int) (p : Int), vs = [.ref a, .int p] ∧ SqL K H a (ns.map V.int) ∧ 0 ≤ p ∧ p < 64 ∧
  ∀ l H', H l = none → Same H H' → Well H' l 0 → Q (.ref l) H'
abbrev N__law_well : List Str := ["script", "place", "cell"]
def t__law_well (K : PySem.W.Frag) (Z : Ad) : TS :=
  (tSeq (tAsg (tIf (tTest (tOp oLt (tVar 1) (tCB (rLen K) (tCons (tVar 0) tNil)))) (tOp (rIxL K) (tVar 0) (tVar 1)) (tC (.int 0))) (gName 2)) (tRet (tLst (tCons (tCB rMax2 (tCons (tC (.int 1)) (tCons (tOp oSub (tVar 2) (tOp oPow (tC (.int 10)) (tC (.int 18)))) tNil))) (tCons (tOp oAdd (tOp oAdd (tOp oMul (tC (.int 1000003)) (tVar 2)) (tOp oMul (tC (.int 998244353)) (tVar 1))) (tC (.int 7))) (tCons (tC (.int 0)) tNil))))))
theorem l__law_well {K : PySem.W.Frag} {Z : Ad} {vs : List V} {H : Hp} {Q : VK} {E : XK} : sp__law_well K Z vs H Q E → vs.length = 2 := by
  rintro ⟨_, _, _, rfl, _⟩; rfl
theorem r__law_well {K : PySem.W.Frag} {Z : Ad} {vs : List V} {H : Hp} {Q : VK} {E : XK} (R : RuleK K Z) (h : sp__law_well K Z vs H Q E) : t__law_well K Z { nx := fun _ H' => Q .non H', rt := Q } (start N__law_well vs) H := by
  obtain ⟨a, ns, p, rfl, hs, p0, p1, q⟩ := h
  show t__law_well K Z _ [some (.ref a), some (.int p), none] H
  unfold t__law_well
  have rest : ∀ c : Int, tRet (tLst (tCons (tCB rMax2 (tCons (tC (.int 1)) (tCons (tOp oSub (tVar 2) (tOp oPow (tC (.int 10)) (tC (.int 18)))) tNil))) (tCons (tOp oAdd (tOp oAdd (tOp oMul (tC (.int 1000003)) (tVar 2)) (tOp oMul (tC (.int 998244353)) (tVar 1))) (tC (.int 7))) (tCons (tC (.int 0)) tNil))))
      ⟨fun _ H' => Q .non H', Q, fun _ _ => False, fun _ _ => False⟩ [some (.ref a), some (.int p), some (.int c)] H := by
    intro c
    walk_at "go"
    exact w_lstN (by show 3 ≤ 100000; decide) fun l H' hl ch => q l H' hl (ch.same hl) ⟨_, _, 0, Nat.le_refl _, ch.at_⟩
  walk_at "go"
  refine w_len hs ?_
  walk_at "go"
  refine w_ite (fun hp => ?_) fun _ => ?_
  · walk_at "go"
    rw [List.length_map] at hp
    refine w_ixL (v := .int (ns.getD p.toNat 0)) hs ?_ ?_
    · have e : p = (p.toNat : Int) := by omega
      rw [e]
      refine atI_nat ?_
      have hl : p.toNat < ns.length := by omega
      rw [List.getElem?_map, List.getElem?_eq_getElem hl, Int.toNat_natCast, List.getD_eq_getElem?_getD, List.getElem?_eq_getElem hl]
      rfl
    · refine w_name (by simp only [List.set_cons_zero, List.set_cons_succ]; exact rfl) ?_
      exact rest _
  · refine w_c ?_
    refine w_name (by simp only [List.set_cons_zero, List.set_cons_succ]; exact rfl) ?_
    exact rest _
end Ow

set_option Elab.async false
set_option linter.all false
set_option maxRecDepth 100000
namespace Ow
open PySem L2
local macro_rules | `(tactic| walk_at "go") => `(tactic| (repeat (with_reducible first
  | refine w_seq ?_ | refine w_asg ?_ | refine w_ret ?_ | refine w_if ?_ | refine w_next ?_ | refine w_drop ?_
  | refine w_var (by with_unfolding_all rfl) ?_ | refine w_c ?_ | refine w_op ?_ | refine w_cons ?_ | refine w_nil ?_ | refine w_cb ?_ | refine w_call ?_
  | refine w_name (by simp only [List.set_cons_zero, List.set_cons_succ]; exact rfl) ?_
  | refine w_add ?_ | refine w_sub ?_ | refine w_lt ?_ | refine w_le ?_ | refine w_gt ?_ | refine w_ge ?_ | refine w_eqI ?_ | refine w_neI ?_
  | refine w_test ?_ | refine w_testK ?_ | refine w_tB ?_ | refine w_intI ?_ | refine w_intB ?_ | refine w_max2 ?_ | refine w_min2 ?_
  | refine w_lst ?_ | refine w_tup ?_ | refine w_gSub ?_ | refine w_fld ?_ | refine w_un ?_ | refine w_neg ?_ | refine w_par ?_ | refine w_tIf ?_ | refine w_and ?_ | refine w_or ?_ | refine w_not ?_
  | refine w_mod (by omega) ?_ | refine w_div (cdiv (by omega) (by omega)) ?_ | refine w_mul (cmulL (by omega) (by omega)) ?_ | refine w_mul (cmulR (by omega) (by omega)) ?_ | refine w_pow (cpow (by omega) (by omega) (by omega) (by omega)) ?_
  | refine w_ixL (SqL.of (by assumption)) (by with_unfolding_all rfl) ?_)))
theorem w_draw {K : PySem.W.Frag} {Z : Ad} {w : Addr} {k : Nat} {m : Int} {H : Hp} {Q : VK} {E : XK} (W : Well H w k) (hk : k < 1099511627776) (m0 : 0 < m) (m1 : m < 1073741824)
    (q : ∀ r H', 0 ≤ r → r < m → Kw w H H' → Well H' w (k + 1) → Q (.int r) H') : sp__law_draw K Z [.ref w, .int m] H Q E := ⟨w, k, m, rfl, W, hk, m0, m1, q⟩
theorem strs_mk {S : Addr → Prop} {H : Hp} {a : Addr} {ns : List Str} (s : S a) (h : H a = some (.lst (ns.map V.str))) : fL fS S H (.ref a) ns := ⟨a, _, rfl, s, h, All2.map_eq⟩
theorem strs_of {S : Addr → Prop} {H : Hp} {v : V} {ns : List Str} (h : fL fS S H v ns) : ∃ a, v = .ref a ∧ S a ∧ H a = some (.lst (ns.map V.str)) := by
  obtain ⟨a, vs, e, s, h, r⟩ := h
  exact ⟨a, e, s, by rw [h, All2.eq_map r]⟩
def one (c : Nat) : Str := ⟨#[c]⟩
def menu : List Str := ["ann", "bob", "cy", "an", "anna", "b", "bo", "a"]
instance (s : Str) : Decidable (OkName s) := decidable_of_iff (1 ≤ s.length ∧ s.length ≤ 8 ∧ Low s) ⟨fun h => ⟨h.1, h.2.1, h.2.2⟩, fun h => ⟨h.1, h.2, h.3⟩⟩
theorem menu_ok : ∀ i, i < 8 → ∃ s, menu[i]? = some s ∧ OkName s := by
  have h : ∀ i, i < 8 → OkName (menu.getD i "") := by decide +kernel
  intro i hi
  have := h i hi
  refine ⟨menu.getD i "", ?_, this⟩
  rw [List.getD_eq_getElem?_getD, List.getElem?_eq_getElem hi]
  rfl
theorem menu_dist : ∀ i, i < 8 → ∀ j, j < 8 → menu.getD i "" = menu.getD j "" → i = j := by decide +kernel
structure Titles (m : Int) (xs : List Str) : Prop where
  len : (xs.length : Int) = m
  dist : Dist xs
  ok : ∀ s ∈ xs, OkName s
theorem titles_map {m : Int} {f : Nat → Str} (m0 : 0 ≤ m) (inj : ∀ i j, i < m.toNat → j < m.toNat → f i = f j → i = j) (ok : ∀ i, i < m.toNat → OkName (f i)) : Titles m ((List.range m.toNat).map f) :=
  ⟨by rw [List.length_map, List.length_range]; omega, dist_map inj, fun s hs => by
    obtain ⟨i, hi, rfl⟩ := List.mem_map.mp hs
    exact ok i (List.mem_range.mp hi)⟩
theorem len_prele {z : Str} {k : Int} (h0 : 0 ≤ k) : (cutS z none (some k)).length ≤ k.toNat := by
  have e : k = (k.toNat : Int) := by omega
  rw [len_eq, cut_list, e, HT.sIx_nat, HT.sIx_none, List.length_take, Int.toNat_natCast]
  omega
theorem len_preI {z : Str} {k : Int} (h0 : 0 ≤ k) (h : k ≤ z.length) : ((cutS z none (some k)).length : Int) = k := by
  have e : k = (k.toNat : Int) := by omega
  rw [e, len_pre (by omega)]
theorem len_mid {z : Str} {a b : Int} (h0 : 0 ≤ a) (h : a ≤ b) (hb : b ≤ z.length) : ((cutS z (some a) (some b)).length : Int) = b - a := by
  have e : a = (a.toNat : Int) := by omega
  have e2 : b = (b.toNat : Int) := by omega
  rw [e, e2, len_eq, cut_list, HT.sIx_nat, HT.sIx_nat, List.length_take, List.length_drop, ← len_eq]
  omega
def sp__law_titles (K : PySem.W.Frag) (Z : Ad) : Sp := fun vs H Q _ => ∃ (w : Addr) (k : Nat) (m : Int), vs = [.ref w, .int m] ∧ Well H w k ∧ k < 1000000000000 ∧ 1 ≤ m ∧ m ≤ 8 ∧
  ∀ v xs H', Kw w H H' → Well H' w (k + 100) → fL fS (New H) H' v xs → Titles m xs → Q v H'
abbrev N__law_titles : List Str := ["well", "many", "letters", "way", "start", "stem", "length", "spot", "found", "rank", "menu", "ahead", "behind", "tail", "turn"]
def t__law_titles (K : PySem.W.Frag) (Z : Ad) : TS :=
  (tSeq (tAsg (tTup (tCons (tC (.str "abcdefghijklmnopqrstuvwxyz")) (tCons (tCall (sp__law_draw K Z) [] E0 (tCons (tVar 0) (tCons (tC (.int 4)) tNil))) (tCons (tCall (sp__law_draw K Z) [] E0 (tCons (tVar 0) (tCons (tC (.int 26)) tNil))) tNil)))) (gTup K 3 (gCons (gName 2) (gCons (gName 3) (gCons (gName 4) gNil))))) (tSeq (tIfS (tTest (tOp rEq (tVar 3) (tC (.int 0)))) (tSeq (tAsg (tLst (tCons (tC (.str "ann")) (tCons (tC (.str "bob")) (tCons (tC (.str "cy")) (tCons (tC (.str "an")) (tCons (tC (.str "anna")) (tCons (tC (.str "b")) (tCons (tC (.str "bo")) (tCons (tC (.str "a")) tNil))))))))) (gName 10)) (tRet (tLc (iRng1 (tCons (tVar 1) tNil)) (gName 9) tYes (tOp (rIxL K) (tVar 10) (tOp oMod (tCB rInt1 (tCons (tOp oAdd (tVar 4) (tOp oMul (tC (.int 3)) (tVar 9))) tNil)) (tC (.int 8)))) [9]))) tNext) (tSeq (tAsg (tJoin K (tC (.str "")) (tLc (iRng1 (tCons (tC (.int 8)) tNil)) (gName 14) tYes (tOp rIxS (tVar 2) (tCall (sp__law_draw K Z) [] E0 (tCons (tVar 0) (tCons (tC (.int 26)) tNil)))) [14])) (gName 5)) (tSeq (tIfS (tTest (tOp rEq (tVar 3) (tC (.int 1)))) (tRet (tLc (iRng1 (tCons (tVar 1) tNil)) (gName 9) tYes (tSl rSlS (tVar 5) tNoPart (tPart (tOp oAdd (tC (.int 1)) (tOp oMod (tCB rInt1 (tCons (tOp oAdd (tVar 4) (tOp oMul (tC (.int 5)) (tVar 9))) tNil)) (tC (.int 8)))))) [9])) tNext) (tSeq (tAsg (tOp oAdd (tC (.int 1)) (tCall (sp__law_draw K Z) [] E0 (tCons (tVar 0) (tCons (tC (.int 8)) tNil)))) (gName 6)) (tSeq (tAsg (tCall (sp__law_draw K Z) [] E0 (tCons (tVar 0) (tCons (tVar 6) tNil))) (gName 7)) (tSeq (tIfS (tTest (tOp rEq (tVar 3) (tC (.int 2)))) (tSeq (tAsg (tTup (tCons (tSl rSlS (tVar 5) tNoPart (tPart (tVar 7))) (tCons (tSl rSlS (tVar 5) (tPart (tOp oAdd (tVar 7) (tC (.int 1)))) (tPart (tVar 6))) tNil))) (gTup K 2 (gCons (gName 11) (gCons (gName 12) gNil)))) (tRet (tLc (iRng1 (tCons (tVar 1) tNil)) (gName 9) tYes (tOp oCatS (tOp oCatS (tVar 11) (tOp rIxS (tVar 2) (tOp oMod (tCB rInt1 (tCons (tOp oAdd (tVar 4) (tOp oMul (tC (.int 7)) (tVar 9))) tNil)) (tC (.int 26))))) (tVar 12)) [9]))) tNext) (tSeq (tAsg (tLst tNil) (gName 8)) (tSeq (tFor (iRng1 (tCons (tVar 1) tNil)) (gName 9) (tSeq (tAsg (tSl rSlS (tSl rSlS (tVar 5) (tPart (tCall (sp__law_draw K Z) [] E0 (tCons (tVar 0) (tCons (tC (.int 8)) tNil)))) tNoPart) tNoPart (tPart (tCall (sp__law_draw K Z) [] E0 (tCons (tVar 0) (tCons (tC (.int 8)) tNil))))) (gName 13)) (tDrop (tBM K "list" rAppend (tVar 8) (tCons (tOp oCatS (tOp rIxS (tVar 2) (tOp oMod (tCB rInt1 (tCons (tOp oAdd (tVar 4) (tOp oMul (tC (.int 7)) (tVar 9))) tNil)) (tC (.int 26)))) (tVar 13)) tNil))))) (tRet (tVar 8)))))))))))
theorem l__law_titles {K : PySem.W.Frag} {Z : Ad} {vs : List V} {H : Hp} {Q : VK} {E : XK} : sp__law_titles K Z vs H Q E → vs.length = 2 := by
  rintro ⟨_, _, _, rfl, _⟩; rfl
theorem r__law_titles {K : PySem.W.Frag} {Z : Ad} {vs : List V} {H : Hp} {Q : VK} {E : XK} (R : RuleK K Z) (h : sp__law_titles K Z vs H Q E) : t__law_titles K Z { nx := fun _ H' => Q .non H', rt := Q } (start N__law_titles vs) H := by
  obtain ⟨w, k, m, rfl, W, hk, m1, m8, q⟩ := h
  show t__law_titles K Z _ [some (.ref w), some (.int m), none, none, none, none, none, none, none, none, none, none, none, none, none] H
  unfold t__law_titles
  walk_at "go"
  refine w_draw W (by omega) (by omega) (by omega) fun way H1 a0 a1 K1 W1 => ?_
  walk_at "go"
  refine w_draw W1 (by omega) (by omega) (by omega) fun start H2 b0 b1 K2 W2 => ?_
  walk_at "go"
  refine w_tupN (by show 3 ≤ 100000; decide) fun p H3 hp c3 => ?_
  refine w_gTup (SqT.of c3.at_) rfl ?_
  refine w_gCons (w_name (by simp only [List.set_cons_zero, List.set_cons_succ]; exact rfl) ?_)
  refine w_gCons (w_name (by simp only [List.set_cons_zero, List.set_cons_succ]; exact rfl) ?_)
  refine w_gCons (w_name (by simp only [List.set_cons_zero, List.set_cons_succ]; exact rfl) ?_)
  refine w_gNil ?_
  have np : H p = none := dom_kw (K1.trans K2) W2 _ hp
  have K3 : Kw w H H3 := (K1.trans K2).ch np c3
  have W3 : Well H3 w (k + 2) := W2.ch (W2.ne hp) c3
  clear hp c3 K2 W1 W2 K1
  walk_at "go"
  refine w_ite (fun e0 => ?_) fun n0 => ?_
  · walk_at "go"
    refine w_lstN (by show 8 ≤ 100000; decide) fun l H4 hl c4 => ?_
    have nl : H l = none := dom_kw K3 W3 _ hl
    have K4 : Kw w H H4 := K3.ch nl c4
    have W4 : Well H4 w (k + 2) := W3.ch (W3.ne hl) c4
    walk_at "go"
    refine w_lc (w_rng1 ?_)
    walk_at "go"
    refine w_rng1K (by omega) (by omega) ?_
    refine lc_pure (src_range 0 m.toNat) (fun i => .str (menu.getD ((start + 3 * (0 + (i : Int))) % 8).toNat "")) (by omega) (fun _ _ => trivial) ?_ (fun z σ H Q Q' h q => h _ _ q) ?_
    · rintro i H5 x H6 N hi s5 ⟨rfl, rfl⟩ hN
      refine w_name (by simp only [wipe, List.set_cons_zero, List.set_cons_succ]; exact rfl) ?_
      refine ⟨rfl, ?_⟩
      walk_at "go"
      refine w_ixL (v := .str (menu.getD ((start + 3 * (0 + (i : Int))) % 8).toNat "")) (SqL.of (s5 _ _ c4.at_)) ?_ (hN _ (Same.refl _))
      refine atI_of (xs := menu.map V.str) (Int.emod_nonneg _ (by omega)) ?_
      obtain ⟨s, e, _⟩ := menu_ok ((start + 3 * (0 + (i : Int))) % 8).toNat (by omega)
      rw [List.getElem?_map, e, List.getD_eq_getElem?_getD, e]; rfl
    · intro D H5 hD s5 h5
      have nD : H D = none := dom_kw K4 W4 _ hD
      refine q _ ((List.range m.toNat).map fun i : Nat => menu.getD ((start + 3 * (0 + (i : Int))) % 8).toNat "") H5 (K4.trans (Kw.of s5)) ((W4.same s5).mono (by omega)) (strs_mk nD ?_) (titles_map (by omega) ?_ ?_)
      · rw [h5, List.map_map]; rfl
      · intro i j hi hj e
        have := menu_dist _ (by omega) _ (by omega) e
        omega
      · intro i hi
        obtain ⟨s, e, o⟩ := menu_ok ((start + 3 * (0 + (i : Int))) % 8).toNat (by omega)
        rw [List.getD_eq_getElem?_getD, e]; exact o
  · walk_at "go"
    refine w_join ?_
    walk_at "go"
    refine w_joinK ?_
    refine w_lc (w_rng1 ?_)
    walk_at "go"
    refine w_rng1K (by omega) (by omega) ?_
    refine lc_well (w := w) (k := k + 2) gS (src_range 0 (8 : Int).toNat) (fun i as => ∃ cs : List Nat, as = cs.map one ∧ cs.length = i ∧ ∀ c ∈ cs, 97 ≤ c ∧ c < 123) 1 (by decide) ⟨[], rfl, rfl, fun _ h => nomatch h⟩ W3 (fun _ _ => trivial) ?_ ?_
    · rintro i as H4 x H5 N N' hi ⟨cs, rfl, lc, hc⟩ K4 W4 ⟨rfl, rfl⟩ hN hN'
      refine w_name (by simp only [wipe, List.set_cons_zero, List.set_cons_succ]; exact rfl) ?_
      refine ⟨rfl, ?_⟩
      refine w_yes (w_iteT ?_)
      walk_at "go"
      refine w_draw W4 (by have : (8 : Int).toNat = 8 := rfl; omega) (by omega) (by omega) fun d H5 d0 d1 K5 W5 => ?_
      refine w_ixS (by decide +kernel) (az_at d0 d1) (hN _ (one (d.toNat + 97)) H5 K5 W5 rfl ⟨cs ++ [d.toNat + 97], by rw [List.map_append]; rfl, by rw [List.length_append, lc]; rfl, fun c m => ?_⟩)
      rcases List.mem_append.mp m with m | m
      · exact hc c m
      · rw [List.mem_singleton.mp m]; omega
    · rintro D as H4 hD K4 W4 ⟨cs, rfl, lc, hc⟩ fD
      obtain ⟨D', e, sD, hD4⟩ := strs_of fD
      cases e
      have hl8 : cs.length = 8 := lc
      refine ⟨_, D, cs.map one, rfl, rfl, .inl (SqL.of hD4), ?_, ?_⟩
      · have : ∀ cs : List Nat, ((cs.map one).map (·.length)).sum = cs.length := by
          intro cs
          induction cs with
          | nil => rfl
          | cons c r ih => rw [List.map_cons, List.map_cons, List.sum_cons, ih, List.length_cons]; show 1 + _ = _; omega
        rw [this, List.length_map, hl8]
        decide +kernel
      have lowS : Low (Txt.join "" (cs.map one)) := fun c m => by
        have e := join_ones cs
        have m' : c ∈ (Txt.join "" (cs.map fun c => (⟨#[c]⟩ : Str))).cps.toList := m
        rw [e] at m'
        exact hc c m'
      have lenS : (Txt.join "" (cs.map one)).length = 8 := by
        rw [len_eq]
        have e := join_ones cs
        show (Txt.join "" (cs.map fun c => (⟨#[c]⟩ : Str))).cps.toList.length = 8
        rw [e, hl8]
      generalize Txt.join "" (cs.map one) = stem at lowS lenS
      have K5 : Kw w H H4 := K3.trans K4
      have W5 : Well H4 w (k + 10) := W4.mono (by have : (8 : Int).toNat = 8 := rfl; omega)
      clear hD4 fD hD sD W4 K4 K3 W3
      refine w_name (by simp only [List.set_cons_zero, List.set_cons_succ]; exact rfl) ?_
      walk_at "go"
      refine w_ite (fun e1 => ?_) fun n1 => ?_
      · walk_at "go"
        refine w_lc (w_rng1 ?_)
        walk_at "go"
        refine w_rng1K (by omega) (by omega) ?_
        refine lc_pure (src_range 0 m.toNat) (fun i => .str (cutS stem none (some (1 + (start + 5 * (0 + (i : Int))) % 8)))) (by omega) (fun _ _ => trivial) ?_ (fun z σ H Q Q' h q => h _ _ q) ?_
        · rintro i H5 x H6 N hi s5 ⟨rfl, rfl⟩ hN
          refine w_name (by simp only [wipe, List.set_cons_zero, List.set_cons_succ]; exact rfl) ?_
          refine ⟨rfl, ?_⟩
          refine w_sl ?_
          walk_at "go"
          refine w_nopart (w_part ?_)
          walk_at "go"
          refine w_prtK ?_
          exact w_slS (by omega) (hN _ (Same.refl _))
        · intro D H5 hD s5 h5
          have nD : H D = none := dom_kw K5 W5 _ hD
          have len : ∀ i : Nat, ((cutS stem none (some (1 + (start + 5 * (0 + (i : Int))) % 8))).length : Int) = 1 + (start + 5 * (0 + (i : Int))) % 8 := fun i => len_preI (by omega) (by omega)
          refine q _ ((List.range m.toNat).map fun i : Nat => cutS stem none (some (1 + (start + 5 * (0 + (i : Int))) % 8))) H5 (K5.trans (Kw.of s5)) ((W5.same s5).mono (by omega)) (strs_mk nD ?_) (titles_map (by omega) ?_ ?_)
          · rw [h5, List.map_map]; rfl
          · intro i j hi hj e
            have a := len i
            have b := len j
            rw [e] at a
            omega
          · intro i hi
            have a := len i
            exact ⟨by omega, by omega, low_cut lowS⟩
      · walk_at "go"
        refine w_draw W5 (by omega) (by omega) (by omega) fun d1 H6 c0 c1 K6 W6 => ?_
        walk_at "go"
        refine w_draw W6 (by omega) (by omega) (by omega) fun spot H7 e0 e1 K7 W7 => ?_
        walk_at "go"
        have K8 : Kw w H H7 := (K5.trans K6).trans K7
        have nH : ∀ b, H7 b = none → H b = none := dom_kw K8 W7
        clear K5 K6 K7 W5 W6
        refine w_ite (fun e2 => ?_) fun n2 => ?_
        · walk_at "go"
          refine w_sl ?_
          walk_at "go"
          refine w_nopart (w_part ?_)
          walk_at "go"
          refine w_prtK ?_
          refine w_slS (by omega) ?_
          walk_at "go"
          refine w_sl ?_
          walk_at "go"
          refine w_part ?_
          walk_at "go"
          refine w_prtK ?_
          refine w_part ?_
          walk_at "go"
          refine w_prtK ?_
          refine w_slS (by omega) ?_
          walk_at "go"
          refine w_tupN (by show 2 ≤ 100000; decide) fun p H8 hp c8 => ?_
          have K9 : Kw w H H8 := K8.ch (nH p hp) c8
          have W9 : Well H8 w (k + 12) := W7.ch (W7.ne hp) c8
          refine w_gTup (SqT.of c8.at_) rfl ?_
          refine w_gCons (w_name (by simp only [List.set_cons_zero, List.set_cons_succ]; exact rfl) ?_)
          refine w_gCons (w_name (by simp only [List.set_cons_zero, List.set_cons_succ]; exact rfl) ?_)
          refine w_gNil ?_
          have la := len_preI (z := stem) e0 (by omega)
          have lb := len_mid (z := stem) (a := spot + 1) (b := 1 + d1) (by omega) (by omega) (by omega)
          have ha := low_cut (lo := none) (hi := some spot) lowS
          have hb := low_cut (lo := some (spot + 1)) (hi := some (1 + d1)) lowS
          generalize cutS stem none (some spot) = ahead at la ha
          generalize cutS stem (some (spot + 1)) (some (1 + d1)) = behind at lb hb
          walk_at "go"
          refine w_lc (w_rng1 ?_)
          walk_at "go"
          refine w_rng1K (by omega) (by omega) ?_
          refine lc_pure (src_range 0 m.toNat) (fun i => .str (ahead ++ one (((start + 7 * (0 + (i : Int))) % 26).toNat + 97) ++ behind)) (by omega) (fun _ _ => trivial) ?_ (fun z σ H Q Q' h q => h _ _ q) ?_
          · rintro i H5 x H6 N hi s5 ⟨rfl, rfl⟩ hN
            refine w_name (by simp only [wipe, List.set_cons_zero, List.set_cons_succ]; exact rfl) ?_
            refine ⟨rfl, ?_⟩
            walk_at "go"
            refine w_ixS (by decide +kernel) (az_at (by omega) (by omega)) ?_
            refine w_catS (by show ahead.length + 1 ≤ 16777216; omega) ?_
            walk_at "go"
            refine w_catS ?_ (hN _ (Same.refl _))
            rw [len_cat]
            show ahead.length + 1 + behind.length ≤ 16777216
            omega
          · intro D H5 hD s5 h5
            have nD : H D = none := dom_kw K9 W9 _ hD
            refine q _ ((List.range m.toNat).map fun i : Nat => ahead ++ one (((start + 7 * (0 + (i : Int))) % 26).toNat + 97) ++ behind) H5 (K9.trans (Kw.of s5)) ((W9.same s5).mono (by omega)) (strs_mk nD ?_) (titles_map (by omega) ?_ ?_)
            · rw [h5, List.map_map]; rfl
            · intro i j hi hj e
              have e' := congrArg (fun s : Str => s.cps.toList) e
              simp only [cat_list, one] at e'
              have e2 := List.append_cancel_left (List.append_cancel_right e')
              have e3 : ((start + 7 * (0 + (i : Int))) % 26).toNat + 97 = ((start + 7 * (0 + (j : Int))) % 26).toNat + 97 := by simpa using e2
              omega
            · intro i hi
              have l1 : (one (((start + 7 * (0 + (i : Int))) % 26).toNat + 97)).length = 1 := rfl
              refine ⟨?_, ?_, low_cat (low_cat ha (low_one (by omega))) hb⟩
              · rw [len_cat, len_cat, l1]; omega
              · rw [len_cat, len_cat, l1]; omega
        · walk_at "go"
          refine w_lstN (by show 0 ≤ 100000; decide) fun f H8 hf c8 => ?_
          have nf : H f = none := nH f hf
          have fw : f ≠ w := W7.ne hf
          have K9 : Kw w H H8 := K8.ch nf c8
          have W9 : Well H8 w (k + 12) := W7.ch fw c8
          walk_at "go"
          refine w_for (w_rng1 ?_)
          walk_at "go"
          refine w_rng1K (by omega) (by omega) ?_
          refine for_go (src_range 0 m.toNat) (fun i σ H' => ∃ o1 o2, σ = [some (.ref w), some (.int m), some (.str AZ), some (.int way), some (.int start), some (.str stem), some (.int (1 + d1)), some (.int spot), some (.ref f), o1, none, none, none, o2, none] ∧ Kw w H H' ∧ Well H' w (k + 12 + 2 * i) ∧
            ∃ xs : List Str, H' f = some (.lst (xs.map V.str)) ∧ xs.length = i ∧ (∀ s ∈ xs, OkName s) ∧ ∀ (j : Nat) s, xs[j]? = some s → s.cps.toList.head? = some (((start + 7 * (0 + (j : Int))) % 26).toNat + 97)) ⟨_, _, rfl, K9, W9, [], c8.at_, rfl, (fun _ h => nomatch h), fun j s h => by simp at h⟩ (fun _ _ _ _ _ => trivial) ?_ ?_
          · rintro i σ H9 x H10 hi ⟨o1, o2, rfl, Ka, Wa, xs, hx, lx, ox, dx⟩ ⟨rfl, rfl⟩
            refine w_name (by simp only [List.set_cons_zero, List.set_cons_succ]; exact rfl) ?_
            walk_at "go"
            refine w_sl ?_
            refine w_sl ?_
            walk_at "go"
            refine w_part ?_
            walk_at "go"
            refine w_draw Wa (by omega) (by omega) (by omega) fun u1 H11 f0 f1 Kb Wb => ?_
            refine w_prtK ?_
            refine w_nopart (w_slS (by omega) ?_)
            refine w_nopart (w_part ?_)
            walk_at "go"
            refine w_draw Wb (by omega) (by omega) (by omega) fun u2 H12 g0 g1 Kc Wc => ?_
            refine w_prtK ?_
            refine w_slS (Nat.le_trans (cutS_length _ _ _) (by omega)) ?_
            have lt := len_prele (z := cutS stem (some u1) none) g0
            have ht := low_cut (lo := none) (hi := some u2) (low_cut (lo := some u1) (hi := none) lowS)
            generalize cutS (cutS stem (some u1) none) none (some u2) = tail at lt ht
            have hx2 := Kc f _ fw (Kb f _ fw hx)
            walk_at "go"
            refine w_bm ?_
            walk_at "go"
            refine w_bmL hx2 ?_
            walk_at "go"
            refine w_ixS (by decide +kernel) (az_at (by omega) (by omega)) ?_
            walk_at "go"
            refine w_catS (by show 1 + tail.length ≤ 16777216; omega) ?_
            walk_at "go"
            refine w_append hx2 (by rw [List.length_map]; omega) fun H13 c13 => ?_
            walk_at "go"
            refine ⟨_, _, rfl, ((Ka.trans Kb).trans Kc).ch nf c13, (Wc.mono (by omega)).ch fw c13, xs ++ [one (((start + 7 * (0 + (i : Int))) % 26).toNat + 97) ++ tail], ?_, ?_, ?_, ?_⟩
            · rw [c13.at_, List.map_append]; rfl
            · rw [List.length_append, lx]; rfl
            · intro s ms
              rcases List.mem_append.mp ms with ms | ms
              · exact ox s ms
              · rw [List.mem_singleton.mp ms]
                have l1 : (one (((start + 7 * (0 + (i : Int))) % 26).toNat + 97)).length = 1 := rfl
                refine ⟨?_, ?_, low_cat (low_one (by omega)) ht⟩
                · rw [len_cat, l1]; omega
                · rw [len_cat, l1]; omega
            · intro j s hs
              rcases Nat.lt_trichotomy j xs.length with a | a | a
              · rw [List.getElem?_append_left a] at hs
                exact dx j s hs
              · subst a
                rw [lx] at hs ⊢
                have e : one (((start + 7 * (0 + (i : Int))) % 26).toNat + 97) ++ tail = s := by simpa [lx] using hs
                rw [← e, cat_list]; rfl
              · rw [List.getElem?_eq_none (by rw [List.length_append, List.length_singleton]; omega)] at hs; cases hs
          · rintro σ H9 ⟨o1, o2, rfl, Ka, Wa, xs, hx, lx, ox, dx⟩
            walk_at "go"
            refine q _ xs H9 Ka (Wa.mono (by omega)) (strs_mk nf hx) ⟨by omega, fun i j s h1 h2 => ?_, ox⟩
            have e := (dx i s h1).symm.trans (dx j s h2)
            have e2 := Option.some.inj e
            have li := (List.getElem?_eq_some_iff.mp h1).1
            have lj := (List.getElem?_eq_some_iff.mp h2).1
            omega
end Ow

set_option Elab.async false
set_option linter.all false
set_option maxRecDepth 100000
namespace Ow
open PySem L2
local macro_rules | `(tactic| walk_at "go") => `(tactic| (repeat (with_reducible first
  | refine w_seq ?_ | refine w_asg ?_ | refine w_ret ?_ | refine w_if ?_ | refine w_next ?_ | refine w_drop ?_
  | refine w_var (by with_unfolding_all rfl) ?_ | refine w_c ?_ | refine w_op ?_ | refine w_cons ?_ | refine w_nil ?_ | refine w_cb ?_ | refine w_call ?_
  | refine w_name (by simp only [List.set_cons_zero, List.set_cons_succ]; exact rfl) ?_
  | refine w_add ?_ | refine w_sub ?_ | refine w_lt ?_ | refine w_le ?_ | refine w_gt ?_ | refine w_ge ?_ | refine w_eqI ?_ | refine w_neI ?_
  | refine w_test ?_ | refine w_testK ?_ | refine w_tB ?_ | refine w_intI ?_ | refine w_intB ?_ | refine w_max2 ?_ | refine w_min2 ?_
  | refine w_lst ?_ | refine w_tup ?_ | refine w_gSub ?_ | refine w_fld ?_ | refine w_un ?_ | refine w_neg ?_ | refine w_par ?_ | refine w_tIf ?_ | refine w_and ?_ | refine w_or ?_ | refine w_not ?_
  | refine w_mod (by omega) ?_ | refine w_div (cdiv (by omega) (by omega)) ?_ | refine w_mul (cmulL (by omega) (by omega)) ?_ | refine w_mul (cmulR (by omega) (by omega)) ?_ | refine w_pow (cpow (by omega) (by omega) (by omega) (by omega)) ?_
  | refine w_ixL (SqL.of (by assumption)) (by with_unfolding_all rfl) ?_)))
abbrev Folk := List (Str × Int)
def heavy (fk : Folk) : Int := (fk.map Prod.snd).sum
abbrev fFolk : Fam Folk := fL (fT fS fI)
theorem gFolk : Good fFolk := gL (gT gS gI)
structure FolkOk (fk : Folk) : Prop where
  dist : Dist (fk.map Prod.fst)
  ok : ∀ p ∈ fk, OkName p.1
  nn : ∀ x ∈ fk.map Prod.snd, 0 ≤ x
  pos : 0 < heavy fk
  len : 1 ≤ fk.length
theorem zip_get {α β : Type} : ∀ {xs : List α} {ys : List β}, xs.length = ys.length → (xs.zip ys).map Prod.fst = xs ∧ (xs.zip ys).map Prod.snd = ys
  | [], [], _ => ⟨rfl, rfl⟩
  | x :: xs, y :: ys, h => by
    have := zip_get (xs := xs) (ys := ys) (by simpa using h)
    exact ⟨congrArg (x :: ·) this.1, congrArg (y :: ·) this.2⟩
def lzK (K : PySem.W.Frag) (Q : VK) (vs : List V) (H1 : Hp) : Prop := ∃ a b xs ys, vs = [.ref a, .ref b] ∧ SqL K H1 a xs ∧ SqL K H1 b ys ∧ xs.length = ys.length ∧ xs.length ≤ 100000 ∧
  ∀ (l : Addr) (as : List Addr) (H2 : Hp), H1 l = none → Same H1 H2 → H2 l = some (.lst (as.map V.ref)) → as.length = xs.length →
    (∀ (j : Nat) (a : Addr), as[j]? = some a → H1 a = none ∧ ∃ x y : V, xs[j]? = some x ∧ ys[j]? = some y ∧ H2 a = some (.tup [x, y])) → Q (.ref l) H2
theorem w_lz {K : PySem.W.Frag} {ta : TA} {σ : St} {H : Hp} {Q : VK} (h : ta σ H fun vs H1 => lzK K Q vs H1) : tListZip K ta σ H Q := h
theorem all2_of {α β : Type} {R : α → β → Prop} : ∀ {xs : List α} {ys : List β}, xs.length = ys.length → (∀ (j : Nat) x y, xs[j]? = some x → ys[j]? = some y → R x y) → All2 R xs ys
  | [], [], _, _ => .nil
  | x :: xs, y :: ys, h, k => .cons (k 0 x y rfl rfl) (all2_of (by simpa using h) fun j a b e1 e2 => k (j + 1) a b (by simpa using e1) (by simpa using e2))
def sp__law_folk (K : PySem.W.Frag) (Z : Ad) : Sp := fun vs H Q _ => ∃ (w : Addr) (k : Nat) (m n : Int), vs = [.ref w, .int m, .int n] ∧ Well H w k ∧ k < 500000000000 ∧ 1 ≤ m ∧ m ≤ 8 ∧ 1 ≤ n ∧ n ≤ 1000 ∧
  ∀ v fk H', Kw w H H' → Well H' w (k + 2000) → fFolk (New H) H' v fk → FolkOk fk → heavy fk ≤ n → (fk.length : Int) ≤ m → Q v H'
abbrev N__law_folk : List Str := ["well", "most", "heaviest", "titles", "loads", "turn", "spot"]
def t__law_folk (K : PySem.W.Frag) (Z : Ad) : TS :=
  (tSeq (tAsg (tCall (sp__law_titles K Z) [] E0 (tCons (tVar 0) (tCons (tOp oAdd (tC (.int 1)) (tCall (sp__law_draw K Z) [] E0 (tCons (tVar 0) (tCons (tVar 1) tNil)))) tNil))) (gName 3)) (tSeq (tAsg (tOp rRep (tLst (tCons (tC (.int 0)) tNil)) (tCB (rLen K) (tCons (tVar 3) tNil))) (gName 4)) (tSeq (tFor (iRng1 (tCons (tOp oAdd (tC (.int 1)) (tCall (sp__law_draw K Z) [] E0 (tCons (tVar 0) (tCons (tVar 2) tNil)))) tNil)) (gName 5) (tSeq (tAsg (tCall (sp__law_draw K Z) [] E0 (tCons (tVar 0) (tCons (tCB (rLen K) (tCons (tVar 3) tNil)) tNil))) (gName 6)) (tAsg (tOp oAdd (tOp (rIxL K) (tVar 4) (tVar 6)) (tC (.int 1))) (gSub (tVar 4) (tVar 6) rSetL)))) (tRet (tListZip K (tCons (tVar 3) (tCons (tVar 4) tNil)))))))
theorem l__law_folk {K : PySem.W.Frag} {Z : Ad} {vs : List V} {H : Hp} {Q : VK} {E : XK} : sp__law_folk K Z vs H Q E → vs.length = 3 := by
  rintro ⟨_, _, _, _, rfl, _⟩; rfl
theorem r__law_folk {K : PySem.W.Frag} {Z : Ad} {vs : List V} {H : Hp} {Q : VK} {E : XK} (R : RuleK K Z) (h : sp__law_folk K Z vs H Q E) : t__law_folk K Z { nx := fun _ H' => Q .non H', rt := Q } (start N__law_folk vs) H := by
  obtain ⟨w, k, m, n, rfl, W, hk, m1, m8, n1, n8, q⟩ := h
  show t__law_folk K Z _ [some (.ref w), some (.int m), some (.int n), none, none, none, none] H
  unfold t__law_folk
  walk_at "go"
  refine w_draw W (by omega) (by omega) (by omega) fun d H1 d0 d1 K1 W1 => ?_
  walk_at "go"
  refine ⟨w, k + 1, 1 + d, rfl, W1, by omega, by omega, by omega, fun v xs H2 K2 W2 f2 T2 => ?_⟩
  have K12 := K1.trans K2
  have f2' : fL fS (New H) H2 v xs := (gL gS).mono (fun b nb => dom_kw K1 W1 b nb) f2
  obtain ⟨ta, rfl, nta, hta⟩ := strs_of f2'
  have tw : ta ≠ w := fun e => W.some (e ▸ nta)
  walk_at "go"
  refine w_lstN (by show 1 ≤ 100000; decide) fun z H3 hz c3 => ?_
  have K3 := K12.ch (dom_kw K12 W2 _ hz) c3
  have W3 := W2.ch (W2.ne hz) c3
  have hta3 := c3.keep (ne_of_none hta hz) hta
  walk_at "go"
  refine w_len (SqL.of hta3) ?_
  rw [List.length_map]
  refine w_repI (y' := 0) c3.at_ (by omega) (by have := T2.len; omega) fun lo H4 hlo c4 => ?_
  have nlo : H lo = none := dom_kw K3 W3 _ hlo
  have lw : lo ≠ w := W3.ne hlo
  have K4 := K3.ch nlo c4
  have W4 := W3.ch lw c4
  have tl : ta ≠ lo := ne_of_none hta3 hlo
  have hta4 := c4.keep tl hta3
  have hlo4 := c4.at_
  rw [Int.toNat_natCast] at hlo4
  walk_at "go"
  refine w_for (w_rng1 ?_)
  walk_at "go"
  refine w_draw W4 (by omega) (by omega) (by omega) fun e H5 e0 e1 K5 W5 => ?_
  walk_at "go"
  refine w_rng1K (by omega) (by omega) ?_
  refine for_go (src_range 0 (1 + e).toNat) (fun i σ H' => ∃ o1 o2, σ = [some (.ref w), some (.int m), some (.int n), some (.ref ta), some (.ref lo), o1, o2] ∧ Kw w H H' ∧ Well H' w (k + 200 + i) ∧ H' ta = some (.lst (xs.map V.str)) ∧
    ∃ ls : List Int, H' lo = some (.lst (ls.map V.int)) ∧ ls.length = xs.length ∧ (∀ x ∈ ls, 0 ≤ x) ∧ ls.sum = i) ⟨_, _, rfl, K4.trans K5, W5.mono (by omega), K5 _ _ tw hta4, _, K5 _ _ lw hlo4, List.length_replicate .., fun x m => by rw [List.eq_of_mem_replicate m]; exact Int.le_refl 0, sum_zeros _⟩ (fun _ _ _ _ _ => trivial) ?_ ?_
  · rintro i σ H6 x H7 hi ⟨o1, o2, rfl, Ka, Wa, ht, ls, hl, ll, nn, sm⟩ ⟨rfl, rfl⟩
    refine w_name (by simp only [List.set_cons_zero, List.set_cons_succ]; exact rfl) ?_
    walk_at "go"
    refine w_len (SqL.of ht) ?_
    rw [List.length_map]
    have lx := T2.len
    walk_at "go"
    refine w_draw (m := (xs.length : Int)) Wa (by omega) (by omega) (by omega) fun s H8 s0 s1 Kb Wb => ?_
    have hl8 := Kb _ _ lw hl
    walk_at "go"
    refine w_ixI hl8 s0 (by omega) fun y hy => ?_
    walk_at "go"
    refine w_setI hl8 s0 (by omega) fun H9 c9 => ?_
    have y0 := nn y (List.mem_of_getElem? hy)
    refine ⟨_, _, rfl, (Ka.trans Kb).ch nlo c9, (Wb.mono (by omega)).ch lw c9, c9.keep tl (Kb _ _ tw ht), _, c9.at_, by rw [List.length_set, ll], ?_, ?_⟩
    · intro z mz
      rcases List.mem_or_eq_of_mem_set mz with mz | rfl
      · exact nn z mz
      · omega
    · rw [sum_set hy, sm]; omega
  · rintro σ H6 ⟨o1, o2, rfl, Ka, Wa, ht, ls, hl, ll, nn, sm⟩
    walk_at "go"
    refine w_lz ?_
    walk_at "go"
    refine ⟨ta, lo, _, _, rfl, SqL.of ht, SqL.of hl, by rw [List.length_map, List.length_map, ll], by rw [List.length_map]; have := T2.len; omega, ?_⟩
    intro l as H7 nl s7 hl7 las has
    rw [List.length_map] at las
    have zg := zip_get (xs := xs) (ys := ls) ll.symm
    have lz : (xs.zip ls).length = xs.length := by rw [List.length_zip, ll]; omega
    have nn7 : ∀ b, H6 b = none → H b = none := dom_kw Ka Wa
    refine q _ (xs.zip ls) H7 (Ka.trans (Kw.of s7)) ((Wa.same s7).mono (by omega)) ⟨l, _, rfl, nn7 l nl, hl7, all2_of (by rw [List.length_map, las, lz]) ?_⟩ ⟨by rw [zg.1]; exact T2.dist, ?_, by rw [zg.2]; exact nn, ?_, ?_⟩ ?_ ?_
    · intro j x p ex ep
      rw [List.getElem?_map] at ex
      cases ea : as[j]? with
      | none => rw [ea] at ex; cases ex
      | some a =>
        rw [ea] at ex
        cases ex
        obtain ⟨na, u, v, e1, e2, e3⟩ := has j a ea
        have p1 : (xs.zip ls).map Prod.fst = xs := zg.1
        have f1 : xs[j]? = some p.1 := by
          have := congrArg (fun l : List Str => l[j]?) zg.1
          simp only [List.getElem?_map, ep] at this
          exact this.symm
        have f2 : ls[j]? = some p.2 := by
          have := congrArg (fun l : List Int => l[j]?) zg.2
          simp only [List.getElem?_map, ep] at this
          exact this.symm
        rw [List.getElem?_map, f1] at e1
        rw [List.getElem?_map, f2] at e2
        cases e1
        cases e2
        exact ⟨a, _, _, rfl, nn7 a na, e3, rfl, rfl⟩
    · intro p hp
      refine T2.ok p.1 ?_
      rw [← zg.1]
      exact List.mem_map_of_mem hp
    · show 0 < ((xs.zip ls).map Prod.snd).sum
      rw [zg.2, sm]; omega
    · have := T2.len; omega
    · show ((xs.zip ls).map Prod.snd).sum ≤ n
      rw [zg.2, sm]; omega
    · have := T2.len; omega
def sp__law_heavy (K : PySem.W.Frag) (Z : Ad) : Sp := fun vs H Q _ => ∃ (v : V) (fk : Folk) (S : Addr → Prop), vs = [v] ∧ fFolk S H v fk ∧ fk.length ≤ 100000 ∧ ∀ H', Same H H' → Q (.int (heavy fk)) H'
abbrev N__law_heavy : List Str := ["folk", "title", "load"]
def t__law_heavy (K : PySem.W.Frag) (Z : Ad) : TS :=
  (tRet (tCB (rSum K) (tCons (tLc (iList K (tVar 0)) (gTup K 2 (gCons (gName 1) (gCons (gName 2) gNil))) tYes (tVar 2) [1, 2]) tNil)))
theorem l__law_heavy {K : PySem.W.Frag} {Z : Ad} {vs : List V} {H : Hp} {Q : VK} {E : XK} : sp__law_heavy K Z vs H Q E → vs.length = 1 := by
  rintro ⟨_, _, _, rfl, _⟩; rfl
theorem r__law_heavy {K : PySem.W.Frag} {Z : Ad} {vs : List V} {H : Hp} {Q : VK} {E : XK} (R : RuleK K Z) (h : sp__law_heavy K Z vs H Q E) : t__law_heavy K Z { nx := fun _ H' => Q .non H', rt := Q } (start N__law_heavy vs) H := by
  obtain ⟨v, fk, S, rfl, ⟨a, us, rfl, sa, ha, al⟩, hl, q⟩ := h
  show t__law_heavy K Z _ [some (.ref a), none, none] H
  unfold t__law_heavy
  walk_at "go"
  refine w_lc (w_ilist ?_)
  walk_at "go"
  refine w_ilistK (SqL.of ha) ?_
  refine lc_same gI (src_list (xs := us)) (fun i as => as = (fk.map Prod.snd).take i) (by rw [al.length]; exact hl) rfl (fun H' s => SqL.of (s _ _ ha)) ?_ ?_
  · rintro i as H1 x H2 N N' hi rfl s1 ⟨rfl, hx⟩ hN hN'
    obtain ⟨p, hp, fp⟩ := al.get hx
    refine w_gT2 ((gT gS gI).same s1 fp) fun u z f1 f2 => ?_
    cases f1; cases f2
    refine w_gCons (w_name (by simp only [wipe, List.set_cons_zero, List.set_cons_succ]; exact rfl) ?_)
    refine w_gCons (w_name (by simp only [wipe, List.set_cons_zero, List.set_cons_succ]; exact rfl) ?_)
    refine w_gNil ?_
    refine ⟨rfl, ?_⟩
    refine w_yes (w_iteT ?_)
    walk_at "go"
    exact hN _ p.2 _ (Same.refl _) rfl (take_snoc (by rw [List.getElem?_map, hp]; rfl))
  · rintro D as H1 hD s1 rfl f
    obtain ⟨D', e, nD, hD1⟩ := ints_of f
    cases e
    walk_at "go"
    refine w_sum (SqL.of hD1) ?_
    have e : us.length = (fk.map Prod.snd).length := by rw [al.length, List.length_map]
    rw [e, take_all]
    exact q H1 s1
end Ow

set_option Elab.async false
set_option linter.all false
set_option maxRecDepth 100000
namespace Ow
open PySem L2
local macro_rules | `(tactic| walk_at "go") => `(tactic| (repeat (with_reducible first
  | refine w_seq ?_ | refine w_asg ?_ | refine w_ret ?_ | refine w_if ?_ | refine w_next ?_ | refine w_drop ?_
  | refine w_var (by with_unfolding_all rfl) ?_ | refine w_c ?_ | refine w_op ?_ | refine w_cons ?_ | refine w_nil ?_ | refine w_cb ?_ | refine w_call ?_
  | refine w_name (by simp only [List.set_cons_zero, List.set_cons_succ]; exact rfl) ?_
  | refine w_add ?_ | refine w_sub ?_ | refine w_lt ?_ | refine w_le ?_ | refine w_gt ?_ | refine w_ge ?_ | refine w_eqI ?_ | refine w_neI ?_
  | refine w_test ?_ | refine w_testK ?_ | refine w_tB ?_ | refine w_intI ?_ | refine w_intB ?_ | refine w_max2 ?_ | refine w_min2 ?_
  | refine w_lst ?_ | refine w_tup ?_ | refine w_gSub ?_ | refine w_fld ?_ | refine w_un ?_ | refine w_neg ?_ | refine w_par ?_ | refine w_tIf ?_ | refine w_and ?_ | refine w_or ?_ | refine w_not ?_
  | refine w_mod (by omega) ?_ | refine w_div (cdiv (by omega) (by omega)) ?_ | refine w_mul (cmulL (by omega) (by omega)) ?_ | refine w_mul (cmulR (by omega) (by omega)) ?_ | refine w_pow (cpow (by omega) (by omega) (by omega) (by omega)) ?_
  | refine w_ixL (SqL.of (by assumption)) (by with_unfolding_all rfl) ?_)))
/-! ### a list under way -/
def Kn (H H1 H2 : Hp) : Prop := ∀ b o, H b = none → H1 b = some o → H2 b = some o
theorem Kn.kw {w : Addr} {k : Nat} {H H1 H2 : Hp} (W : Well H w k) (h : Kw w H1 H2) : Kn H H1 H2 := fun b o n e => h b o (fun z => W.some (z ▸ n)) e
theorem Kn.same {H H1 H2 : Hp} (h : Same H1 H2) : Kn H H1 H2 := fun b o _ e => h b o e
def Box {α : Type} (F : Fam α) (H : Hp) (L : Addr) (H1 : Hp) (as : List α) : Prop := ∃ vs, H1 L = some (.lst vs) ∧ All2 (F (fun a => H a = none ∧ a ≠ L) H1) vs as
section
variable {α : Type} {F : Fam α} {H H1 H2 : Hp} {L p : Addr} {as : List α} {v : V} {a : α} {o : HO} {Q : VK}
theorem Box.kn (B : Box F H L H1 as) (G : Good F) (n : H L = none) (k : Kn H H1 H2) : Box F H L H2 as := by
  obtain ⟨vs, h, r⟩ := B
  exact ⟨vs, k _ _ n h, r.imp fun _ _ q => G.keep (fun a o s e => k a o s.1 e) q⟩
theorem Box.ch (B : Box F H L H1 as) (G : Good F) (n : H1 p = none) (c : Ch p o H1 H2) : Box F H L H2 as := by
  obtain ⟨vs, h, r⟩ := B
  exact ⟨vs, c.same n _ _ h, r.imp fun _ _ q => G.same (c.same n) q⟩
theorem Box.mk0 (h : H1 L = some (.lst [])) : Box F H L H1 [] := ⟨[], h, .nil⟩
theorem Box.push (B : Box F H L H1 as) (G : Good F) (f : F (fun a => H a = none ∧ a ≠ L) H1 v a) (hl : as.length < 100000) (q : ∀ vs H2, Ch L (.lst vs) H1 H2 → Box F H L H2 (as ++ [a]) → Q .non H2) : rAppend (.ref L) [v] H1 Q := by
  obtain ⟨vs, h, r⟩ := B
  refine w_append h (by rw [r.length]; exact hl) fun H2 c => q _ H2 c ⟨_, c.at_, ?_⟩
  have ch : ∀ {v : V} {b : α}, F (fun a => H a = none ∧ a ≠ L) H1 v b → F (fun a => H a = none ∧ a ≠ L) H2 v b := fun q => G.keep (fun a o s e => c.keep s.2 e) q
  exact (r.imp fun _ _ q => ch q).append (.one (ch f))
theorem Box.fam (B : Box F H L H1 as) (G : Good F) (n : H L = none) : fL F (New H) H1 (.ref L) as := by
  obtain ⟨vs, h, r⟩ := B
  exact ⟨L, vs, rfl, n, h, r.imp fun _ _ q => G.mono (fun b s => s.1) q⟩
theorem Box.bm {K : PySem.W.Frag} {t : TA} {σ : St} {r : V → List V → Hp → VK → Prop} (B : Box F H L H1 as) (q : t σ H1 fun xs H2 => r (.ref L) xs H2 Q) : bmK K "list" r t σ Q (.ref L) H1 := by
  obtain ⟨vs, h, _⟩ := B
  exact w_bmL h q
/-- new since H1, where L stands already -/
theorem New.off (d : ∀ b, H1 b = none → H b = none) (h : H1 L ≠ none) : ∀ b, New H1 b → H b = none ∧ b ≠ L := fun b n => ⟨d b n, fun e => h (e ▸ n)⟩
end
theorem Box.some {α : Type} {F : Fam α} {H H1 : Hp} {L : Addr} {as : List α} (B : Box F H L H1 as) : H1 L ≠ none := by
  obtain ⟨vs, h, _⟩ := B
  rw [h]; exact fun z => nomatch z
def sp__law_cents (K : PySem.W.Frag) (Z : Ad) : Sp := fun vs H Q _ => ∃ (w : Addr) (k : Nat) (many rest most : Int), vs = [.ref w, .int many, .int rest, .int most] ∧ Well H w k ∧ k < 500000000000 ∧ 1 ≤ many ∧ many ≤ 100 ∧ 0 ≤ rest ∧ rest ≤ 1000 ∧ -1000000 ≤ most ∧ most ≤ 1000000 ∧
  ∀ a xs H', Kw w H H' → Well H' w (k + 1100) → H a = none → H' a = some (.lst (xs.map V.int)) → (xs.length : Int) = many → xs.sum = rest → In (-2000000) 2000000 xs → Q (.ref a) H'
abbrev N__law_cents : List Str := ["well", "many", "rest", "most", "cents", "spot", "turn", "giver", "taker", "some"]
def t__law_cents (K : PySem.W.Frag) (Z : Ad) : TS :=
  (tSeq (tPar 4 5 (tCons (tOp rRep (tLst (tCons (tC (.int 0)) tNil)) (tVar 1)) (tCons (tC (.int 0)) tNil))) (tSeq (tFor (iRng1 (tCons (tVar 2) tNil)) (gName 6) (tSeq (tAsg (tIf (tTest (tOp oLt (tVar 6) (tC (.int 6)))) (tCall (sp__law_draw K Z) [] E0 (tCons (tVar 0) (tCons (tVar 1) tNil))) (tOp oMod (tCB rInt1 (tCons (tOp oAdd (tVar 5) (tC (.int 1))) tNil)) (tVar 1))) (gName 5)) (tAsg (tOp oAdd (tOp (rIxL K) (tVar 4) (tVar 5)) (tC (.int 1))) (gSub (tVar 4) (tVar 5) rSetL)))) (tSeq (tIfS (tAnd (tTest (tOp oGe (tVar 3) (tVar 2))) (tTest (tOp rEq (tCall (sp__law_draw K Z) [] E0 (tCons (tVar 0) (tCons (tC (.int 2)) tNil))) (tC (.int 0))))) (tSeq (tPar 7 8 (tCons (tCall (sp__law_draw K Z) [] E0 (tCons (tVar 0) (tCons (tVar 1) tNil))) (tCons (tCall (sp__law_draw K Z) [] E0 (tCons (tVar 0) (tCons (tVar 1) tNil))) tNil))) (tSeq (tAsg (tCB rMin3 (tCons (tCall (sp__law_draw K Z) [] E0 (tCons (tVar 0) (tCons (tOp oAdd (tVar 3) (tC (.int 1))) tNil))) (tCons (tOp oAdd (tVar 3) (tOp (rIxL K) (tVar 4) (tVar 7))) (tCons (tOp oSub (tVar 3) (tOp (rIxL K) (tVar 4) (tVar 8))) tNil)))) (gName 9)) (tSeq (tAsg (tOp oSub (tOp (rIxL K) (tVar 4) (tVar 7)) (tVar 9)) (gSub (tVar 4) (tVar 7) rSetL)) (tAsg (tOp oAdd (tOp (rIxL K) (tVar 4) (tVar 8)) (tVar 9)) (gSub (tVar 4) (tVar 8) rSetL))))) tNext) (tRet (tVar 4)))))
theorem l__law_cents {K : PySem.W.Frag} {Z : Ad} {vs : List V} {H : Hp} {Q : VK} {E : XK} : sp__law_cents K Z vs H Q E → vs.length = 4 := by
  rintro ⟨_, _, _, _, _, rfl, _⟩; rfl
theorem r__law_cents {K : PySem.W.Frag} {Z : Ad} {vs : List V} {H : Hp} {Q : VK} {E : XK} (R : RuleK K Z) (h : sp__law_cents K Z vs H Q E) : t__law_cents K Z { nx := fun _ H' => Q .non H', rt := Q } (start N__law_cents vs) H := by
  obtain ⟨w, k, many, rest, most, rfl, W, hk, m1, m8, r0, r1, b0, b1, q⟩ := h
  show t__law_cents K Z _ [some (.ref w), some (.int many), some (.int rest), some (.int most), none, none, none, none, none, none] H
  unfold t__law_cents
  walk_at "go"
  refine w_lstN (by show 1 ≤ 100000; decide) fun z H1 hz c1 => ?_
  have K1 : Kw w H H1 := Kw.refl.ch hz c1
  have W1 := W.ch (W.ne hz) c1
  walk_at "go"
  refine w_repI (y' := 0) c1.at_ (by omega) (by omega) fun c H2 hc c2 => ?_
  have nc : H c = none := dom_kw K1 W1 _ hc
  have cw : c ≠ w := W1.ne hc
  have K2 := K1.ch nc c2
  have W2 := W1.ch cw c2
  have hx := c2.at_
  clear c1 c2 hz hc W1 K1
  walk_at "go"
  refine w_parK (by simp only [List.set_cons_zero, List.set_cons_succ]; exact rfl) ?_
  walk_at "go"
  refine w_for (w_rng1 ?_)
  walk_at "go"
  refine w_rng1K (by omega) (by omega) ?_
  refine for_go (src_range 0 rest.toNat) (fun i σ H' => ∃ (sp : Int) (o : Option V), σ = [some (.ref w), some (.int many), some (.int rest), some (.int most), some (.ref c), some (.int sp), o, none, none, none] ∧ 0 ≤ sp ∧ Kw w H H' ∧ Well H' w (k + i) ∧
    ∃ xs : List Int, H' c = some (.lst (xs.map V.int)) ∧ (xs.length : Int) = many ∧ xs.sum = i ∧ In 0 i xs) ⟨_, _, rfl, by decide, K2, W2, _, hx, by rw [List.length_replicate]; omega, sum_zeros _, in_zeros (by decide) (by decide) _⟩ (fun _ _ _ _ _ => trivial) ?_ ?_
  · rintro i σ H6 x H7 hi ⟨sp, o, rfl, s0, Ka, Wa, xs, hx, lx, sm, ix⟩ ⟨rfl, rfl⟩
    refine w_name (by simp only [List.set_cons_zero, List.set_cons_succ]; exact rfl) ?_
    walk_at "go"
    have fin : ∀ (s y : Int) H8 H9, 0 ≤ s → Kw w H H8 → Well H8 w (k + (i + 1)) → xs[s.toNat]? = some y → Ch c (.lst ((xs.set s.toNat (y + 1)).map V.int)) H8 H9 → Kw w H H9 ∧ Well H9 w (k + (i + 1)) ∧
          ∃ xs : List Int, H9 c = some (.lst (xs.map V.int)) ∧ (xs.length : Int) = many ∧ xs.sum = (i + 1 : Nat) ∧ In 0 (i + 1 : Nat) xs := by
      intro s y H8 H9 s0 Kb Wb hy c9
      have yb := in_at ix hy
      exact ⟨Kb.ch nc c9, Wb.ch cw c9, _, c9.at_, by rw [List.length_set, lx], by rw [sum_set hy, sm]; omega, in_set (in_mono ix (Int.le_refl 0) (by omega)) (by omega) (by omega)⟩
    refine w_ite (fun _ => ?_) fun _ => ?_
    · walk_at "go"
      refine w_draw Wa (by omega) (by omega) (by omega) fun s H8 s0 s1 Kb Wb => ?_
      walk_at "go"
      have hx8 := Kb _ _ cw hx
      refine w_ixI hx8 s0 (by omega) fun y hy => ?_
      walk_at "go"
      refine w_setI hx8 s0 (by omega) fun H9 c9 => ?_
      exact ⟨_, _, rfl, s0, fin s y H8 H9 s0 (Ka.trans Kb) Wb hy c9⟩
    · walk_at "go"
      have s0 : 0 ≤ (sp + 1) % many := Int.emod_nonneg _ (by omega)
      have s1 : (sp + 1) % many < many := Int.emod_lt_of_pos _ (by omega)
      generalize (sp + 1) % many = s at s0 s1
      refine w_ixI hx s0 (by omega) fun y hy => ?_
      walk_at "go"
      refine w_setI hx s0 (by omega) fun H9 c9 => ?_
      exact ⟨_, _, rfl, s0, fin s y _ H9 s0 Ka (Wa.mono (by omega)) hy c9⟩
  · rintro σ H6 ⟨sp, o, rfl, s0, Ka, Wa, xs, hx, lx, sm, ix⟩
    have er : ((rest.toNat : Nat) : Int) = rest := by omega
    rw [er] at sm ix
    walk_at "go"
    refine w_ite (fun hge => ?_) fun _ => ?_
    · walk_at "go"
      refine w_draw Wa (by omega) (by omega) (by omega) fun s H8 s0 s1 Kb Wb => ?_
      walk_at "go"
      refine w_ite (fun _ => ?_) fun _ => ?_
      · walk_at "go"
        refine w_draw Wb (by omega) (by omega) (by omega) fun gi H9 g0 g1 Kc Wc => ?_
        walk_at "go"
        refine w_draw Wc (by omega) (by omega) (by omega) fun ta H10 t0 t1 Kd Wd => ?_
        walk_at "go"
        refine w_parK (by simp only [List.set_cons_zero, List.set_cons_succ]; exact rfl) ?_
        walk_at "go"
        refine w_draw Wd (by omega) (by omega) (by omega) fun dd H11 d0 d1 Ke We => ?_
        walk_at "go"
        have hx11 := Ke _ _ cw (Kd _ _ cw (Kc _ _ cw (Kb _ _ cw hx)))
        refine w_ixI hx11 g0 (by omega) fun y hy => ?_
        walk_at "go"
        refine w_ixI hx11 t0 (by omega) fun u hu => ?_
        walk_at "go"
        have yb := in_at ix hy
        have ub := in_at ix hu
        refine w_min3 ?_
        have hs : ∃ s : Int, (if most + y < dd then if most - u < most + y then most - u else most + y else if most - u < dd then most - u else dd) = s ∧ s ≤ dd ∧ s ≤ most + y ∧ s ≤ most - u ∧ 0 ≤ s := by
          refine ⟨_, rfl, ?_, ?_, ?_, ?_⟩ <;> (repeat' split) <;> omega
        obtain ⟨s, es, s1, s2, s3, s4⟩ := hs
        rw [es]
        walk_at "go"
        refine w_ixI hx11 g0 (by omega) fun y' hy' => ?_
        obtain rfl : y = y' := Option.some.inj (hy.symm.trans hy')
        walk_at "go"
        refine w_setI hx11 g0 (by omega) fun H12 c12 => ?_
        walk_at "go"
        have lx2 : ((xs.set gi.toNat (y - s)).length : Int) = many := by rw [List.length_set, lx]
        refine w_ixI c12.at_ t0 (by omega) fun u' hu' => ?_
        have ub' : -1000000 ≤ u' ∧ u' ≤ 1000 := by
          rcases List.mem_or_eq_of_mem_set (List.mem_of_getElem? hu') with m | e
          · have := ix u' m; omega
          · omega
        walk_at "go"
        refine w_setI c12.at_ t0 (by omega) fun H13 c13 => ?_
        have Kf : Kw w H H11 := (((Ka.trans Kb).trans Kc).trans Kd).trans Ke
        walk_at "go"
        refine q c _ H13 ((Kf.ch nc c12).ch nc c13) (((We.mono (by omega)).ch cw c12).ch cw c13) nc c13.at_ (by rw [List.length_set, lx2]) ?_ (in_set (in_set (in_mono ix (by omega) (by omega)) (by omega) (by omega)) (by omega) (by omega))
        rw [sum_set hu', sum_set hy, sm]; omega
      · walk_at "go"
        exact q c xs _ (Ka.trans Kb) (Wb.mono (by omega)) nc (Kb _ _ cw hx) lx sm (in_mono ix (by omega) (by omega))
    · refine w_iteF ?_
      walk_at "go"
      exact q c xs _ Ka (Wa.mono (by omega)) nc hx lx sm (in_mono ix (by omega) (by omega))
end Ow

set_option Elab.async false
set_option linter.all false
set_option maxRecDepth 100000
namespace Ow
open PySem L2
local macro_rules | `(tactic| walk_at "go") => `(tactic| (repeat (with_reducible first
  | refine w_seq ?_ | refine w_asg ?_ | refine w_ret ?_ | refine w_if ?_ | refine w_next ?_ | refine w_drop ?_
  | refine w_var (by with_unfolding_all rfl) ?_ | refine w_c ?_ | refine w_op ?_ | refine w_cons ?_ | refine w_nil ?_ | refine w_cb ?_ | refine w_call ?_
  | refine w_name (by simp only [List.set_cons_zero, List.set_cons_succ]; exact rfl) ?_
  | refine w_add ?_ | refine w_sub ?_ | refine w_lt ?_ | refine w_le ?_ | refine w_gt ?_ | refine w_ge ?_ | refine w_eqI ?_ | refine w_neI ?_
  | refine w_test ?_ | refine w_testK ?_ | refine w_tB ?_ | refine w_intI ?_ | refine w_intB ?_ | refine w_max2 ?_ | refine w_min2 ?_
  | refine w_lst ?_ | refine w_tup ?_ | refine w_gSub ?_ | refine w_fld ?_ | refine w_un ?_ | refine w_neg ?_ | refine w_par ?_ | refine w_tIf ?_ | refine w_and ?_ | refine w_or ?_ | refine w_not ?_
  | refine w_mod (by omega) ?_ | refine w_div (cdiv (by omega) (by omega)) ?_ | refine w_mul (cmulL (by omega) (by omega)) ?_ | refine w_mul (cmulR (by omega) (by omega)) ?_ | refine w_pow (cpow (by omega) (by omega) (by omega) (by omega)) ?_
  | refine w_ixL (SqL.of (by assumption)) (by with_unfolding_all rfl) ?_)))
abbrev Lines := List (List Int)
abbrev fLine : Fam (List Int) := fL fI
abbrev fLines : Fam Lines := fL fLine
theorem gLine : Good fLine := gL gI
theorem gLines : Good fLines := gL gLine
structure LinesOk (n : Nat) (ls : Lines) : Prop where
  row : ∀ (i : Nat) l, ls[i]? = some l → l.length = n ∧ l.sum = i ∧ In (-2000000) 2000000 l
  zero : ∀ l, ls[0]? = some l → ∀ x ∈ l, x = 0
theorem zero_push {ls : Lines} {a : List Int} (h : ∀ l, ls[0]? = some l → ∀ x ∈ l, x = 0) (n : 1 ≤ ls.length) : ∀ l, (ls ++ [a])[0]? = some l → ∀ x ∈ l, x = 0 := fun l e => by
  rw [List.getElem?_append_left n] at e
  exact h l e
theorem snoc_at {α : Type} {xs : List α} {x y : α} {i : Nat} (h : (xs ++ [x])[i]? = some y) : xs[i]? = some y ∨ (i = xs.length ∧ y = x) := by
  rcases Nat.lt_trichotomy i xs.length with a | a | a
  · rw [List.getElem?_append_left a] at h; exact .inl h
  · subst a
    exact .inr ⟨rfl, by simpa using h.symm⟩
  · rw [List.getElem?_eq_none (by rw [List.length_append, List.length_singleton]; omega)] at h; cases h
def sp__law_lines (K : PySem.W.Frag) (Z : Ad) : Sp := fun vs H Q _ => ∃ (w : Addr) (k : Nat) (v : V) (fk : Folk) (most : Int), vs = [.ref w, v, .int most] ∧ Well H w k ∧ k < 400000000000 ∧ fFolk (Nw w) H v fk ∧ FolkOk fk ∧ fk.length ≤ 100 ∧ heavy fk ≤ 1000 ∧ 0 ≤ most ∧ most ≤ 1000000 ∧
  ∀ v ls H', Kw w H H' → Well H' w (k + 2000000) → fLines (New H) H' v ls → LinesOk fk.length ls → (ls.length : Int) = heavy fk → Q v H'
abbrev N__law_lines : List Str := ["well", "folk", "most", "heavy", "many", "is_steady", "lines", "bend", "rest", "spot", "at", "cents"]
def t__law_lines (K : PySem.W.Frag) (Z : Ad) : TS :=
  (tSeq (tPar 3 4 (tCons (tCall (sp__law_heavy K Z) [] E0 (tCons (tVar 1) tNil)) (tCons (tCB (rLen K) (tCons (tVar 1) tNil)) tNil))) (tSeq (tAsg (tOp rEq (tCall (sp__law_draw K Z) [] E0 (tCons (tVar 0) (tCons (tC (.int 2)) tNil))) (tC (.int 0))) (gName 5)) (tSeq (tPar 6 7 (tCons (tLst (tCons (tOp rRep (tLst (tCons (tC (.int 0)) tNil)) (tVar 4)) tNil)) (tCons (tOp oDiv (tOp oSub (tVar 2) (tVar 3)) (tC (.int 2))) tNil))) (tSeq (tIfS (tTest (tOp oLt (tVar 7) (tOp oSub (tVar 3) (tC (.int 1))))) (tAsg (tC (.int 0)) (gName 7)) tNext) (tSeq (tFor (iRng2 (tCons (tC (.int 1)) (tCons (tVar 3) tNil))) (gName 8) (tIfS (tB (tVar 5)) (tSeq (tAsg (tCall (sp__law_draw K Z) [] E0 (tCons (tVar 0) (tCons (tVar 4) tNil))) (gName 9)) (tDrop (tBM K "list" rAppend (tVar 6) (tCons (tLc (iEnum K (tCons (tOp (rIxL K) (tVar 6) (tUn oNeg (tC (.int 1)))) tNil)) (gTup K 2 (gCons (gName 10) (gCons (gName 11) gNil))) tYes (tOp oAdd (tVar 11) (tCB rInt1 (tCons (tOp rEq (tVar 10) (tVar 9)) tNil))) [10, 11]) tNil)))) (tDrop (tBM K "list" rAppend (tVar 6) (tCons (tCall (sp__law_cents K Z) [] E0 (tCons (tVar 0) (tCons (tVar 4) (tCons (tVar 8) (tCons (tVar 7) tNil))))) tNil))))) (tRet (tVar 6)))))))
theorem l__law_lines {K : PySem.W.Frag} {Z : Ad} {vs : List V} {H : Hp} {Q : VK} {E : XK} : sp__law_lines K Z vs H Q E → vs.length = 3 := by
  rintro ⟨_, _, _, _, _, rfl, _⟩; rfl
theorem r__law_lines {K : PySem.W.Frag} {Z : Ad} {vs : List V} {H : Hp} {Q : VK} {E : XK} (R : RuleK K Z) (h : sp__law_lines K Z vs H Q E) : t__law_lines K Z { nx := fun _ H' => Q .non H', rt := Q } (start N__law_lines vs) H := by
  obtain ⟨w, k, v, fk, most, rfl, W, hk, ff, fo, n8, h8, b0, b1, q⟩ := h
  show t__law_lines K Z _ [some (.ref w), some v, some (.int most), none, none, none, none, none, none, none, none, none] H
  unfold t__law_lines
  have h0 := fo.pos
  have n0 := fo.len
  walk_at "go"
  refine ⟨v, fk, _, rfl, ff, by omega, fun H1 s1 => ?_⟩
  have f1 := gFolk.same s1 ff
  have K1 : Kw w H H1 := Kw.of s1
  have W1 := W.same s1
  walk_at "go"
  refine w_lenF f1 ?_
  walk_at "go"
  generalize hh : heavy fk = hv at h0 h8 q
  refine w_parK (by simp only [List.set_cons_zero, List.set_cons_succ]; exact rfl) ?_
  walk_at "go"
  refine w_draw W1 (by omega) (by omega) (by omega) fun d H2 d0 d1 K2 W2 => ?_
  have K3 := K1.trans K2
  walk_at "go"
  generalize decide (d = 0) = st
  refine w_lstN (by show 1 ≤ 100000; decide) fun z H3 hz c3 => ?_
  have K4 := K3.ch (dom_kw K3 W2 _ hz) c3
  have W4 := W2.ch (W2.ne hz) c3
  walk_at "go"
  refine w_repI (y' := 0) c3.at_ (by omega) (by omega) fun r H4 hr c4 => ?_
  have nr : H r = none := dom_kw K4 W4 _ hr
  have K5 := K4.ch nr c4
  have W5 := W4.ch (W4.ne hr) c4
  walk_at "go"
  refine w_lstN (by show 1 ≤ 100000; decide) fun L H5 hL c5 => ?_
  have nL : H L = none := dom_kw K5 W5 _ hL
  have Lw : L ≠ w := W5.ne hL
  have K6 := K5.ch nL c5
  have W6 := W5.ch Lw c5
  have B6 : Box fLine H L H5 [List.replicate fk.length 0] := ⟨_, c5.at_, .one ⟨r, _, rfl, ⟨nr, ne_of_none c4.at_ hL⟩, c5.keep (ne_of_none c4.at_ hL) c4.at_, by rw [Int.toNat_natCast]; exact All2.map_eq⟩⟩
  clear c3 c4 c5 hz hr K4 W4 K5 W5 K2 W2 K3 f1
  walk_at "go"
  refine w_parK (by simp only [List.set_cons_zero, List.set_cons_succ]; exact rfl) ?_
  walk_at "go"
  have bend : ∃ (b : Int), -1000000 ≤ b ∧ b ≤ 1000000 ∧ b = (most - hv) / 2 := ⟨_, by omega, by omega, rfl⟩
  obtain ⟨b, l0, l1, eb⟩ := bend
  rw [← eb]
  have main : ∀ b : Int, -1000000 ≤ b → b ≤ 1000000 → (tSeq (tFor (iRng2 (tCons (tC (.int 1)) (tCons (tVar 3) tNil))) (gName 8) (tIfS (tB (tVar 5)) (tSeq (tAsg (tCall (sp__law_draw K Z) [] E0 (tCons (tVar 0) (tCons (tVar 4) tNil))) (gName 9)) (tDrop (tBM K "list" rAppend (tVar 6) (tCons (tLc (iEnum K (tCons (tOp (rIxL K) (tVar 6) (tUn oNeg (tC (.int 1)))) tNil)) (gTup K 2 (gCons (gName 10) (gCons (gName 11) gNil))) tYes (tOp oAdd (tVar 11) (tCB rInt1 (tCons (tOp rEq (tVar 10) (tVar 9)) tNil))) [10, 11]) tNil)))) (tDrop (tBM K "list" rAppend (tVar 6) (tCons (tCall (sp__law_cents K Z) [] E0 (tCons (tVar 0) (tCons (tVar 4) (tCons (tVar 8) (tCons (tVar 7) tNil))))) tNil))))) (tRet (tVar 6)))
      ⟨fun _ H' => Q .non H', Q, fun _ _ => False, fun _ _ => False⟩ [some (.ref w), some v, some (.int most), some (.int hv), some (.int fk.length), some (.bl st), some (.ref L), some (.int b), none, none, none, none] H5 := by
    intro b l0 l1
    walk_at "go"
    refine w_for (w_rng2 ?_)
    walk_at "go"
    refine w_rng2K (by omega) (by omega) (by omega) (by omega) ?_
    refine for_go (src_range 1 (hv - 1).toNat) (fun i σ H' => ∃ o1 o2 o3 o4, σ = [some (.ref w), some v, some (.int most), some (.int hv), some (.int fk.length), some (.bl st), some (.ref L), some (.int b), o1, o2, o3, o4] ∧ Kw w H H' ∧ Well H' w (k + 1 + 1100 * i) ∧
      ∃ ls : Lines, Box fLine H L H' ls ∧ ls.length = i + 1 ∧ LinesOk fk.length ls ∧ (st = true → ∀ l, ls[i]? = some l → In 0 i l)) ⟨_, _, _, _, rfl, K6, W6, _, B6, rfl, ⟨fun i l e => ?_, fun l e x m => by
      have e : List.replicate fk.length 0 = l := by simpa using e
      subst e
      exact List.eq_of_mem_replicate m⟩, fun _ l e => ?_⟩ (fun _ _ _ _ _ => trivial) ?_ ?_
    · cases i with
      | zero =>
        have e : List.replicate fk.length 0 = l := by simpa using e
        subst e
        exact ⟨List.length_replicate .., sum_zeros _, in_zeros (by decide) (by decide) _⟩
      | succ i => simp at e
    · have e : List.replicate fk.length 0 = l := by simpa using e
      subst e
      exact in_zeros (by decide) (by decide) _
    · rintro i σ H6 x H7 hi ⟨o1, o2, o3, o4, rfl, Ka, Wa, ls, B, ll, lo, ls0⟩ ⟨rfl, rfl⟩
      refine w_name (by simp only [List.set_cons_zero, List.set_cons_succ]; exact rfl) ?_
      walk_at "go"
      obtain ⟨la, ea⟩ : ∃ l, ls[i]? = some l := ⟨_, List.getElem?_eq_getElem (by omega)⟩
      obtain ⟨r1, r2, r3⟩ := lo.row i la ea
      refine w_iteB (fun est => ?_) fun est => ?_
      · have r4 := ls0 est la ea
        walk_at "go"
        refine w_draw Wa (by omega) (by omega) (by omega) fun s H8 s0 s1 Kb Wb => ?_
        have B8 := B.kn gLine nL (Kn.kw W Kb)
        have Kc := Ka.trans Kb
        walk_at "go"
        refine w_bm ?_
        walk_at "go"
        refine B8.bm ?_
        walk_at "go"
        refine w_lc (w_enum ?_)
        walk_at "go"
        obtain ⟨vs, hv8, rv⟩ := B8
        obtain ⟨u, eu, fu⟩ := rv.getR ea
        have lvs : vs.length = i + 1 := by rw [rv.length, ll]
        have at1 : atI vs (-1) = some u := by
          have : ixN vs.length (-1) = some i := by
            unfold ixN
            rw [if_neg (by decide), if_pos (by omega)]
            congr 1
            omega
          unfold atI
          rw [this]
          exact eu
        refine w_ixL (SqL.of hv8) at1 ?_
        obtain ⟨ua, rfl, su, hu⟩ := ints_of fu
        walk_at "go"
        refine w_enumK (SqL.of hu) ?_
        obtain ⟨y, hy⟩ := at_some (xs := la) s0 (by omega)
        refine lc_same gI (src_enum (xs := la.map V.int)) (fun j as => as = (la.set s.toNat (y + 1)).take j) (by rw [List.length_map]; omega) rfl (fun H' s => SqL.of (s _ _ hu)) ?_ ?_
        · rintro j as H9 x H10 N N' hj rfl s9 ⟨T, z, rfl, nT, rfl, ez⟩ hN hN'
          rw [List.getElem?_map] at ez
          cases ec : la[j]? with
          | none => rw [ec] at ez; cases ez
          | some c =>
            rw [ec] at ez
            cases ez
            refine w_gTup (SqT.of upd_same) rfl ?_
            refine w_gCons (w_name (by simp only [wipe, List.set_cons_zero, List.set_cons_succ]; exact rfl) ?_)
            refine w_gCons (w_name (by simp only [wipe, List.set_cons_zero, List.set_cons_succ]; exact rfl) ?_)
            refine w_gNil ?_
            refine ⟨rfl, ?_⟩
            refine w_yes (w_iteT ?_)
            walk_at "go"
            refine hN _ _ _ (snew nT) rfl (take_snoc ?_)
            rw [List.getElem?_set]
            have hj' : j < la.length := (List.getElem?_eq_some_iff.mp ec).1
            by_cases e : s.toNat = j
            · subst e
              rw [hy] at ec
              cases ec
              rw [if_pos rfl, if_pos hj', decide_eq_true (by omega)]
              rfl
            · rw [if_neg e, ec, decide_eq_false (by omega)]
              show some c = some (c + 0)
              rw [Int.add_zero]
        · rintro D as H9 hD s9 rfl f9
          walk_at "go"
          have el : (la.map V.int).length = (la.set s.toNat (y + 1)).length := by rw [List.length_map, List.length_set]
          rw [el, take_all] at f9
          have B9 : Box fLine H L H9 ls := Box.kn ⟨vs, hv8, rv⟩ gLine nL (Kn.same s9)
          refine B9.push gLine (gLine.mono (New.off (dom_kw Kc Wb) (by rw [hv8]; exact fun z => nomatch z)) f9) (by omega) fun vs2 H10 c10 B10 => ?_
          walk_at "go"
          have yb := in_at r4 hy
          have i4 : In 0 (i + 1 : Nat) (la.set s.toNat (y + 1)) := in_set (in_mono r4 (Int.le_refl 0) (by omega)) (by omega) (by omega)
          refine ⟨_, _, _, _, rfl, (Kc.trans (Kw.of s9)).ch nL c10, ((Wb.same s9).mono (by omega)).ch Lw c10, _, B10, by rw [List.length_append, ll]; rfl, ⟨fun j l e => ?_, zero_push lo.zero (by omega)⟩, fun _ l e => ?_⟩
          · rcases snoc_at e with e | ⟨rfl, rfl⟩
            · exact lo.row j l e
            · refine ⟨by rw [List.length_set, r1], by rw [sum_set hy, r2, ll]; omega, in_mono i4 (by omega) (by omega)⟩
          · rcases snoc_at e with e | ⟨_, rfl⟩
            · have := (List.getElem?_eq_some_iff.mp e).1
              omega
            · exact i4
      · walk_at "go"
        refine w_bm ?_
        walk_at "go"
        refine B.bm ?_
        walk_at "go"
        refine ⟨w, _, fk.length, 1 + (i : Int), b, rfl, Wa, by omega, by omega, by omega, by omega, by omega, l0, l1, fun a xs H8 Kb Wb na ha la' sm ix => ?_⟩
        have B8 := B.kn gLine nL (Kn.kw W Kb)
        walk_at "go"
        refine B8.push gLine ⟨a, _, rfl, New.off (dom_kw Ka Wa) B.some a na, ha, All2.map_eq⟩ (by omega) fun vs2 H10 c10 B10 => ?_
        walk_at "go"
        refine ⟨_, _, _, _, rfl, (Ka.trans Kb).ch nL c10, (Wb.mono (by omega)).ch Lw c10, _, B10, by rw [List.length_append, ll]; rfl, ⟨fun j l e => ?_, zero_push lo.zero (by omega)⟩, fun e => by rw [est] at e; cases e⟩
        rcases snoc_at e with e | ⟨rfl, rfl⟩
        · exact lo.row j l e
        · exact ⟨by omega, by rw [sm, ll]; omega, ix⟩
    · rintro σ H6 ⟨o1, o2, o3, o4, rfl, Ka, Wa, ls, B, ll, lo, ls0⟩
      walk_at "go"
      exact q _ ls H6 Ka (Wa.mono (by omega)) (B.fam gLine nL) lo (by omega)
  refine w_ite (fun _ => ?_) fun _ => ?_
  · walk_at "go"
    exact main 0 (by decide) (by decide)
  · exact main b l0 l1
end Ow

set_option Elab.async false
set_option linter.all false
set_option maxRecDepth 100000
namespace Ow
open PySem L2
local macro_rules | `(tactic| walk_at "go") => `(tactic| (repeat (with_reducible first
  | refine w_seq ?_ | refine w_asg ?_ | refine w_ret ?_ | refine w_if ?_ | refine w_next ?_ | refine w_drop ?_
  | refine w_var (by with_unfolding_all rfl) ?_ | refine w_c ?_ | refine w_op ?_ | refine w_cons ?_ | refine w_nil ?_ | refine w_cb ?_ | refine w_call ?_
  | refine w_name (by simp only [List.set_cons_zero, List.set_cons_succ]; exact rfl) ?_
  | refine w_add ?_ | refine w_sub ?_ | refine w_lt ?_ | refine w_le ?_ | refine w_gt ?_ | refine w_ge ?_ | refine w_eqI ?_ | refine w_neI ?_
  | refine w_test ?_ | refine w_testK ?_ | refine w_tB ?_ | refine w_intI ?_ | refine w_intB ?_ | refine w_max2 ?_ | refine w_min2 ?_
  | refine w_lst ?_ | refine w_tup ?_ | refine w_gSub ?_ | refine w_fld ?_ | refine w_un ?_ | refine w_neg ?_ | refine w_par ?_ | refine w_tIf ?_ | refine w_and ?_ | refine w_or ?_ | refine w_not ?_
  | refine w_mod (by omega) ?_ | refine w_div (cdiv (by omega) (by omega)) ?_ | refine w_mul (cmulL (by omega) (by omega)) ?_ | refine w_mul (cmulR (by omega) (by omega)) ?_ | refine w_pow (cpow (by omega) (by omega) (by omega) (by omega)) ?_
  | refine w_ixL (SqL.of (by assumption)) (by with_unfolding_all rfl) ?_)))
abbrev Deal := List Int × Int
abbrev Row := List Deal
abbrev Tabs := List Row
abbrev fDeal : Fam Deal := fT fLine fI
abbrev fRow : Fam Row := fL fDeal
abbrev fTabs : Fam Tabs := fL fRow
theorem gDeal : Good fDeal := gT gLine gI
theorem gRow : Good fRow := gL gDeal
theorem gTabs : Good fTabs := gL gRow
structure DealOk (n : Nat) (b : Int) (m : Nat) (e : Nat) (p : Deal) : Prop where
  len : p.1.length = n
  sum : p.1.sum = e
  in_ : In (-b) b p.1
  lo : 0 ≤ p.2
  hi : p.2 < m
structure RowOk (n : Nat) (h b : Int) (m : Nat) (r : Row) : Prop where
  len : (r.length : Int) = h
  deal : ∀ (e : Nat) p, r[e]? = some p → DealOk n b m e p
structure TabsOk (n : Nat) (h b : Int) (ts : Tabs) : Prop where
  len : 1 ≤ ts.length
  row : ∀ (s : Nat) r, ts[s]? = some r → RowOk n h b ts.length r
  zero : ∀ r p, ts[0]? = some r → r[0]? = some p → ∀ x ∈ p.1, x = 0
/-- t times the load, and the one line less the other -/
def mix (t : Int) : Folk → List Int → List Int → List Int
  | p :: fk, x :: a, y :: b => (t * p.2 + x - y) :: mix t fk a b
  | _, _, _ => []
theorem mix_at {t : Int} : ∀ {fk : Folk} {a b : List Int} {j : Nat} {p x y}, fk[j]? = some p → a[j]? = some x → b[j]? = some y → (mix t fk a b)[j]? = some (t * p.2 + x - y)
  | [], _, _, _, _, _, _, h, _, _ => by simp at h
  | _ :: _, [], _, _, _, _, _, _, h, _ => by simp at h
  | _ :: _, _ :: _, [], _, _, _, _, _, _, h => by simp at h
  | p :: fk, x :: a, y :: b, 0, p', x', y', h1, h2, h3 => by
    have e1 : p = p' := by simpa using h1
    have e2 : x = x' := by simpa using h2
    have e3 : y = y' := by simpa using h3
    subst e1; subst e2; subst e3; rfl
  | p :: fk, x :: a, y :: b, j + 1, p', x', y', h1, h2, h3 => mix_at (fk := fk) (a := a) (b := b) (j := j) (by simpa using h1) (by simpa using h2) (by simpa using h3)
theorem mix_len {t : Int} : ∀ {fk : Folk} {a b : List Int}, a.length = fk.length → b.length = fk.length → (mix t fk a b).length = fk.length
  | [], _, _, _, _ => rfl
  | p :: fk, x :: a, y :: b, h1, h2 => congrArg Nat.succ (mix_len (fk := fk) (by simpa using h1) (by simpa using h2))
  | _ :: _, [], _, h, _ => by simp at h
  | _ :: _, _ :: _, [], _, h => by simp at h
theorem mix_sum {t : Int} : ∀ {fk : Folk} {a b : List Int}, a.length = fk.length → b.length = fk.length → (mix t fk a b).sum = t * heavy fk + a.sum - b.sum
  | [], [], [], _, _ => by show (0 : Int) = t * 0 + 0 - 0; rw [Int.mul_zero]; rfl
  | [], _ :: _, _, h, _ => by simp at h
  | [], [], _ :: _, _, h => by simp at h
  | p :: fk, x :: a, y :: b, h1, h2 => by
    have ih := mix_sum (t := t) (fk := fk) (a := a) (b := b) (by simpa using h1) (by simpa using h2)
    show (t * p.2 + x - y + (mix t fk a b).sum) = t * (p.2 + heavy fk) + (x + a.sum) - (y + b.sum)
    rw [ih, Int.mul_add]; omega
  | _ :: _, [], _, h, _ => by simp at h
  | _ :: _, _ :: _, [], _, h => by simp at h
theorem mix_in {t lo hi : Int} (t0 : 0 ≤ t) (t1 : t ≤ 1) {q : Int} : ∀ {fk : Folk} {a b : List Int}, (∀ x ∈ fk.map Prod.snd, 0 ≤ x ∧ x ≤ q) → In lo hi a → In lo hi b → 0 ≤ q → In (lo - hi) (q + hi - lo) (mix t fk a b)
  | [], _, _, _, _, _, _ => fun x m => by cases m
  | p :: fk, [], _, _, _, _, _ => fun x m => by cases m
  | p :: fk, _ :: _, [], _, _, _, _ => fun x m => by cases m
  | p :: fk, x :: a, y :: b, h1, h2, h3, hq => fun z m => by
    have a1 := h1 p.2 (List.mem_cons_self ..)
    have a2 := h2 x (List.mem_cons_self ..)
    have a3 := h3 y (List.mem_cons_self ..)
    rcases List.mem_cons.mp m with rfl | m
    · have : t * p.2 = 0 ∨ t * p.2 = p.2 := by
        have : t = 0 ∨ t = 1 := by omega
        rcases this with rfl | rfl
        · exact .inl (Int.zero_mul _)
        · exact .inr (Int.one_mul _)
      omega
    · exact mix_in t0 t1 (fk := fk) (a := a) (b := b) (fun x m => h1 x (List.mem_cons_of_mem _ m)) (fun x m => h2 x (List.mem_cons_of_mem _ m)) (fun x m => h3 x (List.mem_cons_of_mem _ m)) hq z m
theorem mix_zero : ∀ {fk : Folk} {a : List Int}, ∀ x ∈ mix 0 fk a a, x = 0
  | [], _ => fun x m => by cases m
  | p :: fk, [] => fun x m => by cases m
  | p :: fk, y :: a => fun x m => by
    rcases List.mem_cons.mp m with rfl | m
    · omega
    · exact mix_zero (fk := fk) (a := a) x m
/-- the table's step: from state s by rest e -/
def stepOf (fk : Folk) (ls : Lines) (s e : Int) : Deal :=
  (mix ((s + e) / ls.length) fk (ls.getD ((s + e) % ls.length).toNat []) (ls.getD s.toNat []), (s + e) % ls.length)
theorem getD_is {α : Type} {xs : List α} {i : Nat} {x d : α} (h : xs[i]? = some x) : xs.getD i d = x := by rw [List.getD_eq_getElem?_getD, h]; rfl
def rowOf (fk : Folk) (ls : Lines) (n : Nat) (s : Int) : Row := (List.range n).map fun e : Nat => stepOf fk ls s (0 + (e : Int))
def tableOf (fk : Folk) (ls : Lines) : Tabs := (List.range ls.length).map fun s : Nat => rowOf fk ls ls.length (0 + (s : Int))
theorem map_is {α : Type} {f : Nat → α} {xs : List α} {n : Nat} (l : xs.length = n) (h : ∀ (i : Nat) x, xs[i]? = some x → x = f i) : xs = (List.range n).map f := by
  refine List.ext_getElem? fun i => ?_
  by_cases hi : i < n
  · obtain ⟨x, ex⟩ : ∃ x, xs[i]? = some x := ⟨_, List.getElem?_eq_getElem (by omega)⟩
    rw [ex, List.getElem?_map, List.getElem?_range hi, h i x ex]; rfl
  · rw [List.getElem?_eq_none (by omega), List.getElem?_eq_none (by rw [List.length_map, List.length_range]; omega)]
def sp__law_by_table (K : PySem.W.Frag) (Z : Ad) : Sp := fun vs H Q _ => ∃ (v u : V) (fk : Folk) (ls : Lines) (S : Addr → Prop), vs = [v, u] ∧ fFolk S H v fk ∧ fLines S H u ls ∧ FolkOk fk ∧ LinesOk fk.length ls ∧ (ls.length : Int) = heavy fk ∧ fk.length ≤ 100 ∧ heavy fk ≤ 1000 ∧
  ∀ v ts H', Same H H' → fTabs (New H) H' v ts → TabsOk fk.length (heavy fk) 5000000 ts → (ts.length : Int) = heavy fk → ts = tableOf fk ls → Q v H'
abbrev N__law_by_table : List Str := ["folk", "lines", "found", "rest", "deals", "more", "times", "goal", "new", "old", "cents", "at", "duo"]
def t__law_by_table (K : PySem.W.Frag) (Z : Ad) : TS :=
  (tSeq (tAsg (tLst tNil) (gName 2)) (tSeq (tFor (iRng1 (tCons (tCB (rLen K) (tCons (tVar 1) tNil)) tNil)) (gName 3) (tSeq (tAsg (tLst tNil) (gName 4)) (tSeq (tFor (iRng1 (tCons (tCB (rLen K) (tCons (tVar 1) tNil)) tNil)) (gName 5) (tSeq (tAsg (tCB rInt1 (tCons (tOp oGe (tOp oAdd (tVar 3) (tVar 5)) (tCB (rLen K) (tCons (tVar 1) tNil))) tNil)) (gName 6)) (tSeq (tAsg (tOp oSub (tOp oAdd (tVar 3) (tVar 5)) (tOp oMul (tVar 6) (tCB (rLen K) (tCons (tVar 1) tNil)))) (gName 7)) (tSeq (tAsg (tTup (tCons (tOp (rIxL K) (tVar 1) (tVar 7)) (tCons (tOp (rIxL K) (tVar 1) (tVar 3)) tNil))) (gTup K 2 (gCons (gName 8) (gCons (gName 9) gNil)))) (tSeq (tAsg (tLc (iEnum K (tCons (tVar 0) tNil)) (gTup K 2 (gCons (gName 11) (gCons (gName 12) gNil))) tYes (tOp oSub (tOp oAdd (tOp oMul (tVar 6) (tOp (rIxT K) (tVar 12) (tC (.int 1)))) (tOp (rIxL K) (tVar 8) (tVar 11))) (tOp (rIxL K) (tVar 9) (tVar 11))) [11, 12]) (gName 10)) (tDrop (tBM K "list" rAppend (tVar 4) (tCons (tTup (tCons (tVar 10) (tCons (tVar 7) tNil))) tNil)))))))) (tDrop (tBM K "list" rAppend (tVar 2) (tCons (tVar 4) tNil)))))) (tRet (tVar 2))))
theorem l__law_by_table {K : PySem.W.Frag} {Z : Ad} {vs : List V} {H : Hp} {Q : VK} {E : XK} : sp__law_by_table K Z vs H Q E → vs.length = 2 := by
  rintro ⟨_, _, _, _, _, rfl, _⟩; rfl
theorem r__law_by_table {K : PySem.W.Frag} {Z : Ad} {vs : List V} {H : Hp} {Q : VK} {E : XK} (R : RuleK K Z) (h : sp__law_by_table K Z vs H Q E) : t__law_by_table K Z { nx := fun _ H' => Q .non H', rt := Q } (start N__law_by_table vs) H := by
  obtain ⟨v, u, fk, ls, S, rfl, ff, fl, fo, lo, ll, n8, h8, q⟩ := h
  show t__law_by_table K Z _ [some v, some u, none, none, none, none, none, none, none, none, none, none, none] H
  unfold t__law_by_table
  have h0 := fo.pos
  have n0 := fo.len
  have nn := fo.nn
  have le := le_sum nn
  change ∀ x ∈ fk.map Prod.snd, x ≤ heavy fk at le
  have hmix := fun t a b => mix_sum (t := t) (fk := fk) (a := a) (b := b)
  generalize hh : heavy fk = hv at h0 h8 q ll le hmix
  walk_at "go"
  refine w_lstN (by show 0 ≤ 100000; decide) fun A H1 nA c1 => ?_
  have s1 := c1.same nA
  have B1 : Box fRow H A H1 [] := Box.mk0 c1.at_
  walk_at "go"
  refine w_for (w_rng1 ?_)
  walk_at "go"
  refine w_lenF (gLines.same s1 fl) ?_
  rw [ll]
  refine w_rng1K (by omega) (by omega) ?_
  refine for_go (src_range 0 hv.toNat) (fun i σ H' => ∃ o1 o2 o3 o4 o5 o6 o7 o8 o9 o10, σ = [some v, some u, some (.ref A), o1, o2, o3, o4, o5, o6, o7, o8, o9, o10] ∧ Same H H' ∧
    ∃ ts : Tabs, Box fRow H A H' ts ∧ ts.length = i ∧ (∀ (s : Nat) r, ts[s]? = some r → RowOk fk.length hv 5000000 hv.toNat r ∧ r = rowOf fk ls ls.length (0 + (s : Int))) ∧ (∀ r p, ts[0]? = some r → r[0]? = some p → ∀ x ∈ p.1, x = 0)) ⟨_, _, _, _, _, _, _, _, _, _, rfl, s1, [], B1, rfl, fun s r e => by simp at e, fun r p e => by simp at e⟩ (fun _ _ _ _ _ => trivial) ?_ ?_
  · rintro i σ H2 x H3 hi ⟨o1, o2, o3, o4, o5, o6, o7, o8, o9, o10, rfl, s2, ts, B2, lt, ro, zo⟩ ⟨rfl, rfl⟩
    refine w_name (by simp only [List.set_cons_zero, List.set_cons_succ]; exact rfl) ?_
    walk_at "go"
    refine w_lstN (by show 0 ≤ 100000; decide) fun L H4 nL c4 => ?_
    have s4 := c4.same nL
    have B4 : Box fDeal H3 L H4 [] := Box.mk0 c4.at_
    walk_at "go"
    refine w_for (w_rng1 ?_)
    walk_at "go"
    refine w_lenF (gLines.same (s2.trans s4) fl) ?_
    rw [ll]
    refine w_rng1K (by omega) (by omega) ?_
    refine for_go (src_range 0 hv.toNat) (fun e σ H' => ∃ o3 o4 o5 o6 o7 o8 o9 o10, σ = [some v, some u, some (.ref A), some (.int (0 + (i : Int))), some (.ref L), o3, o4, o5, o6, o7, o8, o9, o10] ∧ Same H3 H' ∧
      ∃ r : Row, Box fDeal H3 L H' r ∧ r.length = e ∧ (∀ (e : Nat) p, r[e]? = some p → DealOk fk.length 5000000 hv.toNat e p ∧ p = stepOf fk ls (0 + (i : Int)) (0 + (e : Int))) ∧ (i = 0 → ∀ p, r[0]? = some p → ∀ x ∈ p.1, x = 0)) ⟨_, _, _, _, _, _, _, _, rfl, s4, [], B4, rfl, fun s r e => by simp at e, fun _ p e => by simp at e⟩ (fun _ _ _ _ _ => trivial) ?_ ?_
    · rintro e σ H5 x H6 he ⟨o3, o4, o5, o6, o7, o8, o9, o10, rfl, s5, r, B5, lr, dk, zk⟩ ⟨rfl, rfl⟩
      have s6 := s2.trans s5
      refine w_name (by simp only [List.set_cons_zero, List.set_cons_succ]; exact rfl) ?_
      walk_at "go"
      refine w_lenF (gLines.same s6 fl) ?_
      rw [ll]
      walk_at "go"
      obtain ⟨t, et, tc⟩ : ∃ t : Int, (if decide (hv ≤ 0 + (i : Int) + (0 + (e : Int))) = true then (1 : Int) else 0) = t ∧ ((t = 1 ∧ hv ≤ (i : Int) + e) ∨ (t = 0 ∧ (i : Int) + e < hv)) := by
        by_cases c : hv ≤ 0 + (i : Int) + (0 + (e : Int))
        · exact ⟨1, by rw [decide_eq_true c]; rfl, .inl ⟨rfl, by omega⟩⟩
        · exact ⟨0, by rw [decide_eq_false c]; rfl, .inr ⟨rfl, by omega⟩⟩
      rw [et]
      have t0 : 0 ≤ t := by omega
      have t1 : t ≤ 1 := by omega
      refine w_lenF (gLines.same s6 fl) ?_
      rw [ll]
      refine w_mul (cmulL (by omega) (by omega)) ?_
      walk_at "go"
      obtain ⟨go, eg, g0, g1, gs⟩ : ∃ go : Int, 0 + (i : Int) + (0 + (e : Int)) - t * hv = go ∧ 0 ≤ go ∧ go < hv ∧ t * hv + go - i = e := by
        rcases tc with ⟨rfl, c⟩ | ⟨rfl, c⟩
        · exact ⟨_, rfl, by omega, by omega, by omega⟩
        · exact ⟨_, rfl, by omega, by omega, by omega⟩
      rw [eg]
      refine w_ixF (gLines.same s6 fl) g0 (by omega) fun un xn en fn => ?_
      walk_at "go"
      refine w_ixF (gLines.same s6 fl) (by omega) (by omega) fun uo xo eo fo' => ?_
      walk_at "go"
      refine w_tupN (by show 2 ≤ 100000; decide) fun T H7 nT c7 => ?_
      have s7 := c7.same nT
      refine w_gTup (SqT.of c7.at_) rfl ?_
      refine w_gCons (w_name (by simp only [List.set_cons_zero, List.set_cons_succ]; exact rfl) ?_)
      refine w_gCons (w_name (by simp only [List.set_cons_zero, List.set_cons_succ]; exact rfl) ?_)
      refine w_gNil ?_
      obtain ⟨an, rfl, _, hn⟩ := ints_of (gLine.same s7 fn)
      obtain ⟨ao, rfl, _, ho⟩ := ints_of (gLine.same s7 fo')
      have ff7 := gFolk.same (s6.trans s7) ff
      have B7 := B5.kn gDeal nL (Kn.same s7)
      obtain ⟨n1, n2, n3⟩ := lo.row _ _ en
      obtain ⟨m1, m2, m3⟩ := lo.row _ _ eo
      have Lgo : ((go.toNat : Nat) : Int) = go := by omega
      have Lio : (((0 + (i : Int)).toNat : Nat) : Int) = i := by omega
      rw [Lgo] at n2
      rw [Lio] at m2
      clear fn fo' c7 nT
      walk_at "go"
      refine w_lc (w_enum ?_)
      walk_at "go"
      obtain ⟨af, us, rfl, _, hf, al⟩ := ff7
      refine w_enumK (SqL.of hf) ?_
      refine lc_same gI (src_enum (xs := us)) (fun j as => as = (mix t fk xn xo).take j) (by rw [al.length]; omega) rfl (fun H' s => SqL.of (s _ _ hf)) ?_ ?_
      · rintro j as H9 x H10 N N' hj rfl s9 ⟨T, z, rfl, nT, rfl, ez⟩ hN hN'
        obtain ⟨p, hp, fp⟩ := al.get ez
        have hj' : j < fk.length := (List.getElem?_eq_some_iff.mp hp).1
        obtain ⟨xj, hxj⟩ : ∃ x, xn[j]? = some x := ⟨_, List.getElem?_eq_getElem (by omega)⟩
        obtain ⟨yj, hyj⟩ : ∃ x, xo[j]? = some x := ⟨_, List.getElem?_eq_getElem (by omega)⟩
        have s10 := s9.trans (snew (o := .tup [.int (j : Nat), z]) nT)
        refine w_gTup (SqT.of upd_same) rfl ?_
        refine w_gCons (w_name (by simp only [wipe, List.set_cons_zero, List.set_cons_succ]; exact rfl) ?_)
        refine w_gCons (w_name (by simp only [wipe, List.set_cons_zero, List.set_cons_succ]; exact rfl) ?_)
        refine w_gNil ?_
        refine ⟨rfl, ?_⟩
        refine w_yes (w_iteT ?_)
        walk_at "go"
        refine w_ixP1 ((gT gS gI).same s10 fp) fun pu f2 => ?_
        cases f2
        refine w_mul (cmulL (by omega) (by omega)) ?_
        walk_at "go"
        refine w_ixI (s10 _ _ hn) (by omega) (by omega) fun x' hx' => ?_
        rw [Int.toNat_natCast, hxj] at hx'
        cases hx'
        walk_at "go"
        refine w_ixI (s10 _ _ ho) (by omega) (by omega) fun y' hy' => ?_
        rw [Int.toNat_natCast, hyj] at hy'
        cases hy'
        walk_at "go"
        exact hN _ _ _ (snew nT) rfl (take_snoc (mix_at hp hxj hyj))
      · rintro D as H9 nD s9 rfl f9
        have el : us.length = (mix t fk xn xo).length := by rw [al.length, mix_len n1 m1]
        rw [el, take_all] at f9
        obtain ⟨D', e', _, hD⟩ := ints_of f9
        cases e'
        have B9 := B7.kn gDeal nL (Kn.same s9)
        walk_at "go"
        refine w_bm ?_
        walk_at "go"
        refine B9.bm ?_
        walk_at "go"
        refine w_tupN (by show 2 ≤ 100000; decide) fun T H10 nT c10 => ?_
        have s10 := c10.same nT
        have B10 := B9.ch gDeal nT c10
        have s37 := s5.trans s7
        have s39 := s37.trans s9
        have T3 := dom_same s39 T nT
        have D3 := dom_same s37 D nD
        have Ll := B9.some
        walk_at "go"
        refine B10.push (a := (mix t fk xn xo, go)) gDeal ⟨T, _, _, rfl, ⟨T3, fun e => Ll (e ▸ nT)⟩, c10.at_, ⟨D, _, rfl, ⟨D3, fun e => B7.some (e ▸ nD)⟩, c10.same nT _ _ hD, All2.map_eq⟩, rfl⟩ (by omega) fun vs2 H11 c11 B11 => ?_
        walk_at "go"
        refine ⟨_, _, _, _, _, _, _, _, rfl, sch (s39.trans s10) nL c11, _, B11, by rw [List.length_append, lr]; rfl, fun e' p ep => ?_, fun i0 p ep => ?_⟩
        · rcases snoc_at ep with ep | ⟨rfl, rfl⟩
          · exact dk e' p ep
          · refine ⟨⟨mix_len n1 m1, ?_, in_mono (mix_in t0 t1 (q := hv) (fun x m => ⟨nn x m, le x m⟩) n3 m3 (by omega)) (by omega) (by omega), g0, by show go < ((hv.toNat : Nat) : Int); omega⟩, ?_⟩
            · show (mix t fk xn xo).sum = _
              rw [hmix t xn xo n1 m1, n2, m2, lr]; exact gs
            · have hu : (0 + (i : Int) + (0 + (e : Int))) / hv = t ∧ (0 + (i : Int) + (0 + (e : Int))) % hv = go := (Int.ediv_emod_unique h0).mpr ⟨by rw [Int.mul_comm]; omega, g0, g1⟩
              unfold stepOf
              rw [lr, ll, hu.1, hu.2, getD_is en, getD_is eo]
        · rcases snoc_at ep with ep | ⟨e0, rfl⟩
          · exact zk i0 p ep
          · subst i0
            have e00 : e = 0 := by omega
            have tz : t = 0 ∧ go = 0 := by
              rcases tc with ⟨rfl, c⟩ | ⟨rfl, c⟩
              · omega
              · omega
            obtain ⟨rfl, rfl⟩ := tz
            have exy : xn = xo := Option.some.inj (en.symm.trans eo)
            subst exy
            exact mix_zero
    · rintro σ H5 ⟨o3, o4, o5, o6, o7, o8, o9, o10, rfl, s5, r, B5, lr, dk, zk⟩
      walk_at "go"
      have B6 := B2.kn gRow nA (Kn.same s5)
      refine w_bm ?_
      walk_at "go"
      refine B6.bm ?_
      walk_at "go"
      refine B6.push gRow (gRow.mono (New.off (dom_same s2) B2.some) (B5.fam gDeal nL)) (by omega) fun vs2 H6 c6 B7 => ?_
      walk_at "go"
      refine ⟨_, _, _, _, _, _, _, _, _, _, rfl, sch (s2.trans s5) nA c6, _, B7, by rw [List.length_append, lt]; rfl, fun s r' e => ?_, fun r' p e e2 => ?_⟩
      · rcases snoc_at e with e | ⟨rfl, rfl⟩
        · exact ro s r' e
        · refine ⟨⟨by rw [lr]; omega, fun e p ep => (dk e p ep).1⟩, ?_⟩
          rw [lt]
          exact map_is (by omega) fun e p ep => (dk e p ep).2
      · rcases snoc_at e with e | ⟨e0, rfl⟩
        · exact zo r' p e e2
        · exact zk (by omega) p e2
  · rintro σ H2 ⟨o1, o2, o3, o4, o5, o6, o7, o8, o9, o10, rfl, s2, ts, B2, lt, ro, zo⟩
    walk_at "go"
    refine q _ ts H2 s2 (B2.fam gRow nA) ⟨by omega, ?_, zo⟩ (by omega) (map_is (by omega) fun s r e => (ro s r e).2)
    rw [lt]; exact fun s r e => (ro s r e).1
end Ow

set_option Elab.async false
set_option linter.all false
set_option maxRecDepth 100000
namespace Ow
open PySem L2
local macro_rules | `(tactic| walk_at "go") => `(tactic| (repeat (with_reducible first
  | refine w_seq ?_ | refine w_asg ?_ | refine w_ret ?_ | refine w_if ?_ | refine w_next ?_ | refine w_drop ?_
  | refine w_var (by with_unfolding_all rfl) ?_ | refine w_c ?_ | refine w_op ?_ | refine w_cons ?_ | refine w_nil ?_ | refine w_cb ?_ | refine w_call ?_
  | refine w_name (by simp only [List.set_cons_zero, List.set_cons_succ]; exact rfl) ?_
  | refine w_add ?_ | refine w_sub ?_ | refine w_lt ?_ | refine w_le ?_ | refine w_gt ?_ | refine w_ge ?_ | refine w_eqI ?_ | refine w_neI ?_
  | refine w_test ?_ | refine w_testK ?_ | refine w_tB ?_ | refine w_intI ?_ | refine w_intB ?_ | refine w_max2 ?_ | refine w_min2 ?_
  | refine w_lst ?_ | refine w_tup ?_ | refine w_gSub ?_ | refine w_fld ?_ | refine w_un ?_ | refine w_neg ?_ | refine w_par ?_ | refine w_tIf ?_ | refine w_and ?_ | refine w_or ?_ | refine w_not ?_
  | refine w_mod (by omega) ?_ | refine w_div (cdiv (by omega) (by omega)) ?_ | refine w_mul (cmulL (by omega) (by omega)) ?_ | refine w_mul (cmulR (by omega) (by omega)) ?_ | refine w_pow (cpow (by omega) (by omega) (by omega) (by omega)) ?_
  | refine w_ixL (SqL.of (by assumption)) (by with_unfolding_all rfl) ?_)))
/-- two ways to a value of which P tells all that is needed -/
theorem w_iteP {p : Prop} [Decidable p] {ta tb : TE} {σ : St} {H : Hp} {Q : VK} (P : V → Hp → Prop) (ha : p → ∀ Q : VK, (∀ v H', P v H' → Q v H') → ta σ H Q) (hb : ¬ p → ∀ Q : VK, (∀ v H', P v H' → Q v H') → tb σ H Q) (q : ∀ v H', P v H' → Q v H') :
    if decide p = true then ta σ H Q else tb σ H Q := w_ite (fun h => ha h Q q) fun h => hb h Q q
def sp__law_any_states (K : PySem.W.Frag) (Z : Ad) : Sp := fun vs H Q _ => ∃ (w : Addr) (k : Nat) (v : V) (ca : Addr) (fk : Folk) (c0 c1 most : Int), vs = [.ref w, v, .ref ca, .int most] ∧ Well H w k ∧ k < 300000000000 ∧ fFolk (Nw w) H v fk ∧ ca ≠ w ∧ H ca = some (.lst [.int c0, .int c1]) ∧ FolkOk fk ∧
  fk.length ≤ 100 ∧ heavy fk ≤ 1000 ∧ 1 ≤ c0 ∧ c0 ≤ c1 ∧ c1 ≤ 1000 ∧ 0 ≤ most ∧ most ≤ 1000000 ∧ ∀ v ts H', Kw w H H' → Well H' w (k + 2000000000) → fTabs (New H) H' v ts → TabsOk fk.length (heavy fk) 2000000 ts → (ts.length : Int) = c1 → Q v H'
abbrev N__law_any_states : List Str := ["well", "folk", "counts", "most", "found", "rank", "span", "deals", "rest", "cents"]
def t__law_any_states (K : PySem.W.Frag) (Z : Ad) : TS :=
  (tSeq (tAsg (tLst tNil) (gName 4)) (tSeq (tFor (iRng1 (tCons (tOp (rIxL K) (tVar 2) (tC (.int 1))) tNil)) (gName 5) (tSeq (tPar 6 7 (tCons (tIf (tTest (tOp oLt (tVar 5) (tOp (rIxL K) (tVar 2) (tC (.int 0))))) (tOp (rIxL K) (tVar 2) (tC (.int 0))) (tOp (rIxL K) (tVar 2) (tC (.int 1)))) (tCons (tLst tNil) tNil))) (tSeq (tFor (iRng1 (tCons (tCall (sp__law_heavy K Z) [] E0 (tCons (tVar 1) tNil)) tNil)) (gName 8) (tSeq (tAsg (tIf (tTest (tOp oGt (tOp oAdd (tVar 5) (tVar 8)) (tC (.int 0)))) (tCall (sp__law_cents K Z) [] E0 (tCons (tVar 0) (tCons (tCB (rLen K) (tCons (tVar 1) tNil)) (tCons (tVar 8) (tCons (tVar 3) tNil))))) (tOp rRep (tLst (tCons (tC (.int 0)) tNil)) (tCB (rLen K) (tCons (tVar 1) tNil)))) (gName 9)) (tDrop (tBM K "list" rAppend (tVar 7) (tCons (tTup (tCons (tVar 9) (tCons (tCall (sp__law_draw K Z) [] E0 (tCons (tVar 0) (tCons (tVar 6) tNil))) tNil))) tNil))))) (tDrop (tBM K "list" rAppend (tVar 4) (tCons (tVar 7) tNil)))))) (tRet (tVar 4))))
theorem l__law_any_states {K : PySem.W.Frag} {Z : Ad} {vs : List V} {H : Hp} {Q : VK} {E : XK} : sp__law_any_states K Z vs H Q E → vs.length = 4 := by
  rintro ⟨_, _, _, _, _, _, _, _, rfl, _⟩; rfl
theorem r__law_any_states {K : PySem.W.Frag} {Z : Ad} {vs : List V} {H : Hp} {Q : VK} {E : XK} (R : RuleK K Z) (h : sp__law_any_states K Z vs H Q E) : t__law_any_states K Z { nx := fun _ H' => Q .non H', rt := Q } (start N__law_any_states vs) H := by
  obtain ⟨w, k, v, ca, fk, c0, c1, most, rfl, W, hk, ff, caw, hca, fo, n8, h8, a0, a1, a2, b0, b1, q⟩ := h
  show t__law_any_states K Z _ [some (.ref w), some v, some (.ref ca), some (.int most), none, none, none, none, none, none] H
  unfold t__law_any_states
  have h0 := fo.pos
  have n0 := fo.len
  generalize hh : heavy fk = hv at h0 h8 q
  walk_at "go"
  refine w_lstN (by show 0 ≤ 100000; decide) fun A H1 nA c1' => ?_
  have Aw : A ≠ w := W.ne nA
  have s1 := c1'.same nA
  have B1 : Box fRow H A H1 [] := Box.mk0 c1'.at_
  have W1 := W.same s1
  have hca1 := s1 _ _ hca
  walk_at "go"
  refine w_for (w_rng1 ?_)
  walk_at "go"
  refine w_rng1K (by omega) (by omega) ?_
  refine for_go (src_range 0 c1.toNat) (fun i σ H' => ∃ o5 o6 o7 o8 o9, σ = [some (.ref w), some v, some (.ref ca), some (.int most), some (.ref A), o5, o6, o7, o8, o9] ∧ Kw w H H' ∧ Well H' w (k + 1101000 * i) ∧
    ∃ ts : Tabs, Box fRow H A H' ts ∧ ts.length = i ∧ (∀ (s : Nat) r, ts[s]? = some r → RowOk fk.length hv 2000000 c1.toNat r) ∧ (∀ r p, ts[0]? = some r → r[0]? = some p → ∀ x ∈ p.1, x = 0)) ⟨_, _, _, _, _, rfl, Kw.of s1, W1, [], B1, rfl, fun s r e => by simp at e, fun r p e => by simp at e⟩ (fun _ _ _ _ _ => trivial) ?_ ?_
  · rintro i σ H2 x H3 hi ⟨o5, o6, o7, o8, o9, rfl, K2, W2, ts, B2, lt, ro, zo⟩ ⟨rfl, rfl⟩
    have hca2 := K2 _ _ caw hca
    refine w_name (by simp only [List.set_cons_zero, List.set_cons_succ]; exact rfl) ?_
    walk_at "go"
    refine w_iteP (fun v H' => ∃ sp : Int, v = .int sp ∧ H3 = H' ∧ 1 ≤ sp ∧ sp ≤ c1) (fun _ Q' q' => ?_) (fun _ Q' q' => ?_) ?_
    · walk_at "go"
      exact q' _ _ ⟨_, rfl, rfl, by omega, by omega⟩
    · walk_at "go"
      exact q' _ _ ⟨_, rfl, rfl, by omega, by omega⟩
    rintro _ _ ⟨sp, rfl, rfl, p0, p1⟩
    walk_at "go"
    refine w_lstN (by show 0 ≤ 100000; decide) fun L H4 nL c4 => ?_
    have s4 := c4.same nL
    have Lw : L ≠ w := W2.ne nL
    have B4 : Box fDeal H3 L H4 [] := Box.mk0 c4.at_
    have W4 := W2.same s4
    walk_at "go"
    refine w_parK (by simp only [List.set_cons_zero, List.set_cons_succ]; exact rfl) ?_
    walk_at "go"
    refine w_for (w_rng1 ?_)
    walk_at "go"
    refine ⟨v, fk, Nw w, rfl, gFolk.kw (K2.trans (Kw.of s4)) ff, by omega, fun H5 s5 => ?_⟩
    walk_at "go"
    rw [hh]
    refine w_rng1K (by omega) (by omega) ?_
    refine for_go (src_range 0 hv.toNat) (fun e σ H' => ∃ o8 o9, σ = [some (.ref w), some v, some (.ref ca), some (.int most), some (.ref A), some (.int (0 + (i : Int))), some (.int sp), some (.ref L), o8, o9] ∧ Kw w H3 H' ∧ Well H' w (k + 1101000 * i + 1101 * e) ∧
      ∃ r : Row, Box fDeal H3 L H' r ∧ r.length = e ∧ (∀ (e : Nat) p, r[e]? = some p → DealOk fk.length 2000000 c1.toNat e p) ∧ (i = 0 → ∀ p, r[0]? = some p → ∀ x ∈ p.1, x = 0)) ⟨_, _, rfl, (Kw.of s4).trans (Kw.of s5), W4.same s5, [], B4.kn gDeal nL (Kn.same s5), rfl, fun s r e => by simp at e, fun _ p e => by simp at e⟩ (fun _ _ _ _ _ => trivial) ?_ ?_
    · rintro e σ H5 x H6 he ⟨o8, o9, rfl, K5, W5, r, B5, lr, dk, zk⟩ ⟨rfl, rfl⟩
      have K25 := K2.trans K5
      refine w_name (by simp only [List.set_cons_zero, List.set_cons_succ]; exact rfl) ?_
      walk_at "go"
      refine w_iteP (fun v H' => ∃ (a : Addr) (xs : List Int), v = .ref a ∧ Kw w H6 H' ∧ Well H' w (k + 1101000 * i + 1101 * e + 1100) ∧ H6 a = none ∧ H' a = some (.lst (xs.map V.int)) ∧ xs.length = fk.length ∧ xs.sum = (e : Int) ∧ In (-2000000) 2000000 xs ∧ ((i : Int) + e = 0 → ∀ x ∈ xs, x = 0)) (fun hp Q' q' => ?_) (fun hp Q' q' => ?_) ?_
      · walk_at "go"
        refine w_lenF (gFolk.kw K25 ff) ?_
        walk_at "go"
        refine ⟨w, _, fk.length, 0 + (e : Int), most, rfl, W5, by omega, by omega, by omega, by omega, by omega, by omega, by omega, fun a xs H8 Kb Wb na ha la' sm ix => ?_⟩
        exact q' _ _ ⟨a, xs, rfl, Kb, Wb, na, ha, by omega, by omega, ix, fun z => absurd z (by omega)⟩
      · walk_at "go"
        refine w_lstN (by show 1 ≤ 100000; decide) fun z H7 nz c7 => ?_
        walk_at "go"
        refine w_lenF (gFolk.same (c7.same nz) (gFolk.kw K25 ff)) ?_
        refine w_repI (y' := 0) c7.at_ (by omega) (by omega) fun a H8 na c8 => ?_
        have s8 := (c7.same nz).trans (c8.same na)
        have c8a := c8.at_
        rw [Int.toNat_natCast] at c8a
        exact q' _ _ ⟨a, _, rfl, Kw.of s8, (W5.same s8).mono (by omega), dom_same (c7.same nz) a na, c8a, List.length_replicate .., by rw [sum_zeros]; omega, in_zeros (by decide) (by decide) _, fun _ x m => List.eq_of_mem_replicate m⟩
      · rintro _ H7 ⟨a, xs, rfl, K7, W7, na, ha, lx, sx, ix, zx⟩
        have aw : a ≠ w := W5.ne na
        have B7 := B5.kn gDeal nL (Kn.kw W2 K7)
        have a3 := dom_kw K5 W5 a na
        have aL : a ≠ L := fun z => B5.some (z ▸ na)
        walk_at "go"
        refine w_bm ?_
        walk_at "go"
        refine B7.bm ?_
        walk_at "go"
        refine w_draw W7 (by omega) (by omega) (by omega) fun go H8 g0 g1 K8 W8 => ?_
        have B8 := B7.kn gDeal nL (Kn.kw W2 K8)
        have K38 := (K5.trans K7).trans K8
        walk_at "go"
        refine w_tupN (by show 2 ≤ 100000; decide) fun T H10 nT c10 => ?_
        have B10 := B8.ch gDeal nT c10
        walk_at "go"
        refine B10.push (a := (xs, go)) gDeal ⟨T, _, _, rfl, ⟨dom_kw K38 W8 T nT, fun z => B8.some (z ▸ nT)⟩, c10.at_, ⟨a, _, rfl, ⟨a3, aL⟩, c10.same nT _ _ (K8 _ _ aw ha), All2.map_eq⟩, rfl⟩ (by omega) fun vs2 H11 c11 B11 => ?_
        walk_at "go"
        refine ⟨_, _, rfl, (K38.trans (Kw.of (c10.same nT))).ch nL c11, ((W8.same (c10.same nT)).mono (by omega)).ch Lw c11, _, B11, by rw [List.length_append, lr]; rfl, fun e' p ep => ?_, fun i0 p ep => ?_⟩
        · rcases snoc_at ep with ep | ⟨rfl, rfl⟩
          · exact dk e' p ep
          · exact ⟨lx, by rw [lr]; exact sx, ix, g0, by show go < ((c1.toNat : Nat) : Int); omega⟩
        · rcases snoc_at ep with ep | ⟨e0, rfl⟩
          · exact zk i0 p ep
          · exact zx (by omega)
    · rintro σ H5 ⟨o8, o9, rfl, K5, W5, r, B5, lr, dk, zk⟩
      walk_at "go"
      have B6 := B2.kn gRow nA (Kn.kw W K5)
      refine w_bm ?_
      walk_at "go"
      refine B6.bm ?_
      walk_at "go"
      refine B6.push gRow (gRow.mono (New.off (dom_kw K2 W2) B2.some) (B5.fam gDeal nL)) (by omega) fun vs2 H6 c6 B7 => ?_
      walk_at "go"
      refine ⟨_, _, _, _, _, rfl, (K2.trans K5).ch nA c6, (W5.mono (by omega)).ch Aw c6, _, B7, by rw [List.length_append, lt]; rfl, fun s r' e => ?_, fun r' p e e2 => ?_⟩
      · rcases snoc_at e with e | ⟨rfl, rfl⟩
        · exact ro s r' e
        · exact ⟨by rw [lr]; omega, dk⟩
      · rcases snoc_at e with e | ⟨e0, rfl⟩
        · exact zo r' p e e2
        · exact zk (by omega) p e2
  · rintro σ H2 ⟨o5, o6, o7, o8, o9, rfl, K2, W2, ts, B2, lt, ro, zo⟩
    walk_at "go"
    refine q _ ts H2 K2 (W2.mono (by omega)) (B2.fam gRow nA) ⟨by omega, ?_, zo⟩ (by omega)
    rw [lt]; exact ro
end Ow

set_option Elab.async false
set_option linter.all false
set_option maxRecDepth 100000
namespace Ow
open PySem L2
local macro_rules | `(tactic| walk_at "go") => `(tactic| (repeat (with_reducible first
  | refine w_seq ?_ | refine w_asg ?_ | refine w_ret ?_ | refine w_if ?_ | refine w_next ?_ | refine w_drop ?_
  | refine w_var (by with_unfolding_all rfl) ?_ | refine w_c ?_ | refine w_op ?_ | refine w_cons ?_ | refine w_nil ?_ | refine w_cb ?_ | refine w_call ?_
  | refine w_name (by simp only [List.set_cons_zero, List.set_cons_succ]; exact rfl) ?_
  | refine w_add ?_ | refine w_sub ?_ | refine w_lt ?_ | refine w_le ?_ | refine w_gt ?_ | refine w_ge ?_ | refine w_eqI ?_ | refine w_neI ?_
  | refine w_test ?_ | refine w_testK ?_ | refine w_tB ?_ | refine w_intI ?_ | refine w_intB ?_ | refine w_max2 ?_ | refine w_min2 ?_
  | refine w_lst ?_ | refine w_tup ?_ | refine w_gSub ?_ | refine w_fld ?_ | refine w_un ?_ | refine w_neg ?_ | refine w_par ?_ | refine w_tIf ?_ | refine w_and ?_ | refine w_or ?_ | refine w_not ?_
  | refine w_mod (by omega) ?_ | refine w_div (cdiv (by omega) (by omega)) ?_ | refine w_mul (cmulL (by omega) (by omega)) ?_ | refine w_mul (cmulR (by omega) (by omega)) ?_ | refine w_pow (cpow (by omega) (by omega) (by omega) (by omega)) ?_
  | refine w_ixL (SqL.of (by assumption)) (by with_unfolding_all rfl) ?_)))
def lstRgK (Q : VK) (x : V) (H1 : Hp) : Prop := ∃ n, x = .int n ∧ RgOk 0 n ∧ ∀ q, H1 q = none → Q (.ref q) (upd H1 q (.lst (rgV 0 n)))
theorem w_lstRg {te : TE} {σ : St} {H : Hp} {Q : VK} (h : te σ H fun x H1 => lstRgK Q x H1) : tLstRg (tRg1 te) σ H Q := h
def cnt (n : Nat) : List Int := (List.range n).map fun i : Nat => (i : Int)
theorem cnt_at {n i : Nat} {x : Int} (h : (cnt n)[i]? = some x) : i < n ∧ x = i := rng_at h
theorem cnt_len (n : Nat) : (cnt n).length = n := by unfold cnt; rw [List.length_map, List.length_range]
theorem rg_cnt (n : Nat) : rgV 0 (n : Int) = (cnt n).map V.int := by
  unfold rgV cnt
  rw [List.map_map]
  have e : ((n : Int) - 0).toNat = n := by omega
  rw [e]
  refine List.map_congr_left fun i _ => ?_
  show V.int (0 + (i : Int)) = V.int i
  rw [Int.zero_add]
theorem w_lstRgK {n : Nat} {H : Hp} {Q : VK} (hn : n ≤ 100000) (q : ∀ p H', H p = none → Ch p (.lst ((cnt n).map V.int)) H H' → Q (.ref p) H') : lstRgK Q (.int n) H :=
  ⟨n, rfl, RgOk.of_le (by decide) (by omega) (by decide) (by omega), fun p hp => q p _ hp (by rw [rg_cnt]; exact Ch.upd)⟩
theorem w_list1F {α : Type} {F : Fam α} {K : PySem.W.Frag} {S : Addr → Prop} {H : Hp} {Q : VK} {v : V} {as : List α} (h : fL F S H v as) (q : ∀ l vs H', H l = none → Ch l (.lst vs) H H' → All2 (F S H) vs as → Q (.ref l) H') : rList1 K [v] H Q := by
  obtain ⟨a, vs, rfl, _, h, r⟩ := h
  exact w_list1N (SqL.of h) fun l H' hl c => q l vs H' hl c r
def Small (ts : Tabs) : Prop := ts.length ≤ 10000 ∧ ∀ r ∈ ts, r.length ≤ 10000
/-- the one table does as the other, its states told by g -/
structure Sim (ts ts' : Tabs) (g : List Int) : Prop where
  len : g.length = ts'.length
  zero : g[0]? = some 0
  step : ∀ (j : Nat) r, ts'[j]? = some r → ∃ s row, g[j]? = some s ∧ 0 ≤ s ∧ s < ts.length ∧ ts[s.toNat]? = some row ∧ ∀ (e : Nat) p, r[e]? = some p → ∃ d, row[e]? = some d ∧ p.1 = d.1 ∧ g[p.2.toNat]? = some d.2
def sp__law_copied (K : PySem.W.Frag) (Z : Ad) : Sp := fun vs H Q _ => ∃ (w : Addr) (k : Nat) (v : V) (ts : Tabs) (n : Nat) (h b most : Int), vs = [.ref w, v, .int most] ∧ Well H w k ∧ k < 200000000000 ∧ fTabs (Nw w) H v ts ∧ TabsOk n h b ts ∧ (ts.length : Int) ≤ 1000 ∧ 1 ≤ h ∧ h ≤ 1000 ∧ 0 ≤ most ∧ most ≤ 1000 ∧
  ∀ v ts' H', Kw w H H' → Well H' w (k + 2000000000) → fTabs (New H) H' v ts' → TabsOk n h b ts' → (ts'.length : Int) ≤ 1000 → ((ts'.length : Int) ≤ most ∨ ts'.length = ts.length) → (∃ g, Sim ts ts' g) → Q v H'
abbrev N__law_copied : List Str := ["well", "tables", "most", "roots", "found", "turn", "root", "deals", "cents", "goal", "alike", "spot", "some"]
def t__law_copied (K : PySem.W.Frag) (Z : Ad) : TS :=
  (tSeq (tPar 3 4 (tCons (tLstRg (tRg1 (tCB (rLen K) (tCons (tVar 1) tNil)))) (tCons (tLst tNil) tNil))) (tSeq (tFor (iRng1 (tCons (tCall (sp__law_draw K Z) [] E0 (tCons (tVar 0) (tCons (tCB rMax2 (tCons (tC (.int 1)) (tCons (tOp oAdd (tOp oSub (tVar 2) (tCB (rLen K) (tCons (tVar 1) tNil))) (tC (.int 1))) tNil))) tNil))) tNil)) (gName 5) (tDrop (tBM K "list" rAppend (tVar 3) (tCons (tCall (sp__law_draw K Z) [] E0 (tCons (tVar 0) (tCons (tCB (rLen K) (tCons (tVar 1) tNil)) tNil))) tNil)))) (tSeq (tFor (iList K (tVar 3)) (gName 6) (tSeq (tAsg (tLst tNil) (gName 7)) (tSeq (tFor (iList K (tOp (rIxL K) (tVar 1) (tVar 6))) (gTup K 2 (gCons (gName 8) (gCons (gName 9) gNil))) (tSeq (tAsg (tLc (iEnum K (tCons (tVar 3) tNil)) (gTup K 2 (gCons (gName 11) (gCons (gName 12) gNil))) (tTest (tOp rEq (tVar 12) (tVar 9))) (tVar 11) [11, 12]) (gName 10)) (tDrop (tBM K "list" rAppend (tVar 7) (tCons (tTup (tCons (tCB (rList1 K) (tCons (tVar 8) tNil)) (tCons (tOp (rIxL K) (tVar 10) (tCall (sp__law_draw K Z) [] E0 (tCons (tVar 0) (tCons (tCB (rLen K) (tCons (tVar 10) tNil)) tNil)))) tNil))) tNil))))) (tDrop (tBM K "list" rAppend (tVar 4) (tCons (tVar 7) tNil)))))) (tRet (tVar 4)))))
theorem l__law_copied {K : PySem.W.Frag} {Z : Ad} {vs : List V} {H : Hp} {Q : VK} {E : XK} : sp__law_copied K Z vs H Q E → vs.length = 3 := by
  rintro ⟨_, _, _, _, _, _, _, _, rfl, _⟩; rfl
theorem r__law_copied {K : PySem.W.Frag} {Z : Ad} {vs : List V} {H : Hp} {Q : VK} {E : XK} (R : RuleK K Z) (h : sp__law_copied K Z vs H Q E) : t__law_copied K Z { nx := fun _ H' => Q .non H', rt := Q } (start N__law_copied vs) H := by
  obtain ⟨w, k, v, ts, n, h, b, most, rfl, W, hk, ft, tok, t8, h0, h1, b0, b1, q⟩ := h
  show t__law_copied K Z _ [some (.ref w), some v, some (.int most), none, none, none, none, none, none, none, none, none, none] H
  unfold t__law_copied
  have l0 := tok.len
  walk_at "go"
  refine w_lstRg ?_
  walk_at "go"
  refine w_lenF ft ?_
  refine w_lstRgK (by omega) fun R' H1 nR c1 => ?_
  have s1 := c1.same nR
  have Rw : R' ≠ w := W.ne nR
  have W1 := W.same s1
  walk_at "go"
  refine w_lstN (by show 0 ≤ 100000; decide) fun A H2 nA c2 => ?_
  have nA0 := dom_same s1 A nA
  have Aw : A ≠ w := W.ne nA0
  have RA : R' ≠ A := ne_of_none c1.at_ nA
  have s2 := s1.trans (c2.same nA)
  have W2 := W.same s2
  have hR2 := c2.same nA _ _ c1.at_
  have hA2 := c2.at_
  walk_at "go"
  refine w_parK (by simp only [List.set_cons_zero, List.set_cons_succ]; exact rfl) ?_
  walk_at "go"
  refine w_for (w_rng1 ?_)
  walk_at "go"
  refine w_lenF (gTabs.same s2 ft) ?_
  walk_at "go"
  obtain ⟨mx, emx, m0, m1, m2⟩ : ∃ mx : Int, (if most - (ts.length : Int) + 1 > 1 then most - (ts.length : Int) + 1 else 1) = mx ∧ 1 ≤ mx ∧ mx ≤ 1001 ∧ (mx = 1 ∨ mx + ts.length ≤ most + 1) := by
    refine ⟨_, rfl, ?_, ?_, ?_⟩ <;> split <;> omega
  rw [emx]
  refine w_draw W2 (by omega) (by omega) (by omega) fun c H3 d0 d1 K3 W3 => ?_
  walk_at "go"
  refine w_rng1K (by omega) (by omega) ?_
  refine for_go (src_range 0 c.toNat) (fun i σ H' => ∃ o5, σ = [some (.ref w), some v, some (.int most), some (.ref R'), some (.ref A), o5, none, none, none, none, none, none, none] ∧ Kw w H H' ∧ Well H' w (k + 1 + i) ∧ H' A = some (.lst []) ∧
    ∃ rs : List Int, H' R' = some (.lst (rs.map V.int)) ∧ rs.length = ts.length + i ∧ (∀ x ∈ rs, 0 ≤ x ∧ x < ts.length) ∧ ∀ j, j < ts.length → rs[j]? = some (j : Int)) ⟨_, rfl, (Kw.of s2).trans K3, W3, K3 _ _ Aw hA2, _, K3 _ _ Rw hR2, cnt_len _, ?_, ?_⟩ (fun _ _ _ _ _ => trivial) ?_ ?_
  · intro x m
    obtain ⟨i, hi⟩ := List.mem_iff_getElem?.mp m
    have := cnt_at hi
    omega
  · intro j hj
    unfold cnt
    rw [List.getElem?_map, List.getElem?_range hj]; rfl
  · rintro i σ H4 x H5 hi ⟨o5, rfl, K4, W4, hA4, rs, hR4, lr, ir, ar⟩ ⟨rfl, rfl⟩
    refine w_name (by simp only [List.set_cons_zero, List.set_cons_succ]; exact rfl) ?_
    walk_at "go"
    refine w_bm ?_
    walk_at "go"
    refine w_bmL hR4 ?_
    walk_at "go"
    refine w_lenF (gTabs.kw K4 ft) ?_
    walk_at "go"
    refine w_draw W4 (by omega) (by omega) (by omega) fun g H6 g0 g1 K6 W6 => ?_
    walk_at "go"
    refine w_append (K6 _ _ Rw hR4) (by rw [List.length_map]; omega) fun H7 c7 => ?_
    walk_at "go"
    refine ⟨_, rfl, (K4.trans K6).ch nR c7, W6.ch Rw c7, c7.keep RA.symm (K6 _ _ Aw hA4), rs ++ [g], by rw [c7.at_, List.map_append]; rfl, by rw [List.length_append, lr]; rfl, fun x m => ?_, fun j hj => ?_⟩
    · rcases List.mem_append.mp m with m | m
      · exact ir x m
      · rw [List.mem_singleton.mp m]; exact ⟨g0, g1⟩
    · rw [List.getElem?_append_left (by omega)]; exact ar j hj
  · rintro σ H4 ⟨o5, rfl, K4, W4, hA4, rs, hR4, lr, ir, ar⟩
    have B4 : Box fRow H A H4 [] := Box.mk0 hA4
    walk_at "go"
    refine w_for (w_ilist ?_)
    walk_at "go"
    refine w_ilistK (SqL.of hR4) ?_
    refine for_go (src_list (xs := rs.map V.int)) (fun i σ H' => ∃ o6 o7 o8 o9 o10 o11 o12, σ = [some (.ref w), some v, some (.int most), some (.ref R'), some (.ref A), o5, o6, o7, o8, o9, o10, o11, o12] ∧ Kw w H H' ∧ Well H' w (k + 1001 + 1000 * i) ∧ H' R' = some (.lst (rs.map V.int)) ∧
      ∃ ts' : Tabs, Box fRow H A H' ts' ∧ ts'.length = i ∧ (∀ (s : Nat) r, ts'[s]? = some r → RowOk n h b rs.length r ∧ ∃ g row, rs[s]? = some g ∧ 0 ≤ g ∧ g < ts.length ∧ ts[g.toNat]? = some row ∧ ∀ (e : Nat) p, r[e]? = some p → ∃ d, row[e]? = some d ∧ p.1 = d.1 ∧ rs[p.2.toNat]? = some d.2) ∧ (∀ r p, ts'[0]? = some r → r[0]? = some p → ∀ x ∈ p.1, x = 0)) ⟨_, _, _, _, _, _, _, rfl, K4, W4.mono (by omega), hR4, [], B4, rfl, fun s r e => by simp at e, fun r p e => by simp at e⟩ (fun i σ H' _ h => ?_) ?_ ?_
    · obtain ⟨_, _, _, _, _, _, _, _, _, _, hh, _⟩ := h
      exact SqL.of hh
    · rintro i σ H5 x H6 hi ⟨o6, o7, o8, o9, o10, o11, o12, rfl, K5, W5, hR5, ts', B5, lt, ro, zo⟩ ⟨rfl, ex⟩
      rw [List.length_map] at hi
      obtain ⟨g, eg⟩ : ∃ g, rs[i]? = some g := ⟨_, List.getElem?_eq_getElem hi⟩
      rw [List.getElem?_map, eg] at ex
      cases ex
      have gi := ir g (List.mem_of_getElem? eg)
      refine w_name (by simp only [List.set_cons_zero, List.set_cons_succ]; exact rfl) ?_
      walk_at "go"
      refine w_lstN (by show 0 ≤ 100000; decide) fun L H7 nL c7 => ?_
      have s7 := c7.same nL
      have Lw : L ≠ w := W5.ne nL
      have LR : R' ≠ L := ne_of_none hR5 nL
      walk_at "go"
      refine w_for (w_ilist ?_)
      walk_at "go"
      have ft' := ft
      obtain ⟨ta, tus, rfl, taw, hta, tal⟩ := ft'
      obtain ⟨row, erow⟩ := at_some gi.1 gi.2
      obtain ⟨rv, erv, frow⟩ := tal.getR erow
      obtain ⟨ra, us, rfl, raw, hra, ral⟩ := frow
      have rok := tok.row _ _ erow
      have rlen := rok.len
      have K57 := K5.trans (Kw.of s7)
      refine w_ixL (SqL.of (K57 _ _ taw hta)) (atI_of gi.1 erv) ?_
      refine w_ilistK (SqL.of (K57 _ _ raw hra)) ?_
      refine for_go (src_list (xs := us)) (fun e σ H' => ∃ o8 o9 o10 o11 o12, σ = [some (.ref w), some (.ref ta), some (.int most), some (.ref R'), some (.ref A), o5, some (.int g), some (.ref L), o8, o9, o10, o11, o12] ∧ Kw w H6 H' ∧ Well H' w (k + 1001 + 1000 * i + e) ∧
        ∃ r : Row, Box fDeal H6 L H' r ∧ r.length = e ∧ (∀ (e : Nat) p, r[e]? = some p → DealOk n b rs.length e p ∧ ∃ d, row[e]? = some d ∧ p.1 = d.1 ∧ rs[p.2.toNat]? = some d.2) ∧ (i = 0 → ∀ p, r[0]? = some p → ∀ x ∈ p.1, x = 0)) ⟨_, _, _, _, _, rfl, Kw.of s7, W5.same s7, [], Box.mk0 c7.at_, rfl, fun s r e => by simp at e, fun _ p e => by simp at e⟩ (fun i σ H' _ h => ?_) ?_ ?_
      · obtain ⟨_, _, _, _, _, _, K8, _⟩ := h
        exact SqL.of (K8 _ _ raw (K5 _ _ raw hra))
      · rintro e σ H8 x H9 he ⟨o8, o9, o10, o11, o12, rfl, K8, W8, r, B8, lr', dk, zk⟩ ⟨rfl, ex⟩
        have K58 := K5.trans K8
        rw [ral.length] at he
        obtain ⟨d, ed, fd⟩ := ral.get ex
        have dok := rok.deal e d ed
        refine w_gT2 (gDeal.kw K58 fd) fun u z f1 f2 => ?_
        cases f2
        obtain ⟨c, rfl, cw, hc⟩ := ints_of f1
        refine w_gCons (w_name (by simp only [List.set_cons_zero, List.set_cons_succ]; exact rfl) ?_)
        refine w_gCons (w_name (by simp only [List.set_cons_zero, List.set_cons_succ]; exact rfl) ?_)
        refine w_gNil ?_
        have hR8 := K8 _ _ Rw hR5
        walk_at "go"
        refine w_lc (w_enum ?_)
        walk_at "go"
        refine w_enumK (SqL.of hR8) ?_
        refine lc_same gI (src_enum (xs := rs.map V.int)) (fun j as => (∀ x ∈ as, 0 ≤ x ∧ x < rs.length ∧ rs[x.toNat]? = some d.2) ∧ ((∃ m, m < j ∧ rs[m]? = some d.2) → as ≠ []) ∧ as.length ≤ j) (by rw [List.length_map]; omega) ⟨fun x hx => (by cases hx), fun hm => (by obtain ⟨m, hm, _⟩ := hm; omega), Nat.le_refl 0⟩ (fun H' s => SqL.of (s _ _ hR8)) ?_ ?_
        · rintro j as H10 x H11 N N' hj ⟨p1, p2, p3⟩ s10 ⟨T, z, rfl, nT, rfl, ez⟩ hN hN'
          rw [List.length_map] at hj
          obtain ⟨q', eq'⟩ : ∃ g, rs[j]? = some g := ⟨_, List.getElem?_eq_getElem hj⟩
          rw [List.getElem?_map, eq'] at ez
          cases ez
          refine w_gTup (SqT.of upd_same) rfl ?_
          refine w_gCons (w_name (by simp only [wipe, List.set_cons_zero, List.set_cons_succ]; exact rfl) ?_)
          refine w_gCons (w_name (by simp only [wipe, List.set_cons_zero, List.set_cons_succ]; exact rfl) ?_)
          refine w_gNil ?_
          refine ⟨rfl, ?_⟩
          walk_at "go"
          refine w_ite (fun e1 => ?_) fun e1 => ?_
          · walk_at "go"
            refine hN _ (j : Int) _ (snew nT) rfl ⟨fun x m => ?_, fun _ => by simp, by rw [List.length_append]; exact Nat.succ_le_succ p3⟩
            rcases List.mem_append.mp m with m | m
            · exact p1 x m
            · rw [List.mem_singleton.mp m]
              exact ⟨by omega, by omega, by rw [Int.toNat_natCast, eq', e1]⟩
          · refine hN' _ (snew nT) ⟨p1, fun ⟨m, hm, em⟩ => ?_, Nat.le_succ_of_le p3⟩
            by_cases ej : m = j
            · subst ej
              rw [eq'] at em
              exact absurd (Option.some.inj em) e1
            · exact p2 ⟨m, by omega, em⟩
        · rintro D as H10 hD s10 ⟨p1, p2, p3⟩ f10
          rw [List.length_map] at p2 p3
          have d0 := dok.lo
          have d1 := dok.hi
          have ne := p2 ⟨d.2.toNat, by omega, by rw [ar _ (by omega)]; congr 1; omega⟩
          have las : 1 ≤ as.length := by
            cases as with
            | nil => exact absurd rfl ne
            | cons _ _ => simp
          obtain ⟨D', e', nD, hD10⟩ := ints_of f10
          cases e'
          have B10 := B8.kn gDeal nL (Kn.same s10)
          walk_at "go"
          refine w_bm ?_
          walk_at "go"
          refine B10.bm ?_
          walk_at "go"
          refine w_list1N (SqL.of (s10 _ _ hc)) fun l H11 nl c11 => ?_
          have s11 := s10.trans (c11.same nl)
          have W11 := W8.same s11
          walk_at "go"
          refine w_lenI (c11.same nl _ _ hD10) ?_
          walk_at "go"
          refine w_draw W11 (by omega) (by omega) (by omega) fun g2 H12 g0 g1 K12 W12 => ?_
          have Dw : D ≠ w := fun z => W8.some (z ▸ hD)
          have lw : l ≠ w := fun z => (W8.same s10).some (z ▸ nl)
          refine w_ixI (K12 _ _ Dw (c11.same nl _ _ hD10)) g0 g1 fun x' hx' => ?_
          have xb := p1 x' (List.mem_of_getElem? hx')
          have K612 := (K8.trans (Kw.of s11)).trans K12
          have B12 := (B10.ch gDeal nl c11).kn gDeal nL (Kn.kw W5 K12)
          have hl12 := K12 _ _ lw c11.at_
          walk_at "go"
          refine w_tupN (by show 2 ≤ 100000; decide) fun T H13 nT c13 => ?_
          have B13 := B12.ch gDeal nT c13
          have l6 := dom_kw (K8.trans (Kw.of s10)) (W8.same s10) l nl
          have lL : l ≠ L := fun z => B10.some (z ▸ nl)
          walk_at "go"
          refine B13.push (a := (d.1, x')) gDeal ⟨T, _, _, rfl, ⟨dom_kw K612 W12 T nT, fun z => B12.some (z ▸ nT)⟩, c13.at_, ⟨l, _, rfl, ⟨l6, lL⟩, c13.same nT _ _ hl12, All2.map_eq⟩, rfl⟩ (by omega) fun vs2 H14 c14 B14 => ?_
          walk_at "go"
          refine ⟨_, _, _, _, _, rfl, (K612.trans (Kw.of (c13.same nT))).ch nL c14, ((W12.same (c13.same nT)).mono (by omega)).ch Lw c14, _, B14, by rw [List.length_append, lr']; rfl, fun e' p ep => ?_, fun i0 p ep => ?_⟩
          · rcases snoc_at ep with ep | ⟨rfl, rfl⟩
            · exact dk e' p ep
            · exact ⟨⟨dok.len, by rw [lr']; exact dok.sum, dok.in_, xb.1, xb.2.1⟩, d, by rw [lr']; exact ed, rfl, xb.2.2⟩
          · rcases snoc_at ep with ep | ⟨e0, rfl⟩
            · exact zk i0 p ep
            · have e00 : e = 0 := by omega
              subst e00
              subst i0
              rw [ar 0 (by omega)] at eg
              cases eg
              exact tok.zero row d erow ed
      · rintro σ H8 ⟨o8, o9, o10, o11, o12, rfl, K8, W8, r, B8, lr', dk, zk⟩
        walk_at "go"
        have B6 := B5.kn gRow nA0 (Kn.kw W K8)
        refine w_bm ?_
        walk_at "go"
        refine B6.bm ?_
        walk_at "go"
        refine B6.push gRow (gRow.mono (New.off (dom_kw K5 W5) B5.some) (B8.fam gDeal nL)) (by omega) fun vs2 H9 c9 B9 => ?_
        rw [ral.length] at lr' W8
        walk_at "go"
        refine ⟨_, _, _, _, _, _, _, rfl, (K5.trans K8).ch nA0 c9, (W8.mono (by omega)).ch Aw c9, c9.keep RA (K8 _ _ Rw hR5), _, B9, by rw [List.length_append, lt]; rfl, fun s r' e => ?_, fun r' p e e2 => ?_⟩
        · rcases snoc_at e with e | ⟨rfl, rfl⟩
          · exact ro s r' e
          · exact ⟨⟨by rw [lr']; exact rlen, fun e p ep => (dk e p ep).1⟩, g, row, by rw [lt]; exact eg, gi.1, gi.2, erow, fun e p ep => (dk e p ep).2⟩
        · rcases snoc_at e with e | ⟨e0, rfl⟩
          · exact zo r' p e e2
          · exact zk (by omega) p e2
    · rintro σ H5 ⟨o6, o7, o8, o9, o10, o11, o12, rfl, K5, W5, hR5, ts', B5, lt, ro, zo⟩
      rw [List.length_map] at lt W5
      walk_at "go"
      refine q _ ts' H5 K5 (W5.mono (by omega)) (B5.fam gRow nA0) ⟨by omega, ?_, zo⟩ (by omega) (by omega) ⟨rs, lt.symm, ar 0 (by omega), fun j r e => (ro j r e).2⟩
      rw [lt]; exact fun s r e => (ro s r e).1
end Ow

set_option Elab.async false
set_option linter.all false
set_option maxRecDepth 100000
namespace Ow
open PySem L2
local macro_rules | `(tactic| walk_at "go") => `(tactic| (repeat (with_reducible first
  | refine w_seq ?_ | refine w_asg ?_ | refine w_ret ?_ | refine w_if ?_ | refine w_next ?_ | refine w_drop ?_
  | refine w_var (by with_unfolding_all rfl) ?_ | refine w_c ?_ | refine w_op ?_ | refine w_cons ?_ | refine w_nil ?_ | refine w_cb ?_ | refine w_call ?_
  | refine w_name (by simp only [List.set_cons_zero, List.set_cons_succ]; exact rfl) ?_
  | refine w_add ?_ | refine w_sub ?_ | refine w_lt ?_ | refine w_le ?_ | refine w_gt ?_ | refine w_ge ?_ | refine w_eqI ?_ | refine w_neI ?_
  | refine w_test ?_ | refine w_testK ?_ | refine w_tB ?_ | refine w_intI ?_ | refine w_intB ?_ | refine w_max2 ?_ | refine w_min2 ?_
  | refine w_lst ?_ | refine w_tup ?_ | refine w_gSub ?_ | refine w_fld ?_ | refine w_un ?_ | refine w_neg ?_ | refine w_par ?_ | refine w_tIf ?_ | refine w_and ?_ | refine w_or ?_ | refine w_not ?_
  | refine w_mod (by omega) ?_ | refine w_div (cdiv (by omega) (by omega)) ?_ | refine w_mul (cmulL (by omega) (by omega)) ?_ | refine w_mul (cmulR (by omega) (by omega)) ?_ | refine w_pow (cpow (by omega) (by omega) (by omega) (by omega)) ?_
  | refine w_ixL (SqL.of (by assumption)) (by with_unfolding_all rfl) ?_)))
theorem w_andJ {c : Bool} {tb : TE} {σ : St} {H : Hp} {Q : VK} (P : V → Hp → Prop) (ha : c = true → ∀ Q : VK, (∀ v H', P v H' → Q v H') → tb σ H Q) (hb : c = false → P (.bl false) H) (q : ∀ v H', P v H' → Q v H') : tAndK tb σ Q (.bl c) H :=
  w_andVK (w_iteB (fun h => ha h Q q) fun h => q _ _ (hb h))
theorem dist_nil {α : Type} : Dist ([] : List α) := fun i j x h => by simp at h
theorem RowOk.mono {n : Nat} {h b b' : Int} {m : Nat} {r : Row} (o : RowOk n h b m r) (l : b ≤ b') : RowOk n h b' m r :=
  ⟨o.len, fun e p ep => let d := o.deal e p ep; ⟨d.len, d.sum, in_mono d.in_ (by omega) (by omega), d.lo, d.hi⟩⟩
theorem TabsOk.mono {n : Nat} {h b b' : Int} {ts : Tabs} (o : TabsOk n h b ts) (l : b ≤ b') : TabsOk n h b' ts := ⟨o.len, fun s r e => (o.row s r e).mono l, o.zero⟩
theorem set_at {α : Type} {xs : List α} {i j : Nat} {v y : α} (h : (xs.set i v)[j]? = some y) : (i = j ∧ y = v ∧ j < xs.length) ∨ (i ≠ j ∧ xs[j]? = some y) := by
  rw [List.getElem?_set] at h
  by_cases e : i = j
  · subst e
    rw [if_pos rfl] at h
    by_cases l : i < xs.length
    · rw [if_pos l] at h
      exact .inl ⟨rfl, (Option.some.inj h).symm, l⟩
    · rw [if_neg l] at h; cases h
  · rw [if_neg e] at h
    exact .inr ⟨e, h⟩
theorem TabsOk.set {n : Nat} {h b : Int} {ts : Tabs} {s e : Nat} {row : Row} {p : Deal} (o : TabsOk n h b ts) (hs : ts[s]? = some row) (d : DealOk n b ts.length e p) (z : s = 0 → e = 0 → ∀ x ∈ p.1, x = 0) : TabsOk n h b (ts.set s (row.set e p)) := by
  refine ⟨by rw [List.length_set]; exact o.len, fun s' r hr => ?_, fun r q hr hq => ?_⟩
  · rw [List.length_set]
    rcases set_at hr with ⟨rfl, rfl, _⟩ | ⟨_, hr⟩
    · have ok := o.row _ _ hs
      refine ⟨by rw [List.length_set]; exact ok.len, fun e' q hq => ?_⟩
      rcases set_at hq with ⟨rfl, rfl, _⟩ | ⟨_, hq⟩
      · exact d
      · exact ok.deal _ _ hq
    · exact o.row _ _ hr
  · rcases set_at hr with ⟨rfl, rfl, _⟩ | ⟨_, hr⟩
    · rcases set_at hq with ⟨rfl, rfl, _⟩ | ⟨_, hq⟩
      · exact z rfl rfl
      · exact o.zero _ _ hs hq
    · exact o.zero _ _ hr hq
def sp__law_bent (K : PySem.W.Frag) (Z : Ad) : Sp := fun vs H Q _ => ∃ (w : Addr) (k : Nat) (v : V) (ts : Tabs) (n : Nat) (h b most : Int) (S : Addr → Prop), vs = [.ref w, v, .int most] ∧ Well H w k ∧ k < 200000000000 ∧ fTabs S H v ts ∧ (∀ a, S a → a ≠ w) ∧ TabsOk n h b ts ∧ (ts.length : Int) ≤ 1000 ∧ 1 ≤ h ∧ h ≤ 1000 ∧
  1 ≤ n ∧ n ≤ 100 ∧ 0 ≤ most ∧ most ≤ 1000000 ∧ ∀ v ts' H', Kw w H H' → Well H' w (k + 100) → fTabs (fun a => S a ∨ H a = none) H' v ts' → TabsOk n h (b + 1) ts' → ts'.length = ts.length → Q v H'
abbrev N__law_bent : List Str := ["well", "tables", "most", "spot", "rest", "cents", "goal", "giver", "taker", "is_cent", "found", "deals"]
def t__law_bent (K : PySem.W.Frag) (Z : Ad) : TS :=
  (tSeq (tPar 3 4 (tCons (tCall (sp__law_draw K Z) [] E0 (tCons (tVar 0) (tCons (tCB (rLen K) (tCons (tVar 1) tNil)) tNil))) (tCons (tCall (sp__law_draw K Z) [] E0 (tCons (tVar 0) (tCons (tCB (rLen K) (tCons (tOp (rIxL K) (tVar 1) (tC (.int 0))) tNil)) tNil))) tNil))) (tSeq (tAsg (tOp (rIxL K) (tOp (rIxL K) (tVar 1) (tVar 3)) (tVar 4)) (gTup K 2 (gCons (gName 5) (gCons (gName 6) gNil)))) (tSeq (tPar 5 7 (tCons (tCB (rList1 K) (tCons (tVar 5) tNil)) (tCons (tCall (sp__law_draw K Z) [] E0 (tCons (tVar 0) (tCons (tCB (rLen K) (tCons (tVar 5) tNil)) tNil))) tNil))) (tSeq (tAsg (tOp oMod (tCB rInt1 (tCons (tOp oAdd (tOp oAdd (tVar 7) (tC (.int 1))) (tCall (sp__law_draw K Z) [] E0 (tCons (tVar 0) (tCons (tCB rMax2 (tCons (tC (.int 1)) (tCons (tOp oSub (tCB (rLen K) (tCons (tVar 5) tNil)) (tC (.int 1))) tNil))) tNil)))) tNil)) (tCB (rLen K) (tCons (tVar 5) tNil))) (gName 8)) (tSeq (tAsg (tAndV (tOp oGt (tOp oAdd (tVar 3) (tVar 4)) (tC (.int 0))) (tOp oGt (tOp (rIxL K) (tVar 5) (tVar 7)) (tOp oSub (tC (.int 0)) (tVar 2)))) (gName 9)) (tSeq (tAsg (tAndV (tVar 9) (tOp oLt (tOp (rIxL K) (tVar 5) (tVar 8)) (tVar 2))) (gName 9)) (tSeq (tIfS (tAnd (tTest (tOp rEq (tCall (sp__law_draw K Z) [] E0 (tCons (tVar 0) (tCons (tC (.int 2)) tNil))) (tC (.int 0)))) (tB (tVar 9))) (tSeq (tAsg (tOp oSub (tOp (rIxL K) (tVar 5) (tVar 7)) (tC (.int 1))) (gSub (tVar 5) (tVar 7) rSetL)) (tAsg (tOp oAdd (tOp (rIxL K) (tVar 5) (tVar 8)) (tC (.int 1))) (gSub (tVar 5) (tVar 8) rSetL))) (tAsg (tOp oMod (tCB rInt1 (tCons (tOp oAdd (tOp oAdd (tVar 6) (tC (.int 1))) (tCall (sp__law_draw K Z) [] E0 (tCons (tVar 0) (tCons (tCB rMax2 (tCons (tC (.int 1)) (tCons (tOp oSub (tCB (rLen K) (tCons (tVar 1) tNil)) (tC (.int 1))) tNil))) tNil)))) tNil)) (tCB (rLen K) (tCons (tVar 1) tNil))) (gName 6))) (tSeq (tAsg (tLc (iList K (tVar 1)) (gName 11) tYes (tCB (rList1 K) (tCons (tVar 11) tNil)) [11]) (gName 10)) (tSeq (tAsg (tTup (tCons (tVar 5) (tCons (tVar 6) tNil))) (gSub (tOp (rIxL K) (tVar 10) (tVar 3)) (tVar 4) rSetL)) (tRet (tVar 10)))))))))))
theorem l__law_bent {K : PySem.W.Frag} {Z : Ad} {vs : List V} {H : Hp} {Q : VK} {E : XK} : sp__law_bent K Z vs H Q E → vs.length = 3 := by
  rintro ⟨_, _, _, _, _, _, _, _, _, rfl, _⟩; rfl
theorem r__law_bent {K : PySem.W.Frag} {Z : Ad} {vs : List V} {H : Hp} {Q : VK} {E : XK} (R : RuleK K Z) (h : sp__law_bent K Z vs H Q E) : t__law_bent K Z { nx := fun _ H' => Q .non H', rt := Q } (start N__law_bent vs) H := by
  obtain ⟨w, k, v, ts, n, h, b, most, S, rfl, W, hk, ⟨ta, tus, rfl, sta, hta, tal⟩, nS, tok, t8, h0, h1, n0, n1, b0, b1, q⟩ := h
  show t__law_bent K Z _ [some (.ref w), some (.ref ta), some (.int most), none, none, none, none, none, none, none, none, none] H
  unfold t__law_bent
  have l0 := tok.len
  have taw := nS ta sta
  have ltu := tal.length
  obtain ⟨r0, er0⟩ : ∃ r, ts[0]? = some r := ⟨_, List.getElem?_eq_getElem (by omega)⟩
  obtain ⟨rv0, erv0, fr0⟩ := tal.getR er0
  have lr0 := (tok.row _ _ er0).len
  walk_at "go"
  refine w_len (SqL.of hta) ?_
  rw [ltu]
  walk_at "go"
  refine w_draw W (by omega) (by omega) (by omega) fun s H1 s0 s1 K1 W1 => ?_
  walk_at "go"
  refine w_ixL (SqL.of (K1 _ _ taw hta)) (atI_of (i := 0) (by decide) erv0) ?_
  walk_at "go"
  have fr01 : fRow S H1 rv0 r0 := gRow.keep (fun a o sa e => K1 a o (nS a sa) e) fr0
  refine w_lenF fr01 ?_
  rw [lr0]
  walk_at "go"
  refine w_draw W1 (by omega) (by omega) (by omega) fun e H2 e0 e1 K2 W2 => ?_
  have K02 := K1.trans K2
  walk_at "go"
  refine w_parK (by simp only [List.set_cons_zero, List.set_cons_succ]; exact rfl) ?_
  walk_at "go"
  obtain ⟨row, erow⟩ := at_some (xs := ts) s0 s1
  obtain ⟨rv, erv, frow⟩ := tal.getR erow
  have rok := tok.row _ _ erow
  have rlen := rok.len
  obtain ⟨d, ed⟩ := at_some (xs := row) e0 (by omega)
  have dok := rok.deal _ _ ed
  refine w_ixL (SqL.of (K02 _ _ taw hta)) (atI_of s0 erv) ?_
  walk_at "go"
  have frow2 : fRow S H2 rv row := gRow.keep (fun a o sa e => K02 a o (nS a sa) e) frow
  refine w_ixF frow2 e0 (by omega) fun dv d' ed' fd => ?_
  obtain rfl : d = d' := Option.some.inj (ed.symm.trans ed')
  refine w_gT2 fd fun u z f1 f2 => ?_
  cases f2
  obtain ⟨c, rfl, sc, hc⟩ := ints_of f1
  refine w_gCons (w_name (by simp only [List.set_cons_zero, List.set_cons_succ]; exact rfl) ?_)
  refine w_gCons (w_name (by simp only [List.set_cons_zero, List.set_cons_succ]; exact rfl) ?_)
  refine w_gNil ?_
  walk_at "go"
  refine w_list1N (SqL.of hc) fun cl H3 ncl c3 => ?_
  have s3 := c3.same ncl
  have clw : cl ≠ w := W2.ne ncl
  have ncl0 := dom_kw K02 W2 cl ncl
  have W3 := W2.same s3
  have K03 := K02.trans (Kw.of s3)
  have hcl3 := c3.at_
  walk_at "go"
  refine w_lenI (s3 _ _ hc) ?_
  rw [dok.len]
  walk_at "go"
  refine w_draw W3 (by omega) (by omega) (by omega) fun g H4 g0 g1 K4 W4 => ?_
  have hcl4 := K4 _ _ clw hcl3
  walk_at "go"
  refine w_parK (by simp only [List.set_cons_zero, List.set_cons_succ]; exact rfl) ?_
  walk_at "go"
  refine w_lenI hcl4 ?_
  rw [dok.len]
  walk_at "go"
  obtain ⟨mx, emx, m0, m1⟩ : ∃ mx : Int, (if (n : Int) - 1 > 1 then (n : Int) - 1 else 1) = mx ∧ 1 ≤ mx ∧ mx ≤ 1001 := by
    refine ⟨_, rfl, ?_, ?_⟩ <;> split <;> omega
  rw [emx]
  refine w_draw W4 (by omega) (by omega) (by omega) fun g' H5 g0' g1' K5 W5 => ?_
  have hcl5 := K5 _ _ clw hcl4
  walk_at "go"
  refine w_lenI hcl5 ?_
  rw [dok.len]
  refine w_mod (by omega) ?_
  have t0 : 0 ≤ (g + 1 + g') % (n : Int) := Int.emod_nonneg _ (by omega)
  have t1 : (g + 1 + g') % (n : Int) < n := Int.emod_lt_of_pos _ (by omega)
  generalize (g + 1 + g') % (n : Int) = tk at t0 t1
  walk_at "go"
  have K05 := (K03.trans K4).trans K5
  have main : ∀ (xs : List Int) (go : Int) (ic : Bool) (H8 : Hp), Kw w H H8 → Well H8 w (k + 8) → H8 cl = some (.lst (xs.map V.int)) → DealOk n (b + 1) ts.length e.toNat (xs, go) → (s.toNat = 0 → e.toNat = 0 → ∀ x ∈ xs, x = 0) →
      (tSeq (tAsg (tLc (iList K (tVar 1)) (gName 11) tYes (tCB (rList1 K) (tCons (tVar 11) tNil)) [11]) (gName 10)) (tSeq (tAsg (tTup (tCons (tVar 5) (tCons (tVar 6) tNil))) (gSub (tOp (rIxL K) (tVar 10) (tVar 3)) (tVar 4) rSetL)) (tRet (tVar 10))))
      ⟨fun _ H' => Q .non H', Q, fun _ _ => False, fun _ _ => False⟩ [some (.ref w), some (.ref ta), some (.int most), some (.int s), some (.int e), some (.ref cl), some (.int go), some (.int g), some (.int tk), some (.bl ic), none, none] H8 := by
    intro xs go ic H8 K8 W8 hcl dk zk
    have hta8 := K8 _ _ taw hta
    walk_at "go"
    refine w_lc (w_ilist ?_)
    walk_at "go"
    refine w_ilistK (SqL.of hta8) ?_
    refine lc_go (src_list (xs := tus)) (fun D i ys H' => Same H8 H' ∧ ∃ as : List Addr, ys = as.map V.ref ∧ as.length = i ∧ Dist as ∧ (∀ a ∈ as, H8 a = none ∧ a ≠ D) ∧ ∀ (j : Nat) a r, as[j]? = some a → ts[j]? = some r → ∃ vs, H' a = some (.lst vs) ∧ All2 (fDeal S H8) vs r)
      (fun D H' hD c => ⟨c.same hD, [], rfl, rfl, dist_nil, (fun a h => by cases h), fun j a r h => by simp at h⟩) (fun D i ys H' _ h => SqL.of (h.1 _ _ hta8)) ?_ ?_
    · rintro D i ys H9 x H10 hD hi hly hx ⟨s9, as, rfl, las, da, na, ra⟩ ⟨rfl, ex⟩
      obtain ⟨r, er, fr⟩ := tal.get ex
      have fr8 : fRow S H8 x r := gRow.keep (fun a o sa e => K8 a o (nS a sa) e) fr
      obtain ⟨rb, ws, rfl, sb, hb, bl⟩ := fr8
      refine w_name (by simp only [wipe, List.set_cons_zero, List.set_cons_succ]; exact rfl) ?_
      refine ⟨rfl, ?_⟩
      refine w_yes (w_iteT ?_)
      walk_at "go"
      refine w_list1N (SqL.of (s9 _ _ hb)) fun l H11 nl c11 => ?_
      have s11 := c11.same nl
      have lD : l ≠ D := fun z => by rw [z, hx] at nl; cases nl
      refine w_elt (s11 _ _ hx) hly (by omega) fun H12 c12 => ?_
      refine ⟨sch (s9.trans s11) hD c12, as ++ [l], by rw [List.map_append]; rfl, by rw [List.length_append, las]; rfl, dist_app da fun m => ?_, fun a m => ?_, fun j a r' e1 e2 => ?_⟩
      · obtain ⟨j, hj⟩ := List.mem_iff_getElem?.mp m
        have hj' := (List.getElem?_eq_some_iff.mp hj).1
        obtain ⟨r', er'⟩ : ∃ r, ts[j]? = some r := ⟨_, List.getElem?_eq_getElem (by omega)⟩
        obtain ⟨vs, hv, _⟩ := ra j l r' hj er'
        rw [nl] at hv; cases hv
      · rcases List.mem_append.mp m with m | m
        · exact na a m
        · rw [List.mem_singleton.mp m]; exact ⟨dom_same s9 l nl, lD⟩
      · rcases snoc_at e1 with e1 | ⟨rfl, rfl⟩
        · obtain ⟨vs, hv, rv⟩ := ra j a r' e1 e2
          exact ⟨vs, c12.keep (na a (List.mem_of_getElem? e1)).2 (s11 _ _ hv), rv⟩
        · rw [las] at e2
          obtain rfl : r = r' := Option.some.inj (er.symm.trans e2)
          exact ⟨ws, c12.keep lD c11.at_, bl⟩
    · rintro D ys H9 hD hly hx ⟨s9, as, rfl, las, da, na, ra⟩
      rw [ltu] at las
      obtain ⟨ax, eax⟩ : ∃ a, as[s.toNat]? = some a := ⟨_, List.getElem?_eq_getElem (by omega)⟩
      obtain ⟨vs, hvs, rvs⟩ := ra _ _ _ eax erow
      walk_at "go"
      refine w_tupN (by show 2 ≤ 100000; decide) fun T H10 nT c10 => ?_
      have s10 := c10.same nT
      walk_at "go"
      refine w_ixL (v := .ref ax) (SqL.of (s10 _ _ hx)) (atI_of s0 (by rw [List.getElem?_map, eax]; rfl)) ?_
      walk_at "go"
      have lvs := rvs.length
      refine w_setN (s10 _ _ hvs) (ixN_of e0 (by omega)) rfl fun H11 c11 => ?_
      walk_at "go"
      have nax := na ax (List.mem_of_getElem? eax)
      have S811 : Same H8 H11 := sch (s9.trans s10) nax.1 c11
      have up : ∀ {b : Addr}, H8 b = none → H b = none := fun {b} nb => dom_kw K8 W8 b nb
      have nT8 := dom_same s9 T nT
      have fT : fDeal (fun a => S a ∨ H a = none) H11 (.ref T) (xs, go) := ⟨T, _, _, rfl, .inr (up nT8), c11.keep (ne_of_none hvs nT).symm c10.at_, ⟨cl, _, rfl, .inr ncl0, S811 _ _ hcl, All2.map_eq⟩, rfl⟩
      refine q _ (ts.set s.toNat (row.set e.toNat (xs, go))) H11 (K8.trans (Kw.of S811)) ((W8.same S811).mono (by omega)) ⟨D, _, rfl, .inr (up hD), c11.keep (fun z => nax.2 z.symm) (s10 _ _ hx), all2_of (by rw [List.length_map, List.length_set, las]) ?_⟩ ((tok.mono (by omega)).set erow dk zk) (List.length_set ..)
      intro j x r ex er
      rw [List.getElem?_map] at ex
      cases ea : as[j]? with
      | none => rw [ea] at ex; cases ex
      | some a =>
        rw [ea] at ex
        cases ex
        have na' := na a (List.mem_of_getElem? ea)
        have lift : ∀ {v : V} {d : Deal}, fDeal S H8 v d → fDeal (fun a => S a ∨ H a = none) H11 v d := fun f => gDeal.mono (fun _ s => .inl s) (gDeal.same S811 f)
        rcases set_at er with ⟨rfl, rfl, _⟩ | ⟨ne, er⟩
        · obtain rfl : ax = a := Option.some.inj (eax.symm.trans ea)
          exact ⟨ax, _, rfl, .inr (up na'.1), c11.at_, (rvs.imp fun _ _ f => lift f).set fT⟩
        · obtain ⟨vs', hv', rv'⟩ := ra j a r ea er
          exact ⟨a, vs', rfl, .inr (up na'.1), c11.keep (fun z => ne (da _ _ _ eax (z ▸ ea))) (s10 _ _ hv'), rv'.imp fun _ _ f => lift f⟩
  refine w_andV ?_
  walk_at "go"
  refine w_andJ (fun v H' => ∃ ic : Bool, v = .bl ic ∧ H5 = H' ∧ (ic = true → 0 < s + e)) (fun hp Q' q' => ?_) (fun hp => ⟨false, rfl, rfl, fun z => nomatch z⟩) ?_
  · walk_at "go"
    refine w_ixI hcl5 g0 (by rw [dok.len]; exact g1) fun y hy => ?_
    walk_at "go"
    exact q' _ _ ⟨_, rfl, rfl, fun _ => of_decide_eq_true hp⟩
  rintro _ _ ⟨ic, rfl, rfl, hic⟩
  walk_at "go"
  refine w_andV ?_
  walk_at "go"
  refine w_andJ (fun v H' => ∃ ic : Bool, v = .bl ic ∧ H5 = H' ∧ (ic = true → 0 < s + e)) (fun hp Q' q' => ?_) (fun hp => ⟨false, rfl, rfl, fun z => nomatch z⟩) ?_
  · walk_at "go"
    refine w_ixI hcl5 t0 (by rw [dok.len]; exact t1) fun y hy => ?_
    walk_at "go"
    exact q' _ _ ⟨_, rfl, rfl, fun _ => hic hp⟩
  rintro _ _ ⟨ic, rfl, rfl, hic⟩
  walk_at "go"
  refine w_draw W5 (by omega) (by omega) (by omega) fun dd H6 d0 d1 K6 W6 => ?_
  have hcl6 := K6 _ _ clw hcl5
  have K06 := K05.trans K6
  have dlo := dok.lo
  have dhi := dok.hi
  have other : ∀ (H6 : Hp), Kw w H H6 → Well H6 w (k + 5) → H6 cl = some (.lst (d.1.map V.int)) → (tAsg (tOp oMod (tCB rInt1 (tCons (tOp oAdd (tOp oAdd (tVar 6) (tC (.int 1))) (tCall (sp__law_draw K Z) [] E0 (tCons (tVar 0) (tCons (tCB rMax2 (tCons (tC (.int 1)) (tCons (tOp oSub (tCB (rLen K) (tCons (tVar 1) tNil)) (tC (.int 1))) tNil))) tNil)))) tNil)) (tCB (rLen K) (tCons (tVar 1) tNil))) (gName 6))
      ⟨(tSeq (tAsg (tLc (iList K (tVar 1)) (gName 11) tYes (tCB (rList1 K) (tCons (tVar 11) tNil)) [11]) (gName 10)) (tSeq (tAsg (tTup (tCons (tVar 5) (tCons (tVar 6) tNil))) (gSub (tOp (rIxL K) (tVar 10) (tVar 3)) (tVar 4) rSetL)) (tRet (tVar 10)))) ⟨fun _ H' => Q .non H', Q, fun _ _ => False, fun _ _ => False⟩, Q, fun _ _ => False, fun _ _ => False⟩
      [some (.ref w), some (.ref ta), some (.int most), some (.int s), some (.int e), some (.ref cl), some (.int d.2), some (.int g), some (.int tk), some (.bl ic), none, none] H6 := by
    intro H6 K06 W6 hcl6
    walk_at "go"
    refine w_len (SqL.of (K06 _ _ taw hta)) ?_
    rw [ltu]
    walk_at "go"
    obtain ⟨mx, emx, m0, m1⟩ : ∃ mx : Int, (if (ts.length : Int) - 1 > 1 then (ts.length : Int) - 1 else 1) = mx ∧ 1 ≤ mx ∧ mx ≤ 1001 := by
      refine ⟨_, rfl, ?_, ?_⟩ <;> split <;> omega
    rw [emx]
    refine w_draw W6 (by omega) (by omega) (by omega) fun g2 H7 _ _ K7 W7 => ?_
    walk_at "go"
    refine w_len (SqL.of (K7 _ _ taw (K06 _ _ taw hta))) ?_
    rw [ltu]
    refine w_mod (by omega) ?_
    refine w_name (by simp only [List.set_cons_zero, List.set_cons_succ]; exact rfl) ?_
    exact main d.1 _ ic H7 (K06.trans K7) (W7.mono (by omega)) (K7 _ _ clw hcl6) ⟨dok.len, dok.sum, in_mono dok.in_ (by omega) (by omega), Int.emod_nonneg _ (by omega), Int.emod_lt_of_pos _ (by omega)⟩ fun a b => by
      rw [a] at erow
      rw [b] at ed
      exact tok.zero _ _ erow ed
  walk_at "go"
  refine w_ite (fun _ => ?_) fun _ => ?_
  · walk_at "go"
    refine w_iteB (fun eic => ?_) fun eic => ?_
    · walk_at "go"
      refine w_ixI hcl6 g0 (by rw [dok.len]; exact g1) fun y hy => ?_
      walk_at "go"
      refine w_setI hcl6 g0 (by rw [dok.len]; exact g1) fun H7 c7 => ?_
      walk_at "go"
      refine w_ixI c7.at_ t0 (by rw [List.length_set, dok.len]; exact t1) fun y2 hy2 => ?_
      walk_at "go"
      refine w_setI c7.at_ t0 (by rw [List.length_set, dok.len]; exact t1) fun H8 c8 => ?_
      have pos := hic eic
      have yb := in_at dok.in_ hy
      refine main _ d.2 ic H8 ((K06.ch ncl0 c7).ch ncl0 c8) (((W6.mono (by omega)).ch clw c7).ch clw c8) c8.at_ ⟨by rw [List.length_set, List.length_set]; exact dok.len, ?_, ?_, dok.lo, dok.hi⟩ (fun a b => by omega)
      · show (List.set (List.set d.1 g.toNat (y - 1)) tk.toNat (y2 + 1)).sum = _
        rw [sum_set hy2, sum_set hy, dok.sum]; omega
      · show In (-(b + 1)) (b + 1) (List.set (List.set d.1 g.toNat (y - 1)) tk.toNat (y2 + 1))
        have i1 : In (-(b + 1)) b (d.1.set g.toNat (y - 1)) := in_set (in_mono dok.in_ (by omega) (by omega)) (by omega) (by omega)
        have y2b := in_at i1 hy2
        exact in_set (in_mono i1 (by omega) (by omega)) (by omega) (by omega)
    · exact other H6 K06 W6 hcl6
  · exact other H6 K06 W6 hcl6
end Ow

set_option Elab.async false
set_option linter.all false
set_option maxRecDepth 100000
namespace Ow
open PySem L2
local macro_rules | `(tactic| walk_at "go") => `(tactic| (repeat (with_reducible first
  | refine w_seq ?_ | refine w_asg ?_ | refine w_ret ?_ | refine w_if ?_ | refine w_next ?_ | refine w_drop ?_
  | refine w_var (by with_unfolding_all rfl) ?_ | refine w_c ?_ | refine w_op ?_ | refine w_cons ?_ | refine w_nil ?_ | refine w_cb ?_ | refine w_call ?_
  | refine w_name (by simp only [List.set_cons_zero, List.set_cons_succ]; exact rfl) ?_
  | refine w_add ?_ | refine w_sub ?_ | refine w_lt ?_ | refine w_le ?_ | refine w_gt ?_ | refine w_ge ?_ | refine w_eqI ?_ | refine w_neI ?_
  | refine w_test ?_ | refine w_testK ?_ | refine w_tB ?_ | refine w_intI ?_ | refine w_intB ?_ | refine w_max2 ?_ | refine w_min2 ?_
  | refine w_lst ?_ | refine w_tup ?_ | refine w_gSub ?_ | refine w_fld ?_ | refine w_un ?_ | refine w_neg ?_ | refine w_par ?_ | refine w_tIf ?_ | refine w_and ?_ | refine w_or ?_ | refine w_not ?_
  | refine w_mod (by omega) ?_ | refine w_div (cdiv (by omega) (by omega)) ?_ | refine w_mul (cmulL (by omega) (by omega)) ?_ | refine w_mul (cmulR (by omega) (by omega)) ?_ | refine w_pow (cpow (by omega) (by omega) (by omega) (by omega)) ?_
  | refine w_ixL (SqL.of (by assumption)) (by with_unfolding_all rfl) ?_)))
theorem idx_of {g : Int} : ∀ {os : List Int}, g ∈ os → ∃ j, j < os.length ∧ os[j]? = some g ∧ ∀ (m : Nat) z, m < j → os[m]? = some z → z ≠ g
  | [], h => by cases h
  | y :: ys, h => by
    by_cases e : y = g
    · subst e; exact ⟨0, Nat.succ_pos _, rfl, fun m z hm => absurd hm (Nat.not_lt_zero _)⟩
    · have h' : g ∈ ys := by
        rcases List.mem_cons.mp h with rfl | h
        · exact absurd rfl e
        · exact h
      obtain ⟨j, hj, ej, nj⟩ := idx_of h'
      refine ⟨j + 1, Nat.succ_lt_succ hj, by simpa using ej, fun m z hm hz => ?_⟩
      cases m with
      | zero =>
        have : y = z := by simpa using hz
        subst this; exact e
      | succ m => exact nj m z (by omega) (by simpa using hz)
theorem flat_ints (os : List Int) : (os.map V.int).all flatV = true := by
  rw [List.all_eq_true]
  intro x hx
  obtain ⟨i, _, rfl⟩ := List.mem_map.mp hx
  rfl
theorem w_index {K : PySem.W.Frag} {a : Addr} {os : List Int} {g : Int} {H : Hp} {Q : VK} (h : H a = some (.lst (os.map V.int))) (m : g ∈ os) (q : ∀ j : Nat, j < os.length → os[j]? = some g → Q (.int j) H) : rIndex K (.ref a) [.int g] H Q := by
  obtain ⟨j, hj, ej, nj⟩ := idx_of m
  refine ⟨a, _, _, j, .int g, rfl, rfl, SqL.of h, rfl, flat_ints os, by rw [List.getElem?_map, ej]; rfl, ?_, fun m z hm hz => ?_, q j hj ej⟩
  · show (g == g) = true
    exact beq_self_eq_true g
  · rw [List.getElem?_map] at hz
    cases ez : os[m]? with
    | none => rw [ez] at hz; cases hz
    | some y =>
      rw [ez] at hz
      cases hz
      show (y == g) = false
      have := nj m y hm ez
      simpa using this
theorem w_insert {l : Addr} {xs : List Int} {i y : Int} {H : Hp} {Q : VK} (h : H l = some (.lst (xs.map V.int))) (hl : xs.length < 100000) (h0 : 0 ≤ i) (h1 : i < 100000) (q : ∀ H', Ch l (.lst ((xs.take i.toNat ++ [y] ++ xs.drop i.toNat).map V.int)) H H' → Q .non H') : rInsert (.ref l) [.int i, .int y] H Q := by
  refine ⟨l, _, i, .int y, rfl, rfl, h, by rw [List.length_map]; exact Nat.lt_of_lt_of_le hl (by decide), h0, by omega, ?_⟩
  have e : (xs.map V.int).take i.toNat ++ [V.int y] ++ (xs.map V.int).drop i.toNat = (xs.take i.toNat ++ [y] ++ xs.drop i.toNat).map V.int := by
    rw [List.map_append, List.map_append, List.map_take, List.map_drop]; rfl
  rw [e]
  exact q _ Ch.upd
def sp__law_renumbered (K : PySem.W.Frag) (Z : Ad) : Sp := fun vs H Q _ => ∃ (w : Addr) (k : Nat) (v : V) (ts : Tabs) (n : Nat) (h b : Int), vs = [.ref w, v] ∧ Well H w k ∧ k < 200000000000 ∧ fTabs (Nw w) H v ts ∧ TabsOk n h b ts ∧ (ts.length : Int) ≤ 1000 ∧ 1 ≤ h ∧ h ≤ 1000 ∧
  ∀ v ts' H', Kw w H H' → Well H' w (k + 1000) → fTabs (New H) H' v ts' → TabsOk n h b ts' → ts'.length = ts.length → (∃ g, Sim ts ts' g) → Q v H'
abbrev N__law_renumbered : List Str := ["well", "tables", "order", "rank", "cents", "goal"]
def t__law_renumbered (K : PySem.W.Frag) (Z : Ad) : TS :=
  (tSeq (tAsg (tLst (tCons (tC (.int 0)) tNil)) (gName 2)) (tSeq (tFor (iRng2 (tCons (tC (.int 1)) (tCons (tCB (rLen K) (tCons (tVar 1) tNil)) tNil))) (gName 3) (tDrop (tBM K "list" rInsert (tVar 2) (tCons (tOp oAdd (tC (.int 1)) (tCall (sp__law_draw K Z) [] E0 (tCons (tVar 0) (tCons (tVar 3) tNil)))) (tCons (tVar 3) tNil))))) (tRet (tLc (iList K (tVar 2)) (gName 3) tYes (tLc (iList K (tOp (rIxL K) (tVar 1) (tVar 3))) (gTup K 2 (gCons (gName 4) (gCons (gName 5) gNil))) tYes (tTup (tCons (tCB (rList1 K) (tCons (tVar 4) tNil)) (tCons (tBM K "list" (rIndex K) (tVar 2) (tCons (tVar 5) tNil)) tNil))) [4, 5]) [3]))))
theorem l__law_renumbered {K : PySem.W.Frag} {Z : Ad} {vs : List V} {H : Hp} {Q : VK} {E : XK} : sp__law_renumbered K Z vs H Q E → vs.length = 2 := by
  rintro ⟨_, _, _, _, _, _, _, rfl, _⟩; rfl
theorem r__law_renumbered {K : PySem.W.Frag} {Z : Ad} {vs : List V} {H : Hp} {Q : VK} {E : XK} (R : RuleK K Z) (h : sp__law_renumbered K Z vs H Q E) : t__law_renumbered K Z { nx := fun _ H' => Q .non H', rt := Q } (start N__law_renumbered vs) H := by
  obtain ⟨w, k, v, ts, n, h, b, rfl, W, hk, ft, tok, t8, h0, h1, q⟩ := h
  show t__law_renumbered K Z _ [some (.ref w), some v, none, none, none, none] H
  unfold t__law_renumbered
  have l0 := tok.len
  walk_at "go"
  refine w_lstN (by show 1 ≤ 100000; decide) fun O H1 nO c1 => ?_
  have s1 := c1.same nO
  have Ow : O ≠ w := W.ne nO
  have hO1 : H1 O = some (.lst ([(0 : Int)].map V.int)) := c1.at_
  walk_at "go"
  refine w_for (w_rng2 ?_)
  walk_at "go"
  refine w_lenF (gTabs.same s1 ft) ?_
  walk_at "go"
  refine w_rng2K (by omega) (by omega) (by omega) (by omega) ?_
  refine for_go (src_range 1 ((ts.length : Int) - 1).toNat) (fun i σ H' => ∃ o3, σ = [some (.ref w), some v, some (.ref O), o3, none, none] ∧ Kw w H H' ∧ Well H' w (k + i) ∧
    ∃ os : List Int, H' O = some (.lst (os.map V.int)) ∧ os.length = i + 1 ∧ os[0]? = some 0 ∧ (∀ x ∈ os, 0 ≤ x ∧ x < (i : Int) + 1) ∧ ∀ y : Int, 0 ≤ y → y < (i : Int) + 1 → y ∈ os) ⟨_, rfl, Kw.of s1, W.same s1, [0], hO1, rfl, rfl, fun x m => ?_, fun y y0 y1 => ?_⟩ (fun _ _ _ _ _ => trivial) ?_ ?_
  · rw [List.mem_singleton.mp m]; omega
  · have : y = 0 := by omega
    rw [this]; exact List.mem_singleton.mpr rfl
  · rintro i σ H2 x H3 hi ⟨o3, rfl, K2, W2, os, hO, lo, o0, io, ao⟩ ⟨rfl, rfl⟩
    refine w_name (by simp only [List.set_cons_zero, List.set_cons_succ]; exact rfl) ?_
    walk_at "go"
    refine w_bm ?_
    walk_at "go"
    refine w_bmL hO ?_
    walk_at "go"
    refine w_draw W2 (by omega) (by omega) (by omega) fun d H4 d0 d1 K4 W4 => ?_
    walk_at "go"
    refine w_insert (K4 _ _ Ow hO) (by omega) (by omega) (by omega) fun H5 c5 => ?_
    walk_at "go"
    have hp : (1 + d).toNat = (d.toNat) + 1 := by omega
    refine ⟨_, rfl, (K2.trans K4).ch nO c5, W4.ch Ow c5, _, c5.at_, ?_, ?_, fun x m => ?_, fun y y0 y1 => ?_⟩
    · rw [List.length_append, List.length_append, List.length_take, List.length_drop, List.length_singleton, lo]; omega
    · rw [hp]
      cases os with
      | nil => simp at o0
      | cons a r => simpa using o0
    · rcases List.mem_append.mp m with m | m
      · rcases List.mem_append.mp m with m | m
        · have := io x (List.mem_of_mem_take m); omega
        · rw [List.mem_singleton.mp m]; omega
      · have := io x (List.mem_of_mem_drop m); omega
    · by_cases e : y = 1 + (i : Int)
      · rw [e]
        exact List.mem_append_left _ (List.mem_append_right _ (List.mem_singleton.mpr rfl))
      · have m := ao y y0 (by omega)
        rw [← List.take_append_drop (1 + d).toNat os] at m
        rcases List.mem_append.mp m with m | m
        · exact List.mem_append_left _ (List.mem_append_left _ m)
        · exact List.mem_append_right _ m
  · rintro σ H2 ⟨o3, rfl, K2, W2, os, hO, lo, o0, io, ao⟩
    have lo' : os.length = ts.length := by omega
    obtain ⟨ta, tus, rfl, taw, hta, tal⟩ := gTabs.kw K2 ft
    walk_at "go"
    refine w_lc (w_ilist ?_)
    walk_at "go"
    refine w_ilistK (SqL.of hO) ?_
    refine lc_same gRow (src_list (xs := os.map V.int)) (fun i as => as.length = i ∧ (∀ (s : Nat) r, as[s]? = some r → RowOk n h b ts.length r ∧ ∃ g row, os[s]? = some g ∧ 0 ≤ g ∧ g < ts.length ∧ ts[g.toNat]? = some row ∧ ∀ (e : Nat) p, r[e]? = some p → ∃ d, row[e]? = some d ∧ p.1 = d.1 ∧ os[p.2.toNat]? = some d.2) ∧ ∀ r p, as[0]? = some r → r[0]? = some p → ∀ x ∈ p.1, x = 0) (by rw [List.length_map]; omega) ⟨rfl, fun s r e => by simp at e, fun r p e => by simp at e⟩ (fun H' s => SqL.of (s _ _ hO)) ?_ ?_
    · rintro i as H3 x H4 N N' hi ⟨las, ro, zo⟩ s3 ⟨rfl, ex⟩ hN hN'
      rw [List.length_map] at hi
      obtain ⟨g, eg⟩ : ∃ g, os[i]? = some g := ⟨_, List.getElem?_eq_getElem hi⟩
      rw [List.getElem?_map, eg] at ex
      cases ex
      have gi := io g (List.mem_of_getElem? eg)
      obtain ⟨row, erow⟩ := at_some (xs := ts) gi.1 (by omega)
      obtain ⟨rv, erv, frow⟩ := tal.getR erow
      have rok := tok.row _ _ erow
      have rlen := rok.len
      refine w_name (by simp only [wipe, List.set_cons_zero, List.set_cons_succ]; exact rfl) ?_
      refine ⟨rfl, ?_⟩
      refine w_yes (w_iteT ?_)
      refine w_lc (w_ilist ?_)
      walk_at "go"
      refine w_ixL (SqL.of (s3 _ _ hta)) (atI_of gi.1 erv) ?_
      obtain ⟨ra, us, rfl, raw, hra, ral⟩ := gRow.same s3 frow
      refine w_ilistK (SqL.of hra) ?_
      refine lc_same gDeal (src_list (xs := us)) (fun j ds => ds.length = j ∧ ∀ (e : Nat) p, ds[e]? = some p → DealOk n b ts.length e p ∧ ∃ p', row[e]? = some p' ∧ p.1 = p'.1 ∧ os[p.2.toNat]? = some p'.2) (by rw [ral.length]; omega) ⟨rfl, fun e p h => by simp at h⟩ (fun H' s => SqL.of (s _ _ hra)) ?_ ?_
      · rintro j ds H5 x H6 M M' hj ⟨lds, dk⟩ s5 ⟨rfl, ex⟩ hM hM'
        obtain ⟨d, ed, fd⟩ := ral.get ex
        have dok := rok.deal j d ed
        refine w_gT2 (gDeal.same s5 fd) fun u z f1 f2 => ?_
        cases f2
        obtain ⟨c, rfl, _, hc⟩ := ints_of f1
        refine w_gCons (w_name (by simp only [wipe, List.set_cons_zero, List.set_cons_succ]; exact rfl) ?_)
        refine w_gCons (w_name (by simp only [wipe, List.set_cons_zero, List.set_cons_succ]; exact rfl) ?_)
        refine w_gNil ?_
        refine ⟨rfl, ?_⟩
        refine w_yes (w_iteT ?_)
        walk_at "go"
        refine w_list1N (SqL.of hc) fun l H7 nl c7 => ?_
        have s7 := c7.same nl
        have hO7 := (s3.trans (s5.trans s7)) _ _ hO
        walk_at "go"
        refine w_bm ?_
        walk_at "go"
        refine w_bmL hO7 ?_
        walk_at "go"
        have dlo := dok.lo
        have dhi := dok.hi
        refine w_index hO7 (ao d.2 dok.lo (by omega)) fun m hm em => ?_
        walk_at "go"
        refine w_tupN (by show 2 ≤ 100000; decide) fun T H8 nT c8 => ?_
        refine hM _ (d.1, (m : Int)) H8 (s7.trans (c8.same nT)) ⟨T, _, _, rfl, dom_same s7 T nT, c8.at_, ⟨l, _, rfl, nl, c8.same nT _ _ c7.at_, All2.map_eq⟩, rfl⟩ ⟨by rw [List.length_append, lds]; rfl, fun e p ep => ?_⟩
        rcases snoc_at ep with ep | ⟨rfl, rfl⟩
        · exact dk e p ep
        · rw [lds]
          exact ⟨⟨dok.len, dok.sum, dok.in_, by omega, by show (m : Int) < ts.length; omega⟩, d, ed, rfl, by rw [Int.toNat_natCast]; exact em⟩
      · rintro D ds H5 hD s5 ⟨lds, dk⟩ f5
        rw [ral.length] at lds
        refine hN _ ds H5 s5 f5 ⟨by rw [List.length_append, las]; rfl, fun s r e => ?_, fun r p e e2 => ?_⟩
        · rcases snoc_at e with e | ⟨hs, rfl⟩
          · exact ro s r e
          · exact ⟨⟨by rw [lds]; exact rlen, fun e p ep => (dk e p ep).1⟩, g, row, by rw [hs, las]; exact eg, gi.1, by omega, erow, fun e p ep => (dk e p ep).2⟩
        · rcases snoc_at e with e | ⟨e0, rfl⟩
          · exact zo r p e e2
          · have i0 : i = 0 := by omega
            subst i0
            rw [o0] at eg
            cases eg
            obtain ⟨_, p', ep', e', _⟩ := dk 0 p e2
            rw [e']
            exact tok.zero row p' erow ep'
    · rintro D as H3 hD s3 ⟨las, ro, zo⟩ f3
      rw [List.length_map] at las
      have las' : as.length = ts.length := by omega
      refine q _ as H3 (K2.trans (Kw.of s3)) ((W2.same s3).mono (by omega)) (gTabs.mono (fun b nb => dom_kw K2 W2 b nb) f3) ⟨by omega, ?_, zo⟩ las' ⟨os, by omega, o0, fun j r e => (ro j r e).2⟩
      rw [las']; exact fun s r e => (ro s r e).1
theorem w_inT {K : PySem.W.Frag} {p : Addr} {x : V} {xs : List V} {H : Hp} {Q : VK} (h : SqT K H p xs) (fx : flatV x = true) (fxs : xs.all flatV = true) (q : Q (.bl (inV x xs)) H) : rIn K false x (.ref p) H Q := ⟨p, xs, rfl, .inr h, fx, fxs, q⟩
theorem w_inL {K : PySem.W.Frag} {p : Addr} {x : V} {xs : List V} {H : Hp} {Q : VK} (h : SqL K H p xs) (fx : flatV x = true) (fxs : xs.all flatV = true) (q : Q (.bl (inV x xs)) H) : rIn K false x (.ref p) H Q := ⟨p, xs, rfl, .inl h, fx, fxs, q⟩
def sp__law_plan (K : PySem.W.Frag) (Z : Ad) : Sp := fun vs H Q _ => ∃ (w : Addr) (k : Nat) (z : Addr) (s0 s1 s2 s3 : Int), vs = [.ref w, .ref z] ∧ Well H w k ∧ k < 100000000000 ∧ H z = some (.tup [.int s0, .int s1, .int s2, .int s3]) ∧ z ≠ w ∧ 1 ≤ s0 ∧ s0 ≤ 8 ∧ 1 ≤ s1 ∧ s1 ≤ 1000 ∧ 1 ≤ s2 ∧ s2 ≤ 1000 ∧ 0 ≤ s3 ∧ s3 ≤ 1000000 ∧
  ∀ v fk ts H', Kw w H H' → Well H' w (k + 10000000000) → fT fFolk fTabs (New H) H' v (fk, ts) → FolkOk fk → (fk.length : Int) ≤ s0 → heavy fk ≤ s1 → TabsOk fk.length (heavy fk) 6000000 ts → (ts.length : Int) ≤ s2 → Q v H'
abbrev N__law_plan : List Str := ["well", "sizes", "way", "folk", "count", "tables", "few"]
def t__law_plan (K : PySem.W.Frag) (Z : Ad) : TS :=
  (tSeq (tPar 2 3 (tCons (tCall (sp__law_draw K Z) [] E0 (tCons (tVar 0) (tCons (tC (.int 6)) tNil))) (tCons (tCall (sp__law_folk K Z) [] E0 (tCons (tVar 0) (tCons (tOp (rIxT K) (tVar 1) (tC (.int 0))) (tCons (tOp (rIxT K) (tVar 1) (tC (.int 1))) tNil)))) tNil))) (tSeq (tAsg (tOp oAdd (tC (.int 1)) (tCall (sp__law_draw K Z) [] E0 (tCons (tVar 0) (tCons (tOp (rIxT K) (tVar 1) (tC (.int 2))) tNil)))) (gName 4)) (tSeq (tIfS (tAnd (tTest (tOp (rIn K false) (tVar 2) (tTup (tCons (tC (.int 1)) (tCons (tC (.int 2)) tNil))))) (tTest (tOp oLe (tCall (sp__law_heavy K Z) [] E0 (tCons (tVar 3) tNil)) (tOp (rIxT K) (tVar 1) (tC (.int 2)))))) (tSeq (tAsg (tCall (sp__law_by_table K Z) [] E0 (tCons (tVar 3) (tCons (tCall (sp__law_lines K Z) [] E0 (tCons (tVar 0) (tCons (tVar 3) (tCons (tOp (rIxT K) (tVar 1) (tC (.int 3))) tNil)))) tNil))) (gName 5)) (tAsg (tIf (tTest (tOp rEq (tVar 2) (tC (.int 2)))) (tCall (sp__law_bent K Z) [] E0 (tCons (tVar 0) (tCons (tVar 5) (tCons (tOp (rIxT K) (tVar 1) (tC (.int 3))) tNil)))) (tVar 5)) (gName 5))) (tIfS (tTest (tOp rEq (tVar 2) (tC (.int 0)))) (tAsg (tCall (sp__law_any_states K Z) [] E0 (tCons (tVar 0) (tCons (tVar 3) (tCons (tLst (tCons (tC (.int 1)) (tCons (tC (.int 1)) tNil))) (tCons (tOp (rIxT K) (tVar 1) (tC (.int 3))) tNil))))) (gName 5)) (tIfS (tTest (tOp rEq (tVar 2) (tC (.int 4)))) (tSeq (tAsg (tCB rMin2 (tCons (tVar 4) (tCons (tOp oAdd (tC (.int 1)) (tOp oDiv (tOp (rIxT K) (tVar 1) (tC (.int 2))) (tC (.int 2)))) tNil))) (gName 6)) (tAsg (tCall (sp__law_copied K Z) [] E0 (tCons (tVar 0) (tCons (tCall (sp__law_any_states K Z) [] E0 (tCons (tVar 0) (tCons (tVar 3) (tCons (tLst (tCons (tVar 6) (tCons (tVar 6) tNil))) (tCons (tOp (rIxT K) (tVar 1) (tC (.int 3))) tNil))))) (tCons (tOp (rIxT K) (tVar 1) (tC (.int 2))) tNil)))) (gName 5))) (tIfS (tTest (tOp rEq (tVar 2) (tC (.int 5)))) (tAsg (tCall (sp__law_any_states K Z) [] E0 (tCons (tVar 0) (tCons (tVar 3) (tCons (tLst (tCons (tOp oAdd (tC (.int 1)) (tCall (sp__law_draw K Z) [] E0 (tCons (tVar 0) (tCons (tVar 4) tNil)))) (tCons (tVar 4) tNil))) (tCons (tOp (rIxT K) (tVar 1) (tC (.int 3))) tNil))))) (gName 5)) (tAsg (tCall (sp__law_any_states K Z) [] E0 (tCons (tVar 0) (tCons (tVar 3) (tCons (tLst (tCons (tVar 4) (tCons (tVar 4) tNil))) (tCons (tOp (rIxT K) (tVar 1) (tC (.int 3))) tNil))))) (gName 5)))))) (tRet (tTup (tCons (tVar 3) (tCons (tIf (tTest (tOp rEq (tCall (sp__law_draw K Z) [] E0 (tCons (tVar 0) (tCons (tC (.int 2)) tNil))) (tC (.int 0)))) (tCall (sp__law_renumbered K Z) [] E0 (tCons (tVar 0) (tCons (tVar 5) tNil))) (tVar 5)) tNil)))))))
theorem l__law_plan {K : PySem.W.Frag} {Z : Ad} {vs : List V} {H : Hp} {Q : VK} {E : XK} : sp__law_plan K Z vs H Q E → vs.length = 2 := by
  rintro ⟨_, _, _, _, _, _, _, rfl, _⟩; rfl
theorem r__law_plan {K : PySem.W.Frag} {Z : Ad} {vs : List V} {H : Hp} {Q : VK} {E : XK} (R : RuleK K Z) (h : sp__law_plan K Z vs H Q E) : t__law_plan K Z { nx := fun _ H' => Q .non H', rt := Q } (start N__law_plan vs) H := by
  obtain ⟨w, k, z, s0, s1, s2, s3, rfl, W, hk, hz, zw, a0, a1, b0, b1, c0, c1, d0, d1, q⟩ := h
  show t__law_plan K Z _ [some (.ref w), some (.ref z), none, none, none, none, none] H
  unfold t__law_plan
  walk_at "go"
  refine w_draw W (by omega) (by omega) (by omega) fun way H1 e0 e1 K1 W1 => ?_
  walk_at "go"
  refine w_ixT (SqT.of (K1 _ _ zw hz)) (by with_unfolding_all rfl) ?_
  walk_at "go"
  refine w_ixT (SqT.of (K1 _ _ zw hz)) (by with_unfolding_all rfl) ?_
  walk_at "go"
  refine ⟨w, _, s0, s1, rfl, W1, by omega, by omega, by omega, by omega, by omega, fun v fk H2 K2 W2 f2 fo hh hn => ?_⟩
  have K02 := K1.trans K2
  have f2' : fFolk (New H) H2 v fk := gFolk.mono (fun b nb => dom_kw K1 W1 b nb) f2
  have hpos := fo.pos
  have npos := fo.len
  walk_at "go"
  refine w_parK (by simp only [List.set_cons_zero, List.set_cons_succ]; exact rfl) ?_
  walk_at "go"
  refine w_ixT (SqT.of (K02 _ _ zw hz)) (by with_unfolding_all rfl) ?_
  walk_at "go"
  refine w_draw W2 (by omega) (by omega) (by omega) fun cn H3 g0 g1 K3 W3 => ?_
  have K03 := K02.trans K3
  have nw : ∀ {b : Addr}, H b = none → b ≠ w := fun hb e => W.some (e ▸ hb)
  have f3 : fFolk (New H) H3 v fk := gFolk.keep (fun a o s e => K3 a o (nw s) e) f2'
  have hz3 := K03 _ _ zw hz
  clear f2 f2' K1 K2 K3 K02 W1 W2 H1 H2
  walk_at "go"
  have main : ∀ (u : V) (ts : Tabs) (o6 : Option V) (H8 : Hp), Kw w H H8 → Well H8 w (k + 5000000000) → fFolk (New H) H8 v fk → fTabs (New H) H8 u ts → TabsOk fk.length (heavy fk) 6000000 ts → (ts.length : Int) ≤ s2 →
      (tRet (tTup (tCons (tVar 3) (tCons (tIf (tTest (tOp rEq (tCall (sp__law_draw K Z) [] E0 (tCons (tVar 0) (tCons (tC (.int 2)) tNil))) (tC (.int 0)))) (tCall (sp__law_renumbered K Z) [] E0 (tCons (tVar 0) (tCons (tVar 5) tNil))) (tVar 5)) tNil))))
      ⟨fun _ H' => Q .non H', Q, fun _ _ => False, fun _ _ => False⟩ [some (.ref w), some (.ref z), some (.int way), some v, some (.int (1 + cn)), some u, o6] H8 := by
    intro u ts o6 H8 K8 W8 f8 t8 tok tl
    walk_at "go"
    refine w_draw W8 (by omega) (by omega) (by omega) fun dd H9 _ _ K9 W9 => ?_
    have K09 := K8.trans K9
    have f9 : fFolk (New H) H9 v fk := gFolk.keep (fun a o s e => K9 a o (nw s) e) f8
    have t9 : fTabs (New H) H9 u ts := gTabs.keep (fun a o s e => K9 a o (nw s) e) t8
    walk_at "go"
    have fin : ∀ (u : V) (ts : Tabs) (H8 : Hp), Kw w H H8 → Well H8 w (k + 6000000000) → fFolk (New H) H8 v fk → fTabs (New H) H8 u ts → TabsOk fk.length (heavy fk) 6000000 ts → (ts.length : Int) ≤ s2 → tupK Q [v, u] H8 := by
      intro u ts H8 K8 W8 f8 t8 tok tl
      refine w_tupN (by show 2 ≤ 100000; decide) fun T H10 nT c10 => ?_
      have s10 := c10.same nT
      exact q _ fk ts H10 (K8.trans (Kw.of s10)) ((W8.same s10).mono (by omega)) ⟨T, _, _, rfl, dom_kw K8 W8 T nT, c10.at_, gFolk.same s10 f8, gTabs.same s10 t8⟩ fo hn hh tok tl
    refine w_ite (fun _ => ?_) fun _ => ?_
    · walk_at "go"
      refine ⟨w, _, u, ts, fk.length, heavy fk, 6000000, rfl, W9, by omega, gTabs.mono (fun a s => nw s) t9, tok, by omega, by omega, by omega, fun u2 ts2 H10 K10 W10 f10 tok10 l10 _ => ?_⟩
      walk_at "go"
      exact fin u2 ts2 H10 (K09.trans K10) (W10.mono (by omega)) (gFolk.keep (fun a o s e => K10 a o (nw s) e) f9) (gTabs.mono (fun b nb => dom_kw K09 W9 b nb) f10) tok10 (by omega)
    · walk_at "go"
      exact fin u ts H9 K09 (W9.mono (by omega)) f9 t9 tok tl
  have rest : ∀ (H4 : Hp), Kw w H H4 → Well H4 w (k + 3000) → fFolk (New H) H4 v fk → (tIfS (tTest (tOp rEq (tVar 2) (tC (.int 0)))) (tAsg (tCall (sp__law_any_states K Z) [] E0 (tCons (tVar 0) (tCons (tVar 3) (tCons (tLst (tCons (tC (.int 1)) (tCons (tC (.int 1)) tNil))) (tCons (tOp (rIxT K) (tVar 1) (tC (.int 3))) tNil))))) (gName 5)) (tIfS (tTest (tOp rEq (tVar 2) (tC (.int 4)))) (tSeq (tAsg (tCB rMin2 (tCons (tVar 4) (tCons (tOp oAdd (tC (.int 1)) (tOp oDiv (tOp (rIxT K) (tVar 1) (tC (.int 2))) (tC (.int 2)))) tNil))) (gName 6)) (tAsg (tCall (sp__law_copied K Z) [] E0 (tCons (tVar 0) (tCons (tCall (sp__law_any_states K Z) [] E0 (tCons (tVar 0) (tCons (tVar 3) (tCons (tLst (tCons (tVar 6) (tCons (tVar 6) tNil))) (tCons (tOp (rIxT K) (tVar 1) (tC (.int 3))) tNil))))) (tCons (tOp (rIxT K) (tVar 1) (tC (.int 2))) tNil)))) (gName 5))) (tIfS (tTest (tOp rEq (tVar 2) (tC (.int 5)))) (tAsg (tCall (sp__law_any_states K Z) [] E0 (tCons (tVar 0) (tCons (tVar 3) (tCons (tLst (tCons (tOp oAdd (tC (.int 1)) (tCall (sp__law_draw K Z) [] E0 (tCons (tVar 0) (tCons (tVar 4) tNil)))) (tCons (tVar 4) tNil))) (tCons (tOp (rIxT K) (tVar 1) (tC (.int 3))) tNil))))) (gName 5)) (tAsg (tCall (sp__law_any_states K Z) [] E0 (tCons (tVar 0) (tCons (tVar 3) (tCons (tLst (tCons (tVar 4) (tCons (tVar 4) tNil))) (tCons (tOp (rIxT K) (tVar 1) (tC (.int 3))) tNil))))) (gName 5)))))
      ⟨(tRet (tTup (tCons (tVar 3) (tCons (tIf (tTest (tOp rEq (tCall (sp__law_draw K Z) [] E0 (tCons (tVar 0) (tCons (tC (.int 2)) tNil))) (tC (.int 0)))) (tCall (sp__law_renumbered K Z) [] E0 (tCons (tVar 0) (tCons (tVar 5) tNil))) (tVar 5)) tNil)))) ⟨fun _ H' => Q .non H', Q, fun _ _ => False, fun _ _ => False⟩, Q, fun _ _ => False, fun _ _ => False⟩ [some (.ref w), some (.ref z), some (.int way), some v, some (.int (1 + cn)), none, none] H4 := by
    intro H4 K4 W4 f4
    have hz4 := K4 _ _ zw hz
    have any : ∀ (H5 : Hp) (ca : Addr) (x0 x1 : Int) (Q' : VK), Kw w H H5 → Well H5 w (k + 4000) → H ca = none → H5 ca = some (.lst [.int x0, .int x1]) → 1 ≤ x0 → x0 ≤ x1 → x1 ≤ 1000 → fFolk (New H) H5 v fk →
        (∀ u ts H6, Kw w H H6 → Well H6 w (k + 3000000000) → fFolk (New H) H6 v fk → fTabs (New H) H6 u ts → TabsOk fk.length (heavy fk) 2000000 ts → (ts.length : Int) = x1 → Q' u H6) → sp__law_any_states K Z [.ref w, v, .ref ca, .int s3] H5 Q' E0 := by
      intro H5 ca x0 x1 Q' K5 W5 nca hca p0 p1 p2 f5 q'
      refine ⟨w, _, v, ca, fk, x0, x1, s3, rfl, W5, by omega, gFolk.mono (fun a s => nw s) f5, nw nca, hca, fo, by omega, by omega, p0, p1, p2, d0, d1, fun u ts H6 K6 W6 f6 tok tl => ?_⟩
      exact q' u ts H6 (K5.trans K6) (W6.mono (by omega)) (gFolk.keep (fun a o s e => K6 a o (nw s) e) f5) (gTabs.mono (fun b nb => dom_kw K5 W5 b nb) f6) tok tl
    walk_at "go"
    refine w_ite (fun _ => ?_) fun _ => ?_
    · walk_at "go"
      refine w_lstN (by show 2 ≤ 100000; decide) fun ca H5 nca c5 => ?_
      have s5 := c5.same nca
      walk_at "go"
      refine w_ixT (SqT.of (s5 _ _ hz4)) (by with_unfolding_all rfl) ?_
      walk_at "go"
      refine any H5 ca 1 1 _ (K4.trans (Kw.of s5)) ((W4.same s5).mono (by omega)) (dom_kw K4 W4 _ nca) c5.at_ (by omega) (by omega) (by omega) (gFolk.same s5 f4) fun u ts H6 K6 W6 f6 t6 tok tl => ?_
      refine w_name (by simp only [List.set_cons_zero, List.set_cons_succ]; exact rfl) ?_
      exact main u ts _ H6 K6 (W6.mono (by omega)) f6 t6 (tok.mono (by omega)) (by omega)
    walk_at "go"
    refine w_ite (fun _ => ?_) fun _ => ?_
    · walk_at "go"
      refine w_ixT (SqT.of hz4) (by with_unfolding_all rfl) ?_
      walk_at "go"
      obtain ⟨fw, efw, fw0, fw1⟩ : ∃ fw : Int, (if 1 + s2 / 2 < 1 + cn then 1 + s2 / 2 else 1 + cn) = fw ∧ 1 ≤ fw ∧ fw ≤ s2 := by
        refine ⟨_, rfl, ?_, ?_⟩ <;> split <;> omega
      rw [efw]
      refine w_lstN (by show 2 ≤ 100000; decide) fun ca H5 nca c5 => ?_
      have s5 := c5.same nca
      walk_at "go"
      refine w_ixT (SqT.of (s5 _ _ hz4)) (by with_unfolding_all rfl) ?_
      walk_at "go"
      refine any H5 ca fw fw _ (K4.trans (Kw.of s5)) ((W4.same s5).mono (by omega)) (dom_kw K4 W4 _ nca) c5.at_ (by omega) (by omega) (by omega) (gFolk.same s5 f4) fun u ts H6 K6 W6 f6 t6 tok tl => ?_
      walk_at "go"
      refine w_ixT (SqT.of (K6 _ _ zw hz)) (by with_unfolding_all rfl) ?_
      walk_at "go"
      refine ⟨w, _, u, ts, fk.length, heavy fk, 2000000, s2, rfl, W6, by omega, gTabs.mono (fun a s => nw s) t6, tok, by omega, by omega, by omega, by omega, by omega, fun u2 ts2 H7 K7 W7 f7 tok7 l7 l8 _ => ?_⟩
      refine w_name (by simp only [List.set_cons_zero, List.set_cons_succ]; exact rfl) ?_
      exact main u2 ts2 _ H7 (K6.trans K7) (W7.mono (by omega)) (gFolk.keep (fun a o s e => K7 a o (nw s) e) f6) (gTabs.mono (fun b nb => dom_kw K6 W6 b nb) f7) (tok7.mono (by omega)) (by omega)
    walk_at "go"
    refine w_ite (fun _ => ?_) fun _ => ?_
    · walk_at "go"
      refine w_draw W4 (by omega) (by omega) (by omega) fun x x0 x1 H5 K5 W5 => ?_
      walk_at "go"
      refine w_lstN (by show 2 ≤ 100000; decide) fun ca H6 nca c6 => ?_
      have K45 := K4.trans K5
      have s6 := c6.same nca
      walk_at "go"
      refine w_ixT (SqT.of (s6 _ _ (K45 _ _ zw hz))) (by with_unfolding_all rfl) ?_
      walk_at "go"
      refine any H6 ca _ _ _ (K45.trans (Kw.of s6)) ((W5.same s6).mono (by omega)) (dom_kw K45 W5 _ nca) c6.at_ (by omega) (by omega) (by omega) (gFolk.same s6 (gFolk.keep (fun a o s e => K5 a o (nw s) e) f4)) fun u ts H7 K7 W7 f7 t7 tok tl => ?_
      refine w_name (by simp only [List.set_cons_zero, List.set_cons_succ]; exact rfl) ?_
      exact main u ts _ H7 K7 (W7.mono (by omega)) f7 t7 (tok.mono (by omega)) (by omega)
    · walk_at "go"
      refine w_lstN (by show 2 ≤ 100000; decide) fun ca H5 nca c5 => ?_
      have s5 := c5.same nca
      walk_at "go"
      refine w_ixT (SqT.of (s5 _ _ hz4)) (by with_unfolding_all rfl) ?_
      walk_at "go"
      refine any H5 ca _ _ _ (K4.trans (Kw.of s5)) ((W4.same s5).mono (by omega)) (dom_kw K4 W4 _ nca) c5.at_ (by omega) (by omega) (by omega) (gFolk.same s5 f4) fun u ts H6 K6 W6 f6 t6 tok tl => ?_
      refine w_name (by simp only [List.set_cons_zero, List.set_cons_succ]; exact rfl) ?_
      exact main u ts _ H6 K6 (W6.mono (by omega)) f6 t6 (tok.mono (by omega)) (by omega)
  refine w_tupN (by show 2 ≤ 100000; decide) fun t12 H4 n12 c4 => ?_
  have s4 := c4.same n12
  have K4 := K03.trans (Kw.of s4)
  have W4 := W3.same s4
  have f4 := gFolk.same s4 f3
  refine w_inT (SqT.of c4.at_) rfl rfl ?_
  walk_at "go"
  refine w_iteB (fun _ => ?_) fun _ => ?_
  · walk_at "go"
    refine ⟨v, fk, _, rfl, f4, by omega, fun H5 s5 => ?_⟩
    have K5 := K4.trans (Kw.of s5)
    have W5 := W4.same s5
    have f5 := gFolk.same s5 f4
    walk_at "go"
    refine w_ixT (SqT.of (K5 _ _ zw hz)) (by with_unfolding_all rfl) ?_
    walk_at "go"
    refine w_ite (fun hle => ?_) fun _ => ?_
    · walk_at "go"
      refine w_ixT (SqT.of (K5 _ _ zw hz)) (by with_unfolding_all rfl) ?_
      walk_at "go"
      refine ⟨w, _, v, fk, s3, rfl, W5, by omega, gFolk.mono (fun a s => nw s) f5, fo, by omega, by omega, d0, d1, fun u ls H6 K6 W6 f6 lo ll => ?_⟩
      have K06 := K5.trans K6
      have f6f : fFolk (New H) H6 v fk := gFolk.keep (fun a o s e => K6 a o (nw s) e) f5
      have f6l : fLines (New H) H6 u ls := gLines.mono (fun b nb => dom_kw K5 W5 b nb) f6
      walk_at "go"
      refine ⟨v, u, fk, ls, New H, rfl, f6f, f6l, fo, lo, ll, by omega, by omega, fun u ts H7 s7 t7 tok tl _ => ?_⟩
      have K07 := K06.trans (Kw.of s7)
      have W7 := W6.same s7
      have f7 := gFolk.same s7 f6f
      have t7' : fTabs (New H) H7 u ts := gTabs.mono (fun b nb => dom_kw K06 W6 b nb) t7
      walk_at "go"
      refine w_ite (fun _ => ?_) fun _ => ?_
      · walk_at "go"
        refine w_ixT (SqT.of (K07 _ _ zw hz)) (by with_unfolding_all rfl) ?_
        walk_at "go"
        refine ⟨w, _, u, ts, fk.length, heavy fk, 5000000, s3, New H, rfl, W7, by omega, t7', fun a s => nw s, tok, by omega, by omega, by omega, by omega, by omega, d0, d1, fun u2 ts2 H8 K8 W8 t8 tok8 l8 => ?_⟩
        refine w_name (by simp only [List.set_cons_zero, List.set_cons_succ]; exact rfl) ?_
        exact main u2 ts2 _ H8 (K07.trans K8) (W8.mono (by omega)) (gFolk.keep (fun a o s e => K8 a o (nw s) e) f7) (gTabs.mono (fun b nb => nb.elim id fun nb => dom_kw K07 W7 b nb) t8) (tok8.mono (by omega)) (by omega)
      · refine w_var (by with_unfolding_all rfl) ?_
        refine w_name (by simp only [List.set_cons_zero, List.set_cons_succ]; exact rfl) ?_
        exact main u ts _ H7 K07 (W7.mono (by omega)) f7 t7' (tok.mono (by omega)) (by omega)
    · exact rest H5 K5 (W5.mono (by omega)) f5
  · exact rest H4 K4 (W4.mono (by omega)) f4
end Ow

set_option Elab.async false
set_option linter.all false
set_option maxRecDepth 100000
namespace Ow
open PySem L2
local macro_rules | `(tactic| walk_at "go") => `(tactic| (repeat (with_reducible first
  | refine w_seq ?_ | refine w_asg ?_ | refine w_ret ?_ | refine w_if ?_ | refine w_next ?_ | refine w_drop ?_
  | refine w_var (by with_unfolding_all rfl) ?_ | refine w_c ?_ | refine w_op ?_ | refine w_cons ?_ | refine w_nil ?_ | refine w_cb ?_ | refine w_call ?_
  | refine w_name (by simp only [List.set_cons_zero, List.set_cons_succ]; exact rfl) ?_
  | refine w_add ?_ | refine w_sub ?_ | refine w_lt ?_ | refine w_le ?_ | refine w_gt ?_ | refine w_ge ?_ | refine w_eqI ?_ | refine w_neI ?_
  | refine w_test ?_ | refine w_testK ?_ | refine w_tB ?_ | refine w_intI ?_ | refine w_intB ?_ | refine w_max2 ?_ | refine w_min2 ?_
  | refine w_lst ?_ | refine w_tup ?_ | refine w_gSub ?_ | refine w_fld ?_ | refine w_un ?_ | refine w_neg ?_ | refine w_par ?_ | refine w_tIf ?_ | refine w_and ?_ | refine w_or ?_ | refine w_not ?_
  | refine w_mod (by omega) ?_ | refine w_div (cdiv (by omega) (by omega)) ?_ | refine w_mul (cmulL (by omega) (by omega)) ?_ | refine w_mul (cmulR (by omega) (by omega)) ?_ | refine w_pow (cpow (by omega) (by omega) (by omega) (by omega)) ?_
  | refine w_ixL (SqL.of (by assumption)) (by with_unfolding_all rfl) ?_)))
def fB : Fam Bool := fun _ _ v b => v = .bl b
theorem gB : Good fB := ⟨fun _ h => h, fun _ h => h, fun h => h⟩
theorem bools_of {S : Addr → Prop} {H : Hp} {v : V} {ns : List Bool} (h : fL fB S H v ns) : ∃ a, v = .ref a ∧ S a ∧ H a = some (.lst (ns.map V.bl)) := by
  obtain ⟨a, vs, e, s, h, r⟩ := h
  exact ⟨a, e, s, by rw [h, All2.eq_map r]⟩
theorem w_all {K : PySem.W.Frag} {a : Addr} {bs : List Bool} {H : Hp} {Q : VK} (h : SqL K H a (bs.map V.bl)) (q : Q (.bl (bs.all id)) H) : rAll K [.ref a] H Q := ⟨a, bs, rfl, h, q⟩
def chK (tc : TE) (r' : R2) (y : V) (σ : St) (Q : VK) (z : V) (H3 : Hp) : Prop := ∃ k, z = .bl k ∧ (if k = true then tc σ H3 fun w' H4 => r' y w' H4 Q else Q (.bl false) H3)
theorem w_chain {r r' : R2} {ta tb tc : TE} {σ : St} {H : Hp} {Q : VK} (h : ta σ H fun x H1 => tb σ H1 fun y H2 => r x y H2 fun z H3 => chK tc r' y σ Q z H3) : tChain r r' ta tb tc σ H Q := h
theorem w_chainT {r' : R2} {tc : TE} {y : V} {σ : St} {H : Hp} {Q : VK} {k : Bool} (e : k = true) (h : tc σ H fun w' H4 => r' y w' H4 Q) : chK tc r' y σ Q (.bl k) H := ⟨k, rfl, by rw [if_pos e]; exact h⟩
theorem w_inS {i j : Str} {H : Hp} {Q : VK} (q : Q (.bl (!(Builtin.Str.occurrences j i 0 j.length 1).isEmpty)) H) : oInS (.str i) (.str j) H Q := ⟨i, j, rfl, rfl, q⟩
def sp_is_name (K : PySem.W.Frag) (Z : Ad) : Sp := fun vs H Q _ => ∃ s : Str, vs = [.str s] ∧ OkName s ∧ ∀ H', Same H H' → Q (.bl true) H'
abbrev N_is_name : List Str := ["name", "letter"]
def t_is_name (K : PySem.W.Frag) (Z : Ad) : TS :=
  (tRet (tAndV (tChain oLe oLe (tC (.int 1)) (tCB rLenS (tCons (tVar 0) tNil)) (tC (.int 8))) (tCB (rAll K) (tCons (tLc (iStr (tVar 0)) (gName 1) tYes (tOp oInS (tVar 1) (tC (.str "abcdefghijklmnopqrstuvwxyz"))) [1]) tNil))))
theorem l_is_name {K : PySem.W.Frag} {Z : Ad} {vs : List V} {H : Hp} {Q : VK} {E : XK} : sp_is_name K Z vs H Q E → vs.length = 1 := by
  rintro ⟨_, rfl, _⟩; rfl
theorem r_is_name {K : PySem.W.Frag} {Z : Ad} {vs : List V} {H : Hp} {Q : VK} {E : XK} (R : RuleK K Z) (h : sp_is_name K Z vs H Q E) : t_is_name K Z { nx := fun _ H' => Q .non H', rt := Q } (start N_is_name vs) H := by
  obtain ⟨s, rfl, ok, q⟩ := h
  show t_is_name K Z _ [some (.str s), none] H
  unfold t_is_name
  have lo := ok.lo
  have hi := ok.hi
  walk_at "go"
  refine w_andV (w_chain ?_)
  walk_at "go"
  refine w_lenS (by show s.length ≤ 16777216; omega) ?_
  walk_at "go"
  refine w_chainT (decide_eq_true (by omega)) ?_
  walk_at "go"
  refine w_andVK ?_
  rw [if_pos (decide_eq_true (by omega))]
  walk_at "go"
  refine w_lc (w_istr ?_)
  walk_at "go"
  refine w_istrK ?_
  refine lc_same gB (src_str s) (fun i as => as = List.replicate i true) (by show s.length ≤ 100000; omega) rfl (fun _ _ => trivial) ?_ ?_
  · rintro i as H1 x H2 N N' hi rfl s1 ⟨rfl, c, ec, rfl⟩ hN hN'
    refine w_name (by simp only [wipe, List.set_cons_zero, List.set_cons_succ]; exact rfl) ?_
    refine ⟨rfl, ?_⟩
    refine w_yes (w_iteT ?_)
    walk_at "go"
    refine w_inS ?_
    have ec' : s.cps.toList[i]? = some c := by rw [Array.getElem?_toList]; exact ec
    have cb := ok.az c (List.mem_of_getElem? ec')
    rw [az_has c cb.1 cb.2]
    exact hN _ true _ (Same.refl _) rfl List.replicate_succ'.symm
  · rintro D as H1 hD s1 rfl f
    obtain ⟨D', e, nD, hD1⟩ := bools_of f
    cases e
    walk_at "go"
    refine w_all (SqL.of hD1) ?_
    have e : (List.replicate s.cps.size true).all id = true := by
      rw [List.all_eq_true]
      intro x hx
      rw [List.eq_of_mem_replicate hx]; rfl
    rw [e]
    exact q _ s1
def sp_checked_weights (K : PySem.W.Frag) (Z : Ad) : Sp := fun vs H Q _ => ∃ (v : V) (fk : Folk) (S : Addr → Prop), vs = [v] ∧ fFolk S H v fk ∧ FolkOk fk ∧ fk.length ≤ 1000 ∧ ∀ a H', Same H H' → H a = none → H' a = some (.lst ((fk.map Prod.snd).map V.int)) → Q (.ref a) H'
abbrev N_checked_weights : List Str := ["people", "names", "name", "weight", "weights", "_"]
def t_checked_weights (K : PySem.W.Frag) (Z : Ad) : TS :=
  (tSeq (tAsg (tLst tNil) (gName 1)) (tSeq (tFor (iList K (tVar 0)) (gTup K 2 (gCons (gName 2) (gCons (gName 3) gNil))) (tSeq (tIfS (tNot (tB (tCall (sp_is_name K Z) [] E0 (tCons (tVar 2) tNil)))) tNever tNext) (tSeq (tIfS (tTest (tOp (rIn K false) (tVar 2) (tVar 1))) tNever tNext) (tSeq (tIfS (tTest (tOp oLt (tVar 3) (tC (.int 0)))) tNever tNext) (tDrop (tBM K "list" rAppend (tVar 1) (tCons (tVar 2) tNil))))))) (tSeq (tAsg (tLc (iList K (tVar 0)) (gTup K 2 (gCons (gName 5) (gCons (gName 3) gNil))) tYes (tVar 3) [5, 3]) (gName 4)) (tSeq (tIfS (tTest (tOp rEq (tCB (rSum K) (tCons (tVar 4) tNil)) (tC (.int 0)))) tNever tNext) (tRet (tVar 4))))))
theorem l_checked_weights {K : PySem.W.Frag} {Z : Ad} {vs : List V} {H : Hp} {Q : VK} {E : XK} : sp_checked_weights K Z vs H Q E → vs.length = 1 := by
  rintro ⟨_, _, _, rfl, _⟩; rfl
theorem flat_strs (os : List Str) : (os.map V.str).all flatV = true := by
  rw [List.all_eq_true]
  intro x hx
  obtain ⟨i, _, rfl⟩ := List.mem_map.mp hx
  rfl
theorem notin_strs {s : Str} {os : List Str} (h : s ∉ os) : inV (.str s) (os.map V.str) = false := by
  unfold inV
  rw [List.any_eq_false]
  intro x hx
  obtain ⟨i, hi, rfl⟩ := List.mem_map.mp hx
  show ¬ (i == s) = true
  intro e
  have : i = s := by simpa using e
  exact h (this ▸ hi)
theorem r_checked_weights {K : PySem.W.Frag} {Z : Ad} {vs : List V} {H : Hp} {Q : VK} {E : XK} (R : RuleK K Z) (h : sp_checked_weights K Z vs H Q E) : t_checked_weights K Z { nx := fun _ H' => Q .non H', rt := Q } (start N_checked_weights vs) H := by
  obtain ⟨v, fk, S, rfl, ⟨a, us, rfl, sa, ha, al⟩, fo, hl, q⟩ := h
  show t_checked_weights K Z _ [some (.ref a), none, none, none, none, none] H
  unfold t_checked_weights
  walk_at "go"
  refine w_lstN (by show 0 ≤ 100000; decide) fun N H1 nN c1 => ?_
  have s1 := c1.same nN
  walk_at "go"
  refine w_for (w_ilist ?_)
  walk_at "go"
  refine w_ilistK (SqL.of (s1 _ _ ha)) ?_
  refine for_go (src_list (xs := us)) (fun i σ H' => ∃ o2 o3, σ = [some (.ref a), some (.ref N), o2, o3, none, none] ∧ Same H H' ∧ H' N = some (.lst (((fk.map Prod.fst).take i).map V.str))) ⟨_, _, rfl, s1, c1.at_⟩ (fun i σ H' _ h => ?_) ?_ ?_
  · obtain ⟨_, _, _, s, _⟩ := h
    exact SqL.of (s _ _ ha)
  · rintro i σ H2 x H3 hi ⟨o2, o3, rfl, s2, hN⟩ ⟨rfl, ex⟩
    obtain ⟨p, ep, fp⟩ := al.get ex
    have pm := List.mem_of_getElem? ep
    refine w_gT2 ((gT gS gI).same s2 fp) fun u z f1 f2 => ?_
    cases f1; cases f2
    refine w_gCons (w_name (by simp only [List.set_cons_zero, List.set_cons_succ]; exact rfl) ?_)
    refine w_gCons (w_name (by simp only [List.set_cons_zero, List.set_cons_succ]; exact rfl) ?_)
    refine w_gNil ?_
    walk_at "go"
    refine ⟨p.1, rfl, fo.ok p pm, fun H4 s4 => ?_⟩
    walk_at "go"
    refine w_iteF ?_
    walk_at "go"
    have n1 : p.1 ∉ (fk.map Prod.fst).take i := fun m => by
      obtain ⟨j, hj⟩ := List.mem_iff_getElem?.mp m
      rw [List.getElem?_take] at hj
      split at hj
      · have := fo.dist j i p.1 hj (by rw [List.getElem?_map, ep]; rfl)
        omega
      · cases hj
    refine w_inL (SqL.of (s4 _ _ hN)) rfl (flat_strs _) ?_
    rw [notin_strs n1]
    walk_at "go"
    refine w_iteF ?_
    walk_at "go"
    have nn := fo.nn p.2 (List.mem_map_of_mem pm)
    rw [decide_eq_false (by omega)]
    refine w_iteF ?_
    walk_at "go"
    refine w_bm ?_
    walk_at "go"
    refine w_bmL (s4 _ _ hN) ?_
    walk_at "go"
    have lu := al.length
    refine w_append (s4 _ _ hN) (by rw [List.length_map, List.length_take, List.length_map]; omega) fun H5 c5 => ?_
    walk_at "go"
    refine ⟨_, _, rfl, sch (s2.trans s4) nN c5, ?_⟩
    rw [c5.at_, ← take_snoc (x := p.1) (by rw [List.getElem?_map, ep]; rfl), List.map_append]; rfl
  · rintro σ H2 ⟨o2, o3, rfl, s2, hN⟩
    walk_at "go"
    refine w_lc (w_ilist ?_)
    walk_at "go"
    refine w_ilistK (SqL.of (s2 _ _ ha)) ?_
    refine lc_same gI (src_list (xs := us)) (fun i as => as = (fk.map Prod.snd).take i) (by rw [al.length]; omega) rfl (fun H' s => SqL.of (s _ _ (s2 _ _ ha))) ?_ ?_
    · rintro i as H3 x H4 N N' hi rfl s3 ⟨rfl, hx⟩ hN hN'
      obtain ⟨p, hp, fp⟩ := al.get hx
      refine w_gT2 ((gT gS gI).same (s2.trans s3) fp) fun u z f1 f2 => ?_
      cases f1; cases f2
      refine w_gCons (w_name (by simp only [wipe, List.set_cons_zero, List.set_cons_succ]; exact rfl) ?_)
      refine w_gCons (w_name (by simp only [wipe, List.set_cons_zero, List.set_cons_succ]; exact rfl) ?_)
      refine w_gNil ?_
      refine ⟨rfl, ?_⟩
      refine w_yes (w_iteT ?_)
      walk_at "go"
      exact hN _ p.2 _ (Same.refl _) rfl (take_snoc (by rw [List.getElem?_map, hp]; rfl))
    · rintro D as H3 hD s3 rfl f
      obtain ⟨D', e, nD, hD1⟩ := ints_of f
      cases e
      have el : us.length = (fk.map Prod.snd).length := by rw [al.length, List.length_map]
      rw [el, take_all] at hD1
      walk_at "go"
      refine w_sum (SqL.of hD1) ?_
      walk_at "go"
      have pos := fo.pos
      change 0 < (fk.map Prod.snd).sum at pos
      rw [decide_eq_false (by omega)]
      refine w_iteF ?_
      walk_at "go"
      exact q D H3 (s2.trans s3) (dom_same s2 D nD) hD1
theorem w_anyI {K : PySem.W.Frag} {a : Addr} {ns : List Int} {H : Hp} {Q : VK} (h : SqL K H a (ns.map V.int)) (q : Q (.bl (ns.any fun n => n != 0)) H) : rAnyI K [.ref a] H Q := ⟨a, ns, rfl, h, q⟩
def sp_columns_of (K : PySem.W.Frag) (Z : Ad) : Sp := fun vs H Q _ => ∃ (v : V) (rss : List (List Int)) (m : Nat) (S : Addr → Prop), vs = [v] ∧ fL (fL fI) S H v rss ∧ 1 ≤ rss.length ∧ rss.length ≤ 16 ∧ (∀ r ∈ rss, r.length = m) ∧ m ≤ 100000 ∧ ∀ u H', Same H H' → fV (fV fI) (New H) H' u (colsI m rss) → Q u H'
abbrev N_columns_of : List Str := ["rows"]
def t_columns_of (K : PySem.W.Frag) (Z : Ad) : TS :=
  (tRet (Ow.tTupZip K (tVar 0)))
theorem l_columns_of {K : PySem.W.Frag} {Z : Ad} {vs : List V} {H : Hp} {Q : VK} {E : XK} : sp_columns_of K Z vs H Q E → vs.length = 1 := by
  rintro ⟨_, _, _, _, rfl, _⟩; rfl
theorem r_columns_of {K : PySem.W.Frag} {Z : Ad} {vs : List V} {H : Hp} {Q : VK} {E : XK} (R : RuleK K Z) (h : sp_columns_of K Z vs H Q E) : t_columns_of K Z { nx := fun _ H' => Q .non H', rt := Q } (start N_columns_of vs) H := by
  obtain ⟨v, rss, m, S, rfl, f, h1, h16, hm, hm5, q⟩ := h
  show t_columns_of K Z _ [some v] H
  unfold t_columns_of
  walk_at "go"
  refine w_tupZip ?_
  walk_at "go"
  exact w_tupZipI f h1 h16 hm hm5 q
def sp_rows_of (K : PySem.W.Frag) (Z : Ad) : Sp := fun vs H Q _ => ∃ (v : V) (css : List (List Int)) (m : Nat) (S : Addr → Prop), vs = [v] ∧ fV (fV fI) S H v css ∧ 1 ≤ css.length ∧ css.length ≤ 16 ∧ (∀ c ∈ css, c.length = m) ∧ m ≤ 100000 ∧ ∀ u H', Same H H' → fL (fL fI) (New H) H' u (colsI m css) → Q u H'
abbrev N_rows_of : List Str := ["columns", "row"]
def t_rows_of (K : PySem.W.Frag) (Z : Ad) : TS :=
  (tRet (tLc (Ow.iStar K (tVar 0)) (gName 1) tYes (tCB (rList1 K) (tCons (tVar 1) tNil)) [1]))
theorem l_rows_of {K : PySem.W.Frag} {Z : Ad} {vs : List V} {H : Hp} {Q : VK} {E : XK} : sp_rows_of K Z vs H Q E → vs.length = 1 := by
  rintro ⟨_, _, _, _, rfl, _⟩; rfl
theorem r_rows_of {K : PySem.W.Frag} {Z : Ad} {vs : List V} {H : Hp} {Q : VK} {E : XK} (R : RuleK K Z) (h : sp_rows_of K Z vs H Q E) : t_rows_of K Z { nx := fun _ H' => Q .non H', rt := Q } (start N_rows_of vs) H := by
  obtain ⟨v, css, m, S, rfl, f, h1, h16, hm, hm5, q⟩ := h
  show t_rows_of K Z _ [some v, none] H
  unfold t_rows_of
  walk_at "go"
  refine w_lc (w_star ?_)
  walk_at "go"
  refine w_starI f h1 h16 fun ks hs => ?_
  refine lc_same (gL gI) (src_star (m := m) (xss := css.map fun c => c.map V.int) fun x mx => ?_) (fun i as => as = (colsI m css).take i) hm5 rfl (fun H' s => hs H' s) ?_ ?_
  · obtain ⟨c, mc, rfl⟩ := List.mem_map.mp mx
    rw [List.length_map]; exact hm c mc
  · rintro i as H1 x H2 N N' hi rfl s1 ⟨T, rfl, nT, rfl⟩ hN hN'
    rw [colAt_int hi hm]
    refine w_name (by simp only [wipe, List.set_cons_zero, List.set_cons_succ]; exact rfl) ?_
    refine ⟨rfl, w_yes (w_iteT ?_)⟩
    walk_at "go"
    refine ⟨T, _, rfl, .inr (SqT.of upd_same), fun l nl => ?_⟩
    have nl1 : H1 l = none := by
      by_cases e : l = T
      · subst e; exact nT
      · rwa [upd_ne e] at nl
    refine hN _ (css.map fun c => c.getD i 0) _ (sput (snew nT) nl1) (listI_mk nl1 upd_same) ?_
    exact take_snoc (colsI_at hi)
  · rintro D as H1 nD s1 rfl fD
    rw [show (colsI m css).take m = colsI m css from List.take_of_length_le (by rw [colsI_len]; exact Nat.le_refl _)] at fD
    exact q _ H1 s1 fD
def sp_wrong_rest (K : PySem.W.Frag) (Z : Ad) : Sp := fun vs H Q _ => ∃ (v : V) (r : Row) (S : Addr → Prop) (n m : Nat) (h b : Int), vs = [v, .int h, .int n, .int m] ∧ fRow S H v r ∧ RowOk n h b m r ∧ r.length ≤ 100000 ∧ ∀ H', Same H H' → Q .non H'
abbrev N_wrong_rest : List Str := ["row", "whole", "many", "most", "rest", "extras", "after"]
def t_wrong_rest (K : PySem.W.Frag) (Z : Ad) : TS :=
  (tSeq (tFor (iEnum K (tCons (tVar 0) tNil)) (gTup K 2 (gCons (gName 4) (gCons (gTup K 2 (gCons (gName 5) (gCons (gName 6) gNil))) gNil))) (tIfS (tOr (tTest (tOp rEq (tVar 4) (tVar 1))) (tOr (tTest (tOp rNe (tCB (rLen K) (tCons (tVar 5) tNil)) (tVar 2))) (tOr (tTest (tOp rNe (tCB (rSum K) (tCons (tVar 5) tNil)) (tVar 4))) (tNot (tTest (tChain oLe oLt (tC (.int 0)) (tVar 6) (tVar 3))))))) (tRet (tVar 4)) tNext)) (tSeq (tIfS (tTest (tOp oLt (tCB (rLen K) (tCons (tVar 0) tNil)) (tVar 1))) (tRet (tCB (rLen K) (tCons (tVar 0) tNil))) tNext) (tRet (tC .non))))
theorem l_wrong_rest {K : PySem.W.Frag} {Z : Ad} {vs : List V} {H : Hp} {Q : VK} {E : XK} : sp_wrong_rest K Z vs H Q E → vs.length = 4 := by
  rintro ⟨_, _, _, _, _, _, _, rfl, _⟩; rfl
theorem r_wrong_rest {K : PySem.W.Frag} {Z : Ad} {vs : List V} {H : Hp} {Q : VK} {E : XK} (R : RuleK K Z) (h : sp_wrong_rest K Z vs H Q E) : t_wrong_rest K Z { nx := fun _ H' => Q .non H', rt := Q } (start N_wrong_rest vs) H := by
  obtain ⟨v, r, S, n, m, h, b, rfl, ⟨a, us, rfl, _, ha, al⟩, ok, hl, q⟩ := h
  show t_wrong_rest K Z _ [some (.ref a), some (.int h), some (.int n), some (.int m), none, none, none] H
  unfold t_wrong_rest
  have rl := ok.len
  walk_at "go"
  refine w_for (w_enum ?_)
  walk_at "go"
  refine w_enumK (SqL.of ha) ?_
  refine for_go (src_enum (xs := us)) (fun i σ H' => ∃ o4 o5 o6, σ = [some (.ref a), some (.int h), some (.int n), some (.int m), o4, o5, o6] ∧ Same H H') ⟨_, _, _, rfl, Same.refl _⟩ (fun i σ H' _ h => ?_) ?_ ?_
  · obtain ⟨_, _, _, _, s⟩ := h
    exact SqL.of (s _ _ ha)
  · rintro i σ H2 x H3 hi ⟨o4, o5, o6, rfl, s2⟩ ⟨T, z, rfl, nT, rfl, ez⟩
    obtain ⟨p, ep, fp⟩ := al.get ez
    have dk := ok.deal i p ep
    have hi' : i < r.length := (List.getElem?_eq_some_iff.mp ep).1
    have s3 : Same H2 (upd H2 T (.tup [.int (i : Nat), z])) := snew nT
    have hT : upd H2 T (.tup [.int (i : Nat), z]) T = some (.tup [.int (i : Nat), z]) := upd_same
    generalize upd H2 T (.tup [.int (i : Nat), z]) = H3 at s3 hT
    have S3 := s2.trans s3
    refine w_gTup (SqT.of hT) rfl ?_
    refine w_gCons (w_name (by simp only [List.set_cons_zero, List.set_cons_succ]; exact rfl) ?_)
    refine w_gCons (w_gT2 (gDeal.same S3 fp) fun u1 u2 f1 f2 => ?_)
    obtain ⟨ea, rfl, _, hea⟩ := ints_of f1
    cases f2
    refine w_gCons (w_name (by simp only [List.set_cons_zero, List.set_cons_succ]; exact rfl) ?_)
    refine w_gCons (w_name (by simp only [List.set_cons_zero, List.set_cons_succ]; exact rfl) ?_)
    refine w_gNil (w_gNil ?_)
    have dl := dk.len
    have ds := dk.sum
    have d0 := dk.lo
    have d1 := dk.hi
    walk_at "go"
    refine w_ite (fun e => by omega) fun _ => ?_
    walk_at "go"
    refine w_lenI hea ?_
    walk_at "go"
    refine w_iteN (fun e => by omega) fun _ => ?_
    walk_at "go"
    refine w_sum (SqL.of hea) ?_
    walk_at "go"
    refine w_iteN (fun e => by omega) fun _ => ?_
    walk_at "go"
    refine w_chain ?_
    walk_at "go"
    refine w_chainT (decide_eq_true (by omega)) ?_
    walk_at "go"
    refine w_iteN (fun e => by omega) fun _ => ?_
    walk_at "go"
    exact ⟨_, _, _, rfl, S3⟩
  · rintro σ H2 ⟨o4, o5, o6, rfl, s2⟩
    walk_at "go"
    refine w_len (SqL.of (s2 _ _ ha)) ?_
    have lu := al.length
    walk_at "go"
    refine w_ite (fun e => by omega) fun _ => ?_
    walk_at "go"
    exact q H2 s2
end Ow

set_option Elab.async false
set_option linter.all false
set_option maxRecDepth 100000
namespace Ow
open PySem L2
local macro_rules | `(tactic| walk_at "go") => `(tactic| (repeat (with_reducible first
  | refine w_seq ?_ | refine w_asg ?_ | refine w_ret ?_ | refine w_if ?_ | refine w_next ?_ | refine w_drop ?_
  | refine w_var (by with_unfolding_all rfl) ?_ | refine w_c ?_ | refine w_op ?_ | refine w_cons ?_ | refine w_nil ?_ | refine w_cb ?_ | refine w_call ?_
  | refine w_name (by simp only [List.set_cons_zero, List.set_cons_succ]; exact rfl) ?_
  | refine w_add ?_ | refine w_sub ?_ | refine w_lt ?_ | refine w_le ?_ | refine w_gt ?_ | refine w_ge ?_ | refine w_eqI ?_ | refine w_neI ?_
  | refine w_test ?_ | refine w_testK ?_ | refine w_tB ?_ | refine w_intI ?_ | refine w_intB ?_ | refine w_max2 ?_ | refine w_min2 ?_
  | refine w_lst ?_ | refine w_tup ?_ | refine w_gSub ?_ | refine w_fld ?_ | refine w_un ?_ | refine w_neg ?_ | refine w_par ?_ | refine w_tIf ?_ | refine w_and ?_ | refine w_or ?_ | refine w_not ?_
  | refine w_mod (by omega) ?_ | refine w_div (cdiv (by omega) (by omega)) ?_ | refine w_mul (cmulL (by omega) (by omega)) ?_ | refine w_mul (cmulR (by omega) (by omega)) ?_ | refine w_pow (cpow (by omega) (by omega) (by omega) (by omega)) ?_
  | refine w_ixL (SqL.of (by assumption)) (by with_unfolding_all rfl) ?_)))
def rIsN : R2 := fun x y H Q => y = .non ∧ Q (.bl (decide (x = .non))) H
def rIsNotN : R2 := fun x y H Q => y = .non ∧ Q (.bl (!decide (x = .non))) H
theorem w_notN0 {H : Hp} {Q : VK} {x : V} (e : x = .non) (q : Q (.bl false) H) : Ow.rIsNotN x .non H Q := ⟨rfl, by rw [decide_eq_true e]; exact q⟩
def sp_check_states (K : PySem.W.Frag) (Z : Ad) : Sp := fun vs H Q _ => ∃ (v : V) (ts : Tabs) (S : Addr → Prop) (h b : Int) (n : Nat), vs = [v, .int h, .int n] ∧ fTabs S H v ts ∧ TabsOk n h b ts ∧ ts.length ≤ 100000 ∧ 1 ≤ h ∧ h ≤ 100000 ∧ ∀ H', Same H H' → Q .non H'
abbrev N_check_states : List Str := ["states", "whole", "many", "state", "row", "rest"]
def t_check_states (K : PySem.W.Frag) (Z : Ad) : TS :=
  (tSeq (tIfS (tTest (tOp rEq (tCB (rLen K) (tCons (tVar 0) tNil)) (tC (.int 0)))) tNever tNext) (tSeq (tIfS (tAnd (tTest (tOp oGt (tCB (rLen K) (tCons (tOp (rIxL K) (tVar 0) (tC (.int 0))) tNil)) (tC (.int 0)))) (tB (tCB (rAnyI K) (tCons (tOp (rIxT K) (tOp (rIxL K) (tOp (rIxL K) (tVar 0) (tC (.int 0))) (tC (.int 0))) (tC (.int 0))) tNil)))) tNever tNext) (tFor (iEnum K (tCons (tVar 0) tNil)) (gTup K 2 (gCons (gName 3) (gCons (gName 4) gNil))) (tSeq (tAsg (tCall (sp_wrong_rest K Z) [] E0 (tCons (tVar 4) (tCons (tVar 1) (tCons (tVar 2) (tCons (tCB (rLen K) (tCons (tVar 0) tNil)) tNil))))) (gName 5)) (tIfS (tTest (tOp Ow.rIsNotN (tVar 5) (tC .non))) tNever tNext)))))
theorem l_check_states {K : PySem.W.Frag} {Z : Ad} {vs : List V} {H : Hp} {Q : VK} {E : XK} : sp_check_states K Z vs H Q E → vs.length = 3 := by
  rintro ⟨_, _, _, _, _, _, rfl, _⟩; rfl
theorem r_check_states {K : PySem.W.Frag} {Z : Ad} {vs : List V} {H : Hp} {Q : VK} {E : XK} (R : RuleK K Z) (h : sp_check_states K Z vs H Q E) : t_check_states K Z { nx := fun _ H' => Q .non H', rt := Q } (start N_check_states vs) H := by
  obtain ⟨v, ts, S, h, b, n, rfl, ft, tok, tl, h0, h1, q⟩ := h
  show t_check_states K Z _ [some v, some (.int h), some (.int n), none, none, none] H
  unfold t_check_states
  have l0 := tok.len
  have loop : (tFor (iEnum K (tCons (tVar 0) tNil)) (gTup K 2 (gCons (gName 3) (gCons (gName 4) gNil))) (tSeq (tAsg (tCall (sp_wrong_rest K Z) [] E0 (tCons (tVar 4) (tCons (tVar 1) (tCons (tVar 2) (tCons (tCB (rLen K) (tCons (tVar 0) tNil)) tNil))))) (gName 5)) (tIfS (tTest (tOp Ow.rIsNotN (tVar 5) (tC .non))) tNever tNext))) ⟨fun _ H' => Q .non H', Q, fun _ _ => False, fun _ _ => False⟩ [some v, some (.int h), some (.int n), none, none, none] H := by
    obtain ⟨a, us, rfl, _, ha, al⟩ := id ft
    refine w_for (w_enum ?_)
    walk_at "go"
    refine w_enumK (SqL.of ha) ?_
    refine for_go (src_enum (xs := us)) (fun i σ H' => ∃ o3 o4 o5, σ = [some (.ref a), some (.int h), some (.int n), o3, o4, o5] ∧ Same H H') ⟨_, _, _, rfl, Same.refl _⟩ (fun i σ H' _ h => ?_) ?_ ?_
    · obtain ⟨_, _, _, _, s⟩ := h
      exact SqL.of (s _ _ ha)
    · rintro i σ H2 x H3 hi ⟨o3, o4, o5, rfl, s2⟩ ⟨T, z, rfl, nT, rfl, ez⟩
      obtain ⟨r, er, fr⟩ := al.get ez
      have rk := tok.row i r er
      have rl := rk.len
      have s3 : Same H2 (upd H2 T (.tup [.int (i : Nat), z])) := snew nT
      have hT : upd H2 T (.tup [.int (i : Nat), z]) T = some (.tup [.int (i : Nat), z]) := upd_same
      generalize upd H2 T (.tup [.int (i : Nat), z]) = H3 at s3 hT
      have S3 := s2.trans s3
      refine w_gTup (SqT.of hT) rfl ?_
      refine w_gCons (w_name (by simp only [List.set_cons_zero, List.set_cons_succ]; exact rfl) ?_)
      refine w_gCons (w_name (by simp only [List.set_cons_zero, List.set_cons_succ]; exact rfl) ?_)
      refine w_gNil ?_
      walk_at "go"
      refine w_lenF (gTabs.same S3 ft) ?_
      walk_at "go"
      refine ⟨z, r, S, n, ts.length, h, b, rfl, gRow.same S3 fr, rk, by omega, fun H4 s4 => ?_⟩
      walk_at "go"
      refine w_notN0 rfl ?_
      walk_at "go"
      refine w_iteF ?_
      walk_at "go"
      exact ⟨_, _, _, rfl, S3.trans s4⟩
    · rintro σ H2 ⟨o3, o4, o5, rfl, s2⟩
      exact q H2 s2
  walk_at "go"
  refine w_lenF ft ?_
  walk_at "go"
  refine w_ite (fun e => by omega) fun _ => ?_
  walk_at "go"
  refine w_ixF ft (by omega) (by omega) fun rv row erow frow => ?_
  have rok := tok.row _ _ erow
  have rlen := rok.len
  walk_at "go"
  refine w_lenF frow ?_
  walk_at "go"
  refine w_ite (fun _ => ?_) fun e => by omega
  walk_at "go"
  refine w_ixF ft (by omega) (by omega) fun rv2 row2 erow2 frow2 => ?_
  rw [erow] at erow2
  cases erow2
  walk_at "go"
  refine w_ixF frow2 (by omega) (by omega) fun dv d ed fd => ?_
  obtain ⟨da, u, z, rfl, _, hda, f1, f2⟩ := fd
  obtain ⟨c, rfl, _, hc⟩ := ints_of f1
  walk_at "go"
  refine ⟨da, [.ref c, z], 0, .ref c, rfl, rfl, SqT.of hda, by with_unfolding_all rfl, ?_⟩
  walk_at "go"
  refine w_anyI (SqL.of hc) ?_
  have zz := tok.zero row d erow ed
  have ez : (d.1.any fun n => n != 0) = false := by
    rw [List.any_eq_false]
    intro x hx
    rw [zz x hx]; decide
  rw [ez]
  walk_at "go"
  refine w_iteF ?_
  refine w_next ?_
  exact loop
end Ow

set_option Elab.async false
set_option linter.all false
set_option maxRecDepth 100000
namespace Ow
open PySem L2
local macro_rules | `(tactic| walk_at "go") => `(tactic| (repeat (with_reducible first
  | refine w_seq ?_ | refine w_asg ?_ | refine w_ret ?_ | refine w_if ?_ | refine w_next ?_ | refine w_drop ?_
  | refine w_var (by with_unfolding_all rfl) ?_ | refine w_c ?_ | refine w_op ?_ | refine w_cons ?_ | refine w_nil ?_ | refine w_cb ?_ | refine w_call ?_
  | refine w_name (by simp only [List.set_cons_zero, List.set_cons_succ]; exact rfl) ?_
  | refine w_add ?_ | refine w_sub ?_ | refine w_lt ?_ | refine w_le ?_ | refine w_gt ?_ | refine w_ge ?_ | refine w_eqI ?_ | refine w_neI ?_
  | refine w_test ?_ | refine w_testK ?_ | refine w_tB ?_ | refine w_intI ?_ | refine w_intB ?_ | refine w_max2 ?_ | refine w_min2 ?_
  | refine w_lst ?_ | refine w_tup ?_ | refine w_gSub ?_ | refine w_fld ?_ | refine w_un ?_ | refine w_neg ?_ | refine w_par ?_ | refine w_tIf ?_ | refine w_and ?_ | refine w_or ?_ | refine w_not ?_
  | refine w_mod (by omega) ?_ | refine w_div (cdiv (by omega) (by omega)) ?_ | refine w_mul (cmulL (by omega) (by omega)) ?_ | refine w_mul (cmulR (by omega) (by omega)) ?_ | refine w_pow (cpow (by omega) (by omega) (by omega) (by omega)) ?_
  | refine w_ixL (SqL.of (by assumption)) (by with_unfolding_all rfl) ?_)))
/-! ### a rule: its people, the extra cents by columns, the next states, the whole weight -/
def centsOf (n : Nat) (ts : Tabs) : List (List (List Int)) := ts.map fun r => colsI n (r.map Prod.fst)
def nextsOf (ts : Tabs) : List (List Int) := ts.map fun r => r.map Prod.snd
abbrev fPeople : Fam Folk := fV (fT fS fI)
abbrev fCents : Fam (List (List (List Int))) := fV (fV (fV fI))
abbrev fNexts : Fam (List (List Int)) := fV (fV fI)
theorem gPeople : Good fPeople := gV (gT gS gI)
theorem gCents : Good fCents := gV (gV (gV gI))
theorem gNexts : Good fNexts := gV (gV gI)
def fRule (Z : Ad) : Fam (Folk × Tabs) := fun S H v x => ∃ r dx pv cv nv, v = .ref r ∧ S r ∧ H r = some (.ins Z.c_Rule dx [("_people", pv), ("_cents", cv), ("_nexts", nv), ("_weight", .int (heavy x.1))]) ∧ fPeople S H pv x.1 ∧ fCents S H cv (centsOf x.1.length x.2) ∧ fNexts S H nv (nextsOf x.2)
theorem gRule {Z : Ad} : Good (fRule Z) :=
  ⟨fun m ⟨r, dx, pv, cv, nv, e, s, h, p, t, u⟩ => ⟨r, dx, pv, cv, nv, e, m r s, h, gPeople.mono m p, gCents.mono m t, gNexts.mono m u⟩,
   fun k ⟨r, dx, pv, cv, nv, e, s, h, p, t, u⟩ => ⟨r, dx, pv, cv, nv, e, s, k r _ s h, gPeople.keep k p, gCents.keep k t, gNexts.keep k u⟩,
   fun ⟨r, dx, pv, cv, nv, e, s, h, p, t, u⟩ => ⟨r, dx, pv, cv, nv, e, ⟨s, by rw [h]; exact fun z => nomatch z⟩, h, gPeople.there p, gCents.there t, gNexts.there u⟩⟩
section
variable {K : PySem.W.Frag} {ta tv : TE} {f : Str} {nx : St → Hp → Prop} {rt : VK} {bk ct : St → Hp → Prop} {σ : St} {H : Hp} {Q : VK} {E : XK} {y : V} {a C dx : Addr} {fs fs' : List (Str × V)} {t : TA} {sp : Sp} {vs : List V}
def sfldK (K : PySem.W.Frag) (f : Str) (σ : St) (nx : St → Hp → Prop) (y x : V) (H2 : Hp) : Prop := ∃ a C dx fs, x = .ref a ∧ H2 a = some (.ins C dx fs) ∧ Cls K C ∧ NoAttr K C f ∧ fs.length < 1000 ∧ nx σ (upd H2 a (.ins C dx (putF f y fs)))
theorem w_sfld (h : tv σ H fun y H1 => ta σ H1 fun x H2 => sfldK K f σ nx y x H2) : sFld K ta tv f ⟨nx, rt, bk, ct⟩ σ H := h
theorem w_sfldK (h : H a = some (.ins C dx fs)) (c : Cls K C) (n : NoAttr K C f) (hl : fs.length < 1000) (e : putF f y fs = fs') (q : ∀ H', Ch a (.ins C dx fs') H H' → nx σ H') : sfldK K f σ nx y (.ref a) H :=
  ⟨a, C, dx, fs, rfl, h, c, n, hl, by rw [e]; exact q _ Ch.upd⟩
def mkK (C : Addr) (sp : Sp) (E : XK) (Q : VK) (vs : List V) (H1 : Hp) : Prop := ∀ x dx, H1 x = none → H1 dx = none → dx ≠ x → sp (.ref x :: (vs ++ [])) (upd (upd H1 dx (.own x)) x (.ins C dx [])) (fun v H2 => v = .non ∧ Q (.ref x) H2) E
theorem w_make (h : t σ H fun vs H1 => mkK C sp E Q vs H1) : tMake C sp [] E t σ H Q := h
theorem w_mkK (q : ∀ x dx H', H x = none → Same H H' → H' x = some (.ins C dx []) → sp (.ref x :: vs) H' (fun v H2 => v = .non ∧ Q (.ref x) H2) E) : mkK C sp E Q vs H := fun x dx h1 h2 n => by
  rw [List.append_nil]
  refine q x dx _ h1 (fun b o e => ?_) upd_same
  rw [upd_ne (ne_of_none e h1), upd_ne (ne_of_none e h2)]; exact e
def methK (C : Addr) (m : Str) (sp : Sp) (E : XK) (t : TA) (σ : St) (Q : VK) (x : V) (H1 : Hp) : Prop := ∃ a dx fs, x = .ref a ∧ H1 a = some (.ins C dx fs) ∧ fs.lookup m = none ∧ t σ H1 fun vs H2 => sp (x :: (vs ++ [])) H2 Q E
theorem w_meth {m : Str} (h : ta σ H fun x H1 => methK C m sp E t σ Q x H1) : tMeth C m sp [] E ta t σ H Q := h
theorem w_methK {m : Str} (h : H a = some (.ins C dx fs)) (l : fs.lookup m = none) (q : t σ H fun vs H2 => sp (.ref a :: vs) H2 Q E) : methK C m sp E t σ Q (.ref a) H := by
  refine ⟨a, dx, fs, rfl, h, l, ?_⟩
  have e : (fun (vs : List V) H2 => sp (.ref a :: (vs ++ [])) H2 Q E) = fun vs H2 => sp (.ref a :: vs) H2 Q E := by
    funext vs H2; rw [List.append_nil]
  rw [e]; exact q
def augK (tget : V → V → Hp → VK → Prop) (te : TE) (tip : TIp) (tset : TSet) (σ : St) (nx : St → Hp → Prop) (o i : V) (H2 : Hp) : Prop := tget o i H2 fun x H3 => te σ H3 fun y H4 => tip x y H4 fun z H5 => tset o i z H5 fun H6 => nx σ H6
theorem w_augS {to ti te : TE} {tget : V → V → Hp → VK → Prop} {tip : TIp} {tset : TSet} (h : to σ H fun o H1 => ti σ H1 fun i H2 => augK tget te tip tset σ nx o i H2) : tAugS to ti te tget tip tset ⟨nx, rt, bk, ct⟩ σ H := h
def aug2K (tip : TIp) (tset : TSet) (σ : St) (nx : St → Hp → Prop) (o i x y : V) (H4 : Hp) : Prop := tip x y H4 fun z H5 => tset o i z H5 fun H6 => nx σ H6
theorem w_augI {te : TE} {ns : List Int} {i : Int} {g : Int → Int → Int} (h : H a = some (.lst (ns.map V.int))) (h0 : 0 ≤ i) (h1 : i < ns.length) (q : ∀ x, ns[i.toNat]? = some x → te σ H fun y H4 => aug2K (ipI g) rSetL σ nx (.ref a) (.int i) (.int x) y H4) :
    augK (rGetL K) te (ipI g) rSetL σ nx (.ref a) (.int i) H := by
  obtain ⟨x, e⟩ := at_some h0 h1
  exact ⟨a, _, i, .int x, rfl, rfl, h0, SqL.of h, by rw [List.getElem?_map, e]; rfl, q x e⟩
theorem w_aug2 {ns : List Int} {i x y : Int} {g : Int → Int → Int} (h : H a = some (.lst (ns.map V.int))) (h0 : 0 ≤ i) (h1 : i < ns.length) (q : ∀ H', Ch a (.lst ((ns.set i.toNat (g x y)).map V.int)) H H' → nx σ H') : aug2K (ipI g) rSetL σ nx (.ref a) (.int i) (.int x) (.int y) H :=
  ⟨x, y, rfl, rfl, a, _, i, i.toNat, rfl, rfl, h, ixN_of h0 (by rw [List.length_map]; exact h1), by rw [map_set_int]; exact q _ Ch.upd⟩
end
structure PlanOk (fk : Folk) (ts : Tabs) : Prop where
  folk : FolkOk fk
  tabs : TabsOk fk.length (heavy fk) 30000000 ts
  len : fk.length ≤ 16
  hv : heavy fk ≤ 16
  tl : ts.length ≤ 1000
theorem PlanOk.small {fk : Folk} {ts : Tabs} (o : PlanOk fk ts) : Small ts := by
  refine ⟨by have := o.tl; omega, fun r m => ?_⟩
  obtain ⟨i, hi⟩ := List.mem_iff_getElem?.mp m
  have := (o.tabs.row i r hi).len
  have := o.hv
  omega
/-- a value, as it is -/
def fR : Fam V := fun _ _ v x => v = x
theorem gR : Good fR := ⟨fun _ h => h, fun _ h => h, fun h => h⟩
theorem raw_of {S : Addr → Prop} {H : Hp} {v : V} {xs : List V} (h : fL fR S H v xs) : ∃ a, v = .ref a ∧ S a ∧ H a = some (.lst xs) := by
  obtain ⟨a, vs, e, s, h, r⟩ := h
  have key : ∀ {vs xs : List V}, All2 (fR S H) vs xs → vs = xs := by
    intro vs xs al
    induction al with
    | nil => rfl
    | cons a _ ih => rw [show _ = _ from a, ih]
  exact ⟨a, e, s, by rw [h, key r]⟩
/-- the parts of a row's tuples -/
theorem deals_split {S : Addr → Prop} {H : Hp} : ∀ {us : List V} {r : Row}, All2 (fDeal S H) us r → ∃ es : List V, All2 (fLine S H) es (r.map Prod.fst) ∧ es.length = us.length ∧
    ∀ (j : Nat) u, us[j]? = some u → ∃ a e p, u = .ref a ∧ es[j]? = some e ∧ r[j]? = some p ∧ H a = some (.tup [e, .int p.2])
  | _, _, .nil => ⟨[], .nil, rfl, fun j u h => by simp at h⟩
  | u :: us, p :: r, .cons f fs => by
    obtain ⟨es, al, l, at_⟩ := deals_split fs
    obtain ⟨a, e, z, rfl, _, ha, f1, f2⟩ := f
    cases f2
    refine ⟨e :: es, .cons f1 al, by rw [List.length_cons, List.length_cons, l], fun j u h => ?_⟩
    cases j with
    | zero =>
      have : V.ref a = u := by simpa using h
      subst this
      exact ⟨a, e, p, rfl, rfl, rfl, ha⟩
    | succ j => exact at_ j u (by simpa using h)
def sp_Rule___init__ (K : PySem.W.Frag) (Z : Ad) : Sp := fun vs H Q _ => ∃ (x dx : Addr) (pv tv : V) (fk : Folk) (ts : Tabs) (S : Addr → Prop), vs = [.ref x, pv, tv] ∧ H x = some (.ins Z.c_Rule dx []) ∧ fFolk S H pv fk ∧ fTabs S H tv ts ∧ PlanOk fk ts ∧ (∀ a, S a → a ≠ x) ∧
  ∀ H', Kw x H H' → fRule Z (fun a => H a = none ∨ a = x) H' (.ref x) (fk, ts) → Q .non H'
abbrev N_Rule___init__ : List Str := ["self", "people", "states", "weights", "name", "weight", "row", "extras", "_", "after"]
def t_Rule___init__ (K : PySem.W.Frag) (Z : Ad) : TS :=
  (tSeq (tAsg (tCall (sp_checked_weights K Z) [] E0 (tCons (tVar 1) tNil)) (gName 3)) (tSeq (tDrop (tCall (sp_check_states K Z) [] E0 (tCons (tVar 2) (tCons (tCB (rSum K) (tCons (tVar 3) tNil)) (tCons (tCB (rLen K) (tCons (tVar 3) tNil)) tNil))))) (tSeq (sFld K (tVar 0) (tCB (Ow.rTuple1 K) (tCons (tLc (iList K (tVar 1)) (gTup K 2 (gCons (gName 4) (gCons (gName 5) gNil))) tYes (tTup (tCons (tVar 4) (tCons (tVar 5) tNil))) [4, 5]) tNil)) "_people") (tSeq (sFld K (tVar 0) (tCB (Ow.rTuple1 K) (tCons (tLc (iList K (tVar 2)) (gName 6) tYes (tCall (sp_columns_of K Z) [] E0 (tCons (tLc (iList K (tVar 6)) (gTup K 2 (gCons (gName 7) (gCons (gName 8) gNil))) tYes (tVar 7) [7, 8]) tNil)) [6]) tNil)) "_cents") (tSeq (sFld K (tVar 0) (tCB (Ow.rTuple1 K) (tCons (tLc (iList K (tVar 2)) (gName 6) tYes (tCB (Ow.rTuple1 K) (tCons (tLc (iList K (tVar 6)) (gTup K 2 (gCons (gName 8) (gCons (gName 9) gNil))) tYes (tVar 9) [8, 9]) tNil)) [6]) tNil)) "_nexts") (sFld K (tVar 0) (tCB (rSum K) (tCons (tVar 3) tNil)) "_weight"))))))
theorem l_Rule___init__ {K : PySem.W.Frag} {Z : Ad} {vs : List V} {H : Hp} {Q : VK} {E : XK} : sp_Rule___init__ K Z vs H Q E → vs.length = 3 := by
  rintro ⟨_, _, _, _, _, _, _, rfl, _⟩; rfl
theorem r_Rule___init__ {K : PySem.W.Frag} {Z : Ad} {vs : List V} {H : Hp} {Q : VK} {E : XK} (R : RuleK K Z) (h : sp_Rule___init__ K Z vs H Q E) : t_Rule___init__ K Z { nx := fun _ H' => Q .non H', rt := Q } (start N_Rule___init__ vs) H := by
  obtain ⟨x, dx, pv, tv, fk, ts, S, rfl, hx, ff, ft, ok, nS, q⟩ := h
  show t_Rule___init__ K Z _ [some (.ref x), some pv, some tv, none, none, none, none, none, none, none] H
  unfold t_Rule___init__
  have fo := ok.folk
  have hv := ok.hv
  have pos := fo.pos
  have lf := ok.len
  have tl := ok.tl
  have lpos : 1 ≤ fk.length := by
    rcases Nat.eq_zero_or_pos fk.length with z | z
    · rw [List.length_eq_zero_iff.mp z] at pos; exact absurd pos (by decide)
    · exact z
  walk_at "go"
  refine ⟨pv, fk, S, rfl, ff, fo, by omega, fun W H1 s1 nW hW => ?_⟩
  have Wx : W ≠ x := fun z => by rw [z, hx] at nW; cases nW
  walk_at "go"
  refine w_sum (SqL.of hW) ?_
  walk_at "go"
  refine w_lenI hW ?_
  walk_at "go"
  rw [List.length_map]
  refine ⟨tv, ts, S, heavy fk, 30000000, fk.length, rfl, gTabs.same s1 ft, ok.tabs, by omega, by omega, by omega, fun H2 s2 => ?_⟩
  have s12 := s1.trans s2
  walk_at "go"
  refine w_sfld ?_
  walk_at "go"
  refine w_lc (w_ilist ?_)
  walk_at "go"
  obtain ⟨pa, us, rfl, spa, hpa, al⟩ := gFolk.same s12 ff
  refine w_ilistK (SqL.of hpa) ?_
  refine lc_same (gT gS gI) (src_list (xs := us)) (fun i as => as = fk.take i) (by rw [al.length]; omega) rfl (fun H' s => SqL.of (s _ _ hpa)) ?_ ?_
  · rintro i as H3 v H4 N N' hi rfl s3 ⟨rfl, ex⟩ hN hN'
    obtain ⟨p, hp, fp⟩ := al.get ex
    refine w_gT2 ((gT gS gI).same s3 fp) fun u z f1 f2 => ?_
    cases f1; cases f2
    refine w_gCons (w_name (by simp only [wipe, List.set_cons_zero, List.set_cons_succ]; exact rfl) ?_)
    refine w_gCons (w_name (by simp only [wipe, List.set_cons_zero, List.set_cons_succ]; exact rfl) ?_)
    refine w_gNil ?_
    refine ⟨rfl, ?_⟩
    refine w_yes (w_iteT ?_)
    walk_at "go"
    refine w_tupN (by show 2 ≤ 100000; decide) fun T H5 nT c5 => ?_
    exact hN _ p H5 (c5.same nT) ⟨T, _, _, rfl, nT, c5.at_, rfl, rfl⟩ (take_snoc hp)
  rintro D as H3 nD s3 rfl f3
  rw [al.length, take_all] at f3
  have s13 := s12.trans s3
  obtain ⟨D', vus, eD, nD', hD, al3⟩ := f3
  cases eD
  walk_at "go"
  refine w_tuple1 (SqL.of hD) fun P H4 nP cP => ?_
  have s4 := cP.same nP
  have s14 := s13.trans s4
  have nPH : H P = none := dom_same s13 P nP
  have Px : P ≠ x := fun z => by subst z; rw [hx] at nPH; cases nPH
  have up3 : ∀ {b : Addr}, New H2 b → H b = none ∧ b ≠ x := fun {b} nb => ⟨dom_same s12 b nb, fun z => by subst z; rw [New, s12 _ _ hx] at nb; cases nb⟩
  have fp4 : fPeople (fun a => H a = none ∧ a ≠ x) H4 (.ref P) fk := ⟨P, vus, rfl, ⟨nPH, Px⟩, cP.at_, al3.imp fun _ _ f => (gT gS gI).mono (fun b nb => up3 nb) ((gT gS gI).same s4 f)⟩
  walk_at "go"
  refine w_sfldK (fs' := [("_people", .ref P)]) (s14 _ _ hx) R.cl R.np (by decide) rfl fun H5 c5 => ?_
  have K5 : Kw x H H5 := (Kw.of s14).chw c5
  have fp5 : fPeople (fun a => H a = none ∧ a ≠ x) H5 (.ref P) fk := gPeople.keep (fun a o s e => c5.keep s.2 e) fp4
  have ft5 : fTabs S H5 tv ts := gTabs.keep (fun a o s e => K5 a o (nS a s) e) ft
  have up5 : ∀ b, New H5 b → H b = none ∧ b ≠ x := fun b nb => by
    have e : b ≠ x := fun z => by subst z; rw [New, c5.at_] at nb; cases nb
    exact ⟨K5.free e nb, e⟩
  walk_at "go"
  refine w_sfld ?_
  walk_at "go"
  refine w_lc (w_ilist ?_)
  walk_at "go"
  obtain ⟨ta, tus, rfl, sta, hta, tal⟩ := ft5
  refine w_ilistK (SqL.of hta) ?_
  refine lc_same (gV (gV gI)) (src_list (xs := tus)) (fun i as => as = (centsOf fk.length ts).take i) (by rw [tal.length]; omega) rfl (fun H' s => SqL.of (s _ _ hta)) ?_ ?_
  · rintro i as H6 v H7 N N' hi rfl s6 ⟨rfl, ex⟩ hN hN'
    obtain ⟨r, er, fr⟩ := tal.get ex
    have rk := ok.tabs.row i r er
    have rl := rk.len
    obtain ⟨ra, rus, rfl, _, hra, ral⟩ := gRow.same s6 fr
    refine w_name (by simp only [wipe, List.set_cons_zero, List.set_cons_succ]; exact rfl) ?_
    refine ⟨rfl, w_yes (w_iteT ?_)⟩
    walk_at "go"
    refine w_lc (w_ilist ?_)
    walk_at "go"
    refine w_ilistK (SqL.of hra) ?_
    obtain ⟨es, esal, esl, at_⟩ := deals_split ral
    refine lc_same gR (src_list (xs := rus)) (fun j as => as = es.take j) (by rw [ral.length]; omega) rfl (fun H' s => SqL.of (s _ _ hra)) ?_ ?_
    · rintro j as H8 u H9 M M' hj rfl s8 ⟨rfl, eu⟩ hM hM'
      obtain ⟨a, e, p, rfl, ee, ep, ha⟩ := at_ j u eu
      refine w_gTup (SqT.of (s8 _ _ ha)) rfl ?_
      refine w_gCons (w_name (by simp only [wipe, List.set_cons_zero, List.set_cons_succ]; exact rfl) ?_)
      refine w_gCons (w_name (by simp only [wipe, List.set_cons_zero, List.set_cons_succ]; exact rfl) ?_)
      refine w_gNil ⟨rfl, w_yes (w_iteT ?_)⟩
      walk_at "go"
      exact hM _ e _ (Same.refl _) rfl (take_snoc ee)
    · rintro D2 as H8 nD2 s8 rfl fD2
      rw [← esl, List.take_length] at fD2
      obtain ⟨D3, eD3, _, hD3⟩ := raw_of fD2
      cases eD3
      walk_at "go"
      refine ⟨.ref D2, r.map Prod.fst, fk.length, Any, rfl, ⟨D2, es, rfl, trivial, hD3, esal.imp fun _ _ f => gLine.mono (fun _ _ => trivial) (gLine.same s8 f)⟩, by rw [List.length_map]; omega, by rw [List.length_map]; omega, fun l ml => ?_, by omega, fun u H9 s9 fu => ?_⟩
      · obtain ⟨p, mp, rfl⟩ := List.mem_map.mp ml
        obtain ⟨j, hj⟩ := List.mem_iff_getElem?.mp mp
        exact (rk.deal j p hj).len
      · refine hN _ _ H9 (s8.trans s9) (gNexts.mono (fun b nb => dom_same s8 b nb) fu) ?_
        exact take_snoc (by unfold centsOf; rw [List.getElem?_map, er]; rfl)
  rintro E1 as H6 nE s6 rfl fE
  rw [show (centsOf fk.length ts).take tus.length = centsOf fk.length ts from List.take_of_length_le (by unfold centsOf; rw [List.length_map, tal.length]; exact Nat.le_refl _)] at fE
  obtain ⟨E2, cus, eE, _, hE, alE⟩ := fE
  cases eE
  walk_at "go"
  refine w_tuple1 (SqL.of hE) fun C H7 nC cC => ?_
  have s7 := s6.trans (cC.same nC)
  have upC := up5 C (dom_same s6 C nC)
  have fc7 : fCents (fun a => H a = none ∧ a ≠ x) H7 (.ref C) (centsOf fk.length ts) := ⟨C, cus, rfl, upC, cC.at_, alE.imp fun _ _ f => gNexts.mono (fun b nb => up5 b nb) (gNexts.same (cC.same nC) f)⟩
  have fp7 := gPeople.same s7 fp5
  walk_at "go"
  refine w_sfldK (fs' := [("_people", .ref P), ("_cents", .ref C)]) (s7 _ _ c5.at_) R.cl R.nc (by show 1 < 1000; decide) (by with_unfolding_all rfl) fun H8 c8 => ?_
  have K8 : Kw x H H8 := (K5.trans (Kw.of s7)).chw c8
  have fp8 : fPeople (fun a => H a = none ∧ a ≠ x) H8 (.ref P) fk := gPeople.keep (fun a o s e => c8.keep s.2 e) fp7
  have fc8 : fCents (fun a => H a = none ∧ a ≠ x) H8 (.ref C) (centsOf fk.length ts) := gCents.keep (fun a o s e => c8.keep s.2 e) fc7
  have ft8 : fTabs S H8 (.ref ta) ts := gTabs.keep (fun a o s e => K8 a o (nS a s) e) ft
  have up8 : ∀ b, New H8 b → H b = none ∧ b ≠ x := fun b nb => by
    have e : b ≠ x := fun z => by subst z; rw [New, c8.at_] at nb; cases nb
    exact ⟨K8.free e nb, e⟩
  walk_at "go"
  refine w_sfld ?_
  walk_at "go"
  refine w_lc (w_ilist ?_)
  walk_at "go"
  obtain ⟨tb, tvs, etb, _, htb, tbl⟩ := ft8
  cases etb
  refine w_ilistK (SqL.of htb) ?_
  refine lc_same (gV gI) (src_list (xs := tvs)) (fun i as => as = (nextsOf ts).take i) (by rw [tbl.length]; omega) rfl (fun H' s => SqL.of (s _ _ htb)) ?_ ?_
  · rintro i as H9 v H10 N N' hi rfl s9 ⟨rfl, ex⟩ hN hN'
    obtain ⟨r, er, fr⟩ := tbl.get ex
    have rk := ok.tabs.row i r er
    have rl := rk.len
    obtain ⟨ra, rus, rfl, _, hra, ral⟩ := gRow.same s9 fr
    refine w_name (by simp only [wipe, List.set_cons_zero, List.set_cons_succ]; exact rfl) ?_
    refine ⟨rfl, w_yes (w_iteT ?_)⟩
    walk_at "go"
    refine w_lc (w_ilist ?_)
    walk_at "go"
    refine w_ilistK (SqL.of hra) ?_
    obtain ⟨es, esal, esl, at_⟩ := deals_split ral
    refine lc_same gI (src_list (xs := rus)) (fun j as => as = (r.map Prod.snd).take j) (by rw [ral.length]; omega) rfl (fun H' s => SqL.of (s _ _ hra)) ?_ ?_
    · rintro j as H11 u H12 M M' hj rfl s11 ⟨rfl, eu⟩ hM hM'
      obtain ⟨a, e, p, rfl, ee, ep, ha⟩ := at_ j u eu
      refine w_gTup (SqT.of (s11 _ _ ha)) rfl ?_
      refine w_gCons (w_name (by simp only [wipe, List.set_cons_zero, List.set_cons_succ]; exact rfl) ?_)
      refine w_gCons (w_name (by simp only [wipe, List.set_cons_zero, List.set_cons_succ]; exact rfl) ?_)
      refine w_gNil ⟨rfl, w_yes (w_iteT ?_)⟩
      walk_at "go"
      exact hM _ p.2 _ (Same.refl _) rfl (take_snoc (by rw [List.getElem?_map, ep]; rfl))
    · rintro D2 as H11 nD2 s11 rfl fD2
      rw [show (r.map Prod.snd).take rus.length = r.map Prod.snd from List.take_of_length_le (by rw [List.length_map, ral.length]; exact Nat.le_refl _)] at fD2
      obtain ⟨D3, eD3, _, hD3⟩ := ints_of fD2
      cases eD3
      walk_at "go"
      refine w_tuple1 (SqL.of hD3) fun T H12 nT cT => ?_
      refine hN _ _ H12 (s11.trans (cT.same nT)) (tupI_mk (dom_same s11 T nT) cT.at_) ?_
      exact take_snoc (by unfold nextsOf; rw [List.getElem?_map, er]; rfl)
  rintro F1 as H9 nF s9 rfl fF
  rw [show (nextsOf ts).take tvs.length = nextsOf ts from List.take_of_length_le (by unfold nextsOf; rw [List.length_map, tbl.length]; exact Nat.le_refl _)] at fF
  obtain ⟨F2, nus, eF, _, hF, alF⟩ := fF
  cases eF
  walk_at "go"
  refine w_tuple1 (SqL.of hF) fun G H10 nG cG => ?_
  have s10 := s9.trans (cG.same nG)
  have upG := up8 G (dom_same s9 G nG)
  have fn10 : fNexts (fun a => H a = none ∧ a ≠ x) H10 (.ref G) (nextsOf ts) := ⟨G, nus, rfl, upG, cG.at_, alF.imp fun _ _ f => (gV gI).mono (fun b nb => up8 b nb) ((gV gI).same (cG.same nG) f)⟩
  walk_at "go"
  refine w_sfldK (fs' := [("_people", .ref P), ("_cents", .ref C), ("_nexts", .ref G)]) (s10 _ _ c8.at_) R.cl R.nn (by show 2 < 1000; decide) (by with_unfolding_all rfl) fun H11 c11 => ?_
  have K11 : Kw x H H11 := (K8.trans (Kw.of s10)).chw c11
  have fp11 : fPeople (fun a => H a = none ∧ a ≠ x) H11 (.ref P) fk := gPeople.keep (fun a o s e => c11.keep s.2 e) (gPeople.same s10 fp8)
  have fc11 : fCents (fun a => H a = none ∧ a ≠ x) H11 (.ref C) (centsOf fk.length ts) := gCents.keep (fun a o s e => c11.keep s.2 e) (gCents.same s10 fc8)
  have fn11 : fNexts (fun a => H a = none ∧ a ≠ x) H11 (.ref G) (nextsOf ts) := gNexts.keep (fun a o s e => c11.keep s.2 e) fn10
  have hW11 : H11 W = some (.lst ((fk.map Prod.snd).map V.int)) := c11.keep Wx (s10 _ _ (c8.keep Wx (s7 _ _ (c5.keep Wx (s4 _ _ (s3 _ _ (s2 _ _ hW)))))))
  walk_at "go"
  refine w_sfld ?_
  walk_at "go"
  refine w_sum (SqL.of hW11) ?_
  walk_at "go"
  refine w_sfldK (fs' := [("_people", .ref P), ("_cents", .ref C), ("_nexts", .ref G), ("_weight", .int (heavy fk))]) c11.at_ R.cl R.nw (by show 3 < 1000; decide) (by with_unfolding_all rfl) fun H12 c12 => ?_
  refine q H12 (K11.chw c12) ⟨x, dx, .ref P, .ref C, .ref G, rfl, .inr rfl, c12.at_, ?_, ?_, ?_⟩
  · exact gPeople.mono (fun a s => .inl s.1) (gPeople.keep (fun a o s e => c12.keep s.2 e) fp11)
  · exact gCents.mono (fun a s => .inl s.1) (gCents.keep (fun a o s e => c12.keep s.2 e) fc11)
  · exact gNexts.mono (fun a s => .inl s.1) (gNexts.keep (fun a o s e => c12.keep s.2 e) fn11)
end Ow

set_option Elab.async false
set_option linter.all false
set_option maxRecDepth 100000
namespace Ow
open PySem L2
local macro_rules | `(tactic| walk_at "go") => `(tactic| (repeat (with_reducible first
  | refine w_seq ?_ | refine w_asg ?_ | refine w_ret ?_ | refine w_if ?_ | refine w_next ?_ | refine w_drop ?_
  | refine w_var (by with_unfolding_all rfl) ?_ | refine w_c ?_ | refine w_op ?_ | refine w_cons ?_ | refine w_nil ?_ | refine w_cb ?_ | refine w_call ?_
  | refine w_name (by simp only [List.set_cons_zero, List.set_cons_succ]; exact rfl) ?_
  | refine w_add ?_ | refine w_sub ?_ | refine w_lt ?_ | refine w_le ?_ | refine w_gt ?_ | refine w_ge ?_ | refine w_eqI ?_ | refine w_neI ?_
  | refine w_test ?_ | refine w_testK ?_ | refine w_tB ?_ | refine w_intI ?_ | refine w_intB ?_ | refine w_max2 ?_ | refine w_min2 ?_
  | refine w_lst ?_ | refine w_tup ?_ | refine w_gSub ?_ | refine w_fld ?_ | refine w_un ?_ | refine w_neg ?_ | refine w_par ?_ | refine w_tIf ?_ | refine w_and ?_ | refine w_or ?_ | refine w_not ?_
  | refine w_mod (by omega) ?_ | refine w_div (cdiv (by omega) (by omega)) ?_ | refine w_mul (cmulL (by omega) (by omega)) ?_ | refine w_mul (cmulR (by omega) (by omega)) ?_ | refine w_pow (cpow (by omega) (by omega) (by omega) (by omega)) ?_
  | refine w_ixL (SqL.of (by assumption)) (by with_unfolding_all rfl) ?_)))
end Ow

set_option Elab.async false
set_option linter.all false
set_option maxRecDepth 100000
namespace Ow
open PySem L2
local macro_rules | `(tactic| walk_at "go") => `(tactic| (repeat (with_reducible first
  | refine w_seq ?_ | refine w_asg ?_ | refine w_ret ?_ | refine w_if ?_ | refine w_next ?_ | refine w_drop ?_
  | refine w_var (by with_unfolding_all rfl) ?_ | refine w_c ?_ | refine w_op ?_ | refine w_cons ?_ | refine w_nil ?_ | refine w_cb ?_ | refine w_call ?_
  | refine w_name (by simp only [List.set_cons_zero, List.set_cons_succ]; exact rfl) ?_
  | refine w_add ?_ | refine w_sub ?_ | refine w_lt ?_ | refine w_le ?_ | refine w_gt ?_ | refine w_ge ?_ | refine w_eqI ?_ | refine w_neI ?_
  | refine w_test ?_ | refine w_testK ?_ | refine w_tB ?_ | refine w_intI ?_ | refine w_intB ?_ | refine w_max2 ?_ | refine w_min2 ?_
  | refine w_lst ?_ | refine w_tup ?_ | refine w_gSub ?_ | refine w_fld ?_ | refine w_un ?_ | refine w_neg ?_ | refine w_par ?_ | refine w_tIf ?_ | refine w_and ?_ | refine w_or ?_ | refine w_not ?_
  | refine w_mod (by omega) ?_ | refine w_div (cdiv (by omega) (by omega)) ?_ | refine w_mul (cmulL (by omega) (by omega)) ?_ | refine w_mul (cmulR (by omega) (by omega)) ?_ | refine w_pow (cpow (by omega) (by omega) (by omega) (by omega)) ?_
  | refine w_ixL (SqL.of (by assumption)) (by with_unfolding_all rfl) ?_)))
theorem w_ixV {α : Type} {K : PySem.W.Frag} {F : Fam α} {S : Addr → Prop} {H : Hp} {Q : VK} {v : V} {as : List α} {i : Int} (h : fV F S H v as) (h0 : 0 ≤ i) (h1 : i < as.length) (q : ∀ u x, as[i.toNat]? = some x → F S H u x → Q u H) : rIxT K v (.int i) H Q := by
  obtain ⟨a, vs, rfl, _, ha, al⟩ := h
  obtain ⟨x, e⟩ := at_some h0 h1
  obtain ⟨u, eu, fu⟩ := al.getR e
  have ei : i = ((i.toNat : Nat) : Int) := by omega
  exact ⟨a, vs, i, u, rfl, rfl, SqT.of ha, by rw [ei]; exact atI_nat eu, q u x e fu⟩
section
variable {H : Hp} {σ : St} {te : TE}
def augNK (i : Nat) (ti : TIp) (nx : St → Hp → Prop) (σ : St) (x y : V) (H1 : Hp) : Prop := ti x y H1 fun z H2 => nx (σ.set i (some z)) H2
theorem w_aug {nx : St → Hp → Prop} {rt : VK} {bk ct : St → Hp → Prop} {i : Nat} {ti : TIp} {x : V} (e : σ[i]? = some (some x)) (h : te σ H fun y H1 => augNK i ti nx σ x y H1) : tAug i te ti ⟨nx, rt, bk, ct⟩ σ H := ⟨x, e, h⟩
theorem w_augN {nx : St → Hp → Prop} {i : Nat} {f : Int → Int → Int} {x y : Int} {σ' : St} (e : σ.set i (some (.int (f x y))) = σ') (h : nx σ' H) : augNK i (ipI f) nx σ (.int x) (.int y) H := ⟨x, y, rfl, rfl, by show nx (σ.set i _) H; rw [e]; exact h⟩
end
/-! ### what is dealt -/
def dealAt (ts : Tabs) (s e : Int) : Deal := (ts.getD s.toNat []).getD e.toNat ([], 0)
def addUp (t : Int) : Folk → List Int → List Int → List Int
  | p :: fk, s :: ss, x :: xs => (s + (t * p.2 + x)) :: addUp t fk ss xs
  | _, _, _ => []
def stepD (hv : Int) (fk : Folk) (ts : Tabs) (p : List Int × Int) (c : Int) : List Int × Int := (addUp (c / hv) fk p.1 (dealAt ts p.2 (c % hv)).1, (dealAt ts p.2 (c % hv)).2)
def run (fk : Folk) (ts : Tabs) (amts : List Int) : List Int × Int := amts.foldl (stepD (heavy fk) fk ts) (List.replicate fk.length 0, 0)
theorem run_snoc {fk : Folk} {ts : Tabs} {amts : List Int} {i : Nat} {c : Int} (h : amts[i]? = some c) : run fk ts (amts.take (i + 1)) = stepD (heavy fk) fk ts (run fk ts (amts.take i)) c := by
  rw [← take_snoc h]
  unfold run
  rw [List.foldl_append]; rfl
theorem addUp_len {t : Int} : ∀ {fk : Folk} {a b : List Int}, a.length = fk.length → b.length = fk.length → (addUp t fk a b).length = fk.length
  | [], _, _, _, _ => rfl
  | p :: fk, x :: a, y :: b, h1, h2 => congrArg Nat.succ (addUp_len (fk := fk) (by simpa using h1) (by simpa using h2))
  | _ :: _, [], _, h, _ => by simp at h
  | _ :: _, _ :: _, [], _, h => by simp at h
theorem addUp_at {t : Int} : ∀ {fk : Folk} {a b : List Int} {j : Nat} {p x y}, fk[j]? = some p → a[j]? = some x → b[j]? = some y → (addUp t fk a b)[j]? = some (x + (t * p.2 + y))
  | [], _, _, _, _, _, _, h, _, _ => by simp at h
  | _ :: _, [], _, _, _, _, _, _, h, _ => by simp at h
  | _ :: _, _ :: _, [], _, _, _, _, _, _, h => by simp at h
  | p :: fk, x :: a, y :: b, 0, p', x', y', h1, h2, h3 => by
    have e1 : p = p' := by simpa using h1
    have e2 : x = x' := by simpa using h2
    have e3 : y = y' := by simpa using h3
    subst e1; subst e2; subst e3; rfl
  | p :: fk, x :: a, y :: b, j + 1, p', x', y', h1, h2, h3 => addUp_at (fk := fk) (a := a) (b := b) (j := j) (by simpa using h1) (by simpa using h2) (by simpa using h3)
theorem dealAt_is {ts : Tabs} {s e : Int} {row : Row} {d : Deal} (h1 : ts[s.toNat]? = some row) (h2 : row[e.toNat]? = some d) : dealAt ts s e = d := by
  unfold dealAt
  have e1 : ts.getD s.toNat [] = row := by rw [List.getD_eq_getElem?_getD, h1]; rfl
  rw [e1, List.getD_eq_getElem?_getD, h2]; rfl
structure Now (fk : Folk) (ts : Tabs) (p : List Int × Int) : Prop where
  len : p.1.length = fk.length
  lo : 0 ≤ p.2
  hi : p.2 < ts.length
theorem deal_ok {fk : Folk} {ts : Tabs} (o : PlanOk fk ts) {s e : Int} (s0 : 0 ≤ s) (s1 : s < ts.length) (e0 : 0 ≤ e) (e1 : e < heavy fk) : ∃ row d, ts[s.toNat]? = some row ∧ row[e.toNat]? = some d ∧ dealAt ts s e = d ∧ RowOk fk.length (heavy fk) 30000000 ts.length row ∧ DealOk fk.length 30000000 ts.length e.toNat d := by
  obtain ⟨row, er⟩ := at_some s0 s1
  have rok := o.tabs.row _ _ er
  have rlen := rok.len
  obtain ⟨d, ed⟩ := at_some (xs := row) e0 (by omega)
  exact ⟨row, d, er, ed, dealAt_is er ed, rok, rok.deal _ _ ed⟩
theorem now_step {fk : Folk} {ts : Tabs} (o : PlanOk fk ts) {p : List Int × Int} (n : Now fk ts p) (c : Int) : Now fk ts (stepD (heavy fk) fk ts p c) := by
  have pos := o.folk.pos
  obtain ⟨row, d, _, _, ed, _, dok⟩ := deal_ok o n.lo n.hi (Int.emod_nonneg c (by omega)) (Int.emod_lt_of_pos c pos)
  unfold stepD
  rw [ed]
  exact ⟨addUp_len n.len dok.len, dok.lo, dok.hi⟩
theorem now_run {fk : Folk} {ts : Tabs} (o : PlanOk fk ts) (amts : List Int) : Now fk ts (run fk ts amts) := by
  have h : ∀ (amts : List Int) (p : List Int × Int), Now fk ts p → Now fk ts (amts.foldl (stepD (heavy fk) fk ts) p) := by
    intro amts
    induction amts with
    | nil => intro p n; exact n
    | cons c r ih => intro p n; exact ih _ (now_step o n c)
  exact h amts _ ⟨List.length_replicate .., Int.le_refl 0, by have := o.tabs.len; show (0 : Int) < _; omega⟩
def sp_Rule_shares (K : PySem.W.Frag) (Z : Ad) : Sp := fun vs H Q _ => ∃ (v : V) (b : Addr) (fk : Folk) (ts : Tabs) (S : Addr → Prop) (amts : List Int), vs = [v, .ref b] ∧ fRule Z S H v (fk, ts) ∧ PlanOk fk ts ∧ H b = some (.lst (amts.map V.int)) ∧
  ∀ a H', Same H H' → H a = none → H' a = some (.lst ((run fk ts amts).1.map V.int)) → Q (.ref a) H'
abbrev N_Rule_shares : List Str := ["self", "bills", "turns", "dealt", "state", "amount", "quotient", "rest", "place", "row", "_", "weight"]
def t_Rule_shares (K : PySem.W.Frag) (Z : Ad) : TS :=
  (tSeq (tAsg (tC (.int 0)) (gName 2)) (tSeq (tAsg (tLc (iTup K (tFld K (tVar 0) "_people")) (gName 10) tYes (tC (.int 0)) [10]) (gName 3)) (tSeq (tAsg (tC (.int 0)) (gName 4)) (tSeq (tFor (iList K (tVar 1)) (gName 5) (tSeq (tAsg (tCB rDivmod (tCons (tVar 5) (tCons (tFld K (tVar 0) "_weight") tNil))) (gTup K 2 (gCons (gName 6) (gCons (gName 7) gNil)))) (tSeq (tAug 2 (tVar 6) (ipI fun i j => i + j)) (tSeq (tFor (Ow.iEnumT K (tCons (tOp (rIxT K) (tFld K (tVar 0) "_cents") (tVar 4)) tNil)) (gTup K 2 (gCons (gName 8) (gCons (gName 9) gNil))) (tAugS (tVar 3) (tVar 8) (tOp (rIxT K) (tVar 9) (tVar 7)) (rGetL K) (ipI fun i j => i + j) rSetL)) (tAsg (tOp (rIxT K) (tOp (rIxT K) (tFld K (tVar 0) "_nexts") (tVar 4)) (tVar 7)) (gName 4)))))) (tRet (tLc (Ow.iEnumT K (tCons (tFld K (tVar 0) "_people") tNil)) (gTup K 2 (gCons (gName 8) (gCons (gTup K 2 (gCons (gName 10) (gCons (gName 11) gNil))) gNil))) tYes (tOp oAdd (tOp oMul (tVar 2) (tVar 11)) (tOp (rIxL K) (tVar 3) (tVar 8))) [8, 10, 11]))))))
theorem l_Rule_shares {K : PySem.W.Frag} {Z : Ad} {vs : List V} {H : Hp} {Q : VK} {E : XK} : sp_Rule_shares K Z vs H Q E → vs.length = 2 := by
  rintro ⟨_, _, _, _, _, _, rfl, _⟩; rfl
theorem weight_le {fk : Folk} (o : FolkOk fk) {j : Nat} {p : Str × Int} (h : fk[j]? = some p) : 0 ≤ p.2 ∧ p.2 ≤ heavy fk := by
  have key : ∀ {fk : Folk}, (∀ x ∈ fk.map Prod.snd, 0 ≤ x) → 0 ≤ (fk.map Prod.snd).sum ∧ ∀ (j : Nat) p, fk[j]? = some p → 0 ≤ p.2 ∧ p.2 ≤ (fk.map Prod.snd).sum := by
    intro fk
    induction fk with
    | nil => intro _; exact ⟨Int.le_refl _, fun j p h => by simp at h⟩
    | cons q fk ih =>
      intro h
      have h1 := h q.2 (by simp)
      obtain ⟨h2, h3⟩ := ih fun x m => h x (by rw [List.map_cons]; exact List.mem_cons_of_mem _ m)
      rw [List.map_cons, List.sum_cons]
      refine ⟨by omega, fun j p e => ?_⟩
      cases j with
      | zero =>
        have e' : q = p := by simpa using e
        subst e'
        exact ⟨h1, by omega⟩
      | succ j =>
        have := h3 j p (by simpa using e)
        exact ⟨this.1, by omega⟩
  exact (key fun x m => o.nn x m).2 j p h
/-- the shares: so many times the weights, and what was dealt beside -/
structure Mixed (fk : Folk) (t : Int) (dl : List Int) (ss : List Int) : Prop where
  len : dl.length = fk.length
  slen : ss.length = fk.length
  at_ : ∀ (j : Nat) p y, fk[j]? = some p → dl[j]? = some y → ss[j]? = some (t * p.2 + y)
theorem r_Rule_shares {K : PySem.W.Frag} {Z : Ad} {vs : List V} {H : Hp} {Q : VK} {E : XK} (R : RuleK K Z) (h : sp_Rule_shares K Z vs H Q E) : t_Rule_shares K Z { nx := fun _ H' => Q .non H', rt := Q } (start N_Rule_shares vs) H := by
  obtain ⟨v, b, fk, ts, S, amts, rfl, ⟨r, dx, pv, cv, nv, rfl, sr, hr, fp, fc, fn⟩, ok, hb, q⟩ := h
  show t_Rule_shares K Z _ [some (.ref r), some (.ref b), none, none, none, none, none, none, none, none, none, none] H
  unfold t_Rule_shares
  have pos := ok.folk.pos
  have hv := ok.hv
  have lf := ok.len
  change fPeople S H pv fk at fp
  change fCents S H cv (centsOf fk.length ts) at fc
  change fNexts S H nv (nextsOf ts) at fn
  change H r = some (.ins Z.c_Rule dx [("_people", pv), ("_cents", cv), ("_nexts", nv), ("_weight", .int (heavy fk))]) at hr
  replace fc := gCents.there fc
  replace fn := gNexts.there fn
  obtain ⟨pa, us, rfl, spa, hpa, al⟩ := id fp
  walk_at "go"
  refine w_lc (w_itup ?_)
  walk_at "go"
  refine w_fldK hr R.cl R.np (by with_unfolding_all rfl) ?_
  refine w_itupK (SqT.of hpa) ?_
  refine lc_same gI (src_tup (xs := us)) (fun i as => as = List.replicate i 0) (by rw [al.length]; omega) rfl (fun H' s => SqT.of (s _ _ hpa)) ?_ ?_
  · rintro i as H1 x H2 N N' hi rfl s1 ⟨rfl, ex⟩ hN hN'
    refine w_name (by simp only [wipe, List.set_cons_zero, List.set_cons_succ]; exact rfl) ?_
    refine ⟨rfl, ?_⟩
    refine w_yes (w_iteT ?_)
    walk_at "go"
    exact hN _ 0 _ (Same.refl _) rfl List.replicate_succ'.symm
  rintro T as H1 nT s1 rfl f
  obtain ⟨T', e, _, hT⟩ := ints_of f
  cases e
  rw [al.length] at hT
  walk_at "go"
  refine w_for (w_ilist ?_)
  walk_at "go"
  refine w_ilistK (SqL.of (s1 _ _ hb)) ?_
  have fpS := al
  refine for_go (src_list (xs := amts.map V.int)) (fun i σ H' => ∃ t dl o5 o6 o7 o8 o9 o10 o11, σ = [some (.ref r), some (.ref b), some (.int t), some (.ref T), some (.int (run fk ts (amts.take i)).2), o5, o6, o7, o8, o9, o10, o11] ∧ Same H H' ∧ H' T = some (.lst (dl.map V.int)) ∧ Mixed fk t dl (run fk ts (amts.take i)).1)
    ⟨_, _, _, _, _, _, _, _, _, rfl, s1, hT, ⟨List.length_replicate .., List.length_replicate .., fun j p y hj hy => ?_⟩⟩ (fun i σ H' _ h => ?_) ?_ ?_
  · have hj' : j < fk.length := (List.getElem?_eq_some_iff.mp hj).1
    rw [List.getElem?_replicate, if_pos hj'] at hy
    cases hy
    show (List.replicate fk.length (0 : Int))[j]? = _
    rw [List.getElem?_replicate, if_pos hj', Int.zero_mul]; rfl
  · obtain ⟨_, _, _, _, _, _, _, _, _, _, s, _⟩ := h
    exact SqL.of (s _ _ hb)
  · rintro i σ H2 x H3 hi ⟨t, dl, o5, o6, o7, o8, o9, o10, o11, rfl, s2, hT2, mx⟩ ⟨rfl, ex⟩
    rw [List.getElem?_map] at ex
    cases ec : amts[i]? with
    | none => rw [ec] at ex; cases ex
    | some c =>
      rw [ec] at ex
      cases ex
      have nw := now_run ok (amts.take i)
      have en := run_snoc (fk := fk) (ts := ts) ec
      generalize run fk ts (amts.take i) = p at nw en mx
      have e0 := Int.emod_nonneg c (show heavy fk ≠ 0 by omega)
      have e1 := Int.emod_lt_of_pos c pos
      obtain ⟨row, d, er, ed, eq, rok, dok⟩ := deal_ok ok nw.lo nw.hi e0 e1
      unfold stepD at en
      rw [eq] at en
      have rlen := rok.len
      refine w_name (by simp only [List.set_cons_zero, List.set_cons_succ]; exact rfl) ?_
      walk_at "go"
      refine w_fldK (s2 _ _ hr) R.cl R.nw (by with_unfolding_all rfl) ?_
      walk_at "go"
      refine w_divmodN (cdiv (by omega) (by omega)) fun P H4 nP cP => ?_
      have s4 := cP.same nP
      have S4 := s2.trans s4
      have hT4 := s4 _ _ hT2
      refine w_gTup (SqT.of cP.at_) rfl ?_
      refine w_gCons (w_name (by simp only [List.set_cons_zero, List.set_cons_succ]; exact rfl) ?_)
      refine w_gCons (w_name (by simp only [List.set_cons_zero, List.set_cons_succ]; exact rfl) ?_)
      refine w_gNil ?_
      walk_at "go"
      refine w_aug rfl ?_
      walk_at "go"
      refine w_augN (by simp only [List.set_cons_zero, List.set_cons_succ]; exact rfl) ?_
      refine w_seq ?_
      refine w_for (w_enumT ?_)
      walk_at "go"
      refine w_fldK (S4 _ _ hr) R.cl R.nc (by with_unfolding_all rfl) ?_
      walk_at "go"
      refine w_ixV (gCents.same S4 fc) nw.lo (by unfold centsOf; rw [List.length_map]; exact nw.hi) fun cu cols ecols fcols => ?_
      unfold centsOf at ecols
      rw [List.getElem?_map, er] at ecols
      cases ecols
      obtain ⟨ca, cus, rfl, _, hca, cal⟩ := fcols
      have lc : cus.length = fk.length := by rw [cal.length, colsI_len]
      have dlen := dok.len
      walk_at "go"
      refine w_enumTK (SqT.of hca) ?_
      refine for_go (src_enumT (xs := cus)) (fun j σ H' => ∃ o8 o9, σ = [some (.ref r), some (.ref b), some (.int (t + c / heavy fk)), some (.ref T), some (.int p.2), some (.int c), some (.int (c / heavy fk)), some (.int (c % heavy fk)), o8, o9, o10, o11] ∧ Same H H' ∧ Kw T H4 H' ∧ ∃ ds : List Int, H' T = some (.lst (ds.map V.int)) ∧ ds.length = fk.length ∧
          ∀ (k : Nat) y z, dl[k]? = some y → d.1[k]? = some z → ds[k]? = some (if k < j then y + z else y)) ⟨_, _, rfl, S4, Kw.refl, dl, hT4, mx.len, fun k y z hy _ => by rw [if_neg (Nat.not_lt_zero _)]; exact hy⟩ (fun j σ H' _ h => ?_) ?_ ?_
      · obtain ⟨_, _, _, _, k, _⟩ := h
        have cT : ca ≠ T := fun z => by rw [z, hT4] at hca; cases hca
        exact SqT.of (k _ _ cT hca)
      · rintro j σ H5 x H6 hj ⟨o8, o9, rfl, s5, k5, ds, hT5, lds, hds⟩ ⟨T2, z, rfl, nT2, rfl, ez⟩
        obtain ⟨col, ecol, fcol⟩ := cal.get ez
        have hj' : j < fk.length := by omega
        rw [colsI_at hj'] at ecol
        cases ecol
        have s6 : Same H5 (upd H5 T2 (.tup [.int (j : Nat), z])) := snew nT2
        have hT26 : upd H5 T2 (.tup [.int (j : Nat), z]) T2 = some (.tup [.int (j : Nat), z]) := upd_same
        generalize upd H5 T2 (.tup [.int (j : Nat), z]) = H6 at s6 hT26
        have fcol6 : fV fI (fun a => S a ∧ H a ≠ none) H6 z ((row.map Prod.fst).map fun r => r.getD j 0) := (gV gI).keep (fun a o sa e => s6 _ _ (k5 a o (fun ze => sa.2 (by rw [ze]; exact nT)) e)) fcol
        refine w_gTup (SqT.of hT26) rfl ?_
        refine w_gCons (w_name (by simp only [List.set_cons_zero, List.set_cons_succ]; exact rfl) ?_)
        refine w_gCons (w_name (by simp only [List.set_cons_zero, List.set_cons_succ]; exact rfl) ?_)
        refine w_gNil ?_
        refine w_augS ?_
        walk_at "go"
        refine w_augI (s6 _ _ hT5) (by omega) (by omega) fun x ex => ?_
        walk_at "go"
        refine w_ixV fcol6 e0 (by rw [List.length_map, List.length_map]; omega) fun u y ey fy => ?_
        cases fy
        rw [List.getElem?_map, List.getElem?_map, ed] at ey
        cases ey
        refine w_aug2 (s6 _ _ hT5) (by omega) (by omega) fun H7 c7 => ?_
        refine ⟨_, _, rfl, sch (s5.trans s6) nT c7, (k5.trans (Kw.of s6)).chw c7, _, c7.at_, by rw [List.length_set]; exact lds, fun k y z hy hz => ?_⟩
        have old := hds k y z hy hz
        rw [Int.toNat_natCast] at ex ⊢
        rw [List.getElem?_set]
        by_cases ek : j = k
        · subst ek
          rw [if_neg (Nat.lt_irrefl _)] at old
          rw [old] at ex
          cases ex
          rw [if_pos rfl, if_pos (by omega), if_pos (Nat.lt_succ_self _)]
          have ez : d.1.getD j 0 = z := by rw [List.getD_eq_getElem?_getD, hz]; rfl
          show some (_ + d.1.getD j 0) = _
          rw [ez]
        · rw [if_neg ek, old]
          by_cases l : k < j
          · rw [if_pos l, if_pos (by omega)]
          · rw [if_neg l, if_neg (by omega)]
      · rintro σ H5 ⟨o8, o9, rfl, s5, k5, ds, hT5, lds, hds⟩
        walk_at "go"
        refine w_fldK (s5 _ _ hr) R.cl R.nn (by with_unfolding_all rfl) ?_
        walk_at "go"
        refine w_ixV (gNexts.same s5 fn) nw.lo (by unfold nextsOf; rw [List.length_map]; exact nw.hi) fun nu nx enx fnx => ?_
        unfold nextsOf at enx
        rw [List.getElem?_map, er] at enx
        cases enx
        walk_at "go"
        refine w_ixV fnx e0 (by rw [List.length_map]; omega) fun u y ey fy => ?_
        cases fy
        rw [List.getElem?_map, ed] at ey
        cases ey
        refine w_name (by simp only [List.set_cons_zero, List.set_cons_succ]; exact rfl) ?_
        refine ⟨t + c / heavy fk, ds, _, _, _, _, _, _, _, by rw [en], s5, hT5, ?_⟩
        rw [en]
        refine ⟨lds, addUp_len mx.slen dlen, fun j p' y' hp hy => ?_⟩
        have hj : j < fk.length := (List.getElem?_eq_some_iff.mp hp).1
        have edl : dl[j]? = some (dl.getD j 0) := by rw [List.getD_eq_getElem?_getD, List.getElem?_eq_getElem (by have := mx.len; omega)]; rfl
        have edz : d.1[j]? = some (d.1.getD j 0) := by rw [List.getD_eq_getElem?_getD, List.getElem?_eq_getElem (by omega)]; rfl
        have h1 := hds j _ _ edl edz
        rw [if_pos (by omega), hy] at h1
        cases h1
        rw [addUp_at hp (mx.at_ j p' _ hp edl) edz, Int.add_mul]
        congr 1
        omega
  · rintro σ H2 ⟨t, dl, o5, o6, o7, o8, o9, o10, o11, rfl, s2, hT2, mx⟩
    rw [List.length_map, take_all] at mx
    walk_at "go"
    refine w_lc (w_enumT ?_)
    walk_at "go"
    refine w_fldK (s2 _ _ hr) R.cl R.np (by with_unfolding_all rfl) ?_
    walk_at "go"
    refine w_enumTK (SqT.of (s2 _ _ hpa)) ?_
    have lu := al.length
    refine lc_same gI (src_enumT (xs := us)) (fun i as => as = (run fk ts amts).1.take i) (by omega) rfl (fun H' s => SqT.of (s _ _ (s2 _ _ hpa))) ?_ ?_
    · rintro j as H3 x H4 N N' hj rfl s3 ⟨T2, z, rfl, nT2, rfl, ez⟩ hN hN'
      obtain ⟨p, ep, fp2⟩ := al.get ez
      have s4 : Same H3 (upd H3 T2 (.tup [.int (j : Nat), z])) := snew nT2
      have hT24 : upd H3 T2 (.tup [.int (j : Nat), z]) T2 = some (.tup [.int (j : Nat), z]) := upd_same
      generalize upd H3 T2 (.tup [.int (j : Nat), z]) = H4 at s4 hT24
      have S4 := (s2.trans s3).trans s4
      refine w_gTup (SqT.of hT24) rfl ?_
      refine w_gCons (w_name (by simp only [wipe, List.set_cons_zero, List.set_cons_succ]; exact rfl) ?_)
      refine w_gCons (w_gT2 ((gT gS gI).same S4 fp2) fun u1 u2 f1 f2 => ?_)
      cases f1; cases f2
      refine w_gCons (w_name (by simp only [wipe, List.set_cons_zero, List.set_cons_succ]; exact rfl) ?_)
      refine w_gCons (w_name (by simp only [wipe, List.set_cons_zero, List.set_cons_succ]; exact rfl) ?_)
      refine w_gNil (w_gNil ?_)
      refine ⟨rfl, w_yes (w_iteT ?_)⟩
      walk_at "go"
      have wb := weight_le ok.folk ep
      refine w_mul (cmulR (by omega) (by omega)) ?_
      walk_at "go"
      have ldl := mx.len
      refine w_ixI (s4 _ _ (s3 _ _ hT2)) (by omega) (by omega) fun y ey => ?_
      rw [Int.toNat_natCast] at ey
      walk_at "go"
      exact hN _ (t * p.2 + y) H4 s4 rfl (take_snoc (mx.at_ j p y ep ey))
    · rintro D as H3 nD s3 rfl fD
      rw [show (run fk ts amts).1.take us.length = (run fk ts amts).1 from List.take_of_length_le (by rw [mx.slen, lu]; exact Nat.le_refl _)] at fD
      obtain ⟨D2, eD, _, hD⟩ := ints_of fD
      cases eD
      exact q D H3 (s2.trans s3) (dom_same s2 D nD) hD
end Ow

set_option Elab.async false
set_option linter.all false
set_option maxRecDepth 100000
namespace Ow
open PySem L2
local macro_rules | `(tactic| walk_at "go") => `(tactic| (repeat (with_reducible first
  | refine w_seq ?_ | refine w_asg ?_ | refine w_ret ?_ | refine w_if ?_ | refine w_next ?_ | refine w_drop ?_
  | refine w_var (by with_unfolding_all rfl) ?_ | refine w_c ?_ | refine w_op ?_ | refine w_cons ?_ | refine w_nil ?_ | refine w_cb ?_ | refine w_call ?_
  | refine w_name (by simp only [List.set_cons_zero, List.set_cons_succ]; exact rfl) ?_
  | refine w_add ?_ | refine w_sub ?_ | refine w_lt ?_ | refine w_le ?_ | refine w_gt ?_ | refine w_ge ?_ | refine w_eqI ?_ | refine w_neI ?_
  | refine w_test ?_ | refine w_testK ?_ | refine w_tB ?_ | refine w_intI ?_ | refine w_intB ?_ | refine w_max2 ?_ | refine w_min2 ?_
  | refine w_lst ?_ | refine w_tup ?_ | refine w_gSub ?_ | refine w_fld ?_ | refine w_un ?_ | refine w_neg ?_ | refine w_par ?_ | refine w_tIf ?_ | refine w_and ?_ | refine w_or ?_ | refine w_not ?_
  | refine w_mod (by omega) ?_ | refine w_div (cdiv (by omega) (by omega)) ?_ | refine w_mul (cmulL (by omega) (by omega)) ?_ | refine w_mul (cmulR (by omega) (by omega)) ?_ | refine w_pow (cpow (by omega) (by omega) (by omega) (by omega)) ?_
  | refine w_ixL (SqL.of (by assumption)) (by with_unfolding_all rfl) ?_)))
def sp_Rule_state (K : PySem.W.Frag) (Z : Ad) : Sp := fun vs H Q _ => ∃ (v : V) (b : Addr) (fk : Folk) (ts : Tabs) (S : Addr → Prop) (amts : List Int), vs = [v, .ref b] ∧ fRule Z S H v (fk, ts) ∧ PlanOk fk ts ∧ H b = some (.lst (amts.map V.int)) ∧
  ∀ H', Same H H' → Q (.int (run fk ts amts).2) H'
abbrev N_Rule_state : List Str := ["self", "bills", "state", "amount"]
def t_Rule_state (K : PySem.W.Frag) (Z : Ad) : TS :=
  (tSeq (tAsg (tC (.int 0)) (gName 2)) (tSeq (tFor (iList K (tVar 1)) (gName 3) (tAsg (tOp (rIxT K) (tOp (rIxT K) (tFld K (tVar 0) "_nexts") (tVar 2)) (tOp oMod (tVar 3) (tFld K (tVar 0) "_weight"))) (gName 2))) (tRet (tVar 2))))
theorem l_Rule_state {K : PySem.W.Frag} {Z : Ad} {vs : List V} {H : Hp} {Q : VK} {E : XK} : sp_Rule_state K Z vs H Q E → vs.length = 2 := by
  rintro ⟨_, _, _, _, _, _, rfl, _⟩; rfl
theorem r_Rule_state {K : PySem.W.Frag} {Z : Ad} {vs : List V} {H : Hp} {Q : VK} {E : XK} (R : RuleK K Z) (h : sp_Rule_state K Z vs H Q E) : t_Rule_state K Z { nx := fun _ H' => Q .non H', rt := Q } (start N_Rule_state vs) H := by
  obtain ⟨v, b, fk, ts, S, amts, rfl, ⟨r, dx, pv, cv, nv, rfl, sr, hr, fp, fc, fn⟩, ok, hb, q⟩ := h
  show t_Rule_state K Z _ [some (.ref r), some (.ref b), none, none] H
  unfold t_Rule_state
  change fNexts S H nv (nextsOf ts) at fn
  change H r = some (.ins Z.c_Rule dx [("_people", pv), ("_cents", cv), ("_nexts", nv), ("_weight", .int (heavy fk))]) at hr
  have pos := ok.folk.pos
  walk_at "go"
  refine w_for (w_ilist ?_)
  walk_at "go"
  refine w_ilistK (SqL.of hb) ?_
  refine for_go (src_list (xs := amts.map V.int)) (fun i σ H' => ∃ o3, σ = [some (.ref r), some (.ref b), some (.int (run fk ts (amts.take i)).2), o3] ∧ Same H H') ⟨_, rfl, Same.refl _⟩ (fun i σ H' _ h => ?_) ?_ ?_
  · obtain ⟨_, _, s⟩ := h
    exact SqL.of (s _ _ hb)
  · rintro i σ H2 x H3 hi ⟨o3, rfl, s2⟩ ⟨rfl, ex⟩
    rw [List.getElem?_map] at ex
    cases ec : amts[i]? with
    | none => rw [ec] at ex; cases ex
    | some c =>
      rw [ec] at ex
      cases ex
      have nw := now_run ok (amts.take i)
      have en := run_snoc (fk := fk) (ts := ts) ec
      generalize run fk ts (amts.take i) = p at nw en
      have e0 := Int.emod_nonneg c (show heavy fk ≠ 0 by omega)
      have e1 := Int.emod_lt_of_pos c pos
      obtain ⟨row, d, er, ed, eq, rok, dok⟩ := deal_ok ok nw.lo nw.hi e0 e1
      unfold stepD at en
      rw [eq] at en
      have rlen := rok.len
      refine w_name (by simp only [List.set_cons_zero, List.set_cons_succ]; exact rfl) ?_
      walk_at "go"
      refine w_fldK (s2 _ _ hr) R.cl R.nn (by with_unfolding_all rfl) ?_
      walk_at "go"
      refine w_ixV (gNexts.same s2 fn) nw.lo (by unfold nextsOf; rw [List.length_map]; exact nw.hi) fun nu nx enx fnx => ?_
      unfold nextsOf at enx
      rw [List.getElem?_map, er] at enx
      cases enx
      walk_at "go"
      refine w_fldK (s2 _ _ hr) R.cl R.nw (by with_unfolding_all rfl) ?_
      refine w_mod pos ?_
      refine w_ixV fnx e0 (by rw [List.length_map]; omega) fun u y ey fy => ?_
      cases fy
      rw [List.getElem?_map, ed] at ey
      cases ey
      refine w_name (by simp only [List.set_cons_zero, List.set_cons_succ]; exact rfl) ?_
      exact ⟨_, by rw [en], s2⟩
  · rintro σ H2 ⟨o3, rfl, s2⟩
    rw [List.length_map, take_all]
    walk_at "go"
    exact q H2 s2
theorem div_rest {c h : Int} (pos : 0 < h) : (c - c % h) / h = c / h := by
  have e : c - c % h = h * (c / h) := by
    have := Int.mul_ediv_add_emod c h
    omega
  rw [e, Int.mul_ediv_cancel_left _ (by omega)]
abbrev fOwed : Fam (List Int × Int) := fT fLine fI
theorem gOwed : Good fOwed := gT gLine gI
end Ow

set_option Elab.async false
set_option linter.all false
set_option maxRecDepth 100000
namespace Ow
open PySem L2
local macro_rules | `(tactic| walk_at "go") => `(tactic| (repeat (with_reducible first
  | refine w_seq ?_ | refine w_asg ?_ | refine w_ret ?_ | refine w_if ?_ | refine w_next ?_ | refine w_drop ?_
  | refine w_var (by with_unfolding_all rfl) ?_ | refine w_c ?_ | refine w_op ?_ | refine w_cons ?_ | refine w_nil ?_ | refine w_cb ?_ | refine w_call ?_
  | refine w_name (by simp only [List.set_cons_zero, List.set_cons_succ]; exact rfl) ?_
  | refine w_add ?_ | refine w_sub ?_ | refine w_lt ?_ | refine w_le ?_ | refine w_gt ?_ | refine w_ge ?_ | refine w_eqI ?_ | refine w_neI ?_
  | refine w_test ?_ | refine w_testK ?_ | refine w_tB ?_ | refine w_intI ?_ | refine w_intB ?_ | refine w_max2 ?_ | refine w_min2 ?_
  | refine w_lst ?_ | refine w_tup ?_ | refine w_gSub ?_ | refine w_fld ?_ | refine w_un ?_ | refine w_neg ?_ | refine w_par ?_ | refine w_tIf ?_ | refine w_and ?_ | refine w_or ?_ | refine w_not ?_
  | refine w_mod (by omega) ?_ | refine w_div (cdiv (by omega) (by omega)) ?_ | refine w_mul (cmulL (by omega) (by omega)) ?_ | refine w_mul (cmulR (by omega) (by omega)) ?_ | refine w_pow (cpow (by omega) (by omega) (by omega) (by omega)) ?_
  | refine w_ixL (SqL.of (by assumption)) (by with_unfolding_all rfl) ?_)))
end Ow

set_option Elab.async false
set_option linter.all false
set_option maxRecDepth 100000
namespace Ow
open PySem L2
local macro_rules | `(tactic| walk_at "go") => `(tactic| (repeat (with_reducible first
  | refine w_seq ?_ | refine w_asg ?_ | refine w_ret ?_ | refine w_if ?_ | refine w_next ?_ | refine w_drop ?_
  | refine w_var (by with_unfolding_all rfl) ?_ | refine w_c ?_ | refine w_op ?_ | refine w_cons ?_ | refine w_nil ?_ | refine w_cb ?_ | refine w_call ?_
  | refine w_name (by simp only [List.set_cons_zero, List.set_cons_succ]; exact rfl) ?_
  | refine w_add ?_ | refine w_sub ?_ | refine w_lt ?_ | refine w_le ?_ | refine w_gt ?_ | refine w_ge ?_ | refine w_eqI ?_ | refine w_neI ?_
  | refine w_test ?_ | refine w_testK ?_ | refine w_tB ?_ | refine w_intI ?_ | refine w_intB ?_ | refine w_max2 ?_ | refine w_min2 ?_
  | refine w_lst ?_ | refine w_tup ?_ | refine w_gSub ?_ | refine w_fld ?_ | refine w_un ?_ | refine w_neg ?_ | refine w_par ?_ | refine w_tIf ?_ | refine w_and ?_ | refine w_or ?_ | refine w_not ?_
  | refine w_mod (by omega) ?_ | refine w_div (cdiv (by omega) (by omega)) ?_ | refine w_mul (cmulL (by omega) (by omega)) ?_ | refine w_mul (cmulR (by omega) (by omega)) ?_ | refine w_pow (cpow (by omega) (by omega) (by omega) (by omega)) ?_
  | refine w_ixL (SqL.of (by assumption)) (by with_unfolding_all rfl) ?_)))
/-! ### what is shown -/
def shwL (xs : List Int) : Str := (PyData.list (xs.map PyData.int)).shown
def owedD (p : List Int × Int) : PyData := .tuple [.list (p.1.map PyData.int), .int p.2]
theorem dp_owed {K : PySem.W.Frag} {S : Addr → Prop} {H : Hp} {v : V} {p : List Int × Int} (h : fOwed S H v p) : ∃ T a, v = .ref T ∧ S T ∧ S a ∧ H T = some (.tup [.ref a, .int p.2]) ∧ H a = some (.lst (p.1.map V.int)) ∧ Dp K H (.ref T) (owedD p) := by
  obtain ⟨T, u, w, rfl, sT, hT, f, g⟩ := h
  cases g
  obtain ⟨a, rfl, sa, ha⟩ := ints_of f
  exact ⟨T, a, rfl, sT, sa, hT, ha, .tup (SqT.of hT) (.cons (dp_ints ha) (.cons (.int _) .nil))⟩
theorem tame_owed {p : List Int × Int} (l : p.1.length ≤ 100) (i : In (-100000000000) 100000000000 p.1) (s0 : 0 ≤ p.2) (s1 : p.2 ≤ 1000000) : Tame 2 10000 (owedD p) := by
  have := Tame.tuple (j := 1) (k := 4200) (ds := [.list (p.1.map PyData.int), .int p.2]) fun d m => by
    simp only [List.mem_cons, List.not_mem_nil, or_false] at m
    rcases m with rfl | rfl
    · exact (Tame.ints (in_mono i (by decide) (by decide))).mono (Nat.le_refl 1) (by omega)
    · exact (Tame.int (by omega) (by omega)).mono (by decide) (by decide)
  exact this.mono (Nat.le_refl 2) (by show 4201 * 2 ≤ 10000; decide)
theorem addUp_in {t b : Int} (t0 : -20000 ≤ t) (t1 : t ≤ 20000) : ∀ {fk : Folk} {ss xs : List Int}, (∀ x ∈ fk.map Prod.snd, 0 ≤ x ∧ x ≤ 1000) → In (-b) b ss → In (-30000000) 30000000 xs → In (-(b + 60000000)) (b + 60000000) (addUp t fk ss xs)
  | [], _, _, _, _, _ => fun x m => by cases m
  | _ :: _, [], _, _, _, _ => fun x m => by cases m
  | _ :: _, _ :: _, [], _, _, _ => fun x m => by cases m
  | p :: fk, s :: ss, x :: xs, h1, h2, h3 => fun z m => by
    have a1 := h1 p.2 (List.mem_cons_self ..)
    have a2 := h2 s (List.mem_cons_self ..)
    have a3 := h3 x (List.mem_cons_self ..)
    rcases List.mem_cons.mp m with rfl | m
    · have u1 : t * p.2 ≤ 20000 * p.2 := Int.mul_le_mul_of_nonneg_right t1 a1.1
      have u2 : -20000 * p.2 ≤ t * p.2 := Int.mul_le_mul_of_nonneg_right t0 a1.1
      omega
    · exact addUp_in t0 t1 (fk := fk) (ss := ss) (xs := xs) (fun x m => h1 x (List.mem_cons_of_mem _ m)) (fun x m => h2 x (List.mem_cons_of_mem _ m)) (fun x m => h3 x (List.mem_cons_of_mem _ m)) z m
theorem run_in {fk : Folk} {ts : Tabs} (o : PlanOk fk ts) {amts : List Int} (ia : In (-20000) 20000 amts) : ∀ i : Nat, i ≤ amts.length → In (-(60000000 * (i : Int))) (60000000 * (i : Int)) (run fk ts (amts.take i)).1
  | 0, _ => in_zeros (by decide) (by decide) _
  | i + 1, hi => by
    have ih := run_in o ia i (by omega)
    obtain ⟨c, ec⟩ : ∃ c, amts[i]? = some c := ⟨_, List.getElem?_eq_getElem hi⟩
    have nw := now_run o (amts.take i)
    rw [run_snoc ec]
    generalize run fk ts (amts.take i) = p at ih nw
    have pos := o.folk.pos
    have hv := o.hv
    obtain ⟨row, d, er, ed, eq, rok, dok⟩ := deal_ok o nw.lo nw.hi (Int.emod_nonneg c (by omega)) (Int.emod_lt_of_pos c pos)
    unfold stepD
    rw [eq]
    have cb := in_at ia ec
    have t0 : -20000 ≤ c / heavy fk := (Int.le_ediv_iff_mul_le pos).mpr (by omega)
    have t1 : c / heavy fk ≤ 20000 := by
      have : c / heavy fk < 20001 := (Int.ediv_lt_iff_lt_mul pos).mpr (by omega)
      omega
    have fw : ∀ x ∈ fk.map Prod.snd, 0 ≤ x ∧ x ≤ 1000 := fun x m => ⟨o.folk.nn x m, by
      have := le_sum o.folk.nn x m
      change x ≤ heavy fk at this
      omega⟩
    exact in_mono (addUp_in t0 t1 fw ih dok.in_) (by omega) (by omega)
theorem run_tame {fk : Folk} {ts : Tabs} (o : PlanOk fk ts) {amts : List Int} (ia : In (-20000) 20000 amts) (la : amts.length ≤ 1000) : In (-100000000000) 100000000000 (run fk ts amts).1 ∧ (run fk ts amts).1.length ≤ 100 ∧ Tame 2 10000 (owedD (run fk ts amts)) := by
  have h := run_in o ia amts.length (Nat.le_refl _)
  rw [take_all] at h
  have nw := now_run o amts
  have l1 : (run fk ts amts).1.length ≤ 100 := by rw [nw.len]; exact (Nat.le_trans o.len (by decide))
  have i1 : In (-100000000000) 100000000000 (run fk ts amts).1 := in_mono h (by omega) (by omega)
  have lo := nw.lo
  have hi := nw.hi
  have tl := o.tl
  exact ⟨i1, l1, tame_owed l1 i1 lo (by omega)⟩
theorem tame_list {xs : List Int} (l : xs.length ≤ 100) (i : In (-100000000000) 100000000000 xs) : Tame 1 4200 (.list (xs.map PyData.int)) := (Tame.ints (in_mono i (by decide) (by decide))).mono (Nat.le_refl 1) (by omega)
end Ow

set_option Elab.async false
set_option linter.all false
set_option maxRecDepth 100000
namespace Ow
open PySem L2
local macro_rules | `(tactic| walk_at "go") => `(tactic| (repeat (with_reducible first
  | refine w_seq ?_ | refine w_asg ?_ | refine w_ret ?_ | refine w_if ?_ | refine w_next ?_ | refine w_drop ?_
  | refine w_var (by with_unfolding_all rfl) ?_ | refine w_c ?_ | refine w_op ?_ | refine w_cons ?_ | refine w_nil ?_ | refine w_cb ?_ | refine w_call ?_
  | refine w_name (by simp only [List.set_cons_zero, List.set_cons_succ]; exact rfl) ?_
  | refine w_add ?_ | refine w_sub ?_ | refine w_lt ?_ | refine w_le ?_ | refine w_gt ?_ | refine w_ge ?_ | refine w_eqI ?_ | refine w_neI ?_
  | refine w_test ?_ | refine w_testK ?_ | refine w_tB ?_ | refine w_intI ?_ | refine w_intB ?_ | refine w_max2 ?_ | refine w_min2 ?_
  | refine w_lst ?_ | refine w_tup ?_ | refine w_gSub ?_ | refine w_fld ?_ | refine w_un ?_ | refine w_neg ?_ | refine w_par ?_ | refine w_tIf ?_ | refine w_and ?_ | refine w_or ?_ | refine w_not ?_
  | refine w_mod (by omega) ?_ | refine w_div (cdiv (by omega) (by omega)) ?_ | refine w_mul (cmulL (by omega) (by omega)) ?_ | refine w_mul (cmulR (by omega) (by omega)) ?_ | refine w_pow (cpow (by omega) (by omega) (by omega) (by omega)) ?_
  | refine w_ixL (SqL.of (by assumption)) (by with_unfolding_all rfl) ?_)))
end Ow

set_option Elab.async false
set_option linter.all false
set_option maxRecDepth 100000
namespace Ow
open PySem L2
/-! ### slices and sums of lists of ints -/
section
variable {σ : St} {H : Hp} {Q : VK} {i j : Int} {K : PySem.W.Frag} {a b : Addr} {xs ys : List Int}
theorem cutV_pre {vs : List V} {i : Nat} (h : i ≤ vs.length) : cutV vs none (some (i : Int)) = vs.take i := by
  unfold cutV
  rw [HT.sIx_nat, HT.sIx_none, List.drop_zero, Nat.min_eq_left h, Nat.sub_zero]
theorem cutV_suf {vs : List V} {i : Nat} : cutV vs (some (i : Int)) none = vs.drop i := by
  unfold cutV
  rw [HT.sIx_nat, HT.sIx_none]
  by_cases h : i ≤ vs.length
  · rw [Nat.min_eq_left h, List.take_of_length_le (by rw [List.length_drop]; exact Nat.le_refl _)]
  · rw [Nat.min_eq_right (by omega), Nat.sub_self, List.take_zero, List.drop_eq_nil_of_le (by omega)]
theorem w_slPre (h : H a = some (.lst (xs.map V.int))) (h0 : 0 ≤ i) (h1 : i ≤ xs.length) (q : ∀ p H', H p = none → Ch p (.lst ((xs.take i.toNat).map V.int)) H H' → Q (.ref p) H') : rSlL K (.ref a) none (some i) H Q := by
  refine ⟨a, _, rfl, SqL.of h, fun p hp => q p _ hp ?_⟩
  have e : i = (i.toNat : Int) := by omega
  rw [e, cutV_pre (by rw [List.length_map]; omega), Int.toNat_natCast, ← List.map_take]
  exact Ch.upd
theorem w_slSuf (h : H a = some (.lst (xs.map V.int))) (h0 : 0 ≤ i) (q : ∀ p H', H p = none → Ch p (.lst ((xs.drop i.toNat).map V.int)) H H' → Q (.ref p) H') : rSlL K (.ref a) (some i) none H Q := by
  refine ⟨a, _, rfl, SqL.of h, fun p hp => q p _ hp ?_⟩
  have e : i = (i.toNat : Int) := by omega
  rw [e, cutV_suf, Int.toNat_natCast, ← List.map_drop]
  exact Ch.upd
theorem w_catI (h : H a = some (.lst (xs.map V.int))) (h' : H b = some (.lst (ys.map V.int))) (hl : xs.length + ys.length ≤ 100000) (q : ∀ p H', H p = none → Ch p (.lst ((xs ++ ys).map V.int)) H H' → Q (.ref p) H') : rCat (.ref a) (.ref b) H Q := by
  refine ⟨a, b, _, _, rfl, rfl, h, h', ?_, fun p hp => q p _ hp ?_⟩
  · rw [List.length_map, List.length_map]; exact Nat.le_trans hl (by decide)
  · rw [← List.map_append]; exact Ch.upd
end
/-! ### sums of what is dealt -/
theorem addUp_sum {t : Int} : ∀ {fk : Folk} {a b : List Int}, a.length = fk.length → b.length = fk.length → (addUp t fk a b).sum = a.sum + (t * heavy fk + b.sum)
  | [], [], [], _, _ => by show (0 : Int) = 0 + (t * 0 + 0); omega
  | [], _ :: _, _, h, _ => by simp at h
  | [], [], _ :: _, _, h => by simp at h
  | p :: fk, x :: a, y :: b, h1, h2 => by
    have ih := addUp_sum (t := t) (fk := fk) (a := a) (b := b) (by simpa using h1) (by simpa using h2)
    show (x + (t * p.2 + y) + (addUp t fk a b).sum) = (x + a.sum) + (t * (p.2 + heavy fk) + (y + b.sum))
    rw [ih, Int.mul_add]; omega
  | _ :: _, [], _, h, _ => by simp at h
  | _ :: _, _ :: _, [], _, h => by simp at h
theorem step_sum {fk : Folk} {ts : Tabs} (o : PlanOk fk ts) {p : List Int × Int} (n : Now fk ts p) (c : Int) : (stepD (heavy fk) fk ts p c).1.sum = p.1.sum + c := by
  have pos := o.folk.pos
  have e0 := Int.emod_nonneg c (b := heavy fk) (by omega)
  obtain ⟨row, d, _, _, ed, _, dok⟩ := deal_ok o n.lo n.hi e0 (Int.emod_lt_of_pos c pos)
  unfold stepD
  rw [ed]
  show (addUp (c / heavy fk) fk p.1 d.1).sum = _
  rw [addUp_sum n.len dok.len, dok.sum]
  have e1 := Int.mul_ediv_add_emod c (heavy fk)
  rw [Int.mul_comm] at e1
  omega
theorem run_sum {fk : Folk} {ts : Tabs} (o : PlanOk fk ts) (amts : List Int) : (run fk ts amts).1.sum = amts.sum := by
  have h : ∀ (amts : List Int) (p : List Int × Int), Now fk ts p → (amts.foldl (stepD (heavy fk) fk ts) p).1.sum = p.1.sum + amts.sum := by
    intro amts
    induction amts with
    | nil => intro p n; show p.1.sum = p.1.sum + 0; omega
    | cons c r ih =>
      intro p n
      rw [List.foldl_cons, ih _ (now_step o n c), step_sum o n c, List.sum_cons]; omega
  have := h amts (List.replicate fk.length 0, 0) ⟨List.length_replicate .., Int.le_refl 0, by have := o.tabs.len; show (0 : Int) < _; omega⟩
  show (amts.foldl (stepD (heavy fk) fk ts) (List.replicate fk.length 0, 0)).1.sum = _
  rw [this]
  show (List.replicate fk.length 0).sum + _ = _
  rw [sum_zeros]; omega
theorem addUp_in6 {t b : Int} (t0 : -60000 ≤ t) (t1 : t ≤ 60000) : ∀ {fk : Folk} {ss xs : List Int}, (∀ x ∈ fk.map Prod.snd, 0 ≤ x ∧ x ≤ 1000) → In (-b) b ss → In (-30000000) 30000000 xs → In (-(b + 100000000)) (b + 100000000) (addUp t fk ss xs)
  | [], _, _, _, _, _ => fun x m => by cases m
  | _ :: _, [], _, _, _, _ => fun x m => by cases m
  | _ :: _, _ :: _, [], _, _, _ => fun x m => by cases m
  | p :: fk, s :: ss, x :: xs, h1, h2, h3 => fun z m => by
    have a1 := h1 p.2 (List.mem_cons_self ..)
    have a2 := h2 s (List.mem_cons_self ..)
    have a3 := h3 x (List.mem_cons_self ..)
    rcases List.mem_cons.mp m with rfl | m
    · have u1 : t * p.2 ≤ 60000 * p.2 := Int.mul_le_mul_of_nonneg_right t1 a1.1
      have u2 : -60000 * p.2 ≤ t * p.2 := Int.mul_le_mul_of_nonneg_right t0 a1.1
      omega
    · exact addUp_in6 t0 t1 (fk := fk) (ss := ss) (xs := xs) (fun x m => h1 x (List.mem_cons_of_mem _ m)) (fun x m => h2 x (List.mem_cons_of_mem _ m)) (fun x m => h3 x (List.mem_cons_of_mem _ m)) z m
theorem run_in6 {fk : Folk} {ts : Tabs} (o : PlanOk fk ts) {amts : List Int} (ia : In (-60000) 60000 amts) : ∀ i : Nat, i ≤ amts.length → In (-(100000000 * (i : Int))) (100000000 * (i : Int)) (run fk ts (amts.take i)).1
  | 0, _ => in_zeros (by decide) (by decide) _
  | i + 1, hi => by
    have ih := run_in6 o ia i (by omega)
    obtain ⟨c, ec⟩ : ∃ c, amts[i]? = some c := ⟨_, List.getElem?_eq_getElem hi⟩
    have nw := now_run o (amts.take i)
    rw [run_snoc ec]
    generalize run fk ts (amts.take i) = p at ih nw
    have pos := o.folk.pos
    have hv := o.hv
    obtain ⟨row, d, er, ed, eq, rok, dok⟩ := deal_ok o nw.lo nw.hi (Int.emod_nonneg c (by omega)) (Int.emod_lt_of_pos c pos)
    unfold stepD
    rw [eq]
    have cb := in_at ia ec
    have t0 : -60000 ≤ c / heavy fk := (Int.le_ediv_iff_mul_le pos).mpr (by omega)
    have t1 : c / heavy fk ≤ 60000 := by
      have : c / heavy fk < 60001 := (Int.ediv_lt_iff_lt_mul pos).mpr (by omega)
      omega
    have fw : ∀ x ∈ fk.map Prod.snd, 0 ≤ x ∧ x ≤ 1000 := fun x m => ⟨o.folk.nn x m, by
      have := le_sum o.folk.nn x m
      change x ≤ heavy fk at this
      omega⟩
    exact in_mono (addUp_in6 t0 t1 fw ih dok.in_) (by omega) (by omega)
theorem run_tame6 {fk : Folk} {ts : Tabs} (o : PlanOk fk ts) {amts : List Int} (ia : In (-60000) 60000 amts) (la : amts.length ≤ 1000) : In (-100000000000) 100000000000 (run fk ts amts).1 ∧ (run fk ts amts).1.length ≤ 100 ∧ Tame 2 10000 (owedD (run fk ts amts)) := by
  have h := run_in6 o ia amts.length (Nat.le_refl _)
  rw [take_all] at h
  have nw := now_run o amts
  have l1 : (run fk ts amts).1.length ≤ 100 := by rw [nw.len]; exact Nat.le_trans o.len (by decide)
  have i1 : In (-100000000000) 100000000000 (run fk ts amts).1 := in_mono h (by omega) (by omega)
  have lo := nw.lo
  have hi := nw.hi
  have tl := o.tl
  exact ⟨i1, l1, tame_owed l1 i1 lo (by omega)⟩
/-! ### a table that does as the other -/
theorem run_sim {fk : Folk} {ts ts' : Tabs} {g : List Int} (o : PlanOk fk ts) (o' : PlanOk fk ts') (m : Sim ts ts' g) : ∀ (amts : List Int) (i : Nat), i ≤ amts.length → (run fk ts' (amts.take i)).1 = (run fk ts (amts.take i)).1 ∧ g[(run fk ts' (amts.take i)).2.toNat]? = some (run fk ts (amts.take i)).2
  | amts, 0, _ => ⟨rfl, m.zero⟩
  | amts, i + 1, hi => by
    obtain ⟨ih1, ih2⟩ := run_sim o o' m amts i (by omega)
    obtain ⟨c, ec⟩ : ∃ c, amts[i]? = some c := ⟨_, List.getElem?_eq_getElem hi⟩
    have nw := now_run o (amts.take i)
    have nw' := now_run o' (amts.take i)
    rw [run_snoc ec, run_snoc ec]
    generalize run fk ts (amts.take i) = p at ih1 ih2 nw
    generalize run fk ts' (amts.take i) = p' at ih1 ih2 nw'
    have pos := o.folk.pos
    have e0 := Int.emod_nonneg c (b := heavy fk) (by omega)
    have e1 := Int.emod_lt_of_pos c pos
    obtain ⟨row, d, er, ed, eq, _, _⟩ := deal_ok o nw.lo nw.hi e0 e1
    obtain ⟨row', d', er', ed', eq', _, _⟩ := deal_ok o' nw'.lo nw'.hi e0 e1
    obtain ⟨s, r, es, s0, s1, hr, st⟩ := m.step _ _ er'
    obtain rfl : p.2 = s := Option.some.inj (ih2.symm.trans es)
    obtain rfl : row = r := Option.some.inj (er.symm.trans hr)
    obtain ⟨d2, ed2, e3, e4⟩ := st _ _ ed'
    obtain rfl : d = d2 := Option.some.inj (ed.symm.trans ed2)
    unfold stepD
    rw [eq, eq', ih1]
    exact ⟨by show addUp _ fk p.1 d'.1 = addUp _ fk p.1 d.1; rw [e3], e4⟩

/-! ### bills behind others -/
def addL (xs ys : List Int) : List Int := List.zipWith (· + ·) xs ys
def subL (xs ys : List Int) : List Int := List.zipWith (· - ·) xs ys
theorem addL_len {xs ys : List Int} (h : ys.length = xs.length) : (addL xs ys).length = xs.length := by
  unfold addL; rw [List.length_zipWith, h, Nat.min_self]
theorem subL_len {xs ys : List Int} (h : ys.length = xs.length) : (subL xs ys).length = xs.length := by
  unfold subL; rw [List.length_zipWith, h, Nat.min_self]
theorem addL_assoc : ∀ {a b c : List Int}, addL (addL a b) c = addL a (addL b c)
  | [], _, _ => by simp [addL]
  | _ :: _, [], _ => by simp [addL]
  | _ :: _, _ :: _, [] => by simp [addL]
  | x :: a, y :: b, z :: c => by
    show (x + y + z) :: addL (addL a b) c = (x + (y + z)) :: addL a (addL b c)
    rw [addL_assoc, Int.add_assoc]
theorem addL_comm : ∀ {a b : List Int}, addL a b = addL b a
  | [], [] => rfl
  | [], _ :: _ => rfl
  | _ :: _, [] => rfl
  | x :: a, y :: b => by
    show (x + y) :: addL a b = (y + x) :: addL b a
    rw [addL_comm, Int.add_comm]
theorem addL_zeros : ∀ {a : List Int} {n : Nat}, a.length = n → addL a (List.replicate n 0) = a
  | [], _, _ => by simp [addL]
  | x :: a, 0, h => by simp at h
  | x :: a, n + 1, h => by
    rw [List.replicate_succ]
    show (x + 0) :: addL a (List.replicate n 0) = x :: a
    rw [addL_zeros (by simpa using h), Int.add_zero]
theorem subL_addL : ∀ {a b : List Int}, b.length = a.length → subL (addL a b) a = b
  | [], [], _ => rfl
  | [], _ :: _, h => by simp at h
  | _ :: _, [], h => by simp at h
  | x :: a, y :: b, h => by
    show (x + y - x) :: subL (addL a b) a = y :: b
    rw [subL_addL (by simpa using h)]
    congr 1
    omega
theorem subL_in {b : Int} : ∀ {xs ys : List Int}, In (-b) b xs → In (-b) b ys → In (-(2 * b)) (2 * b) (subL xs ys)
  | [], _, _, _ => fun x m => by cases m
  | _ :: _, [], _, _ => fun x m => by cases m
  | x :: xs, y :: ys, h1, h2 => fun z m => by
    have a1 := h1 x (List.mem_cons_self ..)
    have a2 := h2 y (List.mem_cons_self ..)
    have m' : z ∈ (x - y) :: subL xs ys := m
    rcases List.mem_cons.mp m' with rfl | m'
    · omega
    · exact subL_in (xs := xs) (ys := ys) (fun x m => h1 x (List.mem_cons_of_mem _ m)) (fun x m => h2 x (List.mem_cons_of_mem _ m)) z m'
theorem subL_at {xs ys : List Int} {i : Nat} {x y : Int} (h1 : xs[i]? = some x) (h2 : ys[i]? = some y) : (subL xs ys)[i]? = some (x - y) := by
  unfold subL
  rw [List.getElem?_zipWith, h1, h2]
/-- so many times the weights, and d -/
def baseOf (t : Int) : Folk → List Int → List Int
  | p :: fk, x :: xs => (t * p.2 + x) :: baseOf t fk xs
  | _, _ => []
theorem baseOf_len {t : Int} : ∀ {fk : Folk} {a : List Int}, a.length = fk.length → (baseOf t fk a).length = fk.length
  | [], _, _ => by simp [baseOf]
  | p :: fk, x :: a, h => congrArg Nat.succ (baseOf_len (fk := fk) (by simpa using h))
  | _ :: _, [], h => by simp at h
theorem addUp_base {t : Int} : ∀ {fk : Folk} {a b : List Int}, addUp t fk a b = addL a (baseOf t fk b)
  | [], a, _ => by simp [addUp, baseOf, addL]
  | _ :: _, [], _ => by simp [addUp, addL]
  | _ :: _, _ :: _, [] => by simp [addUp, baseOf, addL]
  | p :: fk, x :: a, y :: b => by
    show (x + (t * p.2 + y)) :: addUp t fk a b = (x + (t * p.2 + y)) :: addL a (baseOf t fk b)
    rw [addUp_base]
def timesW (t : Int) (fk : Folk) : List Int := fk.map fun p => t * p.2
theorem timesW_len {t : Int} {fk : Folk} : (timesW t fk).length = fk.length := List.length_map ..
theorem base_more {t u : Int} : ∀ {fk : Folk} {b : List Int}, b.length = fk.length → baseOf (t + u) fk b = addL (timesW u fk) (baseOf t fk b)
  | [], _, _ => by simp [baseOf, timesW, addL]
  | _ :: _, [], h => by simp at h
  | p :: fk, y :: b, h => by
    show ((t + u) * p.2 + y) :: baseOf (t + u) fk b = (u * p.2 + (t * p.2 + y)) :: addL (timesW u fk) (baseOf t fk b)
    rw [base_more (by simpa using h), Int.add_mul]
    congr 1
    omega
/-- what bills bring from a state on, whatever was dealt before -/
theorem from_state {fk : Folk} {ts : Tabs} (o : PlanOk fk ts) : ∀ (amts : List Int) (s : Int), 0 ≤ s → s < ts.length →
    ∃ (dl : List Int) (s' : Int), dl.length = fk.length ∧ ∀ p : List Int × Int, p.1.length = fk.length → p.2 = s → amts.foldl (stepD (heavy fk) fk ts) p = (addL p.1 dl, s')
  | [], s, _, _ => ⟨List.replicate fk.length 0, s, List.length_replicate .., fun p hl hs => by
      show p = _
      rw [addL_zeros hl, ← hs]⟩
  | c :: r, s, h0, h1 => by
    have pos := o.folk.pos
    obtain ⟨row, d, _, _, ed, _, dok⟩ := deal_ok o h0 h1 (Int.emod_nonneg c (show heavy fk ≠ 0 by omega)) (Int.emod_lt_of_pos c pos)
    obtain ⟨dl, s', hl, hq⟩ := from_state o r d.2 dok.lo dok.hi
    refine ⟨addL (baseOf (c / heavy fk) fk d.1) dl, s', ?_, fun p pl ps => ?_⟩
    · rw [addL_len (by rw [baseOf_len dok.len, hl]), baseOf_len dok.len]
    · rw [List.foldl_cons]
      have e : stepD (heavy fk) fk ts p c = (addL p.1 (baseOf (c / heavy fk) fk d.1), d.2) := by
        unfold stepD
        rw [ps, ed, addUp_base]
      rw [e, hq (addL p.1 (baseOf (c / heavy fk) fk d.1), d.2) (by show (addL p.1 _).length = _; rw [addL_len (by rw [baseOf_len dok.len, pl]), pl]) rfl]
      show (addL (addL p.1 _) dl, s') = _
      rw [addL_assoc]
theorem run_app {fk : Folk} {ts : Tabs} {a b : List Int} : run fk ts (a ++ b) = b.foldl (stepD (heavy fk) fk ts) (run fk ts a) := by
  unfold run; rw [List.foldl_append]
/-- bills behind two lists that lead to one state -/
theorem run_behind {fk : Folk} {ts : Tabs} (o : PlanOk fk ts) {a b t : List Int} (h : (run fk ts a).2 = (run fk ts b).2) :
    (run fk ts (a ++ t)).2 = (run fk ts (b ++ t)).2 ∧ subL (run fk ts (a ++ t)).1 (run fk ts a).1 = subL (run fk ts (b ++ t)).1 (run fk ts b).1 := by
  have na := now_run o a
  have nb := now_run o b
  obtain ⟨dl, s', hl, hq⟩ := from_state o t (run fk ts a).2 na.lo na.hi
  rw [run_app, run_app, hq _ na.len rfl, hq _ nb.len h.symm]
  refine ⟨rfl, ?_⟩
  rw [subL_addL (by rw [hl, na.len]), subL_addL (by rw [hl, nb.len])]
/-- a bill that is greater by whole weights -/
theorem run_raised {fk : Folk} {ts : Tabs} (o : PlanOk fk ts) {a : List Int} {i : Nat} {c t : Int} (h : a[i]? = some c) :
    (run fk ts (a.set i (c + t * heavy fk))).2 = (run fk ts a).2 ∧ subL (run fk ts (a.set i (c + t * heavy fk))).1 (run fk ts a).1 = timesW t fk := by
  have pos := o.folk.pos
  have hi := (List.getElem?_eq_some_iff.mp h).1
  have e1 : a = (a.take i ++ [c]) ++ a.drop (i + 1) := by rw [take_snoc h, List.take_append_drop]
  have e2 : a.set i (c + t * heavy fk) = (a.take i ++ [c + t * heavy fk]) ++ a.drop (i + 1) := by
    rw [List.set_eq_take_append_cons_drop, if_pos hi, List.append_assoc]; rfl
  have nw := now_run o (a.take i)
  obtain ⟨row, d, _, _, ed, _, dok⟩ := deal_ok o nw.lo nw.hi (Int.emod_nonneg c (show heavy fk ≠ 0 by omega)) (Int.emod_lt_of_pos c pos)
  have m1 : (c + t * heavy fk) % heavy fk = c % heavy fk := Int.add_mul_emod_self_right ..
  have m2 : (c + t * heavy fk) / heavy fk = c / heavy fk + t := Int.add_mul_ediv_right _ _ (by omega)
  have r1 : run fk ts (a.take i ++ [c]) = (addL (run fk ts (a.take i)).1 (baseOf (c / heavy fk) fk d.1), d.2) := by
    rw [run_app]
    show stepD _ _ _ _ c = _
    unfold stepD
    rw [ed, addUp_base]
  have r2 : run fk ts (a.take i ++ [c + t * heavy fk]) = (addL (run fk ts (a.take i)).1 (baseOf (c / heavy fk + t) fk d.1), d.2) := by
    rw [run_app]
    show stepD _ _ _ _ (c + t * heavy fk) = _
    unfold stepD
    rw [m1, m2, ed, addUp_base]
  have bl := baseOf_len (t := c / heavy fk) dok.len
  obtain ⟨dl, s', hl, hq⟩ := from_state o (a.drop (i + 1)) d.2 dok.lo dok.hi
  have l1 : (addL (run fk ts (a.take i)).1 (baseOf (c / heavy fk) fk d.1)).length = fk.length := by rw [addL_len (by rw [bl, nw.len]), nw.len]
  have f1 : run fk ts a = (addL (addL (run fk ts (a.take i)).1 (baseOf (c / heavy fk) fk d.1)) dl, s') := by
    conv => lhs; rw [e1]
    rw [run_app, r1, hq (addL (run fk ts (a.take i)).1 (baseOf (c / heavy fk) fk d.1), d.2) l1 rfl]
  have f2 : run fk ts (a.set i (c + t * heavy fk)) = (addL (addL (addL (run fk ts (a.take i)).1 (baseOf (c / heavy fk) fk d.1)) dl) (timesW t fk), s') := by
    rw [e2, run_app, r2, base_more dok.len]
    have e3 : addL (run fk ts (a.take i)).1 (addL (timesW t fk) (baseOf (c / heavy fk) fk d.1)) = addL (addL (run fk ts (a.take i)).1 (baseOf (c / heavy fk) fk d.1)) (timesW t fk) := by
      rw [addL_comm (a := timesW t fk), addL_assoc]
    rw [e3, hq (addL (addL (run fk ts (a.take i)).1 (baseOf (c / heavy fk) fk d.1)) (timesW t fk), d.2) (by show (addL _ _).length = _; rw [addL_len (by rw [l1, timesW_len]), l1]) rfl]
    show (addL (addL _ (timesW t fk)) dl, s') = _
    rw [addL_assoc, addL_comm (a := timesW t fk), ← addL_assoc]
  rw [f1, f2]
  refine ⟨rfl, ?_⟩
  rw [subL_addL]
  rw [addL_len (by rw [hl, l1]), l1, timesW_len]
end Ow

set_option Elab.async false
set_option linter.all false
set_option maxRecDepth 100000
namespace Ow
open PySem L2
local macro_rules | `(tactic| walk_at "go") => `(tactic| (repeat (with_reducible first
  | refine w_seq ?_ | refine w_asg ?_ | refine w_ret ?_ | refine w_if ?_ | refine w_next ?_ | refine w_drop ?_
  | refine w_var (by with_unfolding_all rfl) ?_ | refine w_c ?_ | refine w_op ?_ | refine w_cons ?_ | refine w_nil ?_ | refine w_cb ?_ | refine w_call ?_
  | refine w_name (by simp only [List.set_cons_zero, List.set_cons_succ]; exact rfl) ?_
  | refine w_add ?_ | refine w_sub ?_ | refine w_lt ?_ | refine w_le ?_ | refine w_gt ?_ | refine w_ge ?_ | refine w_eqI ?_ | refine w_neI ?_
  | refine w_test ?_ | refine w_testK ?_ | refine w_tB ?_ | refine w_intI ?_ | refine w_intB ?_ | refine w_max2 ?_ | refine w_min2 ?_
  | refine w_lst ?_ | refine w_tup ?_ | refine w_gSub ?_ | refine w_fld ?_ | refine w_un ?_ | refine w_neg ?_ | refine w_par ?_ | refine w_tIf ?_ | refine w_and ?_ | refine w_or ?_ | refine w_not ?_
  | refine w_mod (by omega) ?_ | refine w_div (cdiv (by omega) (by omega)) ?_ | refine w_mul (cmulL (by omega) (by omega)) ?_ | refine w_mul (cmulR (by omega) (by omega)) ?_ | refine w_pow (cpow (by omega) (by omega) (by omega) (by omega)) ?_
  | refine w_ixL (SqL.of (by assumption)) (by with_unfolding_all rfl) ?_)))
/-! ### what a rule tells of itself -/
theorem w_list1TN {K : PySem.W.Frag} {H : Hp} {Q : VK} {a : Addr} {xs : List V} (h : SqT K H a xs) (q : ∀ l H', H l = none → Ch l (.lst xs) H H' → Q (.ref l) H') : rList1 K [.ref a] H Q := ⟨a, xs, rfl, .inr h, fun l hl => q l _ hl Ch.upd⟩
def sp_Rule_people (K : PySem.W.Frag) (Z : Ad) : Sp := fun vs H Q _ => ∃ (v : V) (fk : Folk) (ts : Tabs) (S : Addr → Prop), vs = [v] ∧ fRule Z S H v (fk, ts) ∧ ∀ l us H', Same H H' → H l = none → H' l = some (.lst us) → All2 (fT fS fI S H) us fk → Q (.ref l) H'
abbrev N_Rule_people : List Str := ["self"]
def t_Rule_people (K : PySem.W.Frag) (Z : Ad) : TS :=
  (tRet (tCB (rList1 K) (tCons (tFld K (tVar 0) "_people") tNil)))
theorem l_Rule_people {K : PySem.W.Frag} {Z : Ad} {vs : List V} {H : Hp} {Q : VK} {E : XK} : sp_Rule_people K Z vs H Q E → vs.length = 1 := by
  rintro ⟨_, _, _, _, rfl, _⟩; rfl
theorem r_Rule_people {K : PySem.W.Frag} {Z : Ad} {vs : List V} {H : Hp} {Q : VK} {E : XK} (R : RuleK K Z) (h : sp_Rule_people K Z vs H Q E) : t_Rule_people K Z { nx := fun _ H' => Q .non H', rt := Q } (start N_Rule_people vs) H := by
  obtain ⟨v, fk, ts, S, rfl, ⟨r, dx, pv, cv, nv, rfl, sr, hr, fp, fc, fn⟩, q⟩ := h
  show t_Rule_people K Z _ [some (.ref r)] H
  unfold t_Rule_people
  change fPeople S H pv fk at fp
  walk_at "go"
  refine w_fldK hr R.cl R.np (by with_unfolding_all rfl) ?_
  walk_at "go"
  obtain ⟨a, us, rfl, _, ha, al⟩ := fp
  exact w_list1TN (SqT.of ha) fun l H' nl c => q l us H' (c.same nl) nl c.at_ al
def sp_Rule_weight (K : PySem.W.Frag) (Z : Ad) : Sp := fun vs H Q _ => ∃ (v : V) (fk : Folk) (ts : Tabs) (S : Addr → Prop), vs = [v] ∧ fRule Z S H v (fk, ts) ∧ ∀ H', Same H H' → Q (.int (heavy fk)) H'
def sp_Rule___len__ (K : PySem.W.Frag) (Z : Ad) : Sp := fun vs H Q _ => ∃ (v : V) (fk : Folk) (ts : Tabs) (S : Addr → Prop), vs = [v] ∧ fRule Z S H v (fk, ts) ∧ ∀ H', Same H H' → Q (.int ts.length) H'
abbrev N_Rule___len__ : List Str := ["self"]
def t_Rule___len__ (K : PySem.W.Frag) (Z : Ad) : TS :=
  (tRet (tCB (rLen K) (tCons (tFld K (tVar 0) "_nexts") tNil)))
theorem l_Rule___len__ {K : PySem.W.Frag} {Z : Ad} {vs : List V} {H : Hp} {Q : VK} {E : XK} : sp_Rule___len__ K Z vs H Q E → vs.length = 1 := by
  rintro ⟨_, _, _, _, rfl, _⟩; rfl
theorem r_Rule___len__ {K : PySem.W.Frag} {Z : Ad} {vs : List V} {H : Hp} {Q : VK} {E : XK} (R : RuleK K Z) (h : sp_Rule___len__ K Z vs H Q E) : t_Rule___len__ K Z { nx := fun _ H' => Q .non H', rt := Q } (start N_Rule___len__ vs) H := by
  obtain ⟨v, fk, ts, S, rfl, ⟨r, dx, pv, cv, nv, rfl, sr, hr, fp, fc, fn⟩, q⟩ := h
  show t_Rule___len__ K Z _ [some (.ref r)] H
  unfold t_Rule___len__
  change fNexts S H nv (nextsOf ts) at fn
  walk_at "go"
  refine w_fldK hr R.cl R.nn (by with_unfolding_all rfl) ?_
  walk_at "go"
  obtain ⟨a, us, rfl, _, ha, al⟩ := fn
  refine w_lenT (SqT.of ha) ?_
  rw [al.length]
  unfold nextsOf
  rw [List.length_map]
  exact q H (Same.refl _)
def sp_Rule_place (K : PySem.W.Frag) (Z : Ad) : Sp := fun vs H Q _ => ∃ (v : V) (fk : Folk) (ts : Tabs) (S : Addr → Prop) (i : Nat) (p : Str × Int), vs = [v, .str p.1] ∧ fRule Z S H v (fk, ts) ∧ FolkOk fk ∧ fk[i]? = some p ∧ ∀ H', Same H H' → Q (.int i) H'
abbrev N_Rule_place : List Str := ["self", "name", "place", "known", "_"]
def t_Rule_place (K : PySem.W.Frag) (Z : Ad) : TS :=
  (tSeq (tFor (Ow.iEnumT K (tCons (tFld K (tVar 0) "_people") tNil)) (gTup K 2 (gCons (gName 2) (gCons (gTup K 2 (gCons (gName 3) (gCons (gName 4) gNil))) gNil))) (tIfS (tTest (tOp rEq (tVar 3) (tVar 1))) (tRet (tVar 2)) tNext)) tNever)
theorem l_Rule_place {K : PySem.W.Frag} {Z : Ad} {vs : List V} {H : Hp} {Q : VK} {E : XK} : sp_Rule_place K Z vs H Q E → vs.length = 2 := by
  rintro ⟨_, _, _, _, _, _, rfl, _⟩; rfl
theorem r_Rule_place {K : PySem.W.Frag} {Z : Ad} {vs : List V} {H : Hp} {Q : VK} {E : XK} (R : RuleK K Z) (h : sp_Rule_place K Z vs H Q E) : t_Rule_place K Z { nx := fun _ H' => Q .non H', rt := Q } (start N_Rule_place vs) H := by
  obtain ⟨v, fk, ts, S, i, p, rfl, ⟨r, dx, pv, cv, nv, rfl, sr, hr, fp, fc, fn⟩, fo, ei, q⟩ := h
  show t_Rule_place K Z _ [some (.ref r), some (.str p.1), none, none, none] H
  unfold t_Rule_place
  change fPeople S H pv fk at fp
  obtain ⟨pa, us, rfl, spa, hpa, al⟩ := fp
  walk_at "go"
  refine w_for (w_enumT ?_)
  walk_at "go"
  refine w_fldK hr R.cl R.np (by with_unfolding_all rfl) ?_
  walk_at "go"
  refine w_enumTK (SqT.of hpa) ?_
  refine for_go (src_enumT (xs := us)) (fun j σ H' => ∃ o2 o3 o4, σ = [some (.ref r), some (.str p.1), o2, o3, o4] ∧ Same H H' ∧ j ≤ i) ⟨_, _, _, rfl, Same.refl _, Nat.zero_le _⟩ (fun j σ H' _ h => ?_) ?_ ?_
  · obtain ⟨_, _, _, _, s, _⟩ := h
    exact SqT.of (s _ _ hpa)
  · rintro j σ H2 x H3 hj ⟨o2, o3, o4, rfl, s2, hji⟩ ⟨T, z, rfl, nT, rfl, ez⟩
    obtain ⟨w, ew, fw⟩ := al.get ez
    have s3 : Same H2 (upd H2 T (.tup [.int (j : Nat), z])) := snew nT
    have hT : upd H2 T (.tup [.int (j : Nat), z]) T = some (.tup [.int (j : Nat), z]) := upd_same
    generalize upd H2 T (.tup [.int (j : Nat), z]) = H3 at s3 hT
    have S3 := s2.trans s3
    refine w_gTup (SqT.of hT) rfl ?_
    refine w_gCons (w_name (by simp only [List.set_cons_zero, List.set_cons_succ]; exact rfl) ?_)
    refine w_gCons (w_gT2 ((gT gS gI).same S3 fw) fun u1 u2 f1 f2 => ?_)
    cases f1; cases f2
    refine w_gCons (w_name (by simp only [List.set_cons_zero, List.set_cons_succ]; exact rfl) ?_)
    refine w_gCons (w_name (by simp only [List.set_cons_zero, List.set_cons_succ]; exact rfl) ?_)
    refine w_gNil (w_gNil ?_)
    walk_at "go"
    refine w_eqS ?_
    walk_at "go"
    refine w_ite (fun e => ?_) fun e => ?_
    · walk_at "go"
      have ji := fo.dist j i p.1 (by rw [List.getElem?_map, ew, ← e]; rfl) (by rw [List.getElem?_map, ei]; rfl)
      subst ji
      exact q _ S3
    · walk_at "go"
      refine ⟨_, _, _, rfl, S3, ?_⟩
      by_cases ji : j = i
      · subst ji
        obtain rfl : w = p := Option.some.inj (ew.symm.trans ei)
        exact absurd rfl e
      · omega
  · rintro σ H2 ⟨o2, o3, o4, rfl, s2, hji⟩
    have := (List.getElem?_eq_some_iff.mp ei).1
    rw [al.length] at hji
    omega
def sp_Rule___getitem__ (K : PySem.W.Frag) (Z : Ad) : Sp := fun vs H Q _ => ∃ (v : V) (fk : Folk) (ts : Tabs) (S : Addr → Prop) (i : Nat) (p : Str × Int), vs = [v, .str p.1] ∧ fRule Z S H v (fk, ts) ∧ FolkOk fk ∧ fk[i]? = some p ∧ ∀ H', Same H H' → Q (.int p.2) H'
abbrev N_Rule___getitem__ : List Str := ["self", "at"]
def t_Rule___getitem__ (K : PySem.W.Frag) (Z : Ad) : TS :=
  (tRet (tOp (rIxT K) (tOp (rIxT K) (tFld K (tVar 0) "_people") (tMeth Z.c_Rule "place" (sp_Rule_place K Z) [] E0 (tVar 0) (tCons (tVar 1) tNil))) (tC (.int 1))))
theorem l_Rule___getitem__ {K : PySem.W.Frag} {Z : Ad} {vs : List V} {H : Hp} {Q : VK} {E : XK} : sp_Rule___getitem__ K Z vs H Q E → vs.length = 2 := by
  rintro ⟨_, _, _, _, _, _, rfl, _⟩; rfl
theorem r_Rule___getitem__ {K : PySem.W.Frag} {Z : Ad} {vs : List V} {H : Hp} {Q : VK} {E : XK} (R : RuleK K Z) (h : sp_Rule___getitem__ K Z vs H Q E) : t_Rule___getitem__ K Z { nx := fun _ H' => Q .non H', rt := Q } (start N_Rule___getitem__ vs) H := by
  obtain ⟨v, fk, ts, S, i, p, rfl, fr, fo, ei, q⟩ := h
  obtain ⟨r, dx, pv, cv, nv, rfl, sr, hr, fp, fc, fn⟩ := id fr
  show t_Rule___getitem__ K Z _ [some (.ref r), some (.str p.1)] H
  unfold t_Rule___getitem__
  change fPeople S H pv fk at fp
  walk_at "go"
  refine w_fldK hr R.cl R.np (by with_unfolding_all rfl) ?_
  refine w_meth ?_
  walk_at "go"
  refine w_methK hr (by with_unfolding_all rfl) ?_
  walk_at "go"
  refine ⟨.ref r, fk, ts, S, i, p, rfl, fr, fo, ei, fun H1 s1 => ?_⟩
  have hi := (List.getElem?_eq_some_iff.mp ei).1
  refine w_ixV (gPeople.same s1 fp) (by omega) (by omega) fun u x ex fx => ?_
  rw [Int.toNat_natCast] at ex
  obtain rfl : x = p := Option.some.inj (ex.symm.trans ei)
  walk_at "go"
  refine w_ixP1 fx fun z f2 => ?_
  cases f2
  exact q _ s1
/-! ### its states -/
theorem colsI_back {n m : Nat} {rows : List (List Int)} (hm : rows.length = m) (hn : ∀ r ∈ rows, r.length = n) : colsI m (colsI n rows) = rows := by
  symm
  unfold colsI
  refine map_is hm fun i x ex => ?_
  have lx := hn x (List.mem_of_getElem? ex)
  rw [List.map_map]
  refine map_is lx fun j y ey => ?_
  show y = (rows.map fun r => r.getD j 0).getD i 0
  rw [List.getD_eq_getElem?_getD, List.getElem?_map, ex]
  show y = x.getD j 0
  rw [List.getD_eq_getElem?_getD, ey]; rfl
def lzmK (K : PySem.W.Frag) (Q : VK) (vs : List V) (H1 : Hp) : Prop := ∃ (ks : List (Bool × Nat)) (xss : List (List V)) (m : Nat), vs = refsOf ks ∧ Srcs K H1 ks xss ∧ 1 ≤ ks.length ∧ ks.length ≤ 16 ∧ (∀ xs ∈ xss, xs.length = m) ∧ m ≤ 100000 ∧
  ∀ (l : Addr) (as : List Addr) (H2 : Hp), H1 l = none → Same H1 H2 → H2 l = some (.lst (as.map V.ref)) → as.length = m → (∀ (j : Nat) (a : Addr), as[j]? = some a → H1 a = none ∧ H2 a = some (.tup (colAt xss j))) → Q (.ref l) H2
theorem w_lzM {K : PySem.W.Frag} {ta : TA} {σ : St} {H : Hp} {Q : VK} (h : ta σ H fun vs H1 => lzmK K Q vs H1) : tListZipM K ta σ H Q := h
theorem all2_idx {α β : Type} {R : α → β → Prop} {vs : List α} {xs : List β} (hl : vs.length = xs.length) (h : ∀ (j : Nat) u x, vs[j]? = some u → xs[j]? = some x → R u x) : All2 R vs xs := all2_of hl h
theorem lzm_deals {K : PySem.W.Frag} {S S' : Addr → Prop} {H : Hp} {Q : VK} {u z : V} {xss : List (List Int)} {ns : List Int} (fu : fL (fL fI) S H u xss) (fz : fV fI S' H z ns) (hl : xss.length = ns.length) (h5 : ns.length ≤ 100000)
    (q : ∀ l H2, Same H H2 → fRow (fun a => S a ∨ H a = none) H2 l (xss.zip ns) → Q l H2) : lzmK K Q [u, z] H := by
  obtain ⟨a, vs, rfl, sa, ha, al⟩ := fu
  obtain ⟨b, rfl, sb, hb⟩ := tupI_of fz
  refine ⟨[(false, a), (true, b)], [vs, ns.map V.int], ns.length, rfl, .cons (SqL.of ha) (.cons (SqT.of hb) .nil), by show 1 ≤ 2; decide, by show 2 ≤ 16; decide, fun x mx => ?_, h5, fun l as H2 nl s hl2 la ha2 => ?_⟩
  · simp only [List.mem_cons, List.not_mem_nil, or_false] at mx
    rcases mx with rfl | rfl
    · rw [al.length, hl]
    · rw [List.length_map]
  · refine q _ _ s ⟨l, _, rfl, .inr nl, hl2, all2_of (by rw [List.length_map, la, List.length_zip, hl, Nat.min_self]) fun j u x eu ex => ?_⟩
    rw [List.getElem?_map] at eu
    cases e : as[j]? with
    | none => rw [e] at eu; cases eu
    | some t =>
      rw [e] at eu
      cases eu
      obtain ⟨nt, ht⟩ := ha2 j t e
      have hj : j < xss.length ∧ j < ns.length := by
        have := (List.getElem?_eq_some_iff.mp ex).1
        rw [List.length_zip] at this
        omega
      obtain ⟨xs, exs⟩ : ∃ xs, xss[j]? = some xs := ⟨_, List.getElem?_eq_getElem hj.1⟩
      obtain ⟨y, ey⟩ : ∃ y, ns[j]? = some y := ⟨_, List.getElem?_eq_getElem hj.2⟩
      obtain ⟨v, ev, fv⟩ := al.getR exs
      have exy : x = (xs, y) := by
        have : (xss.zip ns)[j]? = some (xs, y) := by
          rw [List.getElem?_zip_eq_some]; exact ⟨exs, ey⟩
        exact Option.some.inj (ex.symm.trans this)
      subst exy
      have hc : colAt [vs, ns.map V.int] j = [v, .int y] := by
        show [vs.getD j .non, (ns.map V.int).getD j .non] = _
        rw [List.getD_eq_getElem?_getD, List.getD_eq_getElem?_getD, ev, List.getElem?_map, ey]; rfl
      rw [hc] at ht
      exact ⟨t, v, .int y, rfl, .inr nt, ht, gLine.mono (fun _ s => .inl s) (gLine.same s fv), rfl⟩
theorem zip_back (r : Row) : (r.map Prod.fst).zip (r.map Prod.snd) = r := by
  induction r with
  | nil => rfl
  | cons p r ih =>
    show (p.1, p.2) :: (r.map Prod.fst).zip (r.map Prod.snd) = p :: r
    rw [ih]
theorem nexts_at {ts : Tabs} {i : Nat} {ns : List Int} (h : (nextsOf ts)[i]? = some ns) : ∃ r, ts[i]? = some r ∧ ns = r.map Prod.snd := by
  unfold nextsOf at h
  rw [List.getElem?_map] at h
  cases e : ts[i]? with
  | none => rw [e] at h; cases h
  | some r => rw [e] at h; cases h; exact ⟨r, rfl, rfl⟩
theorem cents_at {n : Nat} {ts : Tabs} {i : Nat} {cs : List (List Int)} {r : Row} (h : (centsOf n ts)[i]? = some cs) (e : ts[i]? = some r) : cs = colsI n (r.map Prod.fst) := by
  unfold centsOf at h
  rw [List.getElem?_map, e] at h
  cases h; rfl
theorem PlanOk.npos {fk : Folk} {ts : Tabs} (ok : PlanOk fk ts) : 1 ≤ fk.length := by
  have pos := ok.folk.pos
  rcases Nat.eq_zero_or_pos fk.length with z | z
  · rw [List.length_eq_zero_iff.mp z] at pos; exact absurd pos (by decide)
  · exact z
def sp_Rule_states (K : PySem.W.Frag) (Z : Ad) : Sp := fun vs H Q _ => ∃ (v : V) (fk : Folk) (ts : Tabs) (S : Addr → Prop), vs = [v] ∧ fRule Z S H v (fk, ts) ∧ PlanOk fk ts ∧ ∀ v H', Same H H' → fTabs (New H) H' v ts → Q v H'
abbrev N_Rule_states : List Str := ["self", "k", "row"]
def t_Rule_states (K : PySem.W.Frag) (Z : Ad) : TS :=
  (tRet (tLc (Ow.iEnumT K (tCons (tFld K (tVar 0) "_nexts") tNil)) (gTup K 2 (gCons (gName 1) (gCons (gName 2) gNil))) tYes (Ow.tListZipM K (tCons (tCall (sp_rows_of K Z) [] E0 (tCons (tOp (rIxT K) (tFld K (tVar 0) "_cents") (tVar 1)) tNil)) (tCons (tVar 2) tNil))) [1, 2]))
theorem l_Rule_states {K : PySem.W.Frag} {Z : Ad} {vs : List V} {H : Hp} {Q : VK} {E : XK} : sp_Rule_states K Z vs H Q E → vs.length = 1 := by
  rintro ⟨_, _, _, _, rfl, _⟩; rfl
theorem r_Rule_states {K : PySem.W.Frag} {Z : Ad} {vs : List V} {H : Hp} {Q : VK} {E : XK} (R : RuleK K Z) (h : sp_Rule_states K Z vs H Q E) : t_Rule_states K Z { nx := fun _ H' => Q .non H', rt := Q } (start N_Rule_states vs) H := by
  obtain ⟨v, fk, ts, S, rfl, ⟨r, dx, pv, cv, nv, rfl, sr, hr, fp, fc, fn⟩, ok, q⟩ := h
  show t_Rule_states K Z _ [some (.ref r), none, none] H
  unfold t_Rule_states
  change fCents S H cv (centsOf fk.length ts) at fc
  change fNexts S H nv (nextsOf ts) at fn
  change H r = some (.ins Z.c_Rule dx [("_people", pv), ("_cents", cv), ("_nexts", nv), ("_weight", .int (heavy fk))]) at hr
  have hv := ok.hv
  have lf := ok.len
  have tl := ok.tl
  walk_at "go"
  refine w_lc (w_enumT ?_)
  walk_at "go"
  refine w_fldK hr R.cl R.nn (by with_unfolding_all rfl) ?_
  walk_at "go"
  obtain ⟨na, nvs, rfl, sna, hna, nal⟩ := fn
  have nl : nvs.length = ts.length := by rw [nal.length]; unfold nextsOf; rw [List.length_map]
  refine w_enumTK (SqT.of hna) ?_
  refine lc_same gRow (src_enumT (xs := nvs)) (fun i as => as = ts.take i) (by omega) rfl (fun H' s => SqT.of (s _ _ hna)) ?_ ?_
  · rintro i as H1 x H2 N N' hi rfl s1 ⟨T, z, rfl, nT, rfl, ez⟩ hN hN'
    obtain ⟨ns, ens, fns⟩ := nal.get ez
    obtain ⟨row, er, rfl⟩ := nexts_at ens
    have rok := ok.tabs.row i row er
    have rl := rok.len
    have s2 : Same H1 (upd H1 T (.tup [.int (i : Nat), z])) := snew nT
    have hT : upd H1 T (.tup [.int (i : Nat), z]) T = some (.tup [.int (i : Nat), z]) := upd_same
    generalize upd H1 T (.tup [.int (i : Nat), z]) = H2 at s2 hT
    have s12 := s1.trans s2
    refine w_gTup (SqT.of hT) rfl ?_
    refine w_gCons (w_name (by simp only [wipe, List.set_cons_zero, List.set_cons_succ]; exact rfl) ?_)
    refine w_gCons (w_name (by simp only [wipe, List.set_cons_zero, List.set_cons_succ]; exact rfl) ?_)
    refine w_gNil ⟨rfl, w_yes (w_iteT ?_)⟩
    refine w_lzM ?_
    walk_at "go"
    refine w_fldK (s12 _ _ hr) R.cl R.nc (by with_unfolding_all rfl) ?_
    walk_at "go"
    refine w_ixV (gCents.same s12 fc) (by omega) (by unfold centsOf; rw [List.length_map]; omega) fun cu cs ecs fcs => ?_
    rw [Int.toNat_natCast] at ecs
    obtain rfl := cents_at ecs er
    have ln : ∀ x ∈ row.map Prod.fst, x.length = fk.length := fun x mx => by
      obtain ⟨p, mp, rfl⟩ := List.mem_map.mp mx
      obtain ⟨e, he⟩ := List.mem_iff_getElem?.mp mp
      exact (rok.deal e p he).len
    walk_at "go"
    refine ⟨cu, _, row.length, S, rfl, fcs, by rw [colsI_len]; exact ok.npos, by rw [colsI_len]; exact lf, fun c mc => ?_, by omega, fun u H3 s3 fu => ?_⟩
    · unfold colsI at mc
      obtain ⟨j, _, rfl⟩ := List.mem_map.mp mc
      rw [List.length_map, List.length_map]
    rw [colsI_back (by rw [List.length_map]) ln] at fu
    walk_at "go"
    refine lzm_deals fu ((gV gI).same (s12.trans s3) fns) (by rw [List.length_map, List.length_map]) (by rw [List.length_map]; omega) fun l H4 s4 fl => ?_
    rw [zip_back] at fl
    refine hN l row H4 (s2.trans (s3.trans s4)) (gRow.mono (fun a s => ?_) fl) (take_snoc er)
    rcases s with s | s
    · exact dom_same s2 a s
    · exact dom_same (s2.trans s3) a s
  · rintro D as H1 nD s1 rfl f
    rw [nl, take_all] at f
    exact q _ H1 s1 f
end Ow

set_option Elab.async false
set_option linter.all false
set_option maxRecDepth 100000
namespace Ow
open PySem L2
local macro_rules | `(tactic| walk_at "go") => `(tactic| (repeat (with_reducible first
  | refine w_seq ?_ | refine w_asg ?_ | refine w_ret ?_ | refine w_if ?_ | refine w_next ?_ | refine w_drop ?_
  | refine w_var (by with_unfolding_all rfl) ?_ | refine w_c ?_ | refine w_op ?_ | refine w_cons ?_ | refine w_nil ?_ | refine w_cb ?_ | refine w_call ?_
  | refine w_name (by simp only [List.set_cons_zero, List.set_cons_succ]; exact rfl) ?_
  | refine w_add ?_ | refine w_sub ?_ | refine w_lt ?_ | refine w_le ?_ | refine w_gt ?_ | refine w_ge ?_ | refine w_eqI ?_ | refine w_neI ?_
  | refine w_test ?_ | refine w_testK ?_ | refine w_tB ?_ | refine w_intI ?_ | refine w_intB ?_ | refine w_max2 ?_ | refine w_min2 ?_
  | refine w_lst ?_ | refine w_tup ?_ | refine w_gSub ?_ | refine w_fld ?_ | refine w_un ?_ | refine w_neg ?_ | refine w_par ?_ | refine w_tIf ?_ | refine w_and ?_ | refine w_or ?_ | refine w_not ?_
  | refine w_mod (by omega) ?_ | refine w_div (cdiv (by omega) (by omega)) ?_ | refine w_mul (cmulL (by omega) (by omega)) ?_ | refine w_mul (cmulR (by omega) (by omega)) ?_ | refine w_pow (cpow (by omega) (by omega) (by omega) (by omega)) ?_
  | refine w_ixL (SqL.of (by assumption)) (by with_unfolding_all rfl) ?_)))
structure LinesB (n : Nat) (b : Int) (ls : Lines) : Prop where
  row : ∀ (i : Nat) l, ls[i]? = some l → l.length = n ∧ l.sum = i ∧ In (-b) b l
  zero : ∀ l, ls[0]? = some l → ∀ x ∈ l, x = 0
theorem LinesB.mono {n : Nat} {b b' : Int} {ls : Lines} (h : LinesB n b ls) (l : b ≤ b') : LinesB n b' ls := ⟨fun i x e => by
  obtain ⟨a, c, d⟩ := h.row i x e
  exact ⟨a, c, in_mono d (by omega) l⟩, h.zero⟩
theorem LinesOk.b {n : Nat} {b : Int} {ls : Lines} (h : LinesOk n ls) (l : 2000000 ≤ b) : LinesB n b ls := (LinesB.mk h.row h.zero : LinesB n 2000000 ls).mono l
def sp_check_rows (K : PySem.W.Frag) (Z : Ad) : Sp := fun vs H Q _ => ∃ (u : V) (ls : Lines) (S : Addr → Prop) (n : Nat) (b : Int), vs = [u, .int ls.length, .int n] ∧ fLines S H u ls ∧ LinesB n b ls ∧ ls.length ≤ 100000 ∧ ∀ H', Same H H' → Q .non H'
abbrev N_check_rows : List Str := ["rows", "whole", "many", "rest"]
def t_check_rows (K : PySem.W.Frag) (Z : Ad) : TS :=
  (tSeq (tFor (iRng1 (tCons (tVar 1) tNil)) (gName 3) (tSeq (tIfS (tOr (tTest (tOp oGe (tVar 3) (tCB (rLen K) (tCons (tVar 0) tNil)))) (tOr (tTest (tOp rNe (tCB (rLen K) (tCons (tOp (rIxL K) (tVar 0) (tVar 3)) tNil)) (tVar 2))) (tTest (tOp rNe (tCB (rSum K) (tCons (tOp (rIxL K) (tVar 0) (tVar 3)) tNil)) (tVar 3))))) tNever tNext) (tIfS (tAnd (tTest (tOp rEq (tVar 3) (tC (.int 0)))) (tB (tCB (rAnyI K) (tCons (tOp (rIxL K) (tVar 0) (tVar 3)) tNil)))) tNever tNext))) (tIfS (tTest (tOp oGt (tCB (rLen K) (tCons (tVar 0) tNil)) (tVar 1))) tNever tNext))
theorem l_check_rows {K : PySem.W.Frag} {Z : Ad} {vs : List V} {H : Hp} {Q : VK} {E : XK} : sp_check_rows K Z vs H Q E → vs.length = 3 := by
  rintro ⟨_, _, _, _, _, rfl, _⟩; rfl
theorem r_check_rows {K : PySem.W.Frag} {Z : Ad} {vs : List V} {H : Hp} {Q : VK} {E : XK} (R : RuleK K Z) (h : sp_check_rows K Z vs H Q E) : t_check_rows K Z { nx := fun _ H' => Q .non H', rt := Q } (start N_check_rows vs) H := by
  obtain ⟨u, ls, S, n, b, rfl, fl, lo, ll, q⟩ := h
  show t_check_rows K Z _ [some u, some (.int ls.length), some (.int n), none] H
  unfold t_check_rows
  walk_at "go"
  refine w_for (w_rng1 ?_)
  walk_at "go"
  refine w_rng1K (by omega) (by omega) ?_
  refine for_go (src_range 0 ((ls.length : Int)).toNat) (fun i σ H' => ∃ o3, σ = [some u, some (.int ls.length), some (.int n), o3] ∧ Same H H') ⟨_, rfl, Same.refl _⟩ (fun _ _ _ _ _ => trivial) ?_ ?_
  · rintro i σ H2 x H3 hi ⟨o3, rfl, s2⟩ ⟨rfl, rfl⟩
    refine w_name (by simp only [List.set_cons_zero, List.set_cons_succ]; exact rfl) ?_
    walk_at "go"
    refine w_lenF (gLines.same s2 fl) ?_
    walk_at "go"
    rw [decide_eq_false (by omega)]
    refine w_iteF ?_
    walk_at "go"
    refine w_ixF (gLines.same s2 fl) (by omega) (by omega) fun lu l el ful => ?_
    obtain ⟨la, rfl, _, hla⟩ := ints_of ful
    obtain ⟨r1, r2, r3⟩ := lo.row _ _ el
    have er : l.sum = 0 + (i : Int) := by rw [r2]; omega
    walk_at "go"
    refine w_lenI hla ?_
    walk_at "go"
    rw [r1]
    refine w_iteN (fun z => absurd rfl z) fun _ => ?_
    walk_at "go"
    refine w_ixF (gLines.same s2 fl) (by omega) (by omega) fun lu' l' el' ful' => ?_
    obtain rfl : l = l' := Option.some.inj (el.symm.trans el')
    obtain ⟨la', rfl, _, hla'⟩ := ints_of ful'
    walk_at "go"
    refine w_sum (SqL.of hla') ?_
    walk_at "go"
    rw [er]
    refine w_iteN (fun z => absurd rfl z) fun _ => ?_
    walk_at "go"
    refine w_ite (fun z => ?_) fun _ => ?_
    · walk_at "go"
      refine w_ixF (gLines.same s2 fl) (by omega) (by omega) fun lu'' l'' el'' ful'' => ?_
      obtain rfl : l = l'' := Option.some.inj (el.symm.trans el'')
      obtain ⟨la'', rfl, _, hla''⟩ := ints_of ful''
      walk_at "go"
      refine w_anyI (SqL.of hla'') ?_
      have i0 : (0 + (i : Int)).toNat = 0 := by omega
      rw [i0] at el
      have zz := lo.zero l el
      have : (l.any fun n => n != 0) = false := by
        rw [List.any_eq_false]
        intro x hx
        rw [zz x hx]; decide
      rw [this]
      walk_at "go"
      refine w_iteF ?_
      walk_at "go"
      exact ⟨_, rfl, s2⟩
    · refine w_iteF ?_
      walk_at "go"
      exact ⟨_, rfl, s2⟩
  · rintro σ H2 ⟨o3, rfl, s2⟩
    walk_at "go"
    refine w_lenF (gLines.same s2 fl) ?_
    walk_at "go"
    rw [decide_eq_false (by omega)]
    refine w_iteF ?_
    exact q _ s2
/-! ### tuples: of a range, slices, one behind another -/
section
variable {K : PySem.W.Frag} {te : TE} {σ : St} {H : Hp} {Q : VK} {a b : Addr} {xs ys : List Int}
def tupRgK (Q : VK) (x : V) (H1 : Hp) : Prop := ∃ n, x = .int n ∧ RgOk 0 n ∧ ∀ q, H1 q = none → Q (.ref q) (upd H1 q (.tup (rgV 0 n)))
theorem w_tupRg (h : te σ H fun x H1 => tupRgK Q x H1) : tTupRg (tRg1 te) σ H Q := h
theorem w_tupRgK {n : Nat} (hn : n ≤ 100000) (q : ∀ p H', H p = none → Ch p (.tup ((cnt n).map V.int)) H H' → Q (.ref p) H') : tupRgK Q (.int n) H :=
  ⟨n, rfl, RgOk.of_le (by decide) (by omega) (by decide) (by omega), fun p hp => q p _ hp (by rw [rg_cnt]; exact Ch.upd)⟩
theorem w_slA_suf {i : Nat} (h : H a = some (.tup (xs.map V.int))) (hi : i ≤ xs.length) (q : ∀ p H', Same H H' → (p = a ∨ H p = none) → H' p = some (.tup ((xs.drop i).map V.int)) → Q (.ref p) H') : rSlA K (.ref a) (some (i : Int)) none H Q := by
  refine ⟨a, _, rfl, SqT.of h, fun hw => ?_, fun _ p hp => ?_⟩
  · have e := hw.1
    rw [HT.sIx_nat, List.length_map, Nat.min_eq_left hi] at e
    subst e
    exact q a H (Same.refl _) (.inl rfl) h
  · refine q p _ (snew hp) (.inr hp) ?_
    rw [cutV_suf, ← List.map_drop]
    exact upd_same
theorem w_slA_pre {i : Nat} (h : H a = some (.tup (xs.map V.int))) (hi : i ≤ xs.length) (q : ∀ p H', Same H H' → (p = a ∨ H p = none) → H' p = some (.tup ((xs.take i).map V.int)) → Q (.ref p) H') : rSlA K (.ref a) none (some (i : Int)) H Q := by
  refine ⟨a, _, rfl, SqT.of h, fun hw => ?_, fun _ p hp => ?_⟩
  · have e := hw.2
    rw [HT.sIx_nat, List.length_map, Nat.min_eq_left hi] at e
    refine q a H (Same.refl _) (.inl rfl) ?_
    rw [e, List.take_length]
    exact h
  · refine q p _ (snew hp) (.inr hp) ?_
    rw [cutV_pre (by rw [List.length_map]; exact hi), ← List.map_take]
    exact upd_same
theorem w_catA (h : H a = some (.tup (xs.map V.int))) (h' : H b = some (.tup (ys.map V.int))) (hl : xs.length + ys.length ≤ 100000) (q : ∀ p H', Same H H' → (p = a ∨ p = b ∨ H p = none) → H' p = some (.tup ((xs ++ ys).map V.int)) → Q (.ref p) H') : rCatA K (.ref a) (.ref b) H Q := by
  refine ⟨a, b, _, _, rfl, rfl, SqT.of h, SqT.of h', ?_, fun e => ?_, fun _ e => ?_, fun _ _ p hp => ?_⟩
  · rw [List.length_map, List.length_map]; exact Nat.le_trans hl (by decide)
  · have e' : xs = [] := List.map_eq_nil_iff.mp e
    subst e'
    exact q b H (Same.refl _) (.inr (.inl rfl)) h'
  · have e' : ys = [] := List.map_eq_nil_iff.mp e
    subst e'
    exact q a H (Same.refl _) (.inl rfl) (by rw [List.append_nil]; exact h)
  · refine q p _ (snew hp) (.inr (.inr hp)) ?_
    rw [← List.map_append]
    exact upd_same
end
def nextOf (n s : Nat) : List Int := (cnt n).drop s ++ (cnt n).take s
theorem nextOf_len {n s : Nat} (h : s ≤ n) : (nextOf n s).length = n := by
  unfold nextOf
  rw [List.length_append, List.length_drop, List.length_take, cnt_len]
  omega
def sp_table_nexts (K : PySem.W.Frag) (Z : Ad) : Sp := fun vs H Q _ => ∃ n : Nat, vs = [.int n] ∧ n ≤ 1000 ∧ ∀ v H', Same H H' → fL (fV fI) (New H) H' v ((List.range n).map fun s => nextOf n s) → Q v H'
abbrev N_table_nexts : List Str := ["whole", "rests", "rest"]
def t_table_nexts (K : PySem.W.Frag) (Z : Ad) : TS :=
  (tSeq (tAsg (tTupRg (tRg1 (tVar 0))) (gName 1)) (tRet (tLc (iTup K (tVar 1)) (gName 2) tYes (tOp (rCatA K) (tSl (rSlA K) (tVar 1) (tPart (tVar 2)) tNoPart) (tSl (rSlA K) (tVar 1) tNoPart (tPart (tVar 2)))) [2])))
theorem l_table_nexts {K : PySem.W.Frag} {Z : Ad} {vs : List V} {H : Hp} {Q : VK} {E : XK} : sp_table_nexts K Z vs H Q E → vs.length = 1 := by
  rintro ⟨_, rfl, _⟩; rfl
theorem r_table_nexts {K : PySem.W.Frag} {Z : Ad} {vs : List V} {H : Hp} {Q : VK} {E : XK} (R : RuleK K Z) (h : sp_table_nexts K Z vs H Q E) : t_table_nexts K Z { nx := fun _ H' => Q .non H', rt := Q } (start N_table_nexts vs) H := by
  obtain ⟨n, rfl, hn, q⟩ := h
  show t_table_nexts K Z _ [some (.int n), none, none] H
  unfold t_table_nexts
  walk_at "go"
  refine w_tupRg ?_
  walk_at "go"
  refine w_tupRgK (by omega) fun T H1 nT c1 => ?_
  have s1 := c1.same nT
  have hT := c1.at_
  walk_at "go"
  refine w_lc (w_itup ?_)
  walk_at "go"
  refine w_itupK (SqT.of hT) ?_
  refine lc_go (src_tup (xs := (cnt n).map V.int)) (fun D i xs H' => Same H1 H' ∧ xs.length = i ∧ All2 (fV fI (fun a => H a = none ∧ a ≠ D) H') xs ((List.range i).map fun s => nextOf n s)) (fun D H' hD c => ⟨c.same hD, rfl, .nil⟩) (fun D i ys H' _ h => SqT.of (h.1 _ _ hT)) ?_ ?_
  · rintro D i xs H2 x H3 hD hi hl hx ⟨s2, lx, al⟩ ⟨rfl, ex⟩
    rw [List.length_map, cnt_len] at hi
    rw [List.getElem?_map] at ex
    cases e : (cnt n)[i]? with
    | none => rw [e] at ex; cases ex
    | some y =>
      rw [e] at ex
      cases ex
      obtain ⟨_, rfl⟩ := cnt_at e
      have TD : T ≠ D := ne_of_none hT hD
      refine w_name (by simp only [wipe, List.set_cons_zero, List.set_cons_succ]; exact rfl) ?_
      refine ⟨rfl, w_yes (w_iteT ?_)⟩
      walk_at "go"
      refine w_sl ?_
      walk_at "go"
      refine w_part ?_
      walk_at "go"
      refine w_prtK ?_
      refine w_nopart ?_
      refine w_slA_suf (s2 _ _ hT) (by rw [cnt_len]; omega) fun p1 H4 s4 o4 h4 => ?_
      refine w_sl ?_
      walk_at "go"
      refine w_nopart (w_part ?_)
      walk_at "go"
      refine w_prtK ?_
      refine w_slA_pre (s4 _ _ (s2 _ _ hT)) (by rw [cnt_len]; omega) fun p2 H5 s5 o5 h5 => ?_
      refine w_catA (s5 _ _ h4) h5 (by rw [List.length_drop, List.length_take, cnt_len]; omega) fun p3 H6 s6 o6 h6 => ?_
      have hD6 := s6 _ _ (s5 _ _ (s4 _ _ hx))
      have s26 := s2.trans (s4.trans (s5.trans s6))
      have off : ∀ {b : Addr} {H' : Hp}, Same H1 H' → H' D ≠ none → H' b = none → H b = none ∧ b ≠ D := fun s d e => ⟨dom_same (s1.trans s) _ e, fun z => d (z ▸ e)⟩
      have dn : ∀ {H' : Hp}, Same H3 H' → H' D ≠ none := fun s z => by rw [s _ _ hx] at z; cases z
      have offT : H T = none ∧ T ≠ D := ⟨nT, TD⟩
      have o1 : H p1 = none ∧ p1 ≠ D := o4.elim (fun e => e ▸ offT) fun e => off s2 (dn (Same.refl _)) e
      have o2 : H p2 = none ∧ p2 ≠ D := o5.elim (fun e => e ▸ offT) fun e => off (s2.trans s4) (dn s4) e
      have o3 : H p3 = none ∧ p3 ≠ D := o6.elim (fun e => e ▸ o1) fun o6 => o6.elim (fun e => e ▸ o2) fun e => off (s2.trans (s4.trans s5)) (dn (s4.trans s5)) e
      refine w_elt hD6 hl (by omega) fun H7 c7 => ⟨fun b o e => c7.keep (ne_of_none e hD) (s26 _ _ e), by rw [List.length_append, lx]; rfl, ?_⟩
      have k7 : ∀ {v : V} {ns : List Int}, fV fI (fun a => H a = none ∧ a ≠ D) H3 v ns → fV fI (fun a => H a = none ∧ a ≠ D) H7 v ns := fun f => (gV gI).keep (fun a o s e => c7.keep s.2 ((s4.trans (s5.trans s6)) _ _ e)) f
      rw [List.range_succ, List.map_append]
      refine (al.imp fun _ _ f => k7 f).append (.one (tupI_mk o3 (c7.keep o3.2 h6)))
  · rintro D xs H2 hD hl hx ⟨s2, lx, al⟩
    rw [List.length_map, cnt_len] at al
    exact q _ H2 (s1.trans s2) ⟨D, xs, rfl, dom_same s1 D hD, hx, al.imp fun _ _ f => (gV gI).mono (fun _ s => s.1) f⟩
/-! ### the extra cents of a table's rule -/
def aheadOf (c : List Int) (w : Int) : List Int := c ++ c.map fun x => x + w
def aheadAt (n : Nat) (w : Int) (c : List Int) (s : Nat) : List Int := (((aheadOf c w).drop s).take n).map fun x => x - c.getD s 0
def partOf (ws : List Int) (css : List (List Int)) (n k s : Nat) : List (List Int) := List.zipWith (fun w c => aheadAt n w c s) (ws.take k) (css.take k)
def tcOf (ws : List Int) (css : List (List Int)) (n s : Nat) : List (List Int) := List.zipWith (fun w c => aheadAt n w c s) ws css
theorem part_zero {ws : List Int} {css : List (List Int)} {n s : Nat} : partOf ws css n 0 s = [] := rfl
theorem part_succ {ws : List Int} {css : List (List Int)} {n k s : Nat} {w : Int} {c : List Int} (e1 : ws[k]? = some w) (e2 : css[k]? = some c) : partOf ws css n (k + 1) s = partOf ws css n k s ++ [aheadAt n w c s] := by
  unfold partOf
  rw [← take_snoc e1, ← take_snoc e2]
  have h1 := (List.getElem?_eq_some_iff.mp e1).1
  have h2 := (List.getElem?_eq_some_iff.mp e2).1
  rw [List.zipWith_append (by rw [List.length_take, List.length_take]; omega)]; rfl
theorem part_len {ws : List Int} {css : List (List Int)} {n k s : Nat} : (partOf ws css n k s).length ≤ k := by
  unfold partOf
  rw [List.length_zipWith, List.length_take]
  omega
/-- many lists, each at a place of its own: the list's number s holds what f tells -/
structure Many (H : Hp) (D : Addr) (H' : Hp) (ls : List Addr) (f : Nat → List (List Int)) : Prop where
  at_ : H' D = some (.lst (ls.map V.ref))
  dist : Dist ls
  new : ∀ l ∈ ls, H l = none ∧ l ≠ D
  it : ∀ (s : Nat) l, ls[s]? = some l → ∃ vs, H' l = some (.lst vs) ∧ All2 (fV fI (fun a => H a = none ∧ a ≠ D ∧ a ∉ ls) H') vs (f s)
theorem Many.same {H H1 H2 : Hp} {D : Addr} {ls : List Addr} {f : Nat → List (List Int)} (m : Many H D H1 ls f) (s : Same H1 H2) : Many H D H2 ls f :=
  ⟨s _ _ m.at_, m.dist, m.new, fun i l e => by
    obtain ⟨vs, h, al⟩ := m.it i l e
    exact ⟨vs, s _ _ h, al.imp fun _ _ q => (gV gI).same s q⟩⟩
theorem Many.push {H H1 : Hp} {D T : Addr} {ls : List Addr} {f g : Nat → List (List Int)} {s : Nat} {l : Addr} {xs : List Int} {Q : VK} (m : Many H D H1 ls f) (e : ls[s]? = some l) (hT : H1 T = some (.tup (xs.map V.int))) (nT : H T = none) (TD : T ≠ D) (Tl : T ∉ ls) (hl : (f s).length < 100000)
    (g1 : g s = f s ++ [xs]) (g2 : ∀ j, j ≠ s → g j = f j) (q : ∀ H2, (∀ b o, b ≠ l → H1 b = some o → H2 b = some o) → Many H D H2 ls g → Q .non H2) : rAppend (.ref l) [.ref T] H1 Q := by
  obtain ⟨vs, hv, al⟩ := m.it s l e
  have ml := List.mem_of_getElem? e
  have nl := m.new l ml
  refine w_append hv (by rw [al.length]; exact hl) fun H2 c => q H2 (fun b o n e => c.keep n e) ⟨c.keep nl.2.symm m.at_, m.dist, m.new, fun j l' ej => ?_⟩
  have k : ∀ {v : V} {ns : List Int}, fV fI (fun a => H a = none ∧ a ≠ D ∧ a ∉ ls) H1 v ns → fV fI (fun a => H a = none ∧ a ≠ D ∧ a ∉ ls) H2 v ns := fun f => (gV gI).keep (fun a o s e => c.keep (fun z => s.2.2 (z ▸ ml)) e) f
  by_cases js : j = s
  · subst js
    obtain rfl : l = l' := Option.some.inj (e.symm.trans ej)
    rw [g1]
    exact ⟨_, c.at_, (al.imp fun _ _ f => k f).append (.one (tupI_mk ⟨nT, TD, Tl⟩ (c.keep (fun z => Tl (z ▸ ml)) hT)))⟩
  · obtain ⟨vs', hv', al'⟩ := m.it j l' ej
    rw [g2 j js]
    refine ⟨vs', c.keep (fun z => js ?_) hv', al'.imp fun _ _ f => k f⟩
    subst z
    exact m.dist j s l' ej e
def sp_table_cents (K : PySem.W.Frag) (Z : Ad) : Sp := fun vs H Q _ => ∃ (wa : Addr) (u : V) (ws : List Int) (css : List (List Int)) (S : Addr → Prop) (n : Nat), vs = [.ref wa, u, .int n] ∧ H wa = some (.lst (ws.map V.int)) ∧ fV (fV fI) S H u css ∧ css.length = ws.length ∧ ws.length ≤ 100 ∧ (∀ c ∈ css, c.length = n) ∧ n ≤ 1000 ∧
  ∀ v H', Same H H' → fL (fV (fV fI)) (New H) H' v ((List.range n).map fun s => tcOf ws css n s) → Q v H'
abbrev N_table_cents : List Str := ["weights", "columns", "whole", "found", "weight", "column", "ahead", "rest", "cents", "_", "rows", "later"]
def t_table_cents (K : PySem.W.Frag) (Z : Ad) : TS :=
  (tSeq (tAsg (tLc (iRng1 (tCons (tVar 2) tNil)) (gName 9) tYes (tLst tNil) [9]) (gName 3)) (tSeq (tFor (Ow.iZipM K (tCons (tVar 0) (tCons (tVar 1) tNil))) (gTup K 2 (gCons (gName 4) (gCons (gName 5) gNil))) (tSeq (tAsg (tOp rCat (tCB (rList1 K) (tCons (tVar 5) tNil)) (tLc (iTup K (tVar 5)) (gName 8) tYes (tOp oAdd (tVar 8) (tVar 4)) [8])) (gName 6)) (tFor (Ow.iEnumT K (tCons (tVar 5) tNil)) (gTup K 2 (gCons (gName 7) (gCons (gName 8) gNil))) (tDrop (tBM K "list" rAppend (tOp (rIxL K) (tVar 3) (tVar 7)) (tCons (tCB (Ow.rTuple1 K) (tCons (tLc (iList K (tSl (rSlL K) (tVar 6) (tPart (tVar 7)) (tPart (tOp oAdd (tVar 7) (tVar 2))))) (gName 11) tYes (tOp oSub (tVar 11) (tVar 8)) [11]) tNil)) tNil)))))) (tRet (tLc (iList K (tVar 3)) (gName 10) tYes (tCB (Ow.rTuple1 K) (tCons (tVar 10) tNil)) [10]))))
theorem l_table_cents {K : PySem.W.Frag} {Z : Ad} {vs : List V} {H : Hp} {Q : VK} {E : XK} : sp_table_cents K Z vs H Q E → vs.length = 3 := by
  rintro ⟨_, _, _, _, _, _, rfl, _⟩; rfl
theorem cutV_mid {xs : List Int} {i n : Nat} (h : i + n ≤ xs.length) : cutV (xs.map V.int) (some ((i : Nat) : Int)) (some (((i + n : Nat)) : Int)) = ((xs.drop i).take n).map V.int := by
  unfold cutV
  rw [HT.sIx_nat, HT.sIx_nat, List.length_map, Nat.min_eq_left (by omega), Nat.min_eq_left (by omega), Nat.add_sub_cancel_left, List.map_take, List.map_drop]
theorem w_slMid {K : PySem.W.Frag} {H : Hp} {Q : VK} {a : Addr} {xs : List Int} {i j : Int} {k n : Nat} (h : H a = some (.lst (xs.map V.int))) (ei : i = (k : Nat)) (ej : j = ((k + n : Nat) : Int)) (hl : k + n ≤ xs.length) (q : ∀ p H', H p = none → Ch p (.lst (((xs.drop k).take n).map V.int)) H H' → Q (.ref p) H') : rSlL K (.ref a) (some i) (some j) H Q := by
  refine ⟨a, _, rfl, SqL.of h, fun p hp => q p _ hp ?_⟩
  rw [ei, ej, cutV_mid hl]
  exact Ch.upd
theorem w_zipM {K : PySem.W.Frag} {ta : TA} {σ : St} {H : Hp} {R : It → Hp → Prop} (h : ta σ H fun vs H1 => ∃ (ks : List (Bool × Nat)) (xss : List (List V)), vs = refsOf ks ∧ Srcs K H1 ks xss ∧ 1 ≤ ks.length ∧ ks.length ≤ 16 ∧ R (Itn K ks) H1) : iZipM K ta σ H R := h
theorem r_table_cents {K : PySem.W.Frag} {Z : Ad} {vs : List V} {H : Hp} {Q : VK} {E : XK} (R : RuleK K Z) (h : sp_table_cents K Z vs H Q E) : t_table_cents K Z { nx := fun _ H' => Q .non H', rt := Q } (start N_table_cents vs) H := by
  obtain ⟨wa, u, ws, css, S, n, rfl, hwa, ⟨ua, us, rfl, sua, hua, ual⟩, lcw, lw, lc, hn, q⟩ := h
  show t_table_cents K Z _ [some (.ref wa), some (.ref ua), some (.int n), none, none, none, none, none, none, none, none, none] H
  unfold t_table_cents
  walk_at "go"
  refine w_lc (w_rng1 ?_)
  walk_at "go"
  refine w_rng1K (by omega) (by omega) ?_
  refine lc_go (src_range 0 ((n : Int)).toNat) (fun D i xs H' => Same H H' ∧ ∃ ls : List Addr, xs = ls.map V.ref ∧ ls.length = i ∧ Dist ls ∧ ∀ l ∈ ls, H l = none ∧ l ≠ D ∧ H' l = some (.lst [])) (fun D H' hD c => ⟨c.same hD, [], rfl, rfl, dist_nil, fun l m => by cases m⟩) (fun _ _ _ _ _ _ => trivial) ?_ ?_
  · rintro D i xs H1 x H2 hD hi hl hx ⟨s1, ls, rfl, ll, dl, hls⟩ ⟨rfl, rfl⟩
    refine w_name (by simp only [wipe, List.set_cons_zero, List.set_cons_succ]; exact rfl) ?_
    refine ⟨rfl, w_yes (w_iteT ?_)⟩
    walk_at "go"
    refine w_lstN (by show 0 ≤ 100000; decide) fun l H3 nl c3 => ?_
    have s3 := c3.same nl
    have lD : l ≠ D := fun z => by rw [z, hx] at nl; cases nl
    refine w_elt (s3 _ _ hx) hl (by omega) fun H4 c4 => ⟨fun b o e => c4.keep (ne_of_none e hD) (s3 _ _ (s1 _ _ e)), ls ++ [l], by rw [List.map_append]; rfl, by rw [List.length_append, ll]; rfl, dist_app dl fun m => ?_, fun l' m => ?_⟩
    · have := (hls l m).2.2
      rw [nl] at this; cases this
    · rcases List.mem_append.mp m with m | m
      · obtain ⟨a1, a2, a3⟩ := hls l' m
        exact ⟨a1, a2, c4.keep a2 (s3 _ _ a3)⟩
      · rw [List.mem_singleton.mp m]
        exact ⟨dom_same s1 l nl, lD, c4.keep lD c3.at_⟩
  rintro D xs H1 hD hl hx ⟨s1, ls, rfl, ll, dl, hls⟩
  rw [Int.toNat_natCast] at ll
  have M0 : Many H D H1 ls (partOf ws css n 0) := ⟨hx, dl, fun l m => ⟨(hls l m).1, (hls l m).2.1⟩, fun s l e => ⟨[], (hls l (List.mem_of_getElem? e)).2.2, .nil⟩⟩
  clear hls hx dl hl
  walk_at "go"
  refine w_for (w_zipM ?_)
  walk_at "go"
  have src0 : ∀ H', Same H H' → Srcs K H' [(false, wa), (true, ua)] [ws.map V.int, us] := fun H' s => .cons (SqL.of (s _ _ hwa)) (.cons (SqT.of (s _ _ hua)) .nil)
  refine ⟨[(false, wa), (true, ua)], [ws.map V.int, us], rfl, src0 H1 s1, by show 1 ≤ 2; decide, by show 2 ≤ 16; decide, ?_⟩
  refine for_go (src_star (m := ws.length) (xss := [ws.map V.int, us]) fun x mx => ?_) (fun k σ H' => ∃ o4 o5 o6 o7 o8, σ = [some (.ref wa), some (.ref ua), some (.int n), some (.ref D), o4, o5, o6, o7, o8, none, none, none] ∧ Same H H' ∧ Many H D H' ls (partOf ws css n k)) ⟨_, _, _, _, _, rfl, s1, M0⟩ (fun k σ H' _ h => ?_) ?_ ?_
  · simp only [List.mem_cons, List.not_mem_nil, or_false] at mx
    rcases mx with rfl | rfl
    · rw [List.length_map]
    · rw [ual.length, lcw]
  · obtain ⟨_, _, _, _, _, _, s, _⟩ := h
    exact src0 H' s
  · rintro k σ H2 x H3 hk ⟨o4, o5, o6, o7, o8, rfl, s2, M2⟩ ⟨T, rfl, nT, rfl⟩
    obtain ⟨w, ew⟩ : ∃ w, ws[k]? = some w := ⟨_, List.getElem?_eq_getElem hk⟩
    obtain ⟨c, ec⟩ : ∃ c, css[k]? = some c := ⟨_, List.getElem?_eq_getElem (by omega)⟩
    obtain ⟨cu, ecu, fcu⟩ := ual.getR ec
    obtain ⟨ca, rfl, sca, hca⟩ := tupI_of fcu
    have lc' := lc c (List.mem_of_getElem? ec)
    have hcol : colAt [ws.map V.int, us] k = [.int w, .ref ca] := by
      show [(ws.map V.int).getD k .non, us.getD k .non] = _
      rw [List.getD_eq_getElem?_getD, List.getD_eq_getElem?_getD, ecu, List.getElem?_map, ew]; rfl
    rw [hcol]
    have s3 : Same H2 (upd H2 T (.tup [.int w, .ref ca])) := snew nT
    have hT : upd H2 T (.tup [.int w, .ref ca]) T = some (.tup [.int w, .ref ca]) := upd_same
    generalize upd H2 T (.tup [.int w, .ref ca]) = H3 at s3 hT
    have s03 := s2.trans s3
    refine w_gTup (SqT.of hT) rfl ?_
    refine w_gCons (w_name (by simp only [List.set_cons_zero, List.set_cons_succ]; exact rfl) ?_)
    refine w_gCons (w_name (by simp only [List.set_cons_zero, List.set_cons_succ]; exact rfl) ?_)
    refine w_gNil ?_
    walk_at "go"
    refine w_list1TN (SqT.of (s03 _ _ hca)) fun p1 H4 n1 c4 => ?_
    have s4 := c4.same n1
    have s04 := s03.trans s4
    refine w_lc (w_itup ?_)
    walk_at "go"
    refine w_itupK (SqT.of (s04 _ _ hca)) ?_
    refine lc_same gI (src_tup (xs := c.map V.int)) (fun i as => as = (c.map fun x => x + w).take i) (by rw [List.length_map]; omega) rfl (fun H' s => SqT.of (s _ _ (s04 _ _ hca))) ?_ ?_
    · rintro i as H5 x H6 N N' hi rfl s5 ⟨rfl, ex⟩ hN hN'
      rw [List.getElem?_map] at ex
      cases e : c[i]? with
      | none => rw [e] at ex; cases ex
      | some y =>
        rw [e] at ex
        cases ex
        refine w_name (by simp only [wipe, List.set_cons_zero, List.set_cons_succ]; exact rfl) ?_
        refine ⟨rfl, w_yes (w_iteT ?_)⟩
        walk_at "go"
        exact hN _ _ _ (Same.refl _) rfl (take_snoc (by rw [List.getElem?_map, e]; rfl))
    rintro D2 as H5 nD2 s5 rfl f5
    have el : (c.map V.int).length = (c.map fun x => x + w).length := by rw [List.length_map, List.length_map]
    rw [el, take_all] at f5
    obtain ⟨D2', e, _, hD2⟩ := ints_of f5
    cases e
    refine w_catI (s5 _ _ c4.at_) hD2 (by rw [List.length_map]; omega) fun ah H6 n6 c6 => ?_
    have s6 := c6.same n6
    have s06 := s04.trans (s5.trans s6)
    have hah : H6 ah = some (.lst ((aheadOf c w).map V.int)) := c6.at_
    have M6 := M2.same (s3.trans (s4.trans (s5.trans s6)))
    have lah : (aheadOf c w).length = n + n := by unfold aheadOf; rw [List.length_append, List.length_map, lc']
    have nah : H ah = none := dom_same (s04.trans s5) ah n6
    have ahD : ah ≠ D := fun z => by rw [z, (M2.same (s3.trans (s4.trans s5))).at_] at n6; cases n6
    have ahl : ah ∉ ls := fun m => by
      obtain ⟨j, ej⟩ := List.mem_iff_getElem?.mp m
      obtain ⟨vs, hv, _⟩ := (M2.same (s3.trans (s4.trans s5))).it j ah ej
      rw [n6] at hv; cases hv
    clear f5 hD2 M2 c6 n6 c4
    walk_at "go"
    refine w_for (w_enumT ?_)
    walk_at "go"
    refine w_enumTK (SqT.of (s06 _ _ hca)) ?_
    refine for_go (src_enumT (xs := c.map V.int)) (fun r σ H' => ∃ o7 o8, σ = [some (.ref wa), some (.ref ua), some (.int n), some (.ref D), some (.int w), some (.ref ca), some (.ref ah), o7, o8, none, none, none] ∧ Same H H' ∧ H' ah = some (.lst ((aheadOf c w).map V.int)) ∧ Many H D H' ls (fun s => if s < r then partOf ws css n (k + 1) s else partOf ws css n k s)) ⟨_, _, rfl, s06, hah, ?_⟩ (fun r σ H' _ h => ?_) ?_ ?_
    · exact M6
    · obtain ⟨_, _, _, s, _⟩ := h
      exact SqT.of (s _ _ hca)
    · rintro r σ H7 x H8 hr ⟨o7, o8, rfl, s7, hah7, M7⟩ ⟨T3, z, rfl, nT3, rfl, ez⟩
      rw [List.length_map, lc'] at hr
      rw [List.getElem?_map] at ez
      cases e : c[r]? with
      | none => rw [e] at ez; cases ez
      | some y =>
        rw [e] at ez
        cases ez
        have s8 : Same H7 (upd H7 T3 (.tup [.int (r : Nat), .int y])) := snew nT3
        have hT3 : upd H7 T3 (.tup [.int (r : Nat), .int y]) T3 = some (.tup [.int (r : Nat), .int y]) := upd_same
        generalize upd H7 T3 (.tup [.int (r : Nat), .int y]) = H8 at s8 hT3
        have M8 := M7.same s8
        have hah8 := s8 _ _ hah7
        have s08 := s7.trans s8
        obtain ⟨l, el⟩ : ∃ l, ls[r]? = some l := ⟨_, List.getElem?_eq_getElem (by omega)⟩
        refine w_gTup (SqT.of hT3) rfl ?_
        refine w_gCons (w_name (by simp only [List.set_cons_zero, List.set_cons_succ]; exact rfl) ?_)
        refine w_gCons (w_name (by simp only [List.set_cons_zero, List.set_cons_succ]; exact rfl) ?_)
        refine w_gNil ?_
        walk_at "go"
        refine w_bm ?_
        walk_at "go"
        refine w_ixL (SqL.of M8.at_) (atI_nat (by rw [List.getElem?_map, el]; rfl)) ?_
        obtain ⟨vs8, hv8, al8⟩ := M8.it r l el
        refine w_bmL hv8 ?_
        walk_at "go"
        refine w_lc (w_ilist ?_)
        walk_at "go"
        refine w_sl ?_
        walk_at "go"
        refine w_part ?_
        walk_at "go"
        refine w_prtK ?_
        refine w_part ?_
        walk_at "go"
        refine w_prtK ?_
        refine w_slMid (k := r) (n := n) hah8 rfl (by omega) (by omega) fun p9 H9 n9 c9 => ?_
        have s9 := c9.same n9
        refine w_ilistK (SqL.of c9.at_) ?_
        refine lc_same gI (src_list (xs := (((aheadOf c w).drop r).take n).map V.int)) (fun i as => as = (aheadAt n w c r).take i) (by rw [List.length_map, List.length_take]; omega) rfl (fun H' s => SqL.of (s _ _ c9.at_)) ?_ ?_
        · rintro i as H10 x H11 N N' hi rfl s10 ⟨rfl, ex⟩ hN hN'
          rw [List.getElem?_map] at ex
          cases e2 : (((aheadOf c w).drop r).take n)[i]? with
          | none => rw [e2] at ex; cases ex
          | some v =>
            rw [e2] at ex
            cases ex
            refine w_name (by simp only [wipe, List.set_cons_zero, List.set_cons_succ]; exact rfl) ?_
            refine ⟨rfl, w_yes (w_iteT ?_)⟩
            walk_at "go"
            refine hN _ _ _ (Same.refl _) rfl (take_snoc ?_)
            unfold aheadAt
            rw [List.getElem?_map, e2, List.getD_eq_getElem?_getD, e]; rfl
        rintro D3 as H10 nD3 s10 rfl f10
        have ela : ((((aheadOf c w).drop r).take n).map V.int).length = (aheadAt n w c r).length := by unfold aheadAt; rw [List.length_map, List.length_map]
        rw [ela, take_all] at f10
        obtain ⟨D3', e', _, hD3⟩ := ints_of f10
        cases e'
        walk_at "go"
        refine w_tuple1 (SqL.of hD3) fun P H11 nP c11 => ?_
        have s811 := (s9.trans s10).trans (c11.same nP)
        have M11 := M8.same s811
        have nP8 : H8 P = none := dom_same (s9.trans s10) P nP
        have Pn : H P = none := dom_same s08 P nP8
        have PD : P ≠ D := fun z => by rw [z, M8.at_] at nP8; cases nP8
        have Pl : P ∉ ls := fun m => by
          obtain ⟨j, ej⟩ := List.mem_iff_getElem?.mp m
          obtain ⟨vs, hv, _⟩ := M8.it j P ej
          rw [nP8] at hv; cases hv
        have pl := part_len (ws := ws) (css := css) (n := n) (k := k) (s := r)
        walk_at "go"
        refine M11.push el c11.at_ Pn PD Pl ?_ (g := fun s => if s < r + 1 then partOf ws css n (k + 1) s else partOf ws css n k s) ?_ (fun j jr => ?_) fun H12 k12 M12 => ?_
        · show (if r < r then _ else _ : List (List Int)).length < 100000
          rw [if_neg (Nat.lt_irrefl r)]; omega
        · show (if r < r + 1 then _ else _ : List (List Int)) = (if r < r then _ else _ : List (List Int)) ++ _
          rw [if_pos (Nat.lt_succ_self r), if_neg (Nat.lt_irrefl r), part_succ ew ec]
        · show (if j < r + 1 then _ else _ : List (List Int)) = (if j < r then _ else _ : List (List Int))
          by_cases h : j < r
          · rw [if_pos h, if_pos (by omega)]
          · rw [if_neg h, if_neg (by omega)]
        walk_at "go"
        have ml := List.mem_of_getElem? el
        refine ⟨_, _, rfl, fun b o e => k12 b o (ne_of_none e (M8.new l ml).1) (s811 _ _ (s08 _ _ e)), k12 _ _ (fun z => ahl (z ▸ ml)) (s811 _ _ hah8), M12⟩
    · rintro σ H7 ⟨o7, o8, rfl, s7, hah7, M7⟩
      rw [List.length_map, lc'] at M7
      refine ⟨_, _, _, _, _, rfl, s7, ⟨M7.at_, M7.dist, M7.new, fun s l e => ?_⟩⟩
      have hs : s < n := by
        have := (List.getElem?_eq_some_iff.mp e).1
        omega
      obtain ⟨vs, hv, al⟩ := M7.it s l e
      refine ⟨vs, hv, ?_⟩
      have al' : All2 _ vs (if s < n then partOf ws css n (k + 1) s else partOf ws css n k s) := al
      rwa [if_pos hs] at al'
  · rintro σ H2 ⟨o4, o5, o6, o7, o8, rfl, s2, M2⟩
    walk_at "go"
    refine w_lc (w_ilist ?_)
    walk_at "go"
    refine w_ilistK (SqL.of M2.at_) ?_
    have ep : ∀ s, partOf ws css n ws.length s = tcOf ws css n s := fun s => by
      unfold partOf tcOf
      rw [take_all, ← lcw, take_all]
    refine lc_go (src_list (xs := ls.map V.ref)) (fun D3 i xs H' => Same H2 H' ∧ xs.length = i ∧ All2 (fV (fV fI) (fun a => H a = none ∧ a ≠ D3) H') xs ((List.range i).map fun s => tcOf ws css n s)) (fun D3 H' hD c => ⟨c.same hD, rfl, .nil⟩) (fun D3 i ys H' _ h => SqL.of (h.1 _ _ M2.at_)) ?_ ?_
    · rintro D3 i xs H3 x H4 hD3 hi hl hx ⟨s3, lx, al3⟩ ⟨rfl, ex⟩
      rw [List.length_map] at hi
      rw [List.getElem?_map] at ex
      cases e : ls[i]? with
      | none => rw [e] at ex; cases ex
      | some l =>
        rw [e] at ex
        cases ex
        obtain ⟨vs, hv, al⟩ := M2.it i l e
        rw [ep] at al
        refine w_name (by simp only [wipe, List.set_cons_zero, List.set_cons_succ]; exact rfl) ?_
        refine ⟨rfl, w_yes (w_iteT ?_)⟩
        walk_at "go"
        refine w_tuple1 (SqL.of (s3 _ _ hv)) fun P H5 nP c5 => ?_
        have s5 := c5.same nP
        have P0 : H P = none := dom_same (s2.trans s3) P nP
        have PD3 : P ≠ D3 := fun z => by rw [z, hx] at nP; cases nP
        refine w_elt (s5 _ _ hx) hl (by omega) fun H6 c6 => ⟨fun b o e => c6.keep (ne_of_none e hD3) (s5 _ _ (s3 _ _ e)), by rw [List.length_append, lx]; rfl, ?_⟩
        rw [List.range_succ, List.map_append]
        refine (al3.imp fun _ _ f => (gV (gV gI)).keep (fun a o s e => c6.keep s.2 (s5 _ _ e)) f).append (.one ⟨P, vs, rfl, ⟨P0, PD3⟩, c6.keep PD3 c5.at_, ?_⟩)
        have f3 : ∀ {v : V} {ns : List Int}, fV fI (fun a => H a = none ∧ a ≠ D ∧ a ∉ ls) H2 v ns → fV fI (fun a => H a = none ∧ a ≠ D3) H6 v ns := fun f => by
          have f1 := (gV gI).off hD3 f
          have f2 : fV fI (fun a => (H a = none ∧ a ≠ D ∧ a ∉ ls) ∧ a ≠ D3) H6 _ _ := (gV gI).keep (fun a o s e => c6.keep s.2 (s5 _ _ (s3 _ _ e))) f1
          exact (gV gI).mono (fun a s => ⟨s.1.1, s.2⟩) f2
        exact al.imp fun _ _ f => f3 f
    · rintro D3 xs H3 hD3 hl hx ⟨s3, lx, al3⟩
      rw [List.length_map, ll] at al3
      exact q _ H3 (s2.trans s3) ⟨D3, xs, rfl, dom_same s2 D3 hD3, hx, al3.imp fun _ _ f => (gV (gV gI)).mono (fun _ s => s.1) f⟩
end Ow

set_option Elab.async false
set_option linter.all false
set_option maxRecDepth 100000
namespace Ow
open PySem L2
local macro_rules | `(tactic| walk_at "go") => `(tactic| (repeat (with_reducible first
  | refine w_seq ?_ | refine w_asg ?_ | refine w_ret ?_ | refine w_if ?_ | refine w_next ?_ | refine w_drop ?_
  | refine w_var (by with_unfolding_all rfl) ?_ | refine w_c ?_ | refine w_op ?_ | refine w_cons ?_ | refine w_nil ?_ | refine w_cb ?_ | refine w_call ?_
  | refine w_name (by simp only [List.set_cons_zero, List.set_cons_succ]; exact rfl) ?_
  | refine w_add ?_ | refine w_sub ?_ | refine w_lt ?_ | refine w_le ?_ | refine w_gt ?_ | refine w_ge ?_ | refine w_eqI ?_ | refine w_neI ?_
  | refine w_test ?_ | refine w_testK ?_ | refine w_tB ?_ | refine w_intI ?_ | refine w_intB ?_ | refine w_max2 ?_ | refine w_min2 ?_
  | refine w_lst ?_ | refine w_tup ?_ | refine w_gSub ?_ | refine w_fld ?_ | refine w_un ?_ | refine w_neg ?_ | refine w_par ?_ | refine w_tIf ?_ | refine w_and ?_ | refine w_or ?_ | refine w_not ?_
  | refine w_mod (by omega) ?_ | refine w_div (cdiv (by omega) (by omega)) ?_ | refine w_mul (cmulL (by omega) (by omega)) ?_ | refine w_mul (cmulR (by omega) (by omega)) ?_ | refine w_pow (cpow (by omega) (by omega) (by omega) (by omega)) ?_
  | refine w_ixL (SqL.of (by assumption)) (by with_unfolding_all rfl) ?_)))
theorem rowOf_len {fk : Folk} {ls : Lines} {n : Nat} {s : Int} : (rowOf fk ls n s).length = n := by unfold rowOf; rw [List.length_map, List.length_range]
theorem tableOf_len {fk : Folk} {ls : Lines} : (tableOf fk ls).length = ls.length := by unfold tableOf; rw [List.length_map, List.length_range]
theorem step_deal {fk : Folk} {ls : Lines} (fo : FolkOk fk) (lo : LinesB fk.length 10000000 ls) (lh : (ls.length : Int) = heavy fk) (hv : heavy fk ≤ 1000) {s e : Nat} (hs : s < ls.length) (he : e < ls.length) : DealOk fk.length 30000000 ls.length e (stepOf fk ls (0 + (s : Int)) (0 + (e : Int))) := by
  have pos := fo.pos
  have p0 : 0 ≤ (0 + (s : Int) + (0 + (e : Int))) % (ls.length : Int) := Int.emod_nonneg _ (by omega)
  have p1 : (0 + (s : Int) + (0 + (e : Int))) % (ls.length : Int) < ls.length := Int.emod_lt_of_pos _ (by omega)
  obtain ⟨x1, ex1⟩ := at_some (xs := ls) p0 p1
  obtain ⟨x0, ex0⟩ := at_some (xs := ls) (i := 0 + (s : Int)) (by omega) (by omega)
  obtain ⟨n1, n2, n3⟩ := lo.row _ _ ex1
  obtain ⟨m1, m2, m3⟩ := lo.row _ _ ex0
  have ed := Int.mul_ediv_add_emod (0 + (s : Int) + (0 + (e : Int))) (ls.length : Int)
  have t0 : 0 ≤ (0 + (s : Int) + (0 + (e : Int))) / (ls.length : Int) := Int.ediv_nonneg (by omega) (by omega)
  have t1 : (0 + (s : Int) + (0 + (e : Int))) / (ls.length : Int) ≤ 1 := by
    have : (0 + (s : Int) + (0 + (e : Int))) / (ls.length : Int) < 2 := (Int.ediv_lt_iff_lt_mul (by omega)).mpr (by omega)
    omega
  unfold stepOf
  rw [getD_is ex1, getD_is ex0]
  generalize (0 + (s : Int) + (0 + (e : Int))) / (ls.length : Int) = t at ed t0 t1
  generalize (0 + (s : Int) + (0 + (e : Int))) % (ls.length : Int) = r at ed p0 p1 n2
  refine ⟨mix_len n1 m1, ?_, in_mono (mix_in t0 t1 (q := heavy fk) (fun x m => ⟨fo.nn x m, le_sum fo.nn x m⟩) n3 m3 (by omega)) (by omega) (by omega), p0, p1⟩
  show (mix t fk x1 x0).sum = _
  rw [mix_sum n1 m1, n2, m2]
  rw [Int.mul_comm, lh] at ed
  omega
theorem table_plan {fk : Folk} {ls : Lines} (fo : FolkOk fk) (lo : LinesB fk.length 10000000 ls) (lh : (ls.length : Int) = heavy fk) (hv : heavy fk ≤ 16) (n8 : fk.length ≤ 16) : PlanOk fk (tableOf fk ls) := by
  have pos := fo.pos
  refine ⟨fo, ⟨by rw [tableOf_len]; omega, fun s r er => ?_, fun r p er ep => ?_⟩, n8, hv, by rw [tableOf_len]; omega⟩
  · obtain ⟨hs, rfl⟩ := rng_at er
    refine ⟨by rw [rowOf_len]; exact lh, fun e p ep => ?_⟩
    obtain ⟨he, rfl⟩ := rng_at ep
    rw [tableOf_len]
    exact step_deal fo lo lh (by omega) hs he
  · obtain ⟨hs, rfl⟩ := rng_at er
    obtain ⟨he, rfl⟩ := rng_at ep
    have z : (0 + ((0 : Nat) : Int) + (0 + ((0 : Nat) : Int))) = 0 := by omega
    unfold stepOf
    rw [z, Int.zero_ediv, Int.zero_emod]
    exact mix_zero
theorem ahead_at {c : List Int} {w : Int} {n s e : Nat} (lc : c.length = n) (hs : s < n) (he : e < n) : (aheadAt n w c s)[e]? = some ((if s + e < n then c.getD (s + e) 0 else c.getD (s + e - n) 0 + w) - c.getD s 0) := by
  have e1 : (aheadOf c w)[s + e]? = some (if s + e < n then c.getD (s + e) 0 else c.getD (s + e - n) 0 + w) := by
    unfold aheadOf
    by_cases h : s + e < n
    · rw [if_pos h, List.getElem?_append_left (by omega), List.getD_eq_getElem?_getD, List.getElem?_eq_getElem (by omega)]; rfl
    · rw [if_neg h, List.getElem?_append_right (by omega), lc, List.getElem?_map, List.getD_eq_getElem?_getD, List.getElem?_eq_getElem (show s + e - n < c.length by omega)]; rfl
  unfold aheadAt
  rw [List.getElem?_map, List.getElem?_take, if_pos he, List.getElem?_drop, e1]; rfl
theorem nextOf_at {n s e : Nat} (hs : s < n) (he : e < n) : (nextOf n s)[e]? = some (((s + e) % n : Nat) : Int) := by
  have c : ∀ i, i < n → (cnt n)[i]? = some (i : Int) := fun i hi => by
    unfold cnt
    rw [List.getElem?_map, List.getElem?_range hi]; rfl
  unfold nextOf
  by_cases h : s + e < n
  · rw [List.getElem?_append_left (by rw [List.length_drop, cnt_len]; omega), List.getElem?_drop, c _ h, Nat.mod_eq_of_lt h]
  · have e2 : (s + e) % n = s + e - n := by
      rw [Nat.mod_eq_sub_mod (by omega), Nat.mod_eq_of_lt (by omega)]
    rw [List.getElem?_append_right (by rw [List.length_drop, cnt_len]; omega), List.length_drop, cnt_len, List.getElem?_take, if_pos (by omega), c _ (by omega), e2]
    congr 1
    omega
/-- what by_rows puts together is the table's row -/
theorem row_is {fk : Folk} {ls : Lines} (fo : FolkOk fk) (lo : LinesB fk.length 10000000 ls) (lh : (ls.length : Int) = heavy fk) {s : Nat} (hs : s < ls.length) :
    (colsI ls.length (tcOf (fk.map Prod.snd) (colsI fk.length ls) ls.length s)).zip (nextOf ls.length s) = rowOf fk ls ls.length (0 + (s : Int)) := by
  have pos := fo.pos
  have lcs := colsI_len fk.length ls
  have ltc : (tcOf (fk.map Prod.snd) (colsI fk.length ls) ls.length s).length = fk.length := by
    unfold tcOf
    rw [List.length_zipWith, List.length_map, lcs, Nat.min_self]
  refine map_is (by rw [List.length_zip, colsI_len, nextOf_len (by omega), Nat.min_self]) fun e x ex => ?_
  have he : e < ls.length := by
    have := (List.getElem?_eq_some_iff.mp ex).1
    rw [List.length_zip, colsI_len, nextOf_len (by omega), Nat.min_self] at this
    exact this
  rw [List.getElem?_zip_eq_some] at ex
  obtain ⟨ex1, ex2⟩ := ex
  rw [nextOf_at hs he] at ex2
  rw [colsI_at he] at ex1
  have e1 := Option.some.inj ex1
  have e2 := Option.some.inj ex2
  have p0 : 0 ≤ (0 + (s : Int) + (0 + (e : Int))) % (ls.length : Int) := Int.emod_nonneg _ (by omega)
  have p1 : (0 + (s : Int) + (0 + (e : Int))) % (ls.length : Int) < ls.length := Int.emod_lt_of_pos _ (by omega)
  have em : (0 + (s : Int) + (0 + (e : Int))) % (ls.length : Int) = (((s + e) % ls.length : Nat) : Int) := by
    rw [Int.natCast_emod]
    congr 1
    omega
  have ed : (0 + (s : Int) + (0 + (e : Int))) / (ls.length : Int) = (((s + e) / ls.length : Nat) : Int) := by
    rw [Int.natCast_ediv]
    congr 1
    omega
  obtain ⟨x1, ex1'⟩ := at_some (xs := ls) p0 p1
  obtain ⟨x0, ex0'⟩ := at_some (xs := ls) (i := 0 + (s : Int)) (by omega) (by omega)
  obtain ⟨n1, n2, n3⟩ := lo.row _ _ ex1'
  obtain ⟨m1, m2, m3⟩ := lo.row _ _ ex0'
  unfold stepOf
  rw [getD_is ex1', getD_is ex0']
  refine Prod.ext ?_ ?_
  · show x.1 = mix _ fk x1 x0
    rw [← e1]
    refine List.ext_getElem? fun j => ?_
    by_cases hj : j < fk.length
    · obtain ⟨p, ep⟩ : ∃ p, fk[j]? = some p := ⟨_, List.getElem?_eq_getElem hj⟩
      obtain ⟨a, ea⟩ : ∃ a, x1[j]? = some a := ⟨_, List.getElem?_eq_getElem (by omega)⟩
      obtain ⟨b, eb⟩ : ∃ b, x0[j]? = some b := ⟨_, List.getElem?_eq_getElem (by omega)⟩
      rw [mix_at ep ea eb, List.getElem?_map]
      have et : (tcOf (fk.map Prod.snd) (colsI fk.length ls) ls.length s)[j]? = some (aheadAt ls.length p.2 (ls.map fun r => r.getD j 0) s) := by
        unfold tcOf
        rw [List.getElem?_zipWith, List.getElem?_map, ep, colsI_at hj]; rfl
      rw [et]
      have lcol : (ls.map fun r => r.getD j 0).length = ls.length := List.length_map ..
      have hg : ∀ i : Nat, i < ls.length → (ls.map fun r => r.getD j 0).getD i 0 = (ls.getD i []).getD j 0 := fun i hi => by
        rw [List.getD_eq_getElem?_getD, List.getElem?_map, List.getD_eq_getElem?_getD (l := ls), List.getElem?_eq_getElem hi]; rfl
      show some ((aheadAt ls.length p.2 (ls.map fun r => r.getD j 0) s).getD e 0) = _
      rw [List.getD_eq_getElem?_getD, ahead_at lcol hs he]
      show some ((if s + e < ls.length then _ else _) - _) = _
      have s0 : (0 + (s : Int)).toNat = s := by omega
      rw [s0] at ex0'
      have eb' : (ls.map fun r => r.getD j 0).getD s 0 = b := by
        rw [hg s hs, getD_is ex0', List.getD_eq_getElem?_getD, eb]; rfl
      rw [eb', ed]
      have t0 : (0 + (s : Int) + (0 + (e : Int))) % (ls.length : Int) = (((s + e) % ls.length : Nat) : Int) := em
      rw [t0, Int.toNat_natCast] at ex1'
      have ea' : (ls.map fun r => r.getD j 0).getD ((s + e) % ls.length) 0 = a := by
        rw [hg _ (Nat.mod_lt _ (by omega)), getD_is ex1', List.getD_eq_getElem?_getD, ea]; rfl
      by_cases h : s + e < ls.length
      · rw [Nat.mod_eq_of_lt h] at ea'
        rw [if_pos h, ea', Nat.div_eq_of_lt h]
        congr 1
        show a - b = 0 * p.2 + a - b
        omega
      · have e3 : (s + e) % ls.length = s + e - ls.length := by rw [Nat.mod_eq_sub_mod (by omega), Nat.mod_eq_of_lt (by omega)]
        have e4 : (s + e) / ls.length = 1 := by
          rw [Nat.div_eq_sub_div (by omega) (by omega), Nat.div_eq_of_lt (by omega)]
        rw [e3] at ea'
        rw [if_neg h, ea', e4]
        congr 1
        show a + p.2 - b = 1 * p.2 + a - b
        omega
    · rw [List.getElem?_eq_none (by rw [List.length_map, ltc]; omega), List.getElem?_eq_none (by rw [mix_len n1 m1]; omega)]
  · show x.2 = _
    rw [← e2, em]
def sp_by_rows (K : PySem.W.Frag) (Z : Ad) : Sp := fun vs H Q _ => ∃ (v u : V) (fk : Folk) (ls : Lines) (S : Addr → Prop), vs = [v, u] ∧ fFolk S H v fk ∧ fLines S H u ls ∧ FolkOk fk ∧ LinesB fk.length 10000000 ls ∧ (ls.length : Int) = heavy fk ∧ fk.length ≤ 16 ∧ heavy fk ≤ 16 ∧
  ∀ r H', Same H H' → fRule Z (New H) H' r (fk, tableOf fk ls) → Q r H'
abbrev N_by_rows : List Str := ["people", "rows", "weights", "nexts", "cents", "rest"]
def t_by_rows (K : PySem.W.Frag) (Z : Ad) : TS :=
  (tSeq (tAsg (tCall (sp_checked_weights K Z) [] E0 (tCons (tVar 0) tNil)) (gName 2)) (tSeq (tDrop (tCall (sp_check_rows K Z) [] E0 (tCons (tVar 1) (tCons (tCB (rSum K) (tCons (tVar 2) tNil)) (tCons (tCB (rLen K) (tCons (tVar 2) tNil)) tNil))))) (tSeq (tAsg (tCall (sp_table_nexts K Z) [] E0 (tCons (tCB (rLen K) (tCons (tVar 1) tNil)) tNil)) (gName 3)) (tSeq (tAsg (tCall (sp_table_cents K Z) [] E0 (tCons (tVar 2) (tCons (tCall (sp_columns_of K Z) [] E0 (tCons (tVar 1) tNil)) (tCons (tCB (rLen K) (tCons (tVar 1) tNil)) tNil)))) (gName 4)) (tRet (tMake Z.c_Rule (sp_Rule___init__ K Z) [] E0 (tCons (tVar 0) (tCons (tLc (iRng1 (tCons (tCB (rLen K) (tCons (tVar 1) tNil)) tNil)) (gName 5) tYes (Ow.tListZipM K (tCons (tCall (sp_rows_of K Z) [] E0 (tCons (tOp (rIxL K) (tVar 4) (tVar 5)) tNil)) (tCons (tOp (rIxL K) (tVar 3) (tVar 5)) tNil))) [5]) tNil))))))))
theorem l_by_rows {K : PySem.W.Frag} {Z : Ad} {vs : List V} {H : Hp} {Q : VK} {E : XK} : sp_by_rows K Z vs H Q E → vs.length = 2 := by
  rintro ⟨_, _, _, _, _, rfl, _⟩; rfl
theorem r_by_rows {K : PySem.W.Frag} {Z : Ad} {vs : List V} {H : Hp} {Q : VK} {E : XK} (R : RuleK K Z) (h : sp_by_rows K Z vs H Q E) : t_by_rows K Z { nx := fun _ H' => Q .non H', rt := Q } (start N_by_rows vs) H := by
  obtain ⟨v, u, fk, ls, S, rfl, ff, fl, fo, lo, lh, n16, hv, q⟩ := h
  show t_by_rows K Z _ [some v, some u, none, none, none, none] H
  unfold t_by_rows
  have pos := fo.pos
  have fl1 := fo.len
  have lln : ∀ r ∈ ls, r.length = fk.length := fun r m => by
    obtain ⟨i, hi⟩ := List.mem_iff_getElem?.mp m
    exact (lo.row i r hi).1
  walk_at "go"
  refine ⟨v, fk, S, rfl, ff, fo, by omega, fun W H1 s1 nW hW => ?_⟩
  walk_at "go"
  refine w_sum (SqL.of hW) ?_
  walk_at "go"
  refine w_lenI hW ?_
  walk_at "go"
  rw [List.length_map]
  refine ⟨u, ls, S, fk.length, 10000000, ?_, gLines.same s1 fl, lo, by omega, fun H2 s2 => ?_⟩
  · show [u, V.int (heavy fk), V.int fk.length] = _
    rw [← lh]
  have s12 := s1.trans s2
  walk_at "go"
  refine w_lenF (gLines.same s12 fl) ?_
  walk_at "go"
  refine ⟨ls.length, rfl, by omega, fun nv H3 s3 fnx => ?_⟩
  have s13 := s12.trans s3
  walk_at "go"
  refine ⟨u, ls, fk.length, S, rfl, gLines.same s13 fl, by omega, by omega, lln, by omega, fun cu H4 s4 fcu => ?_⟩
  have s14 := s13.trans s4
  walk_at "go"
  refine w_lenF (gLines.same s14 fl) ?_
  walk_at "go"
  refine ⟨W, cu, fk.map Prod.snd, colsI fk.length ls, New H3, ls.length, rfl, (s2.trans (s3.trans s4)) _ _ hW, fcu, by rw [colsI_len, List.length_map], by rw [List.length_map]; omega, fun c mc => ?_, by omega, fun tc H5 s5 ftc => ?_⟩
  · unfold colsI at mc
    obtain ⟨j, _, rfl⟩ := List.mem_map.mp mc
    rw [List.length_map]
  have s15 := s14.trans s5
  have fnx5 : fL (fV fI) (New H) H5 nv ((List.range ls.length).map fun s => nextOf ls.length s) := (gL (gV gI)).same (s4.trans s5) ((gL (gV gI)).mono (fun a s => dom_same s12 a s) fnx)
  walk_at "go"
  refine w_make ?_
  walk_at "go"
  refine w_lc (w_rng1 ?_)
  walk_at "go"
  refine w_lenF (gLines.same s15 fl) ?_
  walk_at "go"
  refine w_rng1K (by omega) (by omega) ?_
  refine lc_same gRow (src_range 0 ((ls.length : Int)).toNat) (fun i as => as = (List.range i).map fun s : Nat => rowOf fk ls ls.length (0 + (s : Int))) (by omega) rfl (fun _ _ => trivial) ?_ ?_
  · rintro i as H6 x H7 N N' hi rfl s6 ⟨rfl, rfl⟩ hN hN'
    have hi' : i < ls.length := by omega
    refine w_name (by simp only [wipe, List.set_cons_zero, List.set_cons_succ]; exact rfl) ?_
    refine ⟨rfl, w_yes (w_iteT ?_)⟩
    refine w_lzM ?_
    walk_at "go"
    refine w_ixF ((gL (gV (gV gI))).same s6 ftc) (by omega) (by rw [List.length_map, List.length_range]; omega) fun tu t et ft => ?_
    have i0 : (0 + (i : Int)).toNat = i := by omega
    rw [i0] at et
    obtain ⟨_, rfl⟩ := rng_at et
    have ltc : (tcOf (fk.map Prod.snd) (colsI fk.length ls) ls.length i).length = fk.length := by
      unfold tcOf
      rw [List.length_zipWith, List.length_map, colsI_len, Nat.min_self]
    walk_at "go"
    refine ⟨tu, _, ls.length, _, rfl, ft, by rw [ltc]; exact fl1, by rw [ltc]; exact n16, fun c mc => ?_, by omega, fun rw_ H8 s8 frw => ?_⟩
    · obtain ⟨j, ej⟩ := List.mem_iff_getElem?.mp mc
      unfold tcOf at ej
      rw [List.getElem?_zipWith] at ej
      cases e1 : (fk.map Prod.snd)[j]? with
      | none => rw [e1] at ej; cases ej
      | some w' =>
        cases e2 : (colsI fk.length ls)[j]? with
        | none => rw [e1, e2] at ej; cases ej
        | some c' =>
          rw [e1, e2] at ej
          cases ej
          have lc' : c'.length = ls.length := by
            have := List.mem_of_getElem? e2
            unfold colsI at this
            obtain ⟨j', _, rfl⟩ := List.mem_map.mp this
            rw [List.length_map]
          unfold aheadAt aheadOf
          rw [List.length_map, List.length_take, List.length_drop, List.length_append, List.length_map]
          omega
    walk_at "go"
    refine w_ixF ((gL (gV gI)).same (s6.trans s8) fnx5) (by omega) (by rw [List.length_map, List.length_range]; omega) fun nu nx enx fn => ?_
    rw [i0] at enx
    obtain ⟨_, rfl⟩ := rng_at enx
    walk_at "go"
    refine lzm_deals frw fn (by rw [colsI_len, nextOf_len (by omega)]) (by rw [nextOf_len (by omega)]; omega) fun l H9 s9 fl9 => ?_
    rw [row_is fo lo lh hi'] at fl9
    refine hN l _ H9 (s8.trans s9) (gRow.mono (fun a s => ?_) fl9) (by rw [List.range_succ, List.map_append]; rfl)
    rcases s with s | s
    · exact s
    · exact dom_same s8 a s
  · rintro D as H6 nD s6 rfl f6
    have f6' : fTabs (New H5) H6 (.ref D) (tableOf fk ls) := f6
    walk_at "go"
    have s16 := s15.trans s6
    refine w_mkK fun x dx H7 nx s7 hx => ?_
    have nx0 : H x = none := dom_same s16 x nx
    have ff3 := gFolk.there (gFolk.same s16 ff)
    have ft3 := gTabs.there f6'
    refine ⟨x, dx, v, .ref D, fk, tableOf fk ls, fun a => a ≠ x, rfl, hx, gFolk.same s7 (gFolk.mono (fun a z e => z.2 (e ▸ nx)) ff3), gTabs.same s7 (gTabs.mono (fun a z e => z.2 (e ▸ nx)) ft3), table_plan fo lo lh hv n16, fun a h => h, fun H8 K8 f8 => ⟨rfl, ?_⟩⟩
    have s04 := s16.trans s7
    refine q _ H8 (fun b o e => K8 b o (ne_of_none e nx0) (s04 b o e)) (gRule.mono (fun a z => ?_) f8)
    rcases z with z | rfl
    · exact dom_same s04 a z
    · exact nx0
end Ow

set_option Elab.async false
set_option linter.all false
set_option maxRecDepth 100000
namespace Ow
open PySem L2
local macro_rules | `(tactic| walk_at "go") => `(tactic| (repeat (with_reducible first
  | refine w_seq ?_ | refine w_asg ?_ | refine w_ret ?_ | refine w_if ?_ | refine w_next ?_ | refine w_drop ?_
  | refine w_var (by with_unfolding_all rfl) ?_ | refine w_c ?_ | refine w_op ?_ | refine w_cons ?_ | refine w_nil ?_ | refine w_cb ?_ | refine w_call ?_
  | refine w_name (by simp only [List.set_cons_zero, List.set_cons_succ]; exact rfl) ?_
  | refine w_add ?_ | refine w_sub ?_ | refine w_lt ?_ | refine w_le ?_ | refine w_gt ?_ | refine w_ge ?_ | refine w_eqI ?_ | refine w_neI ?_
  | refine w_test ?_ | refine w_testK ?_ | refine w_tB ?_ | refine w_intI ?_ | refine w_intB ?_ | refine w_max2 ?_ | refine w_min2 ?_
  | refine w_lst ?_ | refine w_tup ?_ | refine w_gSub ?_ | refine w_fld ?_ | refine w_un ?_ | refine w_neg ?_ | refine w_par ?_ | refine w_tIf ?_ | refine w_and ?_ | refine w_or ?_ | refine w_not ?_
  | refine w_mod (by omega) ?_ | refine w_div (cdiv (by omega) (by omega)) ?_ | refine w_mul (cmulL (by omega) (by omega)) ?_ | refine w_mul (cmulR (by omega) (by omega)) ?_ | refine w_pow (cpow (by omega) (by omega) (by omega) (by omega)) ?_
  | refine w_ixL (SqL.of (by assumption)) (by with_unfolding_all rfl) ?_)))
/-! ### people and tables as data -/
def pairD (p : Str × Int) : PyData := .tuple [.str p.1, .int p.2]
def folkD (fk : Folk) : PyData := .list (fk.map pairD)
theorem dpAll_of {α : Type} {K : PySem.W.Frag} {H : Hp} {f : α → PyData} : ∀ {vs : List V} {xs : List α}, All2 (fun v x => Dp K H v (f x)) vs xs → DpAll K H vs (xs.map f)
  | _, _, .nil => .nil
  | _, _, .cons a b => .cons a (dpAll_of b)
theorem dp_list {α : Type} {F : Fam α} {K : PySem.W.Frag} {S : Addr → Prop} {H : Hp} {v : V} {xs : List α} {f : α → PyData} (h : fL F S H v xs) (g : ∀ v x, F S H v x → Dp K H v (f x)) : Dp K H v (.list (xs.map f)) := by
  obtain ⟨a, vs, rfl, _, h, r⟩ := h
  exact .lst (SqL.of h) (dpAll_of (r.imp g))
section
variable {K : PySem.W.Frag} {S : Addr → Prop} {H : Hp} {v : V}
theorem dp_folk {fk : Folk} (h : fFolk S H v fk) : Dp K H v (folkD fk) := dp_list h fun v p ⟨a, u, w, e, _, h, f, g⟩ => by
  cases f; cases g
  rw [e]
  exact .tup (SqT.of h) (.cons (.str _) (.cons (.int _) .nil))
end
def tupD {α : Type} (f : α → PyData) (xs : List α) : PyData := .tuple (xs.map f)
theorem dp_tupl {α : Type} {F : Fam α} {K : PySem.W.Frag} {S : Addr → Prop} {H : Hp} {v : V} {xs : List α} {f : α → PyData} (h : fV F S H v xs) (g : ∀ v x, F S H v x → Dp K H v (f x)) : Dp K H v (tupD f xs) := by
  obtain ⟨a, vs, rfl, _, h, r⟩ := h
  exact .tup (SqT.of h) (dpAll_of (r.imp g))
theorem tame_tupD {α : Type} {f : α → PyData} {xs : List α} {j k : Nat} (h : ∀ x ∈ xs, Tame j k (f x)) : Tame (j + 1) ((k + 1) * xs.length) (tupD f xs) := by
  have := Tame.tuple (j := j) (k := k) (ds := xs.map f) fun d m => by
    obtain ⟨p, hp, rfl⟩ := List.mem_map.mp m
    exact h p hp
  rwa [List.length_map] at this
def folkT (fk : Folk) : PyData := tupD pairD fk
def centsD (cs : List (List (List Int))) : PyData := tupD (tupD (tupD PyData.int)) cs
def nextsD (ns : List (List Int)) : PyData := tupD (tupD PyData.int) ns
section
variable {K : PySem.W.Frag} {S : Addr → Prop} {H : Hp} {v : V}
theorem dp_int {x : Int} (h : fI S H v x) : Dp K H v (PyData.int x) := by
  cases h; exact .int _
theorem dp_folkT {fk : Folk} (h : fPeople S H v fk) : Dp K H v (folkT fk) := dp_tupl h fun v p ⟨a, u, w, e, _, h, f, g⟩ => by
  cases f; cases g
  rw [e]
  exact .tup (SqT.of h) (.cons (.str _) (.cons (.int _) .nil))
theorem dp_cents {cs : List (List (List Int))} (h : fCents S H v cs) : Dp K H v (centsD cs) := dp_tupl h fun v r h => dp_tupl h fun v c h => dp_tupl h fun v x h => dp_int h
theorem dp_nexts {ns : List (List Int)} (h : fNexts S H v ns) : Dp K H v (nextsD ns) := dp_tupl h fun v c h => dp_tupl h fun v x h => dp_int h
end
theorem Tame.name {s : Str} (o : OkName s) : Tame 0 41 (.str s) := by
  have hi := o.hi
  refine ⟨?_, rfl, rfl, Nat.le_refl 0, by show s.cps.size ≤ 41; exact Nat.le_trans o.hi (by decide)⟩
  show s.cps.all (· < 0x110000) = true
  rw [Array.all_eq_true_iff_forall_mem]
  intro c hc
  have := o.az c (Array.mem_toList_iff.mpr hc)
  exact decide_eq_true (by omega)
theorem tame_folkT {fk : Folk} (o : FolkOk fk) (hv : heavy fk ≤ 16) : Tame 2 (85 * fk.length) (folkT fk) := by
  refine tame_tupD (j := 1) (k := 84) fun p hp => ?_
  refine Tame.tuple (j := 0) (k := 41) (ds := [.str p.1, .int p.2]) fun d m => ?_
  simp only [List.mem_cons, List.not_mem_nil, or_false] at m
  have nn := o.nn p.2 (List.mem_map_of_mem hp)
  have le := le_sum o.nn p.2 (List.mem_map_of_mem hp)
  change p.2 ≤ heavy fk at le
  rcases m with rfl | rfl
  · exact Tame.name (o.ok p hp)
  · exact Tame.int (by omega) (by omega)
theorem tame_cents {fk : Folk} {ts : Tabs} (o : PlanOk fk ts) : ∃ k, Tame 3 k (centsD (centsOf fk.length ts)) := by
  refine ⟨_, tame_tupD (j := 2) (k := 100000) fun c m => ?_⟩
  obtain ⟨r, hr, rfl⟩ := List.mem_map.mp m
  obtain ⟨i, hi⟩ := List.mem_iff_getElem?.mp hr
  have rok := o.tabs.row i r hi
  have rl := rok.len
  have hv := o.hv
  have ol := o.len
  refine (tame_tupD (j := 1) (k := 5000) fun d m => ?_).mono (Nat.le_refl 2) (by rw [colsI_len]; omega)
  obtain ⟨j, hj, rfl⟩ := List.mem_map.mp m
  refine (tame_tupD (j := 0) (k := 41) fun x m => ?_).mono (Nat.le_refl 1) (by rw [List.length_map, List.length_map]; omega)
  obtain ⟨xs, hxs, rfl⟩ := List.mem_map.mp m
  obtain ⟨d', hd, rfl⟩ := List.mem_map.mp hxs
  obtain ⟨e, he⟩ := List.mem_iff_getElem?.mp hd
  have dok := rok.deal e d' he
  have hb : -30000000 ≤ d'.1.getD j 0 ∧ d'.1.getD j 0 ≤ 30000000 := by
    by_cases hl : j < d'.1.length
    · rw [List.getD_eq_getElem?_getD, List.getElem?_eq_getElem hl]
      exact dok.in_ _ (List.getElem_mem hl)
    · rw [List.getD_eq_getElem?_getD, List.getElem?_eq_none (by omega)]
      exact ⟨by decide, by decide⟩
  exact Tame.int (by omega) (by omega)
theorem tame_nexts {fk : Folk} {ts : Tabs} (o : PlanOk fk ts) : ∃ k, Tame 2 k (nextsD (nextsOf ts)) := by
  refine ⟨_, tame_tupD (j := 1) (k := 5000) fun c m => ?_⟩
  obtain ⟨r, hr, rfl⟩ := List.mem_map.mp m
  obtain ⟨i, hi⟩ := List.mem_iff_getElem?.mp hr
  have rok := o.tabs.row i r hi
  have rl := rok.len
  have hv := o.hv
  have tl := o.tl
  refine (tame_tupD (j := 0) (k := 41) fun x m => ?_).mono (Nat.le_refl 1) (by rw [List.length_map]; omega)
  obtain ⟨d', hd, rfl⟩ := List.mem_map.mp m
  obtain ⟨e, he⟩ := List.mem_iff_getElem?.mp hd
  have dok := rok.deal e d' he
  have dhi := dok.hi
  have dlo := dok.lo
  exact Tame.int (by omega) (by omega)
end Ow

set_option Elab.async false
set_option linter.all false
set_option maxRecDepth 100000
namespace Ow
open PySem L2
local macro_rules | `(tactic| walk_at "go") => `(tactic| (repeat (with_reducible first
  | refine w_seq ?_ | refine w_asg ?_ | refine w_ret ?_ | refine w_if ?_ | refine w_next ?_ | refine w_drop ?_
  | refine w_var (by with_unfolding_all rfl) ?_ | refine w_c ?_ | refine w_op ?_ | refine w_cons ?_ | refine w_nil ?_ | refine w_cb ?_ | refine w_call ?_
  | refine w_name (by simp only [List.set_cons_zero, List.set_cons_succ]; exact rfl) ?_
  | refine w_add ?_ | refine w_sub ?_ | refine w_lt ?_ | refine w_le ?_ | refine w_gt ?_ | refine w_ge ?_ | refine w_eqI ?_ | refine w_neI ?_
  | refine w_test ?_ | refine w_testK ?_ | refine w_tB ?_ | refine w_intI ?_ | refine w_intB ?_ | refine w_max2 ?_ | refine w_min2 ?_
  | refine w_lst ?_ | refine w_tup ?_ | refine w_gSub ?_ | refine w_fld ?_ | refine w_un ?_ | refine w_neg ?_ | refine w_par ?_ | refine w_tIf ?_ | refine w_and ?_ | refine w_or ?_ | refine w_not ?_
  | refine w_mod (by omega) ?_ | refine w_div (cdiv (by omega) (by omega)) ?_ | refine w_mul (cmulL (by omega) (by omega)) ?_ | refine w_mul (cmulR (by omega) (by omega)) ?_ | refine w_pow (cpow (by omega) (by omega) (by omega) (by omega)) ?_
  | refine w_ixL (SqL.of (by assumption)) (by with_unfolding_all rfl) ?_)))
/-! ### == of rules -/
def eqR (fk fk' : Folk) (ts ts' : Tabs) : Bool := PyData.eqv (folkT fk) (folkT fk') && (PyData.eqv (centsD (centsOf fk.length ts)) (centsD (centsOf fk'.length ts')) && PyData.eqv (nextsD (nextsOf ts)) (nextsD (nextsOf ts')))
def sp_Rule___eq__ (K : PySem.W.Frag) (Z : Ad) : Sp := fun vs H Q _ => (∃ (v u : V) (fk fk' : Folk) (ts ts' : Tabs) (S S' : Addr → Prop), vs = [v, u] ∧ fRule Z S H v (fk, ts) ∧ fRule Z S' H u (fk', ts') ∧ PlanOk fk ts ∧ PlanOk fk' ts' ∧
  ∀ H', Same H H' → Q (.bl (eqR fk fk' ts ts')) H') ∨ ∃ (v u : V) (t : String) (x : Folk × Tabs) (S : Addr → Prop), vs = [v, u] ∧ fRule Z S H v x ∧ Ty7 H u (.type t) ∧ PySem.W.kitOne K (.type t) (.ref Z.c_Rule) = some false ∧ ∀ H', Same H H' → Q (.bl false) H'
abbrev N_Rule___eq__ : List Str := ["self", "other"]
def t_Rule___eq__ (K : PySem.W.Frag) (Z : Ad) : TS :=
  (tSeq (tIfS (tNot (tB (tCB (rIsi K) (tCons (tVar 1) (tCons (tC (.ref Z.c_Rule)) tNil))))) (tRet (tC (.bl false))) tNext) (tRet (tAndV (tOp (rEqD K) (tFld K (tVar 0) "_people") (tFld K (tVar 1) "_people")) (tAndV (tOp (rEqD K) (tFld K (tVar 0) "_cents") (tFld K (tVar 1) "_cents")) (tOp (rEqD K) (tFld K (tVar 0) "_nexts") (tFld K (tVar 1) "_nexts"))))))
theorem l_Rule___eq__ {K : PySem.W.Frag} {Z : Ad} {vs : List V} {H : Hp} {Q : VK} {E : XK} : sp_Rule___eq__ K Z vs H Q E → vs.length = 2 := by
  rintro (⟨_, _, _, _, _, _, _, _, rfl, _⟩ | ⟨_, _, _, _, _, rfl, _⟩) <;> rfl
theorem r_Rule___eq__ {K : PySem.W.Frag} {Z : Ad} {vs : List V} {H : Hp} {Q : VK} {E : XK} (R : RuleK K Z) (h : sp_Rule___eq__ K Z vs H Q E) : t_Rule___eq__ K Z { nx := fun _ H' => Q .non H', rt := Q } (start N_Rule___eq__ vs) H := by
  rcases h with h | ⟨v, u, t, x, S, rfl, _, ty, kn, q⟩
  rotate_left
  · show t_Rule___eq__ K Z _ [some v, some u] H
    unfold t_Rule___eq__
    walk_at "go"
    refine ⟨u, .ref Z.c_Rule, _, _, false, rfl, .own _, ty.tyx, kn, ?_⟩
    walk_at "go"
    refine w_iteT ?_
    walk_at "go"
    exact q H (Same.refl _)
  obtain ⟨_, _, fk, fk', ts, ts', S, S', rfl, ⟨a, dx, pv, cv, nv, rfl, _, ha, fp, fc, fn⟩, ⟨b, dy, pw, cw, nw, rfl, _, hb, fp', fc', fn'⟩, ok, ok', q⟩ := h
  change fPeople S H pv fk at fp
  change fPeople S' H pw fk' at fp'
  change fCents S H cv (centsOf fk.length ts) at fc
  change fCents S' H cw (centsOf fk'.length ts') at fc'
  change fNexts S H nv (nextsOf ts) at fn
  change fNexts S' H nw (nextsOf ts') at fn'
  show t_Rule___eq__ K Z _ [some (.ref a), some (.ref b)] H
  unfold t_Rule___eq__
  have q' := q H (Same.refl _)
  unfold eqR at q'
  walk_at "go"
  refine ⟨.ref b, .ref Z.c_Rule, _, _, true, rfl, .own _, .base (.ins hb R.ic.cl R.ic.ha R.ic.hn R.ic.htk R.ic.hm), R.ic.me, ?_⟩
  walk_at "go"
  refine w_iteF ?_
  walk_at "go"
  refine w_andV ?_
  walk_at "go"
  refine w_fldK ha R.cl R.np (by with_unfolding_all rfl) ?_
  walk_at "go"
  refine w_fldK hb R.cl R.np (by with_unfolding_all rfl) ?_
  have t1 := tame_folkT ok.folk ok.hv
  have t1' := tame_folkT ok'.folk ok'.hv
  obtain ⟨k2, t2⟩ := tame_cents ok
  obtain ⟨k2', t2'⟩ := tame_cents ok'
  obtain ⟨k3, t3⟩ := tame_nexts ok
  obtain ⟨k3', t3'⟩ := tame_nexts ok'
  refine w_eqD (dp_folkT fp) (dp_folkT fp') t1 t1' (by decide) (by decide) ?_
  refine w_andVK ?_
  refine w_iteB (fun e => ?_) fun e => ?_
  · rw [e, Bool.true_and] at q'
    walk_at "go"
    refine w_andV ?_
    walk_at "go"
    refine w_fldK ha R.cl R.nc (by with_unfolding_all rfl) ?_
    walk_at "go"
    refine w_fldK hb R.cl R.nc (by with_unfolding_all rfl) ?_
    refine w_eqD (dp_cents fc) (dp_cents fc') t2 t2' (by decide) (by decide) ?_
    refine w_andVK ?_
    refine w_iteB (fun e2 => ?_) fun e2 => ?_
    · rw [e2, Bool.true_and] at q'
      walk_at "go"
      refine w_fldK ha R.cl R.nn (by with_unfolding_all rfl) ?_
      walk_at "go"
      refine w_fldK hb R.cl R.nn (by with_unfolding_all rfl) ?_
      exact w_eqD (dp_nexts fn) (dp_nexts fn') t3 t3' (by decide) (by decide) q'
    · rw [e2, Bool.false_and] at q'
      exact q'
  · rw [e, Bool.false_and] at q'
    exact q'
/-- two rules of one plan -/
theorem eq_one {fk : Folk} {ts : Tabs} (ok : PlanOk fk ts) : eqR fk fk ts ts = true := by
  obtain ⟨k2, t2⟩ := tame_cents ok
  obtain ⟨k3, t3⟩ := tame_nexts ok
  unfold eqR
  rw [SeqAt.eqv_refl _ (tame_folkT ok.folk ok.hv).lay, SeqAt.eqv_refl _ t2.lay, SeqAt.eqv_refl _ t3.lay]; rfl
theorem w_cmpOne {K : PySem.W.Frag} {Z : Ad} {neg : Bool} {E : XK} {S S' : Addr → Prop} {v u : V} {fk : Folk} {ts : Tabs} {H : Hp} {Q : VK} (f : fRule Z S H v (fk, ts)) (f' : fRule Z S' H u (fk, ts)) (ok : PlanOk fk ts) (q : ∀ H', Same H H' → Q (.bl (!neg)) H') :
    rCmpO Z.c_Rule neg (sp_Rule___eq__ K Z) E v u H Q := by
  have f0 := f
  have f0' := f'
  obtain ⟨a, dx, pv, cv, nv, rfl, _, ha, _, _⟩ := f
  obtain ⟨b, dy, pw, cw, nw, rfl, _, hb, _, _⟩ := f'
  refine ⟨a, b, dx, dy, _, _, rfl, rfl, ha, hb, .inl ⟨.ref a, .ref b, fk, fk, ts, ts, S, S', rfl, f0, f0', ok, ok, fun H' s => ⟨_, rfl, ?_⟩⟩⟩
  rw [eq_one ok]
  cases neg
  · exact q H' s
  · exact q H' s
/-- a rule beside what is none -/
theorem w_cmpAny {K : PySem.W.Frag} {Z : Ad} {E : XK} {S : Addr → Prop} {v u : V} {x : Folk × Tabs} {t : String} {H : Hp} {Q : VK} (f : fRule Z S H v x) (ty : Ty7 H u (.type t)) (kn : PySem.W.kitOne K (.type t) (.ref Z.c_Rule) = some false) (nf : PySem.W.notFirst K Z.c_Rule (.type t) = true) (q : ∀ H', Same H H' → Q (.bl false) H') :
    rCmpX K Z.c_Rule (sp_Rule___eq__ K Z) E v u H Q := by
  have f0 := f
  obtain ⟨a, dx, pv, cv, nv, rfl, _, ha, _, _⟩ := f
  exact ⟨a, dx, _, _, rfl, ha, ty, nf, .inr ⟨.ref a, u, t, x, S, rfl, f0, ty, kn, fun H' s => ⟨_, rfl, q H' s⟩⟩⟩
end Ow

set_option Elab.async false
set_option linter.all false
set_option maxRecDepth 100000
namespace Ow
open PySem L2
local macro_rules | `(tactic| walk_at "go") => `(tactic| (repeat (with_reducible first
  | refine w_seq ?_ | refine w_asg ?_ | refine w_ret ?_ | refine w_if ?_ | refine w_next ?_ | refine w_drop ?_
  | refine w_var (by with_unfolding_all rfl) ?_ | refine w_c ?_ | refine w_op ?_ | refine w_cons ?_ | refine w_nil ?_ | refine w_cb ?_ | refine w_call ?_
  | refine w_name (by simp only [List.set_cons_zero, List.set_cons_succ]; exact rfl) ?_
  | refine w_add ?_ | refine w_sub ?_ | refine w_lt ?_ | refine w_le ?_ | refine w_gt ?_ | refine w_ge ?_ | refine w_eqI ?_ | refine w_neI ?_
  | refine w_test ?_ | refine w_testK ?_ | refine w_tB ?_ | refine w_intI ?_ | refine w_intB ?_ | refine w_max2 ?_ | refine w_min2 ?_
  | refine w_lst ?_ | refine w_tup ?_ | refine w_gSub ?_ | refine w_fld ?_ | refine w_un ?_ | refine w_neg ?_ | refine w_par ?_ | refine w_tIf ?_ | refine w_and ?_ | refine w_or ?_ | refine w_not ?_
  | refine w_mod (by omega) ?_ | refine w_div (cdiv (by omega) (by omega)) ?_ | refine w_mul (cmulL (by omega) (by omega)) ?_ | refine w_mul (cmulR (by omega) (by omega)) ?_ | refine w_pow (cpow (by omega) (by omega) (by omega) (by omega)) ?_
  | refine w_ixL (SqL.of (by assumption)) (by with_unfolding_all rfl) ?_)))
/-! ### who is furthest behind -/
def dueL (h c : Int) (ws row : List Int) : List Int := List.zipWith (fun w x => c * w - h * x) ws row
structure TopN (xs : List Int) (n j : Nat) : Prop where
  lt : j < n
  ge : ∀ (m : Nat) y, m < n → xs[m]? = some y → y ≤ xs.getD j 0
  first : ∀ (m : Nat) y, m < j → xs[m]? = some y → y < xs.getD j 0
theorem getD_at {xs : List Int} {j : Nat} {x : Int} (h : xs[j]? = some x) : xs.getD j 0 = x := by rw [List.getD_eq_getElem?_getD, h]; rfl
theorem TopN.one {xs : List Int} {i j : Nat} (a : TopN xs xs.length i) (b : TopN xs xs.length j) : i = j := by
  have key : ∀ {i j : Nat}, TopN xs xs.length i → TopN xs xs.length j → ¬ i < j := fun {i j} a b h => by
    obtain ⟨x, ex⟩ : ∃ x, xs[i]? = some x := ⟨_, List.getElem?_eq_getElem a.lt⟩
    obtain ⟨y, ey⟩ : ∃ y, xs[j]? = some y := ⟨_, List.getElem?_eq_getElem b.lt⟩
    have h1 := b.first i x h ex
    have h2 := a.ge j y b.lt ey
    rw [getD_at ey] at h1
    rw [getD_at ex] at h2
    omega
  rcases Nat.lt_trichotomy i j with h | h | h
  · exact absurd h (key a b)
  · exact h
  · exact absurd h (key b a)
theorem TopN.step {xs : List Int} {n j : Nat} {y : Int} (t : TopN xs n j) (e : xs[n]? = some y) : (y > xs.getD j 0 → TopN xs (n + 1) n) ∧ (¬ y > xs.getD j 0 → TopN xs (n + 1) j) := by
  refine ⟨fun h => ⟨Nat.lt_succ_self n, fun m z hm hz => ?_, fun m z hm hz => ?_⟩, fun h => ⟨Nat.lt_succ_of_lt t.lt, fun m z hm hz => ?_, t.first⟩⟩
  · rw [getD_at e]
    by_cases hn : m = n
    · subst hn
      rw [e] at hz
      cases hz
      exact Int.le_refl _
    · have := t.ge m z (by omega) hz
      omega
  · rw [getD_at e]
    have := t.ge m z hm hz
    omega
  · by_cases hn : m = n
    · subst hn
      rw [e] at hz
      cases hz
      omega
    · exact t.ge m z (by omega) hz
theorem top_zero {xs : List Int} (h : 0 < xs.length) : TopN xs 1 0 := by
  refine ⟨Nat.zero_lt_one, fun m y hm hy => ?_, fun m y hm => absurd hm (Nat.not_lt_zero _)⟩
  have : m = 0 := by omega
  subst this
  rw [getD_at hy]
  exact Int.le_refl _
theorem top_ex {xs : List Int} (h : 0 < xs.length) : ∃ j, TopN xs xs.length j := by
  have key : ∀ n, 1 ≤ n → n ≤ xs.length → ∃ j, TopN xs n j := by
    intro n
    induction n with
    | zero => intro h; omega
    | succ n ih =>
      intro _ hn
      by_cases hz : n = 0
      · subst hz; exact ⟨0, top_zero h⟩
      · obtain ⟨j, t⟩ := ih (by omega) (by omega)
        obtain ⟨y, ey⟩ : ∃ y, xs[n]? = some y := ⟨_, List.getElem?_eq_getElem hn⟩
        obtain ⟨s1, s2⟩ := t.step ey
        by_cases hy : y > xs.getD j 0
        · exact ⟨n, s1 hy⟩
        · exact ⟨j, s2 hy⟩
  exact key xs.length h (Nat.le_refl _)
open Classical in
noncomputable def topOf (xs : List Int) : Nat := if h : ∃ j, TopN xs xs.length j then h.choose else 0
theorem topOf_is {xs : List Int} {j : Nat} (t : TopN xs xs.length j) : topOf xs = j := by
  have ex : ∃ j, TopN xs xs.length j := ⟨j, t⟩
  unfold topOf
  rw [dif_pos ex]
  exact ex.choose_spec.one t
noncomputable def nextRow (h c : Int) (ws row : List Int) : List Int := row.set (topOf (dueL h c ws row)) (row.getD (topOf (dueL h c ws row)) 0 + 1)
noncomputable def turnRow (h : Int) (ws : List Int) : Nat → List Int
  | 0 => List.replicate ws.length 0
  | r + 1 => nextRow h ((r : Int) + 1) ws (turnRow h ws r)
noncomputable def turnLs (h : Int) (ws : List Int) (n : Nat) : Lines := (List.range n).map fun r => turnRow h ws r
theorem turnLs_len {h : Int} {ws : List Int} {n : Nat} : (turnLs h ws n).length = n := by unfold turnLs; rw [List.length_map, List.length_range]
theorem turnLs_at {h : Int} {ws : List Int} {n r : Nat} (hr : r < n) : (turnLs h ws n)[r]? = some (turnRow h ws r) := by
  unfold turnLs
  rw [List.getElem?_map, List.getElem?_range hr]; rfl
theorem turnLs_succ {h : Int} {ws : List Int} {n : Nat} : turnLs h ws (n + 1) = turnLs h ws n ++ [turnRow h ws n] := by
  unfold turnLs
  rw [List.range_succ, List.map_append]; rfl
theorem due_len {h c : Int} {ws row : List Int} (l : row.length = ws.length) : (dueL h c ws row).length = ws.length := by
  unfold dueL
  rw [List.length_zipWith, l, Nat.min_self]
theorem due_at {h c : Int} {ws row : List Int} {j : Nat} {w x : Int} (e1 : ws[j]? = some w) (e2 : row[j]? = some x) : (dueL h c ws row)[j]? = some (c * w - h * x) := by
  unfold dueL
  rw [List.getElem?_zipWith, e1, e2]
theorem due_sum {h c : Int} : ∀ {ws row : List Int}, row.length = ws.length → (dueL h c ws row).sum = c * ws.sum - h * row.sum
  | [], [], _ => by show (0 : Int) = c * 0 - h * 0; omega
  | [], _ :: _, l => by simp at l
  | _ :: _, [], l => by simp at l
  | w :: ws, x :: row, l => by
    show c * w - h * x + (dueL h c ws row).sum = c * (w + ws.sum) - h * (x + row.sum)
    rw [due_sum (by simpa using l), Int.mul_add, Int.mul_add]
    omega
theorem sum_le_zero : ∀ {xs : List Int}, (∀ x ∈ xs, x ≤ 0) → xs.sum ≤ 0
  | [], _ => Int.le_refl 0
  | x :: xs, h => by
    have a := h x (List.mem_cons_self ..)
    have b := sum_le_zero (xs := xs) fun y m => h y (List.mem_cons_of_mem _ m)
    rw [List.sum_cons]
    omega
structure TR (ws : List Int) (r : Nat) (row : List Int) : Prop where
  len : row.length = ws.length
  sum : row.sum = r
  at_ : ∀ (j : Nat) x w, row[j]? = some x → ws[j]? = some w → 0 ≤ x ∧ x ≤ w
theorem tr_all {h : Int} {ws : List Int} (hs : ws.sum = h) (h0 : 0 < h) (nn : ∀ w ∈ ws, 0 ≤ w) : ∀ r : Nat, (r : Int) < h → TR ws r (turnRow h ws r)
  | 0, _ => ⟨List.length_replicate .., sum_zeros _, fun j x w ex ew => by
      have hx : x = 0 := List.eq_of_mem_replicate (List.mem_of_getElem? ex)
      have := nn w (List.mem_of_getElem? ew)
      omega⟩
  | r + 1, hr => by
    have ih := tr_all hs h0 nn r (by omega)
    show TR ws (r + 1) (nextRow h ((r : Int) + 1) ws (turnRow h ws r))
    generalize turnRow h ws r = row at ih
    have il := ih.len
    have is := ih.sum
    have wl : 0 < ws.length := by
      cases ws with
      | nil =>
        have : (0 : Int) = h := hs
        omega
      | cons _ _ => exact Nat.succ_pos _
    have dl := due_len (h := h) (c := (r : Int) + 1) il
    obtain ⟨j, t⟩ := top_ex (xs := dueL h ((r : Int) + 1) ws row) (by omega)
    have tl := t.lt
    obtain ⟨w, ew⟩ : ∃ w, ws[j]? = some w := ⟨_, List.getElem?_eq_getElem (by omega)⟩
    obtain ⟨x, ex⟩ : ∃ x, row[j]? = some x := ⟨_, List.getElem?_eq_getElem (by omega)⟩
    have ed := due_at (h := h) (c := (r : Int) + 1) ew ex
    have dpos : 0 < ((r : Int) + 1) * w - h * x := by
      refine Int.not_le.mp fun le => ?_
      have := sum_le_zero (xs := dueL h ((r : Int) + 1) ws row) fun y m => by
        obtain ⟨i, hi⟩ := List.mem_iff_getElem?.mp m
        have := t.ge i y (List.getElem?_eq_some_iff.mp hi).1 hi
        rw [getD_at ed] at this
        omega
      rw [due_sum il, hs, is, Int.add_mul, Int.mul_comm h (r : Int)] at this
      omega
    obtain ⟨x0, xw⟩ := ih.at_ j x w ex ew
    have w0 := nn w (List.mem_of_getElem? ew)
    have lt : x < w := by
      refine Int.not_le.mp fun le => ?_
      have e1 : h * w ≤ h * x := Int.mul_le_mul_of_nonneg_left le (by omega)
      have e2 : ((r : Int) + 1) * w ≤ h * w := Int.mul_le_mul_of_nonneg_right (by omega) w0
      omega
    unfold nextRow
    rw [topOf_is t, getD_at ex]
    refine ⟨by rw [List.length_set]; exact il, ?_, fun i y v ey ev => ?_⟩
    · rw [sum_set ex, is]
      show (r : Int) - x + (x + 1) = ((r + 1 : Nat) : Int)
      omega
    · rcases set_at ey with ⟨rfl, rfl, _⟩ | ⟨_, ey⟩
      · obtain rfl : w = v := Option.some.inj (ew.symm.trans ev)
        omega
      · exact ih.at_ i y v ey ev
theorem turn_lines {fk : Folk} (fo : FolkOk fk) (hv : heavy fk ≤ 1000) : LinesB fk.length 2000000 (turnLs (heavy fk) (fk.map Prod.snd) (heavy fk).toNat) := by
  have pos := fo.pos
  have all := tr_all (h := heavy fk) (ws := fk.map Prod.snd) rfl pos fo.nn
  refine ⟨fun i l e => ?_, fun l e x m => ?_⟩
  · have hi : i < (heavy fk).toNat := by
      have := (List.getElem?_eq_some_iff.mp e).1
      rw [turnLs_len] at this
      exact this
    rw [turnLs_at hi] at e
    cases e
    have t := all i (by omega)
    refine ⟨by rw [t.len, List.length_map], t.sum, fun x m => ?_⟩
    obtain ⟨j, ej⟩ := List.mem_iff_getElem?.mp m
    have hj := (List.getElem?_eq_some_iff.mp ej).1
    obtain ⟨w, ew⟩ : ∃ w, (fk.map Prod.snd)[j]? = some w := ⟨_, List.getElem?_eq_getElem (by rw [← t.len]; exact hj)⟩
    have b := t.at_ j x w ej ew
    have le := le_sum fo.nn w (List.mem_of_getElem? ew)
    change w ≤ heavy fk at le
    omega
  · rw [turnLs_at (by omega)] at e
    cases e
    exact List.eq_of_mem_replicate m
theorem w_indexF {K : PySem.W.Frag} {a : Addr} {os : List Int} {g : Int} {H : Hp} {Q : VK} (h : H a = some (.lst (os.map V.int))) (m : g ∈ os) (q : ∀ j : Nat, j < os.length → os[j]? = some g → (∀ (m : Nat) z, m < j → os[m]? = some z → z ≠ g) → Q (.int j) H) : rIndex K (.ref a) [.int g] H Q := by
  obtain ⟨j, hj, ej, nj⟩ := idx_of m
  refine ⟨a, _, _, j, .int g, rfl, rfl, SqL.of h, rfl, flat_ints os, by rw [List.getElem?_map, ej]; rfl, ?_, fun m z hm hz => ?_, q j hj ej nj⟩
  · show (g == g) = true
    exact beq_self_eq_true g
  · rw [List.getElem?_map] at hz
    cases ez : os[m]? with
    | none => rw [ez] at hz; cases hz
    | some y =>
      rw [ez] at hz
      cases hz
      show (y == g) = false
      have := nj m y hm ez
      simpa using this
theorem w_maxI {K : PySem.W.Frag} {a : Addr} {ns : List Int} {H : Hp} {Q : VK} (h : H a = some (.lst (ns.map V.int))) (l : 0 < ns.length) (q : ∀ m, m ∈ ns → (∀ y, y ∈ ns → y ≤ m) → Q (.int m) H) : rMax K [.ref a] H Q := ⟨a, ns, rfl, SqL.of h, l, q⟩
def sp_with_cent (K : PySem.W.Frag) (Z : Ad) : Sp := fun vs H Q _ => ∃ (wa ra : Addr) (ws row : List Int), vs = [.ref wa, .ref ra] ∧ H wa = some (.lst (ws.map V.int)) ∧ H ra = some (.lst (row.map V.int)) ∧ row.length = ws.length ∧ 0 < ws.length ∧ ws.length ≤ 1000 ∧ 0 ≤ ws.sum ∧ ws.sum ≤ 1000 ∧ In 0 1000 ws ∧
  ∀ p H', Same H H' → H p = none → H' p = some (.lst ((nextRow ws.sum (row.sum + 1) ws row).map V.int)) → Q (.ref p) H'
abbrev N_with_cent : List Str := ["weights", "row", "cents", "behind", "chosen", "k", "weight", "cent"]
def t_with_cent (K : PySem.W.Frag) (Z : Ad) : TS :=
  (tSeq (tAsg (tOp oAdd (tCB (rSum K) (tCons (tVar 1) tNil)) (tC (.int 1))) (gName 2)) (tSeq (tAsg (tLc (iEnum K (tCons (tVar 0) tNil)) (gTup K 2 (gCons (gName 5) (gCons (gName 6) gNil))) tYes (tOp oSub (tOp oMul (tVar 2) (tVar 6)) (tOp oMul (tCB (rSum K) (tCons (tVar 0) tNil)) (tOp (rIxL K) (tVar 1) (tVar 5)))) [5, 6]) (gName 3)) (tSeq (tAsg (tBM K "list" (rIndex K) (tVar 3) (tCons (tCB (rMax K) (tCons (tVar 3) tNil)) tNil)) (gName 4)) (tRet (tLc (iEnum K (tCons (tVar 1) tNil)) (gTup K 2 (gCons (gName 5) (gCons (gName 7) gNil))) tYes (tIf (tTest (tOp rEq (tVar 5) (tVar 4))) (tOp oAdd (tVar 7) (tC (.int 1))) (tVar 7)) [5, 7])))))
theorem l_with_cent {K : PySem.W.Frag} {Z : Ad} {vs : List V} {H : Hp} {Q : VK} {E : XK} : sp_with_cent K Z vs H Q E → vs.length = 2 := by
  rintro ⟨_, _, _, _, rfl, _⟩; rfl
theorem r_with_cent {K : PySem.W.Frag} {Z : Ad} {vs : List V} {H : Hp} {Q : VK} {E : XK} (R : RuleK K Z) (h : sp_with_cent K Z vs H Q E) : t_with_cent K Z { nx := fun _ H' => Q .non H', rt := Q } (start N_with_cent vs) H := by
  obtain ⟨wa, ra, ws, row, rfl, hwa, hra, lr, l0, l1, s0, s1, iw, q⟩ := h
  show t_with_cent K Z _ [some (.ref wa), some (.ref ra), none, none, none, none, none, none] H
  unfold t_with_cent
  walk_at "go"
  refine w_sum (SqL.of hra) ?_
  walk_at "go"
  generalize row.sum + 1 = c at q
  refine w_lc (w_enum ?_)
  walk_at "go"
  refine w_enumK (SqL.of hwa) ?_
  have dl := due_len (h := ws.sum) (c := c) lr
  refine lc_same gI (src_enum (xs := ws.map V.int)) (fun j as => as = (dueL ws.sum c ws row).take j) (by rw [List.length_map]; omega) rfl (fun H' s => SqL.of (s _ _ hwa)) ?_ ?_
  · rintro j as H2 x H3 N N' hj rfl s2 ⟨T, z, rfl, nT, rfl, ez⟩ hN hN'
    rw [List.length_map] at hj
    rw [List.getElem?_map] at ez
    cases ew : ws[j]? with
    | none => rw [ew] at ez; cases ez
    | some w =>
      rw [ew] at ez
      cases ez
      obtain ⟨x, ex⟩ : ∃ x, row[j]? = some x := ⟨_, List.getElem?_eq_getElem (by omega)⟩
      have wb := in_at iw ew
      have s3 := s2.trans (snew (o := .tup [.int (j : Nat), .int w]) nT)
      refine w_gTup (SqT.of upd_same) rfl ?_
      refine w_gCons (w_name (by simp only [wipe, List.set_cons_zero, List.set_cons_succ]; exact rfl) ?_)
      refine w_gCons (w_name (by simp only [wipe, List.set_cons_zero, List.set_cons_succ]; exact rfl) ?_)
      refine w_gNil ⟨rfl, w_yes (w_iteT ?_)⟩
      walk_at "go"
      refine w_sum (SqL.of (s3 _ _ hwa)) ?_
      walk_at "go"
      refine w_ixI (s3 _ _ hra) (by omega) (by omega) fun x' ex' => ?_
      rw [Int.toNat_natCast, ex] at ex'
      cases ex'
      walk_at "go"
      exact hN _ _ _ (snew nT) rfl (take_snoc (due_at ew ex))
  rintro D as H2 nD s2 rfl f
  have e : (ws.map V.int).length = (dueL ws.sum c ws row).length := by rw [List.length_map, dl]
  rw [e, take_all] at f
  obtain ⟨D', e', _, hD⟩ := ints_of f
  cases e'
  walk_at "go"
  refine w_bm ?_
  walk_at "go"
  refine w_bmL hD ?_
  walk_at "go"
  refine w_maxI hD (by omega) fun m mm mx => ?_
  walk_at "go"
  refine w_indexF hD mm fun j hj ej fj => ?_
  have t : TopN (dueL ws.sum c ws row) (dueL ws.sum c ws row).length j := by
    refine ⟨hj, fun i y _ hy => ?_, fun i y hi hy => ?_⟩
    · rw [getD_at ej]
      exact mx y (List.mem_of_getElem? hy)
    · rw [getD_at ej]
      have a := mx y (List.mem_of_getElem? hy)
      have b := fj i y hi hy
      omega
  have en : nextRow ws.sum c ws row = row.set j (row.getD j 0 + 1) := by
    unfold nextRow
    rw [topOf_is t]
  rw [en] at q
  walk_at "go"
  refine w_lc (w_enum ?_)
  walk_at "go"
  have hra2 := s2 _ _ hra
  refine w_enumK (SqL.of hra2) ?_
  refine lc_same gI (src_enum (xs := row.map V.int)) (fun i as => as = (row.set j (row.getD j 0 + 1)).take i) (by rw [List.length_map]; omega) rfl (fun H' s => SqL.of (s _ _ hra2)) ?_ ?_
  · rintro i as H3 x H4 N N' hi rfl s3 ⟨T, z, rfl, nT, rfl, ez⟩ hN hN'
    rw [List.length_map] at hi
    rw [List.getElem?_map] at ez
    cases ex : row[i]? with
    | none => rw [ex] at ez; cases ez
    | some x =>
      rw [ex] at ez
      cases ez
      refine w_gTup (SqT.of upd_same) rfl ?_
      refine w_gCons (w_name (by simp only [wipe, List.set_cons_zero, List.set_cons_succ]; exact rfl) ?_)
      refine w_gCons (w_name (by simp only [wipe, List.set_cons_zero, List.set_cons_succ]; exact rfl) ?_)
      refine w_gNil ⟨rfl, w_yes (w_iteT ?_)⟩
      walk_at "go"
      refine w_ite (fun h => ?_) fun h => ?_
      · have ij : i = j := by omega
        subst ij
        walk_at "go"
        refine hN _ _ _ (snew nT) rfl (take_snoc ?_)
        rw [List.getElem?_set_self hi, getD_at ex]
      · walk_at "go"
        refine hN _ _ _ (snew nT) rfl (take_snoc ?_)
        rw [List.getElem?_set_ne (by omega)]
        exact ex
  rintro D2 as H3 nD2 s3 rfl f3
  have e : (row.map V.int).length = (row.set j (row.getD j 0 + 1)).length := by rw [List.length_map, List.length_set]
  rw [e, take_all] at f3
  obtain ⟨D3, e', _, hD3⟩ := ints_of f3
  cases e'
  exact q _ _ (s2.trans s3) (dom_same s2 _ nD2) hD3
theorem at_last {vs : List V} {i : Nat} {u : V} (l : vs.length = i + 1) (e : vs[i]? = some u) : atI vs (-1) = some u := by
  have : ixN vs.length (-1) = some i := by
    unfold ixN
    rw [if_neg (by decide), if_pos (by omega)]
    congr 1
    omega
  unfold atI
  rw [this]
  exact e
def sp_in_turn (K : PySem.W.Frag) (Z : Ad) : Sp := fun vs H Q _ => ∃ (v : V) (fk : Folk) (S : Addr → Prop), vs = [v] ∧ fFolk S H v fk ∧ FolkOk fk ∧ fk.length ≤ 16 ∧ heavy fk ≤ 16 ∧
  ∀ r H', Same H H' → fRule Z (New H) H' r (fk, tableOf fk (turnLs (heavy fk) (fk.map Prod.snd) (heavy fk).toNat)) → Q r H'
abbrev N_in_turn : List Str := ["people", "weights", "rows", "_"]
def t_in_turn (K : PySem.W.Frag) (Z : Ad) : TS :=
  (tSeq (tAsg (tCall (sp_checked_weights K Z) [] E0 (tCons (tVar 0) tNil)) (gName 1)) (tSeq (tAsg (tLst (tCons (tLc (iList K (tVar 1)) (gName 3) tYes (tC (.int 0)) [3]) tNil)) (gName 2)) (tSeq (tFor (iRng2 (tCons (tC (.int 1)) (tCons (tCB (rSum K) (tCons (tVar 1) tNil)) tNil))) (gName 3) (tDrop (tBM K "list" rAppend (tVar 2) (tCons (tCall (sp_with_cent K Z) [] E0 (tCons (tVar 1) (tCons (tOp (rIxL K) (tVar 2) (tUn oNeg (tC (.int 1)))) tNil))) tNil)))) (tRet (tCall (sp_by_rows K Z) [] E0 (tCons (tVar 0) (tCons (tVar 2) tNil)))))))
theorem l_in_turn {K : PySem.W.Frag} {Z : Ad} {vs : List V} {H : Hp} {Q : VK} {E : XK} : sp_in_turn K Z vs H Q E → vs.length = 1 := by
  rintro ⟨_, _, _, rfl, _⟩; rfl
theorem r_in_turn {K : PySem.W.Frag} {Z : Ad} {vs : List V} {H : Hp} {Q : VK} {E : XK} (R : RuleK K Z) (h : sp_in_turn K Z vs H Q E) : t_in_turn K Z { nx := fun _ H' => Q .non H', rt := Q } (start N_in_turn vs) H := by
  obtain ⟨v, fk, S, rfl, ff, fo, n16, hv, q⟩ := h
  show t_in_turn K Z _ [some v, none, none, none] H
  unfold t_in_turn
  have pos := fo.pos
  have fl := fo.len
  have lw : (fk.map Prod.snd).length = fk.length := List.length_map ..
  have all := tr_all (h := heavy fk) (ws := fk.map Prod.snd) rfl pos fo.nn
  have iw : In 0 1000 (fk.map Prod.snd) := fun w m => by
    have a := fo.nn w m
    have b := le_sum fo.nn w m
    change w ≤ heavy fk at b
    omega
  have hsum : (fk.map Prod.snd).sum = heavy fk := rfl
  have lB := turn_lines fo (by omega)
  walk_at "go"
  refine ⟨v, fk, S, rfl, ff, fo, by omega, fun W H1 s1 nW hW => ?_⟩
  generalize fk.map Prod.snd = ws at hW lw all iw hsum q lB
  generalize hh : heavy fk = hv' at *
  walk_at "go"
  refine w_lc (w_ilist ?_)
  walk_at "go"
  refine w_ilistK (SqL.of hW) ?_
  refine lc_same gI (src_list (xs := ws.map V.int)) (fun i as => as = List.replicate i 0) (by rw [List.length_map]; omega) rfl (fun H' s => SqL.of (s _ _ hW)) ?_ ?_
  · rintro i as H2 x H3 N N' hi rfl s2 ⟨rfl, ex⟩ hN hN'
    refine w_name (by simp only [wipe, List.set_cons_zero, List.set_cons_succ]; exact rfl) ?_
    refine ⟨rfl, w_yes (w_iteT ?_)⟩
    walk_at "go"
    exact hN _ 0 _ (Same.refl _) rfl List.replicate_succ'.symm
  rintro Zr as H2 nZ s2 rfl f
  obtain ⟨Z', e, _, hZ⟩ := ints_of f
  cases e
  rw [List.length_map] at hZ
  walk_at "go"
  refine w_lstN (by show 1 ≤ 100000; decide) fun L H3 nL c3 => ?_
  have s3 := c3.same nL
  have s13 := s2.trans s3
  have nL1 : H1 L = none := dom_same s2 L nL
  have B3 : Box fLine H1 L H3 (turnLs hv' ws 1) := by
    have e1 : turnLs hv' ws 1 = [List.replicate ws.length 0] := rfl
    rw [e1]
    exact ⟨_, c3.at_, .one ⟨Zr, _, rfl, ⟨nZ, ne_of_none hZ nL⟩, s3 _ _ hZ, All2.map_eq⟩⟩
  walk_at "go"
  refine w_for (w_rng2 ?_)
  walk_at "go"
  refine w_sum (SqL.of (s13 _ _ hW)) ?_
  walk_at "go"
  rw [hsum]
  refine w_rng2K (by omega) (by omega) (by omega) (by omega) ?_
  refine for_go (src_range 1 (hv' - 1).toNat) (fun i σ H' => ∃ o3, σ = [some v, some (.ref W), some (.ref L), o3] ∧ Same H1 H' ∧ Box fLine H1 L H' (turnLs hv' ws (i + 1))) ⟨_, rfl, s13, B3⟩ (fun _ _ _ _ _ => trivial) ?_ ?_
  · rintro i σ H4 x H5 hi ⟨o3, rfl, s4, B4⟩ ⟨rfl, rfl⟩
    refine w_name (by simp only [List.set_cons_zero, List.set_cons_succ]; exact rfl) ?_
    walk_at "go"
    refine w_bm ?_
    walk_at "go"
    refine B4.bm ?_
    walk_at "go"
    obtain ⟨vs, hvs, al⟩ := id B4
    have lvs : vs.length = i + 1 := by rw [al.length, turnLs_len]
    obtain ⟨u, eu, fu⟩ := al.getR (turnLs_at (Nat.lt_succ_self i))
    obtain ⟨ra, rfl, sra, hra⟩ := ints_of fu
    refine w_ixL (SqL.of hvs) (at_last lvs eu) ?_
    have tr := all i (by omega)
    walk_at "go"
    refine ⟨W, ra, ws, _, rfl, s4 _ _ hW, hra, tr.len, by omega, by omega, by omega, by omega, iw, fun p H6 s6 np hp => ?_⟩
    have en : nextRow ws.sum ((turnRow hv' ws i).sum + 1) ws (turnRow hv' ws i) = turnRow hv' ws (i + 1) := by
      rw [tr.sum, hsum]; rfl
    rw [en] at hp
    have B6 := B4.kn gLine nL1 (Kn.same s6)
    have pL : p ≠ L := fun z => by rw [z, hvs] at np; cases np
    walk_at "go"
    refine B6.push gLine (ints_mk ⟨dom_same s4 p np, pL⟩ hp) (by rw [turnLs_len]; omega) fun vs2 H7 c7 B7 => ?_
    walk_at "go"
    refine ⟨_, rfl, fun b o e => c7.keep (ne_of_none e nL1) (s6 _ _ (s4 _ _ e)), ?_⟩
    rw [turnLs_succ (n := i + 1)]
    exact B7
  · rintro σ H4 ⟨o3, rfl, s4, B4⟩
    have eh : (hv' - 1).toNat + 1 = hv'.toNat := by omega
    rw [eh] at B4
    walk_at "go"
    refine ⟨v, .ref L, fk, _, Any, rfl, gFolk.any (gFolk.same (s1.trans s4) ff), gLines.any (B4.fam gLine nL1), fo, lB.mono (by decide), by rw [turnLs_len]; omega, n16, by omega, fun r H5 s5 fr => ?_⟩
    have s05 := (s1.trans s4).trans s5
    exact q r H5 s05 (gRule.mono (fun a na => dom_same (s1.trans s4) a na) fr)
end Ow

set_option Elab.async false
set_option linter.all false
set_option maxRecDepth 100000
namespace Ow
open PySem L2
local macro_rules | `(tactic| walk_at "go") => `(tactic| (repeat (with_reducible first
  | refine w_seq ?_ | refine w_asg ?_ | refine w_ret ?_ | refine w_if ?_ | refine w_next ?_ | refine w_drop ?_
  | refine w_var (by with_unfolding_all rfl) ?_ | refine w_c ?_ | refine w_op ?_ | refine w_cons ?_ | refine w_nil ?_ | refine w_cb ?_ | refine w_call ?_
  | refine w_name (by simp only [List.set_cons_zero, List.set_cons_succ]; exact rfl) ?_
  | refine w_add ?_ | refine w_sub ?_ | refine w_lt ?_ | refine w_le ?_ | refine w_gt ?_ | refine w_ge ?_ | refine w_eqI ?_ | refine w_neI ?_
  | refine w_test ?_ | refine w_testK ?_ | refine w_tB ?_ | refine w_intI ?_ | refine w_intB ?_ | refine w_max2 ?_ | refine w_min2 ?_
  | refine w_lst ?_ | refine w_tup ?_ | refine w_gSub ?_ | refine w_fld ?_ | refine w_un ?_ | refine w_neg ?_ | refine w_par ?_ | refine w_tIf ?_ | refine w_and ?_ | refine w_or ?_ | refine w_not ?_
  | refine w_mod (by omega) ?_ | refine w_div (cdiv (by omega) (by omega)) ?_ | refine w_mul (cmulL (by omega) (by omega)) ?_ | refine w_mul (cmulR (by omega) (by omega)) ?_ | refine w_pow (cpow (by omega) (by omega) (by omega) (by omega)) ?_
  | refine w_ixL (SqL.of (by assumption)) (by with_unfolding_all rfl) ?_)))
local macro_rules | `(tactic| walk_at "st") => `(tactic| (repeat (with_reducible first
  | refine w_seq ?_ | refine w_asg ?_ | refine w_ret ?_ | refine w_next ?_ | refine w_drop ?_
  | refine w_var (by with_unfolding_all rfl) ?_ | refine w_c ?_ | refine w_op ?_ | refine w_cons ?_ | refine w_nil ?_ | refine w_cb ?_ | refine w_call ?_
  | refine w_name (by simp only [List.set_cons_zero, List.set_cons_succ]; exact rfl) ?_
  | refine w_add ?_ | refine w_sub ?_ | refine w_lt ?_ | refine w_le ?_ | refine w_gt ?_ | refine w_ge ?_ | refine w_eqI ?_ | refine w_neI ?_
  | refine w_test ?_ | refine w_testK ?_ | refine w_tB ?_ | refine w_intI ?_ | refine w_intB ?_ | refine w_max2 ?_ | refine w_min2 ?_
  | refine w_lst ?_ | refine w_tup ?_ | refine w_gSub ?_ | refine w_fld ?_ | refine w_un ?_ | refine w_neg ?_ | refine w_par ?_ | refine w_tIf ?_ | refine w_and ?_ | refine w_or ?_ | refine w_not ?_
  | refine w_mod (by omega) ?_ | refine w_div (cdiv (by omega) (by omega)) ?_ | refine w_mul (cmulL (by omega) (by omega)) ?_ | refine w_mul (cmulR (by omega) (by omega)) ?_ | refine w_pow (cpow (by omega) (by omega) (by omega) (by omega)) ?_
  | refine w_ixL (SqL.of (by assumption)) (by with_unfolding_all rfl) ?_)))
/-! ### states, each list of which stands alone -/
abbrev Cell := Addr × Addr × Int
abbrev Skel := List (Addr × List Cell)
structure RowD (H : Hp) (a : Addr) (qs : List Cell) (r : Row) : Prop where
  len : qs.length = r.length
  at_ : H a = some (.lst (qs.map fun q => V.ref q.1))
  deal : ∀ (j : Nat) q d, qs[j]? = some q → r[j]? = some d → q.2.2 = d.2 ∧ H q.1 = some (.tup [.ref q.2.1, .int q.2.2]) ∧ H q.2.1 = some (.lst (d.1.map V.int))
structure RowA (a : Addr) (qs : List Cell) : Prop where
  inj : ∀ (j j' : Nat) q q', qs[j]? = some q → qs[j']? = some q' → q.2.1 = q'.2.1 → j = j'
  off : ∀ q ∈ qs, q.2.1 ≠ a
def NewC (H : Hp) (qs : List Cell) : Prop := ∀ q ∈ qs, H q.2.1 = none ∧ H q.1 = none
structure Deep (H : Hp) (D : Addr) (sk : Skel) (ts : Tabs) : Prop where
  top : H D = some (.lst (sk.map fun p => V.ref p.1))
  len : sk.length = ts.length
  row : ∀ (i : Nat) p r, sk[i]? = some p → ts[i]? = some r → RowD H p.1 p.2 r
structure Apt (D : Addr) (sk : Skel) : Prop where
  rows : ∀ (i i' : Nat) p p', sk[i]? = some p → sk[i']? = some p' → p.1 = p'.1 → i = i'
  cents : ∀ (i i' : Nat) p p', sk[i]? = some p → sk[i']? = some p' → ∀ (j j' : Nat) q q', p.2[j]? = some q → p'.2[j']? = some q' → q.2.1 = q'.2.1 → i = i' ∧ j = j'
  rc : ∀ p ∈ sk, ∀ p' ∈ sk, ∀ q ∈ p'.2, q.2.1 ≠ p.1
  dr : ∀ p ∈ sk, p.1 ≠ D
  dc : ∀ p ∈ sk, ∀ q ∈ p.2, q.2.1 ≠ D
def NewS (H : Hp) (sk : Skel) : Prop := ∀ p ∈ sk, H p.1 = none ∧ NewC H p.2
theorem RowD.there {H : Hp} {a : Addr} {qs : List Cell} {r : Row} (h : RowD H a qs r) : ∀ q ∈ qs, H q.2.1 ≠ none ∧ ∃ xs, H q.1 = some (.tup xs) := fun q m => by
  obtain ⟨j, hj⟩ := List.mem_iff_getElem?.mp m
  obtain ⟨d, ed⟩ : ∃ d, r[j]? = some d := ⟨_, List.getElem?_eq_getElem (by rw [← h.len]; exact (List.getElem?_eq_some_iff.mp hj).1)⟩
  obtain ⟨_, b, c⟩ := h.deal j q d hj ed
  exact ⟨(fun z => by rw [c] at z; cases z), _, b⟩
theorem RowD.same {H H' : Hp} {a : Addr} {qs : List Cell} {r : Row} (s : Same H H') (h : RowD H a qs r) : RowD H' a qs r :=
  ⟨h.len, s _ _ h.at_, fun j q d e1 e2 => by
    obtain ⟨a, b, c⟩ := h.deal j q d e1 e2
    exact ⟨a, s _ _ b, s _ _ c⟩⟩
/-- a list elsewhere changes -/
theorem RowD.keep {H H' : Hp} {a D : Addr} {qs : List Cell} {r : Row} {xs : List V} {o : HO} (h : RowD H a qs r) (hD : H D = some (.lst xs)) (c : Ch D o H H') (na : a ≠ D) (nc : ∀ q ∈ qs, q.2.1 ≠ D) : RowD H' a qs r :=
  ⟨h.len, c.keep na h.at_, fun j q d e1 e2 => by
    obtain ⟨a, b, cc⟩ := h.deal j q d e1 e2
    exact ⟨a, c.keep (fun z => by rw [z, hD] at b; cases b) b, c.keep (nc q (List.mem_of_getElem? e1)) cc⟩⟩
section
variable {g : TG} {tt : TT} {te : TE} {vs : List Nat} {σ : St} {H : Hp} {Q : VK} {J : It} {ok : Hp → Prop} {Y : Nat → Hp → V → Hp → Prop}
theorem lc_rowD {r : Row} (S : Src J r.length ok Y) (hn : r.length ≤ 100000) (hok : ∀ H', Same H H' → ok H')
    (hs : ∀ j d H1 x H2 (N : V → Hp → Prop) (N' : Hp → Prop), j < r.length → r[j]? = some d → Same H H1 → Y j H1 x H2 → (∀ T c H5, Same H1 H5 → H1 c = none → H1 T = none → H5 T = some (.tup [.ref c, .int d.2]) → H5 c = some (.lst (d.1.map V.int)) → N (.ref T) H5) →
      g x (wipe σ vs) H2 fun σ2 H3 => wipe σ2 vs = wipe σ vs ∧ tt σ2 H3 fun b H4 => if b = true then te σ2 H4 N else N' H4)
    (hd : ∀ a qs H', H a = none → Same H H' → RowD H' a qs r → RowA a qs → NewC H qs → Q (.ref a) H') : lcK g tt te vs σ Q J H := by
  refine lc_go S (fun D j ys H' => Same H H' ∧ ∃ qs : List Cell, ys = qs.map (fun q => V.ref q.1) ∧ qs.length = j ∧ (∀ (k : Nat) q d, qs[k]? = some q → r[k]? = some d → q.2.2 = d.2 ∧ H' q.1 = some (.tup [.ref q.2.1, .int q.2.2]) ∧ H' q.2.1 = some (.lst (d.1.map V.int))) ∧
    RowA D qs ∧ NewC H qs ∧ ∀ q ∈ qs, H' q.2.1 ≠ none) (fun D H' nD c => ⟨c.same nD, [], rfl, rfl, (fun k q d e => by simp at e), ⟨(fun j j' q q' e => by simp at e), (fun q m => nomatch m)⟩, (fun q m => nomatch m), fun q m => nomatch m⟩) (fun D i ys H' _ h => hok H' h.1) ?_ ?_
  · rintro D j ys H1 x H2 nD hj hl hx ⟨s1, qs, rfl, lq, dl, ra, nc, th⟩ y
    obtain ⟨d, ed⟩ : ∃ d, r[j]? = some d := ⟨_, List.getElem?_eq_getElem hj⟩
    refine hs j d H1 x H2 _ _ hj ed s1 y fun T c H5 s5 n1 n2 hT hc => ?_
    have cD : c ≠ D := fun z => by rw [z, hx] at n1; cases n1
    have TD : T ≠ D := fun z => by rw [z, hx] at n2; cases n2
    refine w_elt (s5 _ _ hx) hl (Nat.lt_of_lt_of_le hj hn) fun H6 c6 => ⟨sch (s1.trans s5) nD c6, qs ++ [(T, c, d.2)], by rw [List.map_append]; rfl, by rw [List.length_append, lq]; rfl, fun k q d' e1 e2 => ?_, ⟨fun k k' q q' e1 e2 e => ?_, fun q m => ?_⟩, fun q m => ?_, fun q m => ?_⟩
    · rcases snoc_at e1 with e1 | ⟨rfl, rfl⟩
      · obtain ⟨a, b, cc⟩ := dl k q d' e1 e2
        have nq := ra.off q (List.mem_of_getElem? e1)
        exact ⟨a, c6.keep (fun z => by rw [z, hx] at b; cases b) (s5 _ _ b), c6.keep nq (s5 _ _ cc)⟩
      · rw [lq, ed] at e2
        cases e2
        exact ⟨rfl, c6.keep TD hT, c6.keep cD hc⟩
    · rcases snoc_at e1 with e1 | ⟨rfl, rfl⟩
      · rcases snoc_at e2 with e2 | ⟨rfl, rfl⟩
        · exact ra.inj k k' q q' e1 e2 e
        · exact absurd n1 (by have := th q (List.mem_of_getElem? e1); rw [e] at this; exact this)
      · rcases snoc_at e2 with e2 | ⟨rfl, rfl⟩
        · exact absurd n1 (by have := th q' (List.mem_of_getElem? e2); rw [← e] at this; exact this)
        · rfl
    · rcases List.mem_append.mp m with m | m
      · exact ra.off q m
      · rw [List.mem_singleton.mp m]; exact cD
    · rcases List.mem_append.mp m with m | m
      · exact nc q m
      · rw [List.mem_singleton.mp m]; exact ⟨dom_same s1 c n1, dom_same s1 T n2⟩
    · rcases List.mem_append.mp m with m | m
      · have := th q m
        cases hq : H1 q.2.1 with
        | none => exact absurd hq this
        | some o => rw [c6.keep (ra.off q m) (s5 _ _ hq)]; exact fun z => nomatch z
      · rw [List.mem_singleton.mp m]
        rw [c6.keep cD hc]; exact fun z => nomatch z
  · rintro D ys H' nD hl hx ⟨s1, qs, rfl, lq, dl, ra, nc, th⟩
    exact hd D qs H' nD s1 ⟨lq, hx, dl⟩ ra nc
theorem lc_deep {ts : Tabs} (S : Src J ts.length ok Y) (hn : ts.length ≤ 100000) (hok : ∀ H', Same H H' → ok H')
    (hs : ∀ i r H1 x H2 (N : V → Hp → Prop) (N' : Hp → Prop), i < ts.length → ts[i]? = some r → Same H H1 → Y i H1 x H2 → (∀ a qs H5, Same H1 H5 → H1 a = none → RowD H5 a qs r → RowA a qs → NewC H1 qs → N (.ref a) H5) →
      g x (wipe σ vs) H2 fun σ2 H3 => wipe σ2 vs = wipe σ vs ∧ tt σ2 H3 fun b H4 => if b = true then te σ2 H4 N else N' H4)
    (hd : ∀ D sk H', H D = none → Same H H' → Deep H' D sk ts → Apt D sk → NewS H sk → Q (.ref D) H') : lcK g tt te vs σ Q J H := by
  refine lc_go S (fun D i ys H' => Same H H' ∧ ∃ sk : Skel, ys = sk.map (fun p => V.ref p.1) ∧ sk.length = i ∧ (∀ (k : Nat) p r, sk[k]? = some p → ts[k]? = some r → RowD H' p.1 p.2 r) ∧ Apt D sk ∧ NewS H sk ∧ ∀ p ∈ sk, H' p.1 ≠ none ∧ ∀ q ∈ p.2, H' q.2.1 ≠ none)
    (fun D H' nD c => ⟨c.same nD, [], rfl, rfl, (fun k p r e => by simp at e), ⟨(fun i i' p p' e => by simp at e), (fun i i' p p' e => by simp at e), (fun p m => nomatch m), (fun p m => nomatch m), (fun p m => nomatch m)⟩, (fun p m => nomatch m), fun p m => nomatch m⟩) (fun D i ys H' _ h => hok H' h.1) ?_ ?_
  · rintro D i ys H1 x H2 nD hi hl hx ⟨s1, sk, rfl, lk, rd, ap, ns, th⟩ y
    obtain ⟨r, er⟩ : ∃ r, ts[i]? = some r := ⟨_, List.getElem?_eq_getElem hi⟩
    refine hs i r H1 x H2 _ _ hi er s1 y fun a qs H5 s5 na R5 ra nc => ?_
    have aD : a ≠ D := fun z => by rw [z, hx] at na; cases na
    have cD : ∀ q ∈ qs, q.2.1 ≠ D := fun q m z => by have := (nc q m).1; rw [z, hx] at this; cases this
    have old : ∀ p ∈ sk, p.1 ≠ a ∧ (∀ q ∈ p.2, q.2.1 ≠ a) ∧ (∀ q' ∈ qs, q'.2.1 ≠ p.1 ∧ ∀ q ∈ p.2, q.2.1 ≠ q'.2.1) := fun p m => by
      obtain ⟨h1, h2⟩ := th p m
      exact ⟨fun z => h1 (z ▸ na), fun q mq z => h2 q mq (z ▸ na), fun q' mq' => ⟨fun z => h1 (z ▸ (nc q' mq').1), fun q mq z => h2 q mq (z ▸ (nc q' mq').1)⟩⟩
    refine w_elt (s5 _ _ hx) hl (Nat.lt_of_lt_of_le hi hn) fun H6 c6 => ⟨sch (s1.trans s5) nD c6, sk ++ [(a, qs)], by rw [List.map_append]; rfl, by rw [List.length_append, lk]; rfl, fun k p r' e1 e2 => ?_, ⟨fun k k' p p' e1 e2 e => ?_, fun k k' p p' e1 e2 j j' q q' e3 e4 e => ?_, fun p m p' m' q mq => ?_, fun p m => ?_, fun p m q mq => ?_⟩, fun p m => ?_, fun p m => ?_⟩
    · rcases snoc_at e1 with e1 | ⟨rfl, rfl⟩
      · have mp := List.mem_of_getElem? e1
        exact ((rd k p r' e1 e2).same s5).keep (s5 _ _ hx) c6 (ap.dr p mp) (ap.dc p mp)
      · rw [lk, er] at e2
        cases e2
        exact R5.keep (s5 _ _ hx) c6 aD cD
    · rcases snoc_at e1 with e1 | ⟨rfl, rfl⟩
      · rcases snoc_at e2 with e2 | ⟨rfl, rfl⟩
        · exact ap.rows k k' p p' e1 e2 e
        · exact absurd e (old p (List.mem_of_getElem? e1)).1
      · rcases snoc_at e2 with e2 | ⟨rfl, rfl⟩
        · exact absurd e.symm (old p' (List.mem_of_getElem? e2)).1
        · rfl
    · rcases snoc_at e1 with e1 | ⟨rfl, rfl⟩
      · rcases snoc_at e2 with e2 | ⟨rfl, rfl⟩
        · exact ap.cents k k' p p' e1 e2 j j' q q' e3 e4 e
        · exact absurd e (((old p (List.mem_of_getElem? e1)).2.2 q' (List.mem_of_getElem? e4)).2 q (List.mem_of_getElem? e3))
      · rcases snoc_at e2 with e2 | ⟨rfl, rfl⟩
        · exact absurd e.symm (((old p' (List.mem_of_getElem? e2)).2.2 q (List.mem_of_getElem? e3)).2 q' (List.mem_of_getElem? e4))
        · exact ⟨rfl, ra.inj j j' q q' e3 e4 e⟩
    · rcases List.mem_append.mp m with m | m
      · rcases List.mem_append.mp m' with m' | m'
        · exact ap.rc p m p' m' q mq
        · rw [List.mem_singleton.mp m'] at mq
          exact ((old p m).2.2 q mq).1
      · rw [List.mem_singleton.mp m]
        rcases List.mem_append.mp m' with m' | m'
        · exact (old p' m').2.1 q mq
        · rw [List.mem_singleton.mp m'] at mq
          exact ra.off q mq
    · rcases List.mem_append.mp m with m | m
      · exact ap.dr p m
      · rw [List.mem_singleton.mp m]; exact aD
    · rcases List.mem_append.mp m with m | m
      · exact ap.dc p m q mq
      · rw [List.mem_singleton.mp m] at mq; exact cD q mq
    · rcases List.mem_append.mp m with m | m
      · exact ns p m
      · rw [List.mem_singleton.mp m]; exact ⟨dom_same s1 a na, fun q mq => ⟨dom_same s1 _ (nc q mq).1, dom_same s1 _ (nc q mq).2⟩⟩
    · rcases List.mem_append.mp m with m | m
      · obtain ⟨h1, h2⟩ := th p m
        refine ⟨?_, fun q mq => ?_⟩
        · cases hq : H1 p.1 with
          | none => exact absurd hq h1
          | some o => rw [c6.keep (ap.dr p m) (s5 _ _ hq)]; exact fun z => nomatch z
        · cases hq : H1 q.2.1 with
          | none => exact absurd hq (h2 q mq)
          | some o => rw [c6.keep (ap.dc p m q mq) (s5 _ _ hq)]; exact fun z => nomatch z
      · rw [List.mem_singleton.mp m]
        refine ⟨(fun z => by rw [c6.keep aD R5.at_] at z; cases z), fun q mq => ?_⟩
        obtain ⟨h2, _⟩ := R5.there q mq
        cases hq : H5 q.2.1 with
        | none => exact absurd hq h2
        | some o => rw [c6.keep (cD q mq) hq]; exact fun z => nomatch z
  · rintro D ys H' nD hl hx ⟨s1, sk, rfl, lk, rd, ap, ns, th⟩
    exact hd D sk H' nD s1 ⟨hx, lk, rd⟩ ap ns
end
theorem Deep.fam {S : Addr → Prop} {H : Hp} {D : Addr} {sk : Skel} {ts : Tabs} (d : Deep H D sk ts) (sD : S D) (ss : ∀ p ∈ sk, S p.1 ∧ ∀ q ∈ p.2, S q.2.1 ∧ S q.1) : fTabs S H (.ref D) ts := by
  refine ⟨D, _, rfl, sD, d.top, all2_idx (by rw [List.length_map, d.len]) fun i u r eu er => ?_⟩
  rw [List.getElem?_map] at eu
  cases ep : sk[i]? with
  | none => rw [ep] at eu; cases eu
  | some p =>
    rw [ep] at eu; cases eu
    have R := d.row i p r ep er
    obtain ⟨s1, s2⟩ := ss p (List.mem_of_getElem? ep)
    refine ⟨p.1, _, rfl, s1, R.at_, all2_idx (by rw [List.length_map, R.len]) fun j u d eu ed => ?_⟩
    rw [List.getElem?_map] at eu
    cases eq : p.2[j]? with
    | none => rw [eq] at eu; cases eu
    | some q =>
      rw [eq] at eu; cases eu
      obtain ⟨g, h1, h2⟩ := R.deal j q d eq ed
      obtain ⟨sc, sT⟩ := s2 q (List.mem_of_getElem? eq)
      exact ⟨q.1, _, _, rfl, sT, h1, ⟨q.2.1, _, rfl, sc, h2, All2.map_eq⟩, by rw [g]; rfl⟩
theorem Deep.same {H H' : Hp} {D : Addr} {sk : Skel} {ts : Tabs} (s : Same H H') (d : Deep H D sk ts) : Deep H' D sk ts := ⟨s _ _ d.top, d.len, fun i p r e1 e2 => (d.row i p r e1 e2).same s⟩
def sp__law_copy (K : PySem.W.Frag) (Z : Ad) : Sp := fun vs H Q _ => ∃ (v : V) (ts : Tabs) (S : Addr → Prop), vs = [v] ∧ fTabs S H v ts ∧ Small ts ∧ ∀ D sk H', H D = none → Same H H' → Deep H' D sk ts → Apt D sk → NewS H sk → Q (.ref D) H'
abbrev N__law_copy : List Str := ["tables", "deals", "cents", "goal"]
def t__law_copy (K : PySem.W.Frag) (Z : Ad) : TS :=
  (tRet (tLc (iList K (tVar 0)) (gName 1) tYes (tLc (iList K (tVar 1)) (gTup K 2 (gCons (gName 2) (gCons (gName 3) gNil))) tYes (tTup (tCons (tCB (rList1 K) (tCons (tVar 2) tNil)) (tCons (tVar 3) tNil))) [2, 3]) [1]))
theorem l__law_copy {K : PySem.W.Frag} {Z : Ad} {vs : List V} {H : Hp} {Q : VK} {E : XK} : sp__law_copy K Z vs H Q E → vs.length = 1 := by
  rintro ⟨_, _, _, rfl, _⟩; rfl
theorem r__law_copy {K : PySem.W.Frag} {Z : Ad} {vs : List V} {H : Hp} {Q : VK} {E : XK} (R : RuleK K Z) (h : sp__law_copy K Z vs H Q E) : t__law_copy K Z { nx := fun _ H' => Q .non H', rt := Q } (start N__law_copy vs) H := by
  obtain ⟨v, ts, S, rfl, ⟨a, us, rfl, sa, ha, al⟩, sm, q⟩ := h
  show t__law_copy K Z _ [some (.ref a), none, none, none] H
  unfold t__law_copy
  have lu := al.length
  have sm1 := sm.1
  walk_at "go"
  refine w_lc (w_ilist ?_)
  walk_at "go"
  refine w_ilistK (SqL.of ha) ?_
  refine lc_deep (ts := ts) (by rw [← lu]; exact src_list (xs := us)) (by omega) (fun H' s => SqL.of (s _ _ ha)) ?_ q
  · rintro i r H1 x H2 N N' hi er s1 ⟨rfl, hx⟩ hN
    obtain ⟨r', hr, fr⟩ := al.get hx
    rw [er] at hr; cases hr
    obtain ⟨b, ws, rfl, sb, hb, bl⟩ := gRow.same s1 fr
    have lw := bl.length
    have sm2 := sm.2 r (List.mem_of_getElem? er)
    refine w_name (by simp only [wipe, List.set_cons_zero, List.set_cons_succ]; exact rfl) ?_
    refine ⟨rfl, ?_⟩
    refine w_yes (w_iteT ?_)
    refine w_lc (w_ilist ?_)
    walk_at "go"
    refine w_ilistK (SqL.of hb) ?_
    refine lc_rowD (r := r) (by rw [← lw]; exact src_list (xs := ws)) (by omega) (fun H' s => SqL.of (s _ _ hb)) ?_ (fun a qs H5 na s5 R5 ra nc => hN a qs H5 s5 na R5 ra nc)
    rintro j d H3 x H4 M M' hj ed s3 ⟨rfl, hx⟩ hM
    obtain ⟨d', hd, fd⟩ := bl.get hx
    rw [ed] at hd; cases hd
    refine w_gT2 (gDeal.same s3 fd) fun u z f1 f2 => ?_
    cases f2
    obtain ⟨c, rfl, _, hc⟩ := ints_of f1
    refine w_gCons (w_name (by simp only [wipe, List.set_cons_zero, List.set_cons_succ]; exact rfl) ?_)
    refine w_gCons (w_name (by simp only [wipe, List.set_cons_zero, List.set_cons_succ]; exact rfl) ?_)
    refine w_gNil ?_
    refine ⟨rfl, ?_⟩
    refine w_yes (w_iteT ?_)
    walk_at "go"
    refine w_list1N (SqL.of hc) fun l H5 nl c5 => ?_
    walk_at "go"
    refine w_tupN (by show 2 ≤ 100000; decide) fun T H6 nT c6 => ?_
    have s5 := c5.same nl
    exact hM T l H6 (s5.trans (c6.same nT)) nl (dom_same s5 T nT) c6.at_ (c6.same nT _ _ c5.at_)
theorem all2_imp_mem {α β : Type} {R R' : α → β → Prop} {xs : List α} {ys : List β} (al : All2 R xs ys) (h : ∀ x y, x ∈ xs → R x y → R' x y) : All2 R' xs ys := by
  induction al with
  | nil => exact .nil
  | cons a r ih => exact .cons (h _ _ (List.mem_cons_self ..) a) (ih fun x y m => h x y (List.mem_cons_of_mem _ m))
def sp__law_made (K : PySem.W.Frag) (Z : Ad) : Sp := fun vs H Q _ => ∃ (v : V) (fk : Folk) (ts : Tabs) (S : Addr → Prop), vs = [v] ∧ fT fFolk fTabs S H v (fk, ts) ∧ PlanOk fk ts ∧ ∀ r H', Same H H' → fRule Z (New H) H' r (fk, ts) → Q r H'
abbrev N__law_made : List Str := ["plan"]
def t__law_made (K : PySem.W.Frag) (Z : Ad) : TS :=
  (tRet (tMake Z.c_Rule (sp_Rule___init__ K Z) [] E0 (tCons (tCB (rList1 K) (tCons (tOp (rIxT K) (tVar 0) (tC (.int 0))) tNil)) (tCons (tCall (sp__law_copy K Z) [] E0 (tCons (tOp (rIxT K) (tVar 0) (tC (.int 1))) tNil)) tNil))))
theorem l__law_made {K : PySem.W.Frag} {Z : Ad} {vs : List V} {H : Hp} {Q : VK} {E : XK} : sp__law_made K Z vs H Q E → vs.length = 1 := by
  rintro ⟨_, _, _, _, rfl, _⟩; rfl
theorem r__law_made {K : PySem.W.Frag} {Z : Ad} {vs : List V} {H : Hp} {Q : VK} {E : XK} (R : RuleK K Z) (h : sp__law_made K Z vs H Q E) : t__law_made K Z { nx := fun _ H' => Q .non H', rt := Q } (start N__law_made vs) H := by
  obtain ⟨v, fk, ts, S, rfl, fp, ok, q⟩ := h
  show t__law_made K Z _ [some v] H
  unfold t__law_made
  walk_at "go"
  refine w_make ?_
  walk_at "go"
  refine w_ixP0 fp fun pv f1 => ?_
  walk_at "go"
  refine w_list1F f1 fun l us H1 nl c1 al => ?_
  have s1 := c1.same nl
  walk_at "go"
  refine w_ixP1 ((gT gFolk gTabs).same s1 fp) fun tv f2 => ?_
  walk_at "go"
  refine ⟨tv, ts, S, rfl, f2, ok.small, fun tvD sk H2 nD s2 B2 ap2 ns2 => ?_⟩
  have t2 : fTabs (New H1) H2 (.ref tvD) ts := B2.fam nD fun p m => ⟨(ns2 p m).1, fun q mq => (ns2 p m).2 q mq⟩
  walk_at "go"
  have f2' : fFolk (fun a => S a ∨ a = l) H2 (.ref l) fk := ⟨l, us, rfl, .inr rfl, s2 _ _ c1.at_, al.imp fun _ _ f => (gT gS gI).mono (fun _ s => .inl s) ((gT gS gI).same (s1.trans s2) f)⟩
  have f3 := gFolk.there f2'
  have t3 := gTabs.there t2
  refine w_mkK fun x dx H3 nx s3 hx => ?_
  have nx0 : H x = none := dom_same (s1.trans s2) x nx
  refine ⟨x, dx, .ref l, (.ref tvD), fk, ts, fun a => a ≠ x, rfl, hx, gFolk.same s3 (gFolk.mono (fun a s z => s.2 (z ▸ nx)) f3), gTabs.same s3 (gTabs.mono (fun a s z => s.2 (z ▸ nx)) t3), ok, fun a h => h, fun H4 K4 f4 => ⟨rfl, ?_⟩⟩
  have s03 := (s1.trans s2).trans s3
  refine q _ H4 (fun b o e => K4 b o (ne_of_none e nx0) (s03 b o e)) (gRule.mono (fun a s => ?_) f4)
  rcases s with s | rfl
  · exact dom_same s03 a s
  · exact nx0
end Ow

set_option Elab.async false
set_option linter.all false
set_option maxRecDepth 100000
namespace Ow
open PySem L2
local macro_rules | `(tactic| walk_at "go") => `(tactic| (repeat (with_reducible first
  | refine w_seq ?_ | refine w_asg ?_ | refine w_ret ?_ | refine w_if ?_ | refine w_next ?_ | refine w_drop ?_
  | refine w_var (by with_unfolding_all rfl) ?_ | refine w_c ?_ | refine w_op ?_ | refine w_cons ?_ | refine w_nil ?_ | refine w_cb ?_ | refine w_call ?_
  | refine w_name (by simp only [List.set_cons_zero, List.set_cons_succ]; exact rfl) ?_
  | refine w_add ?_ | refine w_sub ?_ | refine w_lt ?_ | refine w_le ?_ | refine w_gt ?_ | refine w_ge ?_ | refine w_eqI ?_ | refine w_neI ?_
  | refine w_test ?_ | refine w_testK ?_ | refine w_tB ?_ | refine w_intI ?_ | refine w_intB ?_ | refine w_max2 ?_ | refine w_min2 ?_
  | refine w_lst ?_ | refine w_tup ?_ | refine w_gSub ?_ | refine w_fld ?_ | refine w_un ?_ | refine w_neg ?_ | refine w_par ?_ | refine w_tIf ?_ | refine w_and ?_ | refine w_or ?_ | refine w_not ?_
  | refine w_mod (by omega) ?_ | refine w_div (cdiv (by omega) (by omega)) ?_ | refine w_mul (cmulL (by omega) (by omega)) ?_ | refine w_mul (cmulR (by omega) (by omega)) ?_ | refine w_pow (cpow (by omega) (by omega) (by omega) (by omega)) ?_
  | refine w_ixL (SqL.of (by assumption)) (by with_unfolding_all rfl) ?_)))
local macro_rules | `(tactic| walk_at "st") => `(tactic| (repeat (with_reducible first
  | refine w_seq ?_ | refine w_asg ?_ | refine w_ret ?_ | refine w_next ?_ | refine w_drop ?_
  | refine w_var (by with_unfolding_all rfl) ?_ | refine w_c ?_ | refine w_op ?_ | refine w_cons ?_ | refine w_nil ?_ | refine w_cb ?_ | refine w_call ?_
  | refine w_name (by simp only [List.set_cons_zero, List.set_cons_succ]; exact rfl) ?_
  | refine w_add ?_ | refine w_sub ?_ | refine w_lt ?_ | refine w_le ?_ | refine w_gt ?_ | refine w_ge ?_ | refine w_eqI ?_ | refine w_neI ?_
  | refine w_test ?_ | refine w_testK ?_ | refine w_tB ?_ | refine w_intI ?_ | refine w_intB ?_ | refine w_max2 ?_ | refine w_min2 ?_
  | refine w_lst ?_ | refine w_tup ?_ | refine w_gSub ?_ | refine w_fld ?_ | refine w_un ?_ | refine w_neg ?_ | refine w_par ?_ | refine w_tIf ?_ | refine w_and ?_ | refine w_or ?_ | refine w_not ?_
  | refine w_mod (by omega) ?_ | refine w_div (cdiv (by omega) (by omega)) ?_ | refine w_mul (cmulL (by omega) (by omega)) ?_ | refine w_mul (cmulR (by omega) (by omega)) ?_ | refine w_pow (cpow (by omega) (by omega) (by omega) (by omega)) ?_
  | refine w_ixL (SqL.of (by assumption)) (by with_unfolding_all rfl) ?_)))
/-! ### somebody more -/
theorem inV_str5 (s : Str) (os : List Str) : inV (.str s) (os.map V.str) = decide (s ∈ os) := by
  by_cases h : s ∈ os
  · rw [decide_eq_true h]
    unfold inV
    rw [List.any_eq_true]
    exact ⟨.str s, List.mem_map_of_mem h, by show (s == s) = true; exact beq_self_eq_true s⟩
  · rw [decide_eq_false h]; exact notin_strs h
theorem w_nin5 {K : PySem.W.Frag} {p : Addr} {s : Str} {xs : List Str} {H : Hp} {Q : VK} (h : H p = some (.lst (xs.map V.str))) (q : Q (.bl (!decide (s ∈ xs))) H) : rIn K true (.str s) (.ref p) H Q := ⟨p, _, rfl, .inl (SqL.of h), rfl, flat_strs _, by rw [if_pos rfl, inV_str5]; exact q⟩
theorem w_insV5 {l : Addr} {vs : List V} {H : Hp} {Q : VK} {i : Int} {y : V} (h : H l = some (.lst vs)) (hl : vs.length < 100000) (h0 : 0 ≤ i) (h1 : i < 100000) (q : ∀ H', Ch l (.lst (vs.take i.toNat ++ [y] ++ vs.drop i.toNat)) H H' → Q .non H') : rInsert (.ref l) [.int i, y] H Q :=
  ⟨l, _, i, y, rfl, rfl, h, Nat.lt_of_lt_of_le hl (by decide), h0, by omega, q _ Ch.upd⟩
theorem dist_nd {α : Type} : ∀ {xs : List α}, Dist xs → xs.Nodup
  | [], _ => List.nodup_nil
  | x :: xs, d => List.nodup_cons.mpr ⟨fun m => by
      obtain ⟨j, hj⟩ := List.mem_iff_getElem?.mp m
      have := d 0 (j + 1) x rfl hj
      omega, dist_nd fun i j y h1 h2 => by have := d (i + 1) (j + 1) y h1 h2; omega⟩
theorem nd_dist {α : Type} {xs : List α} (nd : xs.Nodup) : Dist xs := fun i j x h1 h2 => by
  obtain ⟨a, ea⟩ := List.getElem?_eq_some_iff.mp h1
  obtain ⟨b, eb⟩ := List.getElem?_eq_some_iff.mp h2
  exact (List.getElem_inj nd).mp (ea.trans eb.symm)
theorem nd_len {α : Type} [BEq α] [LawfulBEq α] : ∀ {xs ns : List α}, xs.Nodup → (∀ x ∈ xs, x ∈ ns) → xs.length ≤ ns.length
  | [], _, _, _ => Nat.zero_le _
  | x :: xs, ns, nd, h => by
    obtain ⟨n1, n2⟩ := List.nodup_cons.mp nd
    have mx := h x (List.mem_cons_self ..)
    have := nd_len (xs := xs) (ns := ns.erase x) n2 fun y m => (List.mem_erase_of_ne (fun e => n1 (by rw [← e]; exact m))).mpr (h y (List.mem_cons_of_mem _ m))
    rw [List.length_erase_of_mem mx] at this
    have := List.length_pos_of_mem mx
    rw [List.length_cons]; omega
theorem fresh_some {xs ns : List Str} (d : Dist xs) (h : ns.length < xs.length) : ∃ x, (xs.filter fun s => !decide (s ∈ ns))[0]? = some x ∧ x ∈ xs ∧ x ∉ ns := by
  cases e : xs.filter fun s => !decide (s ∈ ns) with
  | nil =>
    have := nd_len (dist_nd d) (ns := ns) fun x m => by
      have := List.filter_eq_nil_iff.mp e x m
      simpa using this
    omega
  | cons x r =>
    have m : x ∈ xs.filter (fun s => !decide (s ∈ ns)) := by rw [e]; exact List.mem_cons_self ..
    have := List.mem_filter.mp m
    exact ⟨x, rfl, this.1, by simpa using this.2⟩
def insF {α : Type} (s : Nat) (x : α) (xs : List α) : List α := xs.take s ++ [x] ++ xs.drop s
theorem insF_len {α : Type} {s : Nat} {x : α} {xs : List α} (h : s ≤ xs.length) : (insF s x xs).length = xs.length + 1 := by
  unfold insF
  rw [List.length_append, List.length_append, List.length_take, List.length_drop]
  show min s xs.length + 1 + (xs.length - s) = _
  omega
theorem insF_map {α β : Type} {f : α → β} {s : Nat} {x : α} {xs : List α} : (insF s x xs).map f = insF s (f x) (xs.map f) := by
  unfold insF
  rw [List.map_append, List.map_append, List.map_take, List.map_drop]; rfl
theorem insF_mem {α : Type} {s : Nat} {x y : α} {xs : List α} (m : y ∈ insF s x xs) : y = x ∨ y ∈ xs := by
  unfold insF at m
  rcases List.mem_append.mp m with m | m
  · rcases List.mem_append.mp m with m | m
    · exact .inr (List.mem_of_mem_take m)
    · exact .inl (List.mem_singleton.mp m)
  · exact .inr (List.mem_of_mem_drop m)
theorem insF_sum {s : Nat} {xs : List Int} : (insF s 0 xs).sum = xs.sum := by
  unfold insF
  rw [List.sum_append, List.sum_append]
  conv => rhs; rw [← List.take_append_drop s xs, List.sum_append]
  show _ + (0 + 0) + _ = _
  omega
theorem insF_nd {α : Type} {s : Nat} {x : α} {xs : List α} (nd : xs.Nodup) (n : x ∉ xs) : (insF s x xs).Nodup := by
  have p : (insF s x xs).Perm (x :: xs) := by
    unfold insF
    rw [List.append_assoc]
    have := List.perm_middle (a := x) (l₁ := xs.take s) (l₂ := xs.drop s)
    rwa [List.take_append_drop] at this
  exact p.nodup_iff.mpr (List.nodup_cons.mpr ⟨n, nd⟩)
theorem insF_all2 {α β : Type} {R : α → β → Prop} {s : Nat} {x : α} {y : β} {xs : List α} {ys : List β} (al : All2 R xs ys) (h : R x y) : All2 R (insF s x xs) (insF s y ys) := by
  have tk : ∀ {xs : List α} {ys : List β} (s : Nat), All2 R xs ys → All2 R (xs.take s) (ys.take s) ∧ All2 R (xs.drop s) (ys.drop s) := by
    intro xs ys s al
    induction al generalizing s with
    | nil => rw [List.take_nil, List.drop_nil, List.take_nil, List.drop_nil]; exact ⟨.nil, .nil⟩
    | cons a r ih =>
      cases s with
      | zero => exact ⟨.nil, .cons a r⟩
      | succ s => exact ⟨.cons a (ih s).1, (ih s).2⟩
  exact ((tk s al).1.append (.one h)).append (tk s al).2
theorem more_ok {fk : Folk} {s : Nat} {x : Str} (o : FolkOk fk) (hx : OkName x) (n : x ∉ fk.map Prod.fst) (hs : s ≤ fk.length) : FolkOk (insF s (x, 0) fk) ∧ heavy (insF s (x, 0) fk) = heavy fk := by
  have hv : heavy (insF s (x, 0) fk) = heavy fk := by unfold heavy; rw [insF_map]; exact insF_sum
  refine ⟨⟨?_, fun p m => ?_, fun y m => ?_, by rw [hv]; exact o.pos, by rw [insF_len hs]; omega⟩, hv⟩
  · rw [insF_map]; exact nd_dist (insF_nd (dist_nd o.dist) n)
  · rcases insF_mem m with rfl | m
    · exact hx
    · exact o.ok p m
  · rw [insF_map] at m
    rcases insF_mem m with rfl | m
    · exact Int.le_refl 0
    · exact o.nn y m
/-! ### cents of each deal by place -/
def v0 (ts : Tabs) (i j : Nat) : List Int := ((ts.getD i []).getD j ([], 0)).1
theorem v0_at {ts : Tabs} {i j : Nat} {r : Row} {d : Deal} (e : ts[i]? = some r) (e2 : r[j]? = some d) : v0 ts i j = d.1 := by
  unfold v0
  rw [show ts.getD i [] = r by rw [List.getD_eq_getElem?_getD, e]; rfl, List.getD_eq_getElem?_getD, e2]; rfl
structure Lay (H : Hp) (D : Addr) (sk : Skel) (vals : Nat → Nat → List Int) : Prop where
  top : H D = some (.lst (sk.map fun p => V.ref p.1))
  row : ∀ (i : Nat) p, sk[i]? = some p → H p.1 = some (.lst (p.2.map (fun q => V.ref q.1)))
  deal : ∀ (i : Nat) p, sk[i]? = some p → ∀ (j : Nat) q, p.2[j]? = some q → H q.1 = some (.tup [.ref q.2.1, .int q.2.2]) ∧ H q.2.1 = some (.lst ((vals i j).map V.int))
section
variable {H H' : Hp} {D : Addr} {sk : Skel} {vals vals' : Nat → Nat → List Int} {i j : Nat} {p : Addr × List Cell} {q : Cell} {ts : Tabs}
theorem Lay.congr (l : Lay H D sk vals) (hv : ∀ (i : Nat) p, sk[i]? = some p → ∀ (j : Nat) q, p.2[j]? = some q → vals i j = vals' i j) : Lay H D sk vals' :=
  ⟨l.top, l.row, fun i p e j q e2 => by rw [← hv i p e j q e2]; exact l.deal i p e j q e2⟩
theorem Lay.cent {xs : List Int} (l : Lay H D sk vals) (ap : Apt D sk) (ei : sk[i]? = some p) (ej : p.2[j]? = some q) (c : Ch q.2.1 (.lst (xs.map V.int)) H H') : Lay H' D sk (fun i' j' => if i' = i ∧ j' = j then xs else vals i' j') := by
  have mp := List.mem_of_getElem? ei
  have mq := List.mem_of_getElem? ej
  have hq := (l.deal i p ei j q ej).2
  refine ⟨c.keep (fun z => ap.dc p mp q mq z.symm) l.top, fun i' p' e' => c.keep (fun z => ap.rc p' (List.mem_of_getElem? e') p mp q mq z.symm) (l.row i' p' e'), fun i' p' e' j' q' ej' => ?_⟩
  obtain ⟨h1, h2⟩ := l.deal i' p' e' j' q' ej'
  refine ⟨c.keep (fun z => by rw [z, hq] at h1; cases h1) h1, ?_⟩
  by_cases h : i' = i ∧ j' = j
  · obtain ⟨rfl, rfl⟩ := h
    rw [ei] at e'; cases e'
    rw [ej] at ej'; cases ej'
    rw [if_pos ⟨rfl, rfl⟩]
    exact c.at_
  · rw [if_neg h]
    exact c.keep (fun z => h (ap.cents i' i p' p e' ei j' j q' q ej' ej z)) h2
theorem Deep.at_ (d : Deep H D sk ts) {i : Nat} {p} (e : sk[i]? = some p) : ∃ r, ts[i]? = some r ∧ RowD H p.1 p.2 r := by
  obtain ⟨r, er⟩ : ∃ r, ts[i]? = some r := ⟨_, List.getElem?_eq_getElem (by rw [← d.len]; exact (List.getElem?_eq_some_iff.mp e).1)⟩
  exact ⟨r, er, d.row i p r e er⟩
theorem RowD.cell {a : Addr} {qs : List Cell} {r : Row} (d : RowD H a qs r) (e : qs[j]? = some q) : ∃ dd, r[j]? = some dd ∧ q.2.2 = dd.2 ∧ H q.1 = some (.tup [.ref q.2.1, .int q.2.2]) ∧ H q.2.1 = some (.lst (dd.1.map V.int)) := by
  obtain ⟨dd, ed⟩ : ∃ dd, r[j]? = some dd := ⟨_, List.getElem?_eq_getElem (by rw [← d.len]; exact (List.getElem?_eq_some_iff.mp e).1)⟩
  exact ⟨dd, ed, d.deal j q dd e ed⟩
def valsI (ts : Tabs) (s i0 j0 i j : Nat) : List Int := if i < i0 ∨ (i = i0 ∧ j < j0) then insF s 0 (v0 ts i j) else v0 ts i j
def insT (s : Nat) (ts : Tabs) : Tabs := ts.map fun r => r.map fun d => (insF s 0 d.1, d.2)
theorem Deep.lay (d : Deep H D sk ts) (s : Nat) : Lay H D sk (valsI ts s 0 0) := by
  refine ⟨d.top, fun i p e => ?_, fun i p e j q e2 => ?_⟩
  · obtain ⟨r, er, R⟩ := d.at_ e
    exact R.at_
  · obtain ⟨r, er, R⟩ := d.at_ e
    obtain ⟨dd, ed, _, h1, h2⟩ := R.cell e2
    refine ⟨h1, ?_⟩
    unfold valsI
    rw [if_neg (fun z => by rcases z with z | z <;> omega), v0_at er ed]
    exact h2
theorem Lay.deep {s : Nat} (l : Lay H' D sk (valsI ts s sk.length 0)) (d : Deep H D sk ts) : Deep H' D sk (insT s ts) := by
  refine ⟨l.top, by unfold insT; rw [List.length_map, d.len], fun i p r e er => ?_⟩
  obtain ⟨r0, er0, R⟩ := d.at_ e
  unfold insT at er
  rw [List.getElem?_map, er0] at er
  cases er
  refine ⟨by rw [List.length_map, R.len], l.row i p e, fun j q dd e1 e2 => ?_⟩
  obtain ⟨d0, ed0, g, _, _⟩ := R.cell e1
  rw [List.getElem?_map, ed0] at e2
  cases e2
  obtain ⟨h1, h2⟩ := l.deal i p e j q e1
  refine ⟨g, h1, ?_⟩
  unfold valsI at h2
  rw [if_pos (.inl (List.getElem?_eq_some_iff.mp e).1), v0_at er0 ed0] at h2
  exact h2
end
def foot (sk : Skel) (b : Addr) : Prop := ∃ p ∈ sk, ∃ q ∈ p.2, b = q.2.1
def Fr5 (w fa : Addr) (sk : Skel) (H H' : Hp) : Prop := ∀ b o, b ≠ w → b ≠ fa → ¬ foot sk b → H b = some o → H' b = some o
theorem Fr5.ch {w fa : Addr} {sk : Skel} {H H1 H2 : Hp} {b : Addr} {o : HO} (f : Fr5 w fa sk H H1) (h : foot sk b) (c : Ch b o H1 H2) : Fr5 w fa sk H H2 := fun x u n1 n2 n e => c.keep (fun z => n (z ▸ h)) (f x u n1 n2 n e)
def sp__law_one_more (K : PySem.W.Frag) (Z : Ad) : Sp := fun vs H Q _ => ∃ (w : Addr) (k : Nat) (fa D : Addr) (us : List V) (fk : Folk) (sk : Skel) (ts : Tabs) (S : Addr → Prop), vs = [.ref w, .ref fa, .ref D] ∧ Well H w k ∧ k < 900000000000 ∧ (∀ a, S a → a ≠ w) ∧ H fa = some (.lst us) ∧ All2 (fT fS fI S H) us fk ∧ FolkOk fk ∧ fk.length ≤ 7 ∧
  Deep H D sk ts ∧ Apt D sk ∧ S fa ∧ S D ∧ (∀ p ∈ sk, S p.1 ∧ ∀ q ∈ p.2, S q.2.1 ∧ S q.1) ∧ fa ≠ D ∧ (∀ p ∈ sk, p.1 ≠ fa ∧ ∀ q ∈ p.2, q.2.1 ≠ fa) ∧ ts.length ≤ 1000 ∧ (∀ r ∈ ts, r.length ≤ 1000 ∧ ∀ d ∈ r, d.1.length = fk.length) ∧
  ∀ v fk' s H', s ≤ fk.length → Fr5 w fa sk H H' → Well H' w (k + 200) → fT fFolk fTabs (fun a => S a ∨ H a = none) H' v (fk', insT s ts) → FolkOk fk' → fk'.length = fk.length + 1 → heavy fk' = heavy fk → Q v H'
abbrev N__law_one_more : List Str := ["well", "folk", "tables", "known", "fresh", "spot", "deals", "cents", "goal", "title", "load", "some"]
def t__law_one_more (K : PySem.W.Frag) (Z : Ad) : TS :=
  (tSeq (tAsg (tLc (iList K (tVar 1)) (gTup K 2 (gCons (gName 9) (gCons (gName 10) gNil))) tYes (tVar 9) [9, 10]) (gName 3)) (tSeq (tAsg (tLc (iList K (tCall (sp__law_titles K Z) [] E0 (tCons (tVar 0) (tCons (tC (.int 8)) tNil)))) (gName 11) (tTest (tOp (rIn K true) (tVar 11) (tVar 3))) (tVar 11) [11]) (gName 4)) (tSeq (tAsg (tCall (sp__law_draw K Z) [] E0 (tCons (tVar 0) (tCons (tOp oAdd (tCB (rLen K) (tCons (tVar 1) tNil)) (tC (.int 1))) tNil))) (gName 5)) (tSeq (tDrop (tBM K "list" rInsert (tVar 1) (tCons (tVar 5) (tCons (tTup (tCons (tOp (rIxL K) (tVar 4) (tC (.int 0))) (tCons (tC (.int 0)) tNil))) tNil)))) (tSeq (tFor (iList K (tVar 2)) (gName 6) (tFor (iList K (tVar 6)) (gTup K 2 (gCons (gName 7) (gCons (gName 8) gNil))) (tDrop (tBM K "list" rInsert (tVar 7) (tCons (tVar 5) (tCons (tC (.int 0)) tNil)))))) (tRet (tTup (tCons (tVar 1) (tCons (tVar 2) tNil)))))))))
theorem l__law_one_more {K : PySem.W.Frag} {Z : Ad} {vs : List V} {H : Hp} {Q : VK} {E : XK} : sp__law_one_more K Z vs H Q E → vs.length = 3 := by
  rintro ⟨_, _, _, _, _, _, _, _, _, rfl, _⟩; rfl
theorem r__law_one_more {K : PySem.W.Frag} {Z : Ad} {vs : List V} {H : Hp} {Q : VK} {E : XK} (R : RuleK K Z) (h : sp__law_one_more K Z vs H Q E) : t__law_one_more K Z { nx := fun _ H' => Q .non H', rt := Q } (start N__law_one_more vs) H := by
  obtain ⟨w, k, fa, D, us, fk, sk, ts, S, rfl, W, hk, nS, hf, al, fo, f7, dp, ap, sf, sD, ss, fD, fsk, tl, rl, q⟩ := h
  show t__law_one_more K Z _ [some (.ref w), some (.ref fa), some (.ref D), none, none, none, none, none, none, none, none, none] H
  unfold t__law_one_more
  have f1 := fo.len
  have fw := nS _ sf
  walk_at "go"
  refine w_lc (w_ilist ?_)
  walk_at "go"
  refine w_ilistK (SqL.of hf) ?_
  refine lc_same gS (src_list (xs := us)) (fun i as => as = (fk.map Prod.fst).take i) (by rw [al.length]; omega) rfl (fun H' s => SqL.of (s _ _ hf)) ?_ ?_
  · rintro i as H1 x H2 N N' hi rfl s1 ⟨rfl, hx⟩ hN hN'
    obtain ⟨p, hp, fp⟩ := al.get hx
    refine w_gT2 ((gT gS gI).same s1 fp) fun u z f1 f2 => ?_
    cases f1; cases f2
    refine w_gCons (w_name (by simp only [wipe, List.set_cons_zero, List.set_cons_succ]; exact rfl) ?_)
    refine w_gCons (w_name (by simp only [wipe, List.set_cons_zero, List.set_cons_succ]; exact rfl) ?_)
    refine w_gNil ?_
    refine ⟨rfl, ?_⟩
    refine w_yes (w_iteT ?_)
    walk_at "go"
    exact hN _ p.1 _ (Same.refl _) rfl (take_snoc (by rw [List.getElem?_map, hp]; rfl))
  rintro A1 as H1 nA s1 rfl fA
  rw [show us.length = (fk.map Prod.fst).length by rw [al.length, List.length_map], take_all] at fA
  obtain ⟨A, eA, _, hA⟩ := strs_of fA
  cases eA
  have W1 := W.same s1
  have Aw : A1 ≠ w := W.ne nA
  have hA' : H1 A1 = some (.lst ((fk.map Prod.fst).map V.str)) ∧ A1 ≠ w := ⟨hA, Aw⟩
  walk_at "go"
  refine w_lc (w_ilist ?_)
  walk_at "go"
  refine ⟨w, _, 8, rfl, W1, by omega, by decide, by decide, fun v xs HT KT WT fx tx => ?_⟩
  obtain ⟨xa, rfl, nxa, hxa⟩ := strs_of fx
  have hn := KT _ _ (by exact hA'.2) hA'.1
  have xl := tx.len
  refine w_ilistK (SqL.of hxa) ?_
  refine lc_same gS (src_list (xs := xs.map V.str)) (fun i as => as = (xs.take i).filter fun s => !decide (s ∈ fk.map Prod.fst)) (by rw [List.length_map]; omega) rfl (fun H' s => SqL.of (s _ _ hxa)) ?_ ?_
  · rintro i as H1 x H2 N N' hi rfl s1 ⟨rfl, hx⟩ hN hN'
    rw [List.getElem?_map] at hx
    cases ex : xs[i]? with
    | none => rw [ex] at hx; cases hx
    | some t =>
    rw [ex] at hx; cases hx
    refine w_name (by simp only [wipe, List.set_cons_zero, List.set_cons_succ]; exact rfl) ?_
    refine ⟨rfl, ?_⟩
    walk_at "go"
    refine w_nin5 (s1 _ _ hn) ?_
    walk_at "go"
    refine w_iteB (fun h => ?_) fun h => ?_
    · walk_at "go"
      refine hN _ t _ (Same.refl _) rfl ?_
      rw [← take_snoc ex, List.filter_append, List.filter_cons_of_pos (by exact h)]; rfl
    · refine hN' _ (Same.refl _) ?_
      rw [← take_snoc ex, List.filter_append, List.filter_cons_of_neg (by rw [h]; exact Bool.false_ne_true)]; exact (List.append_nil _).symm
  rintro B1 as H2 nB s2 rfl fB
  rw [List.length_map, List.take_of_length_le (Nat.le_refl _)] at fB
  obtain ⟨B, eB, _, hB⟩ := strs_of fB
  cases eB
  obtain ⟨x, ex, mx, nx⟩ := fresh_some (ns := fk.map Prod.fst) tx.dist (by rw [List.length_map]; omega)
  have K2 : Kw w H H2 := ((Kw.of s1).trans KT).trans (Kw.of s2)
  have W2 := WT.same s2
  have hf2 := K2 _ _ fw hf
  walk_at "go"
  refine w_len (SqL.of hf2) ?_
  rw [al.length]
  walk_at "go"
  refine w_draw W2 (by omega) (by omega) (by omega) fun g H3 g0 g1 K3 W3 => ?_
  have Bw : B1 ≠ w := WT.ne nB
  have hB3 := K3 _ _ Bw hB
  have hf3 := K3 _ _ fw hf2
  have K03 := K2.trans K3
  walk_at "go"
  refine w_bm ?_
  walk_at "go"
  refine w_bmL hf3 ?_
  walk_at "go"
  refine w_ixL (SqL.of hB3) (atI_of (by omega) (by rw [List.getElem?_map, show (0 : Int).toNat = 0 from rfl, ex]; rfl)) ?_
  walk_at "go"
  refine w_tupN (by show 2 ≤ 100000; decide) fun T H4 nT c4 => ?_
  have s4 := c4.same nT
  have K04 := K03.trans (Kw.of s4)
  have nT0 : H T = none := dom_kw K03 (W3.mono (Nat.le_refl _)) T nT
  walk_at "go"
  refine w_insV5 (s4 _ _ hf3) (by rw [al.length]; omega) g0 (by omega) fun H5 c5 => ?_
  have W5 := (W3.same s4).ch fw c5
  have f5 : Fr5 w fa sk H H5 := fun b o n1 n2 _ e => c5.keep n2 (K04 _ _ n1 e)
  have hT5 : H5 T = some (.tup [.str x, .int 0]) := c5.keep (ne_of_none hf nT0).symm c4.at_
  have hD5 := f5 _ _ (nS _ sD) fD.symm (fun ⟨p, m, q, mq, z⟩ => ap.dc p m q mq z.symm) dp.top
  have dp5 : Deep H5 D sk ts := by
    have no : ∀ {xs : List V}, H fa = some (.tup xs) → False := fun e => by rw [hf] at e; cases e
    have nw : ∀ {xs : List V}, H w = some (.tup xs) → False := fun e => by obtain ⟨a, b, n, _, hw⟩ := W; rw [hw] at e; cases e
    refine ⟨hD5, dp.len, fun i p r e1 e2 => ?_⟩
    have mp := List.mem_of_getElem? e1
    have Rd := dp.row i p r e1 e2
    refine ⟨Rd.len, c5.keep (fsk p mp).1 (K04 _ _ (nS _ (ss p mp).1) Rd.at_), fun j q d e3 e4 => ?_⟩
    obtain ⟨a, b, c⟩ := Rd.deal j q d e3 e4
    have mq := List.mem_of_getElem? e3
    exact ⟨a, c5.keep (fun z => by rw [z] at b; exact no b) (K04 _ _ (fun z => by rw [z] at b; exact nw b) b), c5.keep ((fsk p mp).2 q mq) (K04 _ _ (nS _ ((ss p mp).2 q mq).1) c)⟩
  have lk := dp.len
  have W5' := W5
  obtain ⟨wa, wb, wn, hwn, hww⟩ := W5'
  walk_at "go"
  refine w_for (w_ilist ?_)
  walk_at "go"
  refine w_ilistK (SqL.of hD5) ?_
  refine for_go (src_list (xs := sk.map fun p => V.ref p.1)) (fun i σ H' => ∃ o6 o7 o8, σ = [some (.ref w), some (.ref fa), some (.ref D), some (.ref A1), some (.ref B1), some (.int g), o6, o7, o8, none, none, none] ∧ Lay H' D sk (valsI ts g.toNat i 0) ∧ Fr5 w fa sk H5 H' ∧ H' w = some (.lst [.int wa, .int wb, .int wn]) ∧ H' fa = some (.lst (insF g.toNat (.ref T) us))) ⟨_, _, _, rfl, dp5.lay _, (fun b o _ _ _ e => e), hww, c5.at_⟩ (fun i σ H' _ h => ?_) ?_ ?_
  · obtain ⟨_, _, _, _, l, _⟩ := h
    exact SqL.of l.top
  · rintro i σ Hq x6 H6 hi ⟨o6, o7, o8, rfl, l6, f6, w6, fa6⟩ ⟨rfl, ex6⟩
    rw [List.getElem?_map] at ex6
    cases ep : sk[i]? with
    | none => rw [ep] at ex6; cases ex6
    | some p =>
    rw [ep] at ex6; cases ex6
    have mp := List.mem_of_getElem? ep
    obtain ⟨r, er, RD⟩ := dp5.at_ ep
    have rlr := rl r (List.mem_of_getElem? er)
    have lp := RD.len
    refine w_name (by simp only [List.set_cons_zero, List.set_cons_succ]; exact rfl) ?_
    refine w_for (w_ilist ?_)
    walk_at "go"
    refine w_ilistK (SqL.of (l6.row i p ep)) ?_
    refine for_go (src_list (xs := p.2.map fun q => V.ref q.1)) (fun j σ H' => ∃ o7 o8, σ = [some (.ref w), some (.ref fa), some (.ref D), some (.ref A1), some (.ref B1), some (.int g), some (.ref p.1), o7, o8, none, none, none] ∧ Lay H' D sk (valsI ts g.toNat i j) ∧ Fr5 w fa sk H5 H' ∧ H' w = some (.lst [.int wa, .int wb, .int wn]) ∧ H' fa = some (.lst (insF g.toNat (.ref T) us))) ⟨_, _, rfl, l6, f6, w6, fa6⟩ (fun j σ H' _ h => ?_) ?_ ?_
    · obtain ⟨_, _, _, l, _⟩ := h
      exact SqL.of (l.row i p ep)
    · rintro j σ Hr x7 H7 hj ⟨o7, o8, rfl, l7, f7', w7, fa7⟩ ⟨rfl, ex7⟩
      rw [List.getElem?_map] at ex7
      cases eq : p.2[j]? with
      | none => rw [eq] at ex7; cases ex7
      | some c =>
      rw [eq] at ex7; cases ex7
      have mc := List.mem_of_getElem? eq
      obtain ⟨d, ed, _⟩ := RD.cell eq
      obtain ⟨hT, hc⟩ := l7.deal i p ep j c eq
      have vv : valsI ts g.toNat i j i j = d.1 := by
        unfold valsI
        rw [if_neg (fun z => by rcases z with z | z <;> omega), v0_at er ed]
      have dlen := rlr.2 d (List.mem_of_getElem? ed)
      refine w_gTup (SqT.of hT) rfl ?_
      refine w_gCons (w_name (by simp only [List.set_cons_zero, List.set_cons_succ]; exact rfl) ?_)
      refine w_gCons (w_name (by simp only [List.set_cons_zero, List.set_cons_succ]; exact rfl) ?_)
      refine w_gNil ?_
      walk_at "go"
      refine w_bm ?_
      walk_at "go"
      refine w_bmL hc ?_
      walk_at "go"
      refine w_insert hc (by rw [vv]; omega) g0 (by omega) fun H8 c8 => ?_
      walk_at "go"
      have ft : foot sk c.2.1 := ⟨p, mp, c, mc, rfl⟩
      refine ⟨_, _, rfl, (l7.cent ap ep eq c8).congr (fun i' p' e' j' q' e2' => ?_), f7'.ch ft c8, c8.keep (fun z => nS _ ((ss p mp).2 c mc).1 z.symm) w7, c8.keep (fun z => (fsk p mp).2 c mc z.symm) fa7⟩
      by_cases h : i' = i ∧ j' = j
      · obtain ⟨rfl, rfl⟩ := h
        rw [if_pos ⟨rfl, rfl⟩, vv]
        unfold valsI
        rw [if_pos (.inr ⟨rfl, Nat.lt_succ_self _⟩), v0_at er ed]; rfl
      · rw [if_neg h]
        unfold valsI
        by_cases h2 : i' < i ∨ (i' = i ∧ j' < j)
        · rw [if_pos h2, if_pos (by rcases h2 with h2 | h2 <;> omega)]
        · rw [if_neg h2, if_neg (fun z => by rcases z with z | z <;> omega)]
    · rintro σ H7 ⟨o7, o8, rfl, l7, f7', w7, fa7⟩
      rw [List.length_map] at l7
      refine ⟨_, _, _, rfl, l7.congr (fun i' p' e' j' q' e2' => ?_), f7', w7, fa7⟩
      unfold valsI
      by_cases h : i' < i + 1
      · have hL : i' < i ∨ (i' = i ∧ j' < p.2.length) := by
          by_cases h2 : i' = i
          · subst h2
            rw [ep] at e'; cases e'
            exact .inr ⟨rfl, (List.getElem?_eq_some_iff.mp e2').1⟩
          · exact .inl (by omega)
        rw [if_pos hL, if_pos (.inl h)]
      · rw [if_neg (fun z => by rcases z with z | z <;> omega), if_neg (fun z => by rcases z with z | z <;> omega)]
  · rintro σ H6 ⟨o6, o7, o8, rfl, l6, f6, w6, fa6⟩
    rw [List.length_map] at l6
    have dE := l6.deep dp5
    walk_at "go"
    refine w_tupN (by show 2 ≤ 100000; decide) fun U H7 nU c7 => ?_
    have s7 := c7.same nU
    obtain ⟨o1, o2⟩ := more_ok (s := g.toNat) fo (tx.ok x mx) nx (by omega)
    have hfa6 : H6 fa = some (.lst (insF g.toNat (.ref T) us)) := fa6
    have f06 : Fr5 w fa sk H H6 := fun b o n1 n2 n3 e => f6 b o n1 n2 n3 (f5 b o n1 n2 n3 e)
    have nU0 : H U = none := by
      cases e : H U with
      | none => rfl
      | some o =>
        by_cases e1 : U = w
        · rw [e1, w6] at nU; cases nU
        · by_cases e2 : U = fa
          · rw [e2, hfa6] at nU; cases nU
          · by_cases e3 : foot sk U
            · obtain ⟨p, m, c, mc, z⟩ := e3
              obtain ⟨i, hi⟩ := List.mem_iff_getElem?.mp m
              obtain ⟨j, hj⟩ := List.mem_iff_getElem?.mp mc
              have := (l6.deal i p hi j c hj).2
              rw [← z, nU] at this; cases this
            · rw [f06 U o e1 e2 e3 e] at nU; cases nU
    have isT : ∀ {b : Addr} {xs : List V}, H b = some (.tup xs) → H6 b = some (.tup xs) := fun {b xs} e => f06 b _ (fun z => by obtain ⟨a, b, n, _, hw⟩ := W; rw [z, hw] at e; cases e) (fun z => by rw [z, hf] at e; cases e) (fun ⟨p, m, c, mc, z⟩ => by
      obtain ⟨i, hi⟩ := List.mem_iff_getElem?.mp m
      obtain ⟨j, hj⟩ := List.mem_iff_getElem?.mp mc
      obtain ⟨r, er, RD⟩ := dp.at_ hi
      obtain ⟨d, ed, _, _, h3⟩ := RD.cell hj
      rw [z, h3] at e; cases e) e
    have al6 : All2 (fT fS fI (fun a => S a ∨ H a = none) H6) us fk := al.imp fun v p f => by
      obtain ⟨t, u, z, rfl, st, ht, e1, e2⟩ := f
      exact ⟨t, u, z, rfl, .inl st, isT ht, e1, e2⟩
    have hT6 : H6 T = some (.tup [.str x, .int 0]) := f6 _ _ (fun z => by rw [z] at nT0; exact W.some nT0) (ne_of_none hf nT0).symm (fun ⟨p, m, c, mc, z⟩ => by
      obtain ⟨i, hi⟩ := List.mem_iff_getElem?.mp m
      obtain ⟨j, hj⟩ := List.mem_iff_getElem?.mp mc
      obtain ⟨r, er, RD⟩ := dp.at_ hi
      obtain ⟨d, ed, _, _, h3⟩ := RD.cell hj
      rw [z, h3] at nT0; cases nT0) hT5
    have fF : fFolk (fun a => S a ∨ H a = none) H6 (.ref fa) (insF g.toNat (x, 0) fk) := ⟨fa, _, rfl, .inl sf, hfa6, insF_all2 al6 ⟨T, _, _, rfl, .inr nT0, hT6, rfl, rfl⟩⟩
    have fTb : fTabs (fun a => S a ∨ H a = none) H6 (.ref D) (insT g.toNat ts) := dE.fam (.inl sD) fun p m => ⟨.inl (ss p m).1, fun q mq => ⟨.inl ((ss p m).2 q mq).1, .inl ((ss p m).2 q mq).2⟩⟩
    refine q (.ref U) _ g.toNat H7 (by omega) (fun b o n1 n2 n3 e => s7 _ _ (f06 b o n1 n2 n3 e)) ?_ ⟨U, _, _, rfl, .inr nU0, c7.at_, gFolk.same s7 fF, gTabs.same s7 fTb⟩ o1 (insF_len (by omega)) o2
    exact ⟨wa, wb, wn, by omega, s7 _ _ w6⟩
end Ow

set_option Elab.async false
set_option linter.all false
set_option maxRecDepth 100000
namespace Ow
open PySem L2
local macro_rules | `(tactic| walk_at "go") => `(tactic| (repeat (with_reducible first
  | refine w_seq ?_ | refine w_asg ?_ | refine w_ret ?_ | refine w_if ?_ | refine w_next ?_ | refine w_drop ?_
  | refine w_var (by with_unfolding_all rfl) ?_ | refine w_c ?_ | refine w_op ?_ | refine w_cons ?_ | refine w_nil ?_ | refine w_cb ?_ | refine w_call ?_
  | refine w_name (by simp only [List.set_cons_zero, List.set_cons_succ]; exact rfl) ?_
  | refine w_add ?_ | refine w_sub ?_ | refine w_lt ?_ | refine w_le ?_ | refine w_gt ?_ | refine w_ge ?_ | refine w_eqI ?_ | refine w_neI ?_
  | refine w_test ?_ | refine w_testK ?_ | refine w_tB ?_ | refine w_intI ?_ | refine w_intB ?_ | refine w_max2 ?_ | refine w_min2 ?_
  | refine w_lst ?_ | refine w_tup ?_ | refine w_gSub ?_ | refine w_fld ?_ | refine w_un ?_ | refine w_neg ?_ | refine w_par ?_ | refine w_tIf ?_ | refine w_and ?_ | refine w_or ?_ | refine w_not ?_
  | refine w_mod (by omega) ?_ | refine w_div (cdiv (by omega) (by omega)) ?_ | refine w_mul (cmulL (by omega) (by omega)) ?_ | refine w_mul (cmulR (by omega) (by omega)) ?_ | refine w_pow (cpow (by omega) (by omega) (by omega) (by omega)) ?_
  | refine w_ixL (SqL.of (by assumption)) (by with_unfolding_all rfl) ?_)))
local macro_rules | `(tactic| walk_at "st") => `(tactic| (repeat (with_reducible first
  | refine w_seq ?_ | refine w_asg ?_ | refine w_ret ?_ | refine w_next ?_ | refine w_drop ?_
  | refine w_var (by with_unfolding_all rfl) ?_ | refine w_c ?_ | refine w_op ?_ | refine w_cons ?_ | refine w_nil ?_ | refine w_cb ?_ | refine w_call ?_
  | refine w_name (by simp only [List.set_cons_zero, List.set_cons_succ]; exact rfl) ?_
  | refine w_add ?_ | refine w_sub ?_ | refine w_lt ?_ | refine w_le ?_ | refine w_gt ?_ | refine w_ge ?_ | refine w_eqI ?_ | refine w_neI ?_
  | refine w_test ?_ | refine w_testK ?_ | refine w_tB ?_ | refine w_intI ?_ | refine w_intB ?_ | refine w_max2 ?_ | refine w_min2 ?_
  | refine w_lst ?_ | refine w_tup ?_ | refine w_gSub ?_ | refine w_fld ?_ | refine w_un ?_ | refine w_neg ?_ | refine w_par ?_ | refine w_tIf ?_ | refine w_and ?_ | refine w_or ?_ | refine w_not ?_
  | refine w_mod (by omega) ?_ | refine w_div (cdiv (by omega) (by omega)) ?_ | refine w_mul (cmulL (by omega) (by omega)) ?_ | refine w_mul (cmulR (by omega) (by omega)) ?_ | refine w_pow (cpow (by omega) (by omega) (by omega) (by omega)) ?_
  | refine w_ixL (SqL.of (by assumption)) (by with_unfolding_all rfl) ?_)))
/-! ### other people -/
theorem perm_sum {xs ys : List Int} (p : xs.Perm ys) : xs.sum = ys.sum := by
  induction p with
  | nil => rfl
  | cons x _ ih => rw [List.sum_cons, List.sum_cons, ih]
  | swap x y l => rw [List.sum_cons, List.sum_cons, List.sum_cons, List.sum_cons]; omega
  | trans _ _ a b => exact a.trans b
theorem swap_perm {α : Type} {xs : List α} {i j : Nat} {x y : α} (hi : xs[i]? = some x) (hj : xs[j]? = some y) : ((xs.set i y).set j x).Perm xs := by
  obtain ⟨a, ea⟩ := List.getElem?_eq_some_iff.mp hi
  obtain ⟨b, eb⟩ := List.getElem?_eq_some_iff.mp hj
  have p := (Array.swap_perm (xs := xs.toArray) (i := i) (j := j) (by simpa using a) (by simpa using b)).toList
  have e : (xs.toArray.swap i j (by simpa using a) (by simpa using b)).toList = (xs.set i y).set j x := by
    simp only [Array.toList_swap, List.getElem_toArray, ea, eb]
  rwa [e] at p
theorem folk_perm {fk fk' : Folk} (o : FolkOk fk) (p : fk'.Perm fk) : FolkOk fk' ∧ heavy fk' = heavy fk := by
  have hv : heavy fk' = heavy fk := perm_sum (p.map Prod.snd)
  exact ⟨⟨nd_dist ((p.map Prod.fst).nodup_iff.mpr (dist_nd o.dist)), fun q m => o.ok q (p.mem_iff.mp m), fun y m => o.nn y ((p.map Prod.snd).mem_iff.mp m), by rw [hv]; exact o.pos, by rw [p.length_eq]; exact o.len⟩, hv⟩
theorem set_same {α : Type} {xs : List α} {i : Nat} {x : α} (h : xs[i]? = some x) : xs.set i x = xs := by
  obtain ⟨a, rfl⟩ := List.getElem?_eq_some_iff.mp h
  exact List.set_getElem_self a
/-- a cent of a weight from one to another one -/
theorem folk_move {fk : Folk} {i j : Nat} {p q : Str × Int} (o : FolkOk fk) (hi : fk[i]? = some p) (hp : 0 < p.2) (hj : (fk.set i (p.1, p.2 - 1))[j]? = some q) : FolkOk ((fk.set i (p.1, p.2 - 1)).set j (q.1, q.2 + 1)) ∧ heavy ((fk.set i (p.1, p.2 - 1)).set j (q.1, q.2 + 1)) = heavy fk := by
  have e1 : (fk.set i (p.1, p.2 - 1)).map Prod.fst = fk.map Prod.fst := by rw [List.map_set]; exact set_same (by rw [List.getElem?_map, hi]; rfl)
  have e2 : ((fk.set i (p.1, p.2 - 1)).set j (q.1, q.2 + 1)).map Prod.fst = fk.map Prod.fst := by rw [List.map_set, e1]; exact set_same (by rw [← e1, List.getElem?_map, hj]; rfl)
  have s1 : ((fk.set i (p.1, p.2 - 1)).map Prod.snd) = (fk.map Prod.snd).set i (p.2 - 1) := List.map_set
  have s2 : (((fk.set i (p.1, p.2 - 1)).set j (q.1, q.2 + 1)).map Prod.snd) = ((fk.map Prod.snd).set i (p.2 - 1)).set j (q.2 + 1) := by rw [List.map_set, s1]
  have hv : heavy ((fk.set i (p.1, p.2 - 1)).set j (q.1, q.2 + 1)) = heavy fk := by
    unfold heavy
    rw [s2, sum_set (x := q.2) (by rw [← s1, List.getElem?_map, hj]; rfl), sum_set (x := p.2) (by rw [List.getElem?_map, hi]; rfl)]
    omega
  have nn1 : ∀ x ∈ (fk.map Prod.snd).set i (p.2 - 1), 0 ≤ x := fun x m => by
    rcases List.mem_or_eq_of_mem_set m with m | rfl
    · exact o.nn x m
    · omega
  refine ⟨⟨by rw [e2]; exact o.dist, fun r m => ?_, fun x m => ?_, by rw [hv]; exact o.pos, by rw [List.length_set, List.length_set]; exact o.len⟩, hv⟩
  · have : r.1 ∈ fk.map Prod.fst := by rw [← e2]; exact List.mem_map_of_mem m
    obtain ⟨r', m', e⟩ := List.mem_map.mp this
    rw [← e]; exact o.ok r' m'
  · rw [s2] at m
    rcases List.mem_or_eq_of_mem_set m with m | rfl
    · exact nn1 x m
    · have := nn1 q.2 (by rw [← s1]; exact List.mem_map_of_mem (List.mem_of_getElem? hj))
      omega
/-- another name -/
theorem folk_named {fk : Folk} {i : Nat} {p : Str × Int} {x : Str} (o : FolkOk fk) (hi : fk[i]? = some p) (hx : x = p.1 ∨ OkName x ∧ x ∉ fk.map Prod.fst) : FolkOk (fk.set i (x, p.2)) ∧ heavy (fk.set i (x, p.2)) = heavy fk := by
  have s1 : (fk.set i (x, p.2)).map Prod.snd = fk.map Prod.snd := by rw [List.map_set]; exact set_same (by rw [List.getElem?_map, hi]; rfl)
  have hv : heavy (fk.set i (x, p.2)) = heavy fk := by unfold heavy; rw [s1]
  rcases hx with rfl | ⟨ox, nx⟩
  · rw [show (p.1, p.2) = p from rfl, set_same hi]; exact ⟨o, rfl⟩
  · refine ⟨⟨?_, fun r m => ?_, fun y m => o.nn y (by rw [← s1]; exact m), by rw [hv]; exact o.pos, by rw [List.length_set]; exact o.len⟩, hv⟩
    · rw [show (fk.set i (x, p.2)).map Prod.fst = (fk.map Prod.fst).set i x from List.map_set]
      intro a b z ha hb
      rcases set_at ha with ⟨e1, e2, _⟩ | ⟨na, ha2⟩
      · rcases set_at hb with ⟨e3, _, _⟩ | ⟨nb, hb2⟩
        · exact e1.symm.trans e3
        · exact absurd (List.mem_of_getElem? hb2) (by rw [e2]; exact nx)
      · rcases set_at hb with ⟨e3, e4, _⟩ | ⟨nb, hb2⟩
        · exact absurd (List.mem_of_getElem? ha2) (by rw [e4]; exact nx)
        · exact o.dist a b z ha2 hb2
    · rcases List.mem_or_eq_of_mem_set m with m | rfl
      · exact o.ok r m
      · exact ox
def Wider (fk fk' : Folk) (ts ts' : Tabs) (most : Int) : Prop := (fk'.length = fk.length ∧ ts' = ts) ∨ (fk'.length = fk.length + 1 ∧ (fk.length : Int) < most ∧ ∃ s, s ≤ fk.length ∧ ts' = insT s ts)
def sp__law_other_folk (K : PySem.W.Frag) (Z : Ad) : Sp := fun vs H Q _ => ∃ (w : Addr) (k : Nat) (v : V) (fk : Folk) (ts : Tabs) (most : Int) (S : Addr → Prop), vs = [.ref w, v, .int most] ∧ Well H w k ∧ k < 800000000000 ∧ fT fFolk fTabs S H v (fk, ts) ∧ (∀ a, S a → a ≠ w) ∧ FolkOk fk ∧ fk.length ≤ 8 ∧ most ≤ 8 ∧ ts.length ≤ 1000 ∧ (∀ r ∈ ts, r.length ≤ 1000 ∧ ∀ d ∈ r, d.1.length = fk.length) ∧
  ∀ v' fk' ts' H', Kw w H H' → Well H' w (k + 300) → fT fFolk fTabs (fun a => S a ∨ H a = none) H' v' (fk', ts') → FolkOk fk' → heavy fk' = heavy fk → Wider fk fk' ts ts' most → Q v' H'
abbrev N__law_other_folk : List Str := ["well", "plan", "most", "folk", "tables", "way", "spot", "mate", "known", "fresh", "title", "load", "some"]
def t__law_other_folk (K : PySem.W.Frag) (Z : Ad) : TS :=
  (tSeq (tPar 3 4 (tCons (tCB (rList1 K) (tCons (tOp (rIxT K) (tVar 1) (tC (.int 0))) tNil)) (tCons (tCall (sp__law_copy K Z) [] E0 (tCons (tOp (rIxT K) (tVar 1) (tC (.int 1))) tNil)) tNil))) (tSeq (tAsg (tCall (sp__law_draw K Z) [] E0 (tCons (tVar 0) (tCons (tC (.int 4)) tNil))) (gName 5)) (tSeq (tPar 6 7 (tCons (tCall (sp__law_draw K Z) [] E0 (tCons (tVar 0) (tCons (tCB (rLen K) (tCons (tVar 3) tNil)) tNil))) (tCons (tCall (sp__law_draw K Z) [] E0 (tCons (tVar 0) (tCons (tCB (rLen K) (tCons (tVar 3) tNil)) tNil))) tNil))) (tSeq (tIfS (tAnd (tTest (tOp rEq (tVar 5) (tC (.int 0)))) (tTest (tOp oLt (tCB (rLen K) (tCons (tVar 3) tNil)) (tVar 2)))) (tRet (tCall (sp__law_one_more K Z) [] E0 (tCons (tVar 0) (tCons (tVar 3) (tCons (tVar 4) tNil))))) tNext) (tSeq (tIfS (tTest (tOp rEq (tVar 5) (tC (.int 1)))) (tAsg (tTup (tCons (tOp (rIxL K) (tVar 3) (tVar 7)) (tCons (tOp (rIxL K) (tVar 3) (tVar 6)) tNil))) (gTup K 2 (gCons (gSub (tVar 3) (tVar 6) rSetL) (gCons (gSub (tVar 3) (tVar 7) rSetL) gNil)))) (tIfS (tAnd (tTest (tOp rEq (tVar 5) (tC (.int 2)))) (tTest (tOp oGt (tOp (rIxT K) (tOp (rIxL K) (tVar 3) (tVar 6)) (tC (.int 1))) (tC (.int 0))))) (tSeq (tAsg (tTup (tCons (tOp (rIxT K) (tOp (rIxL K) (tVar 3) (tVar 6)) (tC (.int 0))) (tCons (tOp oSub (tOp (rIxT K) (tOp (rIxL K) (tVar 3) (tVar 6)) (tC (.int 1))) (tC (.int 1))) tNil))) (gSub (tVar 3) (tVar 6) rSetL)) (tAsg (tTup (tCons (tOp (rIxT K) (tOp (rIxL K) (tVar 3) (tVar 7)) (tC (.int 0))) (tCons (tOp oAdd (tOp (rIxT K) (tOp (rIxL K) (tVar 3) (tVar 7)) (tC (.int 1))) (tC (.int 1))) tNil))) (gSub (tVar 3) (tVar 7) rSetL))) (tSeq (tAsg (tLc (iList K (tVar 3)) (gTup K 2 (gCons (gName 10) (gCons (gName 11) gNil))) tYes (tVar 10) [10, 11]) (gName 8)) (tSeq (tAsg (tOp rCat (tLc (iList K (tCall (sp__law_titles K Z) [] E0 (tCons (tVar 0) (tCons (tC (.int 8)) tNil)))) (gName 12) (tTest (tOp (rIn K true) (tVar 12) (tVar 8))) (tVar 12) [12]) (tLst (tCons (tOp (rIxL K) (tVar 8) (tVar 6)) tNil))) (gName 9)) (tAsg (tTup (tCons (tOp (rIxL K) (tVar 9) (tC (.int 0))) (tCons (tOp (rIxT K) (tOp (rIxL K) (tVar 3) (tVar 6)) (tC (.int 1))) tNil))) (gSub (tVar 3) (tVar 6) rSetL)))))) (tRet (tTup (tCons (tVar 3) (tCons (tVar 4) tNil)))))))))
theorem l__law_other_folk {K : PySem.W.Frag} {Z : Ad} {vs : List V} {H : Hp} {Q : VK} {E : XK} : sp__law_other_folk K Z vs H Q E → vs.length = 3 := by
  rintro ⟨_, _, _, _, _, _, _, rfl, _⟩; rfl
theorem r__law_other_folk {K : PySem.W.Frag} {Z : Ad} {vs : List V} {H : Hp} {Q : VK} {E : XK} (R : RuleK K Z) (h : sp__law_other_folk K Z vs H Q E) : t__law_other_folk K Z { nx := fun _ H' => Q .non H', rt := Q } (start N__law_other_folk vs) H := by
  obtain ⟨w, k, v, fk, ts, most, S, rfl, W, hk, fp, nS, fo, f8, m8, tl, rl, q⟩ := h
  show t__law_other_folk K Z _ [some (.ref w), some v, some (.int most), none, none, none, none, none, none, none, none, none, none] H
  unfold t__law_other_folk
  have f1 := fo.len
  walk_at "go"
  refine w_ixP0 fp fun pv fpv => ?_
  walk_at "go"
  refine w_list1F fpv fun l us H1 nl c1 al0 => ?_
  have s1 := c1.same nl
  have lw : l ≠ w := W.ne nl
  walk_at "go"
  refine w_ixP1 ((gT gFolk gTabs).same s1 fp) fun tv ftv => ?_
  walk_at "go"
  refine ⟨tv, ts, S, rfl, ftv, ⟨by omega, fun r m => by have := (rl r m).1; omega⟩, fun D sk H2 nD s2 dp ap ns => ?_⟩
  have lD : l ≠ D := ne_of_none c1.at_ nD
  have lsk : ∀ p ∈ sk, p.1 ≠ l ∧ ∀ q ∈ p.2, q.2.1 ≠ l := fun p m => ⟨(fun z => by have := (ns p m).1; rw [z, c1.at_] at this; cases this), fun q mq z => by have := ((ns p m).2 q mq).1; rw [z, c1.at_] at this; cases this⟩
  have s12 := s1.trans s2
  have K2 : Kw w H H2 := Kw.of s12
  have W2 := W.same s12
  have hl2 : H2 l = some (.lst us) := s2 _ _ c1.at_
  have al2 : All2 (fT fS fI S H2) us fk := al0.imp fun _ _ f => (gT gS gI).same s12 f
  have nw : ∀ {b : Addr}, H b = none → b ≠ w := fun {b} e => W.ne e
  have skN : ∀ p ∈ sk, H p.1 = none ∧ ∀ q ∈ p.2, H q.2.1 = none ∧ H q.1 = none := fun p m => ⟨dom_same s1 _ (ns p m).1, fun q mq => ⟨dom_same s1 _ ((ns p m).2 q mq).1, dom_same s1 _ ((ns p m).2 q mq).2⟩⟩
  have nD0 : H D = none := dom_same s1 D nD
  have tF : fTabs (fun a => H a = none ∧ a ≠ l) H2 (.ref D) ts := dp.fam ⟨nD0, lD.symm⟩ fun p m => ⟨⟨(skN p m).1, (lsk p m).1⟩, fun q mq => ⟨⟨((skN p m).2 q mq).1, (lsk p m).2 q mq⟩, ((skN p m).2 q mq).2, fun z => by have := ((ns p m).2 q mq).2; rw [z, c1.at_] at this; cases this⟩⟩
  walk_at "go"
  refine w_parK (by simp only [List.set_cons_zero, List.set_cons_succ]; exact rfl) ?_
  walk_at "go"
  refine w_draw W2 (by omega) (by omega) (by omega) fun way H3 y0 y1 K3 W3 => ?_
  have hl3 := K3 _ _ lw hl2
  walk_at "go"
  refine w_len (SqL.of hl3) ?_
  rw [al2.length]
  walk_at "go"
  refine w_draw W3 (by omega) (by omega) (by omega) fun sp H4 p0 p1 K4 W4 => ?_
  have hl4 := K4 _ _ lw hl3
  walk_at "go"
  refine w_len (SqL.of hl4) ?_
  rw [al2.length]
  walk_at "go"
  refine w_draw W4 (by omega) (by omega) (by omega) fun ma H5 m0 m1 K5 W5 => ?_
  have hl5 := K5 _ _ lw hl4
  have K25 := (K3.trans K4).trans K5
  have K05 := K2.trans K25
  have al5 : All2 (fT fS fI S H5) us fk := al2.imp fun _ _ f => (gT gS gI).keep (fun b o s e => K25 b o (nS b s) e) f
  obtain ⟨ps, eps⟩ := at_some p0 p1
  obtain ⟨pm, epm⟩ := at_some m0 m1
  walk_at "go"
  refine w_parK (by simp only [List.set_cons_zero, List.set_cons_succ]; exact rfl) ?_
  have fin : ∀ (us' : List V) (fk' : Folk) (H9 : Hp) (o8 o9 : Option V), (∀ b o, b ≠ w → b ≠ l → H5 b = some o → H9 b = some o) → Well H9 w (k + 300) → H9 l = some (.lst us') → All2 (fT fS fI (fun a => S a ∨ H a = none) H9) us' fk' → FolkOk fk' ∧ heavy fk' = heavy fk → fk'.length = fk.length →
      (tRet (tTup (tCons (tVar 3) (tCons (tVar 4) tNil)))) ⟨fun _ H' => Q .non H', Q, fun _ _ => False, fun _ _ => False⟩ [some (.ref w), some v, some (.int most), some (.ref l), some (.ref D), some (.int way), some (.int sp), some (.int ma), o8, o9, none, none, none] H9 := by
    intro us' fk' H9 o8 o9 F9 W9 hl9 al9 ok9 ln9
    walk_at "go"
    refine w_tupN (by show 2 ≤ 100000; decide) fun U H10 nU c10 => ?_
    have s10 := c10.same nU
    have K9 : Kw w H H9 := fun b o n e => F9 b o n (ne_of_none e nl) (K05 b o n e)
    have tF9 : fTabs (fun a => H a = none ∧ a ≠ l) H9 (.ref D) ts := gTabs.keep (fun b o s e => F9 b o (nw s.1) s.2 (K25 b o (nw s.1) e)) tF
    exact q (.ref U) fk' ts H10 (K9.trans (Kw.of s10)) (W9.same s10) ⟨U, _, _, rfl, .inr (dom_kw K9 W9 U nU), c10.at_, gFolk.same s10 ⟨l, us', rfl, .inr nl, hl9, al9⟩, gTabs.mono (fun a s => .inr s.1) (gTabs.same s10 tF9)⟩ ok9.1 ok9.2 (.inl ⟨ln9, rfl⟩)
  have toS : ∀ {H9 : Hp}, (∀ b o, b ≠ w → b ≠ l → H5 b = some o → H9 b = some o) → All2 (fT fS fI (fun a => S a ∨ H a = none) H9) us fk := fun {H9} F9 => al5.imp fun _ _ f => by
    obtain ⟨t, u, z, rfl, st, ht, e1, e2⟩ := f
    exact ⟨t, u, z, rfl, .inl st, F9 _ _ (nS _ st) (fun z => by rw [z, hl5] at ht; cases ht) ht, e1, e2⟩
  have lu := al5.length
  have rest : (tSeq (tIfS (tTest (tOp rEq (tVar 5) (tC (.int 1)))) (tAsg (tTup (tCons (tOp (rIxL K) (tVar 3) (tVar 7)) (tCons (tOp (rIxL K) (tVar 3) (tVar 6)) tNil))) (gTup K 2 (gCons (gSub (tVar 3) (tVar 6) rSetL) (gCons (gSub (tVar 3) (tVar 7) rSetL) gNil)))) (tIfS (tAnd (tTest (tOp rEq (tVar 5) (tC (.int 2)))) (tTest (tOp oGt (tOp (rIxT K) (tOp (rIxL K) (tVar 3) (tVar 6)) (tC (.int 1))) (tC (.int 0))))) (tSeq (tAsg (tTup (tCons (tOp (rIxT K) (tOp (rIxL K) (tVar 3) (tVar 6)) (tC (.int 0))) (tCons (tOp oSub (tOp (rIxT K) (tOp (rIxL K) (tVar 3) (tVar 6)) (tC (.int 1))) (tC (.int 1))) tNil))) (gSub (tVar 3) (tVar 6) rSetL)) (tAsg (tTup (tCons (tOp (rIxT K) (tOp (rIxL K) (tVar 3) (tVar 7)) (tC (.int 0))) (tCons (tOp oAdd (tOp (rIxT K) (tOp (rIxL K) (tVar 3) (tVar 7)) (tC (.int 1))) (tC (.int 1))) tNil))) (gSub (tVar 3) (tVar 7) rSetL))) (tSeq (tAsg (tLc (iList K (tVar 3)) (gTup K 2 (gCons (gName 10) (gCons (gName 11) gNil))) tYes (tVar 10) [10, 11]) (gName 8)) (tSeq (tAsg (tOp rCat (tLc (iList K (tCall (sp__law_titles K Z) [] E0 (tCons (tVar 0) (tCons (tC (.int 8)) tNil)))) (gName 12) (tTest (tOp (rIn K true) (tVar 12) (tVar 8))) (tVar 12) [12]) (tLst (tCons (tOp (rIxL K) (tVar 8) (tVar 6)) tNil))) (gName 9)) (tAsg (tTup (tCons (tOp (rIxL K) (tVar 9) (tC (.int 0))) (tCons (tOp (rIxT K) (tOp (rIxL K) (tVar 3) (tVar 6)) (tC (.int 1))) tNil))) (gSub (tVar 3) (tVar 6) rSetL)))))) (tRet (tTup (tCons (tVar 3) (tCons (tVar 4) tNil)))))
      ⟨fun _ H' => Q .non H', Q, fun _ _ => False, fun _ _ => False⟩ [some (.ref w), some v, some (.int most), some (.ref l), some (.ref D), some (.int way), some (.int sp), some (.int ma), none, none, none, none, none] H5 := by
    obtain ⟨us_, eus, fus⟩ := al5.getR eps
    obtain ⟨um, eum, fum⟩ := al5.getR epm
    obtain ⟨T1, a1, b1, rfl, sT1, hT1, e1, e2⟩ := fus
    cases e1; cases e2
    have T1l : T1 ≠ l := fun z => by rw [z, hl5] at hT1; cases hT1
    walk_at "go"
    refine w_ite (fun _ => ?_) fun _ => ?_
    · walk_at "go"
      refine w_ixL (SqL.of hl5) (atI_of m0 eum) ?_
      walk_at "go"
      refine w_ixL (SqL.of hl5) (atI_of p0 eus) ?_
      walk_at "go"
      refine w_tupN (by show 2 ≤ 100000; decide) fun T H6 nT c6 => ?_
      have s6 := c6.same nT
      refine w_gTup (SqT.of c6.at_) rfl ?_
      refine w_gCons ?_
      walk_at "go"
      refine w_setN (s6 _ _ hl5) (ixN_of p0 (by omega)) rfl fun H7 c7 => ?_
      refine w_gCons ?_
      walk_at "go"
      refine w_setN c7.at_ (ixN_of m0 (by rw [List.length_set]; omega)) rfl fun H8 c8 => ?_
      refine w_gNil ?_
      have F8 : ∀ b o, b ≠ w → b ≠ l → H5 b = some o → H8 b = some o := fun b o _ n e => c8.keep n (c7.keep n (s6 _ _ e))
      have al8 := toS F8
      obtain ⟨x1, g1, f1'⟩ := al8.getR eps
      obtain ⟨x2, g2, f2'⟩ := al8.getR epm
      rw [eus] at g1; cases g1
      rw [eum] at g2; cases g2
      have pp := swap_perm eps epm
      exact fin _ ((fk.set sp.toNat pm).set ma.toNat ps) H8 none none F8 ((((W5.same s6).ch lw c7).ch lw c8).mono (by omega)) c8.at_ ((al8.set f2').set f1') (folk_perm fo pp) pp.length_eq
    have named : ∀ H6, H5 = H6 → (tSeq (tSeq (tAsg (tLc (iList K (tVar 3)) (gTup K 2 (gCons (gName 10) (gCons (gName 11) gNil))) tYes (tVar 10) [10, 11]) (gName 8)) (tSeq (tAsg (tOp rCat (tLc (iList K (tCall (sp__law_titles K Z) [] E0 (tCons (tVar 0) (tCons (tC (.int 8)) tNil)))) (gName 12) (tTest (tOp (rIn K true) (tVar 12) (tVar 8))) (tVar 12) [12]) (tLst (tCons (tOp (rIxL K) (tVar 8) (tVar 6)) tNil))) (gName 9)) (tAsg (tTup (tCons (tOp (rIxL K) (tVar 9) (tC (.int 0))) (tCons (tOp (rIxT K) (tOp (rIxL K) (tVar 3) (tVar 6)) (tC (.int 1))) tNil))) (gSub (tVar 3) (tVar 6) rSetL)))) (tRet (tTup (tCons (tVar 3) (tCons (tVar 4) tNil)))))
        ⟨fun _ H' => Q .non H', Q, fun _ _ => False, fun _ _ => False⟩ [some (.ref w), some v, some (.int most), some (.ref l), some (.ref D), some (.int way), some (.int sp), some (.int ma), none, none, none, none, none] H6 := by
      rintro _ rfl
      walk_at "go"
      refine w_lc (w_ilist ?_)
      walk_at "go"
      refine w_ilistK (SqL.of hl5) ?_
      refine lc_same gS (src_list (xs := us)) (fun i as => as = (fk.map Prod.fst).take i) (by rw [al5.length]; omega) rfl (fun H' s => SqL.of (s _ _ hl5)) ?_ ?_
      · rintro i as H1 x H2 N N' hi rfl s1 ⟨rfl, hx⟩ hN hN'
        obtain ⟨p, hp, fp⟩ := al5.get hx
        refine w_gT2 ((gT gS gI).same s1 fp) fun u z f1 f2 => ?_
        cases f1; cases f2
        refine w_gCons (w_name (by simp only [wipe, List.set_cons_zero, List.set_cons_succ]; exact rfl) ?_)
        refine w_gCons (w_name (by simp only [wipe, List.set_cons_zero, List.set_cons_succ]; exact rfl) ?_)
        refine w_gNil ?_
        refine ⟨rfl, ?_⟩
        refine w_yes (w_iteT ?_)
        walk_at "go"
        exact hN _ p.1 _ (Same.refl _) rfl (take_snoc (by rw [List.getElem?_map, hp]; rfl))
      rintro A1 as H6 nA s6 rfl fA
      rw [show us.length = (fk.map Prod.fst).length by rw [al5.length, List.length_map], take_all] at fA
      obtain ⟨A, eA, _, hA⟩ := strs_of fA
      cases eA
      have W6 := W5.same s6
      have Aw : A1 ≠ w := W5.ne nA
      have hA' : H6 A1 = some (.lst ((fk.map Prod.fst).map V.str)) ∧ A1 ≠ w := ⟨hA, Aw⟩
      walk_at "go"
      refine w_lc (w_ilist ?_)
      walk_at "go"
      refine ⟨w, _, 8, rfl, W6, by omega, by decide, by decide, fun v xs HT KT WT fx tx => ?_⟩
      obtain ⟨xa, rfl, nxa, hxa⟩ := strs_of fx
      have hn := KT _ _ (by exact hA'.2) hA'.1
      have xl := tx.len
      refine w_ilistK (SqL.of hxa) ?_
      refine lc_same gS (src_list (xs := xs.map V.str)) (fun i as => as = (xs.take i).filter fun s => !decide (s ∈ fk.map Prod.fst)) (by rw [List.length_map]; omega) rfl (fun H' s => SqL.of (s _ _ hxa)) ?_ ?_
      · rintro i as H1 x H2 N N' hi rfl s1 ⟨rfl, hx⟩ hN hN'
        rw [List.getElem?_map] at hx
        cases ex : xs[i]? with
        | none => rw [ex] at hx; cases hx
        | some t =>
        rw [ex] at hx; cases hx
        refine w_name (by simp only [wipe, List.set_cons_zero, List.set_cons_succ]; exact rfl) ?_
        refine ⟨rfl, ?_⟩
        walk_at "go"
        refine w_nin5 (s1 _ _ hn) ?_
        walk_at "go"
        refine w_iteB (fun h => ?_) fun h => ?_
        · walk_at "go"
          refine hN _ t _ (Same.refl _) rfl ?_
          rw [← take_snoc ex, List.filter_append, List.filter_cons_of_pos (by exact h)]; rfl
        · refine hN' _ (Same.refl _) ?_
          rw [← take_snoc ex, List.filter_append, List.filter_cons_of_neg (by rw [h]; exact Bool.false_ne_true)]; exact (List.append_nil _).symm
      rintro B1 as H7 nB s7 rfl fB
      rw [List.length_map, List.take_of_length_le (Nat.le_refl _)] at fB
      obtain ⟨B, eB, _, hB⟩ := strs_of fB
      cases eB
      have K7 : Kw w H5 H7 := ((Kw.of s6).trans KT).trans (Kw.of s7)
      have W7 := WT.same s7
      have hl7 := K7 _ _ lw hl5
      walk_at "go"
      refine w_ixStr (s7 _ _ hn) p0 (by rw [List.length_map]; exact p1) fun t et => ?_
      rw [List.getElem?_map, eps] at et
      cases et
      walk_at "go"
      refine w_lstN (by show 1 ≤ 100000; decide) fun C H8 nC c8 => ?_
      have s8 := c8.same nC
      refine w_catV9 (s8 _ _ hB) c8.at_ (by
        have := List.length_filter_le (fun s => !decide (s ∈ fk.map Prod.fst)) xs
        rw [List.length_map]
        show _ + 1 ≤ 100000
        omega) fun G H9 nG c9 => ?_
      have s9 := c9.same nG
      have hG : H9 G = some (.lst (((xs.filter fun s => !decide (s ∈ fk.map Prod.fst)) ++ [ps.1]).map V.str)) := by rw [c9.at_, List.map_append]; rfl
      walk_at "go"
      refine w_ixStr hG (by decide) (by rw [List.length_append]; show (0 : Int) < ((_ + 1 : Nat) : Int); omega) fun x ex => ?_
      have hx : x = ps.1 ∨ OkName x ∧ x ∉ fk.map Prod.fst := by
        rcases List.mem_append.mp (List.mem_of_getElem? ex) with m | m
        · have := List.mem_filter.mp m
          exact .inr ⟨tx.ok x this.1, by simpa using this.2⟩
        · exact .inl (List.mem_singleton.mp m)
      have K9 : Kw w H5 H9 := (K7.trans (Kw.of s8)).trans (Kw.of s9)
      have W9 := (W7.same s8).same s9
      have hl9 := K9 _ _ lw hl5
      have hT9 := K9 _ _ (nS _ sT1) hT1
      walk_at "go"
      refine w_ixL (SqL.of hl9) (atI_of p0 eus) ?_
      walk_at "go"
      refine w_ixT (SqT.of hT9) (by with_unfolding_all rfl) ?_
      walk_at "go"
      refine w_tupN (by show 2 ≤ 100000; decide) fun T H10 nT c10 => ?_
      have s10 := c10.same nT
      walk_at "go"
      refine w_setN (s10 _ _ hl9) (ixN_of p0 (by omega)) rfl fun H11 c11 => ?_
      have F11 : ∀ b o, b ≠ w → b ≠ l → H5 b = some o → H11 b = some o := fun b o n1 n e => c11.keep n (s10 _ _ (K9 b o n1 e))
      have nT0 : H T = none := dom_kw (K05.trans K9) W9 T nT
      exact fin _ (fk.set sp.toNat (x, ps.2)) H11 _ _ F11 (((W9.same s10).ch lw c11).mono (by omega)) c11.at_ ((toS F11).set ⟨T, _, _, rfl, .inr nT0, c11.keep (ne_of_none (s9 _ _ (s8 _ _ hl7)) nT).symm c10.at_, rfl, rfl⟩) (folk_named fo eps hx) (List.length_set ..)
    walk_at "go"
    refine w_ite (fun _ => ?_) fun _ => ?_
    · walk_at "go"
      refine w_ixL (SqL.of hl5) (atI_of p0 eus) ?_
      walk_at "go"
      refine w_ixT (SqT.of hT1) (by with_unfolding_all rfl) ?_
      walk_at "go"
      refine w_ite (fun hp => ?_) fun _ => ?_
      · walk_at "go"
        refine w_ixL (SqL.of hl5) (atI_of p0 eus) ?_
        walk_at "go"
        refine w_ixT (SqT.of hT1) (by with_unfolding_all rfl) ?_
        walk_at "go"
        refine w_ixL (SqL.of hl5) (atI_of p0 eus) ?_
        walk_at "go"
        refine w_ixT (SqT.of hT1) (by with_unfolding_all rfl) ?_
        walk_at "go"
        refine w_tupN (by show 2 ≤ 100000; decide) fun T H6 nT c6 => ?_
        have s6 := c6.same nT
        walk_at "go"
        refine w_setN (s6 _ _ hl5) (ixN_of p0 (by omega)) rfl fun H7 c7 => ?_
        have F7 : ∀ b o, b ≠ w → b ≠ l → H5 b = some o → H7 b = some o := fun b o n1 n e => c7.keep n (s6 _ _ e)
        have nT0 : H T = none := dom_kw K05 W5 T nT
        have W7 := (W5.same s6).ch lw c7
        have fT7 : fT fS fI (fun a => S a ∨ H a = none) H7 (.ref T) (ps.1, ps.2 - 1) := ⟨T, _, _, rfl, .inr nT0, c7.keep (ne_of_none hl5 nT).symm c6.at_, rfl, rfl⟩
        have al7 := (toS F7).set (i := sp.toNat) fT7
        obtain ⟨qm, eqm⟩ : ∃ qm, (fk.set sp.toNat (ps.1, ps.2 - 1))[ma.toNat]? = some qm := ⟨_, List.getElem?_eq_getElem (by rw [List.length_set]; omega)⟩
        obtain ⟨uq, euq, fuq⟩ := al7.getR eqm
        obtain ⟨T2, a2, b2, rfl, sT2, hT2, e1, e2⟩ := fuq
        cases e1; cases e2
        walk_at "go"
        refine w_ixL (SqL.of c7.at_) (atI_of m0 euq) ?_
        walk_at "go"
        refine w_ixT (SqT.of hT2) (by with_unfolding_all rfl) ?_
        walk_at "go"
        refine w_ixL (SqL.of c7.at_) (atI_of m0 euq) ?_
        walk_at "go"
        refine w_ixT (SqT.of hT2) (by with_unfolding_all rfl) ?_
        walk_at "go"
        refine w_tupN (by show 2 ≤ 100000; decide) fun T' H8 nT' c8 => ?_
        have s8 := c8.same nT'
        walk_at "go"
        refine w_setN (s8 _ _ c7.at_) (ixN_of m0 (by rw [List.length_set]; omega)) rfl fun H9 c9 => ?_
        have F9 : ∀ b o, b ≠ w → b ≠ l → H5 b = some o → H9 b = some o := fun b o n1 n e => c9.keep n (s8 _ _ (F7 b o n1 n e))
        have nT8 : H T' = none := by
          cases e : H T' with
          | none => rfl
          | some o =>
            by_cases ew : T' = w
            · rw [ew] at nT'; exact absurd nT' W7.some
            · rw [F7 T' o ew (ne_of_none e nl) (K05 T' o ew e)] at nT'; cases nT'
        have al9 : All2 (fT fS fI (fun a => S a ∨ H a = none) H9) (us.set sp.toNat (.ref T)) (fk.set sp.toNat (ps.1, ps.2 - 1)) := al7.imp fun _ _ f => by
          obtain ⟨t, u, z, rfl, st, ht, e1, e2⟩ := f
          exact ⟨t, u, z, rfl, st, c9.keep (fun z => by rw [z, c7.at_] at ht; cases ht) (s8 _ _ ht), e1, e2⟩
        have fT9 : fT fS fI (fun a => S a ∨ H a = none) H9 (.ref T') (qm.1, qm.2 + 1) := ⟨T', _, _, rfl, .inr nT8, c9.keep (ne_of_none c7.at_ nT').symm c8.at_, rfl, rfl⟩
        exact fin _ _ H9 none none F9 (((W7.same s8).ch lw c9).mono (by omega)) c9.at_ (al9.set fT9) (folk_move fo eps hp eqm) (by rw [List.length_set, List.length_set])
      · exact named H5 rfl
    · refine w_iteF ?_
      exact named H5 rfl
  walk_at "go"
  refine w_ite (fun _ => ?_) fun _ => ?_
  · walk_at "go"
    refine w_len (SqL.of hl5) ?_
    rw [al5.length]
    walk_at "go"
    refine w_ite (fun hl => ?_) fun _ => ?_
    · walk_at "go"
      have hs : ∀ {b : Addr}, H b = none → b ≠ l → (fun a => S a ∨ H a = none) b := fun e _ => .inr e
      have dp5 : Deep H5 D sk ts := ⟨K25 _ _ (nw nD0) dp.top, dp.len, fun i p r e1 e2 => by
        have mp := List.mem_of_getElem? e1
        have Rd := dp.row i p r e1 e2
        refine ⟨Rd.len, K25 _ _ (nw (skN p mp).1) Rd.at_, fun j c d e3 e4 => ?_⟩
        obtain ⟨a, b, cc⟩ := Rd.deal j c d e3 e4
        have mc := (skN p mp).2 c (List.mem_of_getElem? e3)
        exact ⟨a, K25 _ _ (nw mc.2) b, K25 _ _ (nw mc.1) cc⟩⟩
      refine ⟨w, _, l, D, us, fk, sk, ts, fun a => S a ∨ H a = none, rfl, W5, by omega, fun a s => ?_, hl5, al5.imp fun _ _ f => (gT gS gI).mono (fun _ s => .inl s) f, fo, by omega, dp5, ap, .inr nl, .inr nD0, fun p m => ⟨.inr (skN p m).1, fun c mc => ⟨.inr ((skN p m).2 c mc).1, .inr ((skN p m).2 c mc).2⟩⟩, lD, lsk, tl, rl, fun v' fk' s H6 hs6 F6 W6 f6 o6 l6 h6 => ?_⟩
      · rcases s with s | s
        · exact nS a s
        · exact nw s
      have K6 : Kw w H H6 := fun b o n e => F6 b o n (ne_of_none e nl) (fun ⟨p, m, c, mc, z⟩ => by rw [z, ((skN p m).2 c mc).1] at e; cases e) (K05 b o n e)
      refine q v' fk' _ H6 K6 (W6.mono (by omega)) ((gT gFolk gTabs).mono (fun a s => ?_) f6) o6 h6 (.inr ⟨l6, by omega, s, hs6, rfl⟩)
      rcases s with s | s
      · exact s
      · exact .inr (dom_kw K05 W5 a s)
    · exact rest
  · refine w_iteF ?_
    exact rest
end Ow

set_option Elab.async false
set_option linter.all false
set_option maxRecDepth 100000
namespace Ow
open PySem L2
local macro_rules | `(tactic| walk_at "go") => `(tactic| (repeat (with_reducible first
  | refine w_seq ?_ | refine w_asg ?_ | refine w_ret ?_ | refine w_if ?_ | refine w_next ?_ | refine w_drop ?_
  | refine w_var (by with_unfolding_all rfl) ?_ | refine w_c ?_ | refine w_op ?_ | refine w_cons ?_ | refine w_nil ?_ | refine w_cb ?_ | refine w_call ?_
  | refine w_name (by simp only [List.set_cons_zero, List.set_cons_succ]; exact rfl) ?_
  | refine w_add ?_ | refine w_sub ?_ | refine w_lt ?_ | refine w_le ?_ | refine w_gt ?_ | refine w_ge ?_ | refine w_eqI ?_ | refine w_neI ?_
  | refine w_test ?_ | refine w_testK ?_ | refine w_tB ?_ | refine w_intI ?_ | refine w_intB ?_ | refine w_max2 ?_ | refine w_min2 ?_
  | refine w_lst ?_ | refine w_tup ?_ | refine w_gSub ?_ | refine w_fld ?_ | refine w_un ?_ | refine w_neg ?_ | refine w_par ?_ | refine w_tIf ?_ | refine w_and ?_ | refine w_or ?_ | refine w_not ?_
  | refine w_mod (by omega) ?_ | refine w_div (cdiv (by omega) (by omega)) ?_ | refine w_mul (cmulL (by omega) (by omega)) ?_ | refine w_mul (cmulR (by omega) (by omega)) ?_ | refine w_pow (cpow (by omega) (by omega) (by omega) (by omega)) ?_
  | refine w_ixL (SqL.of (by assumption)) (by with_unfolding_all rfl) ?_)))
local macro_rules | `(tactic| walk_at "st") => `(tactic| (repeat (with_reducible first
  | refine w_seq ?_ | refine w_asg ?_ | refine w_ret ?_ | refine w_next ?_ | refine w_drop ?_
  | refine w_var (by with_unfolding_all rfl) ?_ | refine w_c ?_ | refine w_op ?_ | refine w_cons ?_ | refine w_nil ?_ | refine w_cb ?_ | refine w_call ?_
  | refine w_name (by simp only [List.set_cons_zero, List.set_cons_succ]; exact rfl) ?_
  | refine w_add ?_ | refine w_sub ?_ | refine w_lt ?_ | refine w_le ?_ | refine w_gt ?_ | refine w_ge ?_ | refine w_eqI ?_ | refine w_neI ?_
  | refine w_test ?_ | refine w_testK ?_ | refine w_tB ?_ | refine w_intI ?_ | refine w_intB ?_ | refine w_max2 ?_ | refine w_min2 ?_
  | refine w_lst ?_ | refine w_tup ?_ | refine w_gSub ?_ | refine w_fld ?_ | refine w_un ?_ | refine w_neg ?_ | refine w_par ?_ | refine w_tIf ?_ | refine w_and ?_ | refine w_or ?_ | refine w_not ?_
  | refine w_mod (by omega) ?_ | refine w_div (cdiv (by omega) (by omega)) ?_ | refine w_mul (cmulL (by omega) (by omega)) ?_ | refine w_mul (cmulR (by omega) (by omega)) ?_ | refine w_pow (cpow (by omega) (by omega) (by omega) (by omega)) ?_
  | refine w_ixL (SqL.of (by assumption)) (by with_unfolding_all rfl) ?_)))
/-! ### == of data that has no True, False or None -/
def Pe : Nat → PyData → Prop
  | _, .int _ => True
  | _, .str _ => True
  | n + 1, .list xs => ∀ d ∈ xs, Pe n d
  | n + 1, .tuple xs => ∀ d ∈ xs, Pe n d
  | _, _ => False
theorem eqv_pe : ∀ (n m : Nat) (d e : PyData), Pe n d → Pe m e → (PyData.eqv d e = true ↔ d = e) := by
  have all : ∀ (n m : Nat), (∀ d e, Pe n d → Pe m e → (PyData.eqv d e = true ↔ d = e)) → ∀ ds es : List PyData, (∀ d ∈ ds, Pe n d) → (∀ d ∈ es, Pe m d) → (PyData.eqvAll ds es = true ↔ ds = es) := by
    intro n m ih ds
    induction ds with
    | nil => intro es _ _; cases es <;> simp [PyData.eqvAll]
    | cons d ds ih2 =>
      intro es hd he
      cases es with
      | nil => simp [PyData.eqvAll]
      | cons e es =>
        simp only [PyData.eqvAll, Bool.and_eq_true, List.cons.injEq]
        rw [ih d e (hd d (List.mem_cons_self ..)) (he e (List.mem_cons_self ..)), ih2 es (fun x m => hd x (List.mem_cons_of_mem _ m)) (fun x m => he x (List.mem_cons_of_mem _ m))]
  intro n
  induction n with
  | zero =>
    intro m d e hd he
    cases d with
    | int i => cases e <;> first | (cases m <;> exact he.elim) | simp [PyData.eqv]
    | str x => cases e <;> first | (cases m <;> exact he.elim) | simp [PyData.eqv]
    | _ => exact hd.elim
  | succ n ih =>
    intro m d e hd he
    cases d with
    | int i => cases e <;> first | (cases m <;> exact he.elim) | simp [PyData.eqv]
    | str x => cases e <;> first | (cases m <;> exact he.elim) | simp [PyData.eqv]
    | list xs =>
      cases e with
      | list ys =>
        cases m with
        | zero => exact he.elim
        | succ m => simp only [PyData.eqv, PyData.list.injEq]; exact all n m (ih m) xs ys hd he
      | _ => first | (cases m <;> exact he.elim) | simp [PyData.eqv]
    | tuple xs =>
      cases e with
      | tuple ys =>
        cases m with
        | zero => exact he.elim
        | succ m => simp only [PyData.eqv, PyData.tuple.injEq]; exact all n m (ih m) xs ys hd he
      | _ => first | (cases m <;> exact he.elim) | simp [PyData.eqv]
    | _ => exact hd.elim
theorem eqv_dec {n m : Nat} {d e : PyData} {p : Prop} [Decidable p] (hd : Pe n d) (he : Pe m e) (h : d = e ↔ p) : PyData.eqv d e = decide p := by
  rw [Bool.eq_iff_iff, eqv_pe n m d e hd he, h, decide_eq_true_iff]
theorem shown_dec {n m : Nat} {d e : PyData} {p : Prop} [Decidable p] (hd : Pl n d) (he : Pl m e) (h : d = e ↔ p) : (d.shown = e.shown) ↔ p := (shown_pl hd he).trans h
theorem map_inj' {α β : Type} {f : α → β} (inj : ∀ x y, f x = f y → x = y) : ∀ {xs ys : List α}, xs.map f = ys.map f → xs = ys
  | [], [], _ => rfl
  | [], _ :: _, h => nomatch h
  | _ :: _, [], h => nomatch h
  | x :: xs, y :: ys, h => by
    injection h with h1 h2
    rw [inj x y h1, map_inj' inj h2]
theorem pairD_inj (x y : Str × Int) (h : pairD x = pairD y) : x = y := by
  unfold pairD at h
  simp only [PyData.tuple.injEq, List.cons.injEq, PyData.str.injEq, PyData.int.injEq, and_true] at h
  exact Prod.ext h.1 h.2
theorem int_inj (x y : Int) (h : PyData.int x = PyData.int y) : x = y := by injection h
theorem tupD_inj {α : Type} {f : α → PyData} (inj : ∀ x y, f x = f y → x = y) (xs ys : List α) (h : tupD f xs = tupD f ys) : xs = ys := by
  unfold tupD at h
  injection h with h
  exact map_inj' inj h
theorem tupD_pe {α : Type} {f : α → PyData} {n : Nat} (h : ∀ x, Pe n (f x)) (xs : List α) : Pe (n + 1) (tupD f xs) := fun d m => by
  obtain ⟨x, _, rfl⟩ := List.mem_map.mp m
  exact h x
theorem pe_pair (p : Str × Int) : Pe 1 (pairD p) := fun d m => by
  simp only [List.mem_cons, List.not_mem_nil, or_false] at m
  rcases m with rfl | rfl <;> trivial
theorem rows_back {fk : Folk} {ts : Tabs} (ok : PlanOk fk ts) {r : Row} (m : r ∈ ts) : colsI r.length (colsI fk.length (r.map Prod.fst)) = r.map Prod.fst := by
  obtain ⟨i, hi⟩ := List.mem_iff_getElem?.mp m
  have rok := ok.tabs.row i r hi
  refine colsI_back (by rw [List.length_map]) fun x mx => ?_
  obtain ⟨p, mp, rfl⟩ := List.mem_map.mp mx
  obtain ⟨e, he⟩ := List.mem_iff_getElem?.mp mp
  exact (rok.deal e p he).len
theorem plan_of {fk fk' : Folk} {ts ts' : Tabs} (ok : PlanOk fk ts) (ok' : PlanOk fk' ts') (hn : fk.length = fk'.length) (hc : centsOf fk.length ts = centsOf fk'.length ts') (he : nextsOf ts = nextsOf ts') : ts = ts' := by
  have hl : ts.length = ts'.length := by
    have := congrArg List.length he
    unfold nextsOf at this
    rwa [List.length_map, List.length_map] at this
  refine List.ext_getElem? fun i => ?_
  by_cases hi : i < ts.length
  · obtain ⟨r, er⟩ : ∃ r, ts[i]? = some r := ⟨_, List.getElem?_eq_getElem hi⟩
    obtain ⟨r', er'⟩ : ∃ r, ts'[i]? = some r := ⟨_, List.getElem?_eq_getElem (by omega)⟩
    have c1 : colsI fk.length (r.map Prod.fst) = colsI fk'.length (r'.map Prod.fst) := by
      have h := congrArg (fun l : List (List (List Int)) => l[i]?) hc
      unfold centsOf at h
      simp only [List.getElem?_map, er, er', Option.map_some, Option.some.injEq] at h
      exact h
    have n1 : r.map Prod.snd = r'.map Prod.snd := by
      have h := congrArg (fun l : List (List Int) => l[i]?) he
      unfold nextsOf at h
      simp only [List.getElem?_map, er, er', Option.map_some, Option.some.injEq] at h
      exact h
    have lr : r.length = r'.length := by
      have := congrArg List.length n1
      rwa [List.length_map, List.length_map] at this
    have f1 : r.map Prod.fst = r'.map Prod.fst := by
      rw [← rows_back ok (List.mem_of_getElem? er), ← rows_back ok' (List.mem_of_getElem? er'), c1, lr]
    rw [er, er', ← zip_back r, ← zip_back r', f1, n1]
  · rw [List.getElem?_eq_none (by omega), List.getElem?_eq_none (by omega)]
theorem eqR_iff {fk fk' : Folk} {ts ts' : Tabs} (ok : PlanOk fk ts) (ok' : PlanOk fk' ts') : eqR fk fk' ts ts' = decide (fk = fk' ∧ ts = ts') := by
  have p1 : ∀ fk, Pe 2 (folkT fk) := fun fk => tupD_pe pe_pair fk
  have p2 : ∀ cs, Pe 3 (centsD cs) := fun cs => tupD_pe (tupD_pe (tupD_pe (f := PyData.int) (n := 0) fun _ => trivial)) cs
  have p3 : ∀ ns, Pe 2 (nextsD ns) := fun ns => tupD_pe (tupD_pe (f := PyData.int) (n := 0) fun _ => trivial) ns
  unfold eqR
  rw [eqv_dec (p1 _) (p1 _) (p := fk = fk') ⟨fun h => tupD_inj pairD_inj _ _ h, fun h => by rw [h]⟩,
    eqv_dec (p2 _) (p2 _) (p := centsOf fk.length ts = centsOf fk'.length ts') ⟨fun h => tupD_inj (tupD_inj (tupD_inj int_inj)) _ _ h, fun h => by rw [h]⟩,
    eqv_dec (p3 _) (p3 _) (p := nextsOf ts = nextsOf ts') ⟨fun h => tupD_inj (tupD_inj int_inj) _ _ h, fun h => by rw [h]⟩, ← Bool.decide_and, ← Bool.decide_and]
  refine decide_eq_decide.mpr ⟨fun h => ⟨h.1, plan_of ok ok' (by rw [h.1]) h.2.1 h.2.2⟩, fun h => ?_⟩
  obtain ⟨rfl, rfl⟩ := h
  exact ⟨rfl, rfl, rfl⟩
/-! ### plans as data -/
def dealY (d : Deal) : PyData := .tuple [.list (d.1.map PyData.int), .int d.2]
def rowY (r : Row) : PyData := .list (r.map dealY)
def tabsY (ts : Tabs) : PyData := .list (ts.map rowY)
def planY (fk : Folk) (ts : Tabs) : PyData := .list [folkD fk, tabsY ts]
theorem dealY_inj (x y : Deal) (h : dealY x = dealY y) : x = y := by
  unfold dealY at h
  simp only [PyData.tuple.injEq, List.cons.injEq, PyData.list.injEq, PyData.int.injEq, and_true] at h
  exact Prod.ext (map_inj' int_inj h.1) h.2
theorem rowY_inj (x y : Row) (h : rowY x = rowY y) : x = y := by
  unfold rowY at h
  injection h with h
  exact map_inj' dealY_inj h
theorem planY_iff {fk fk' : Folk} {ts ts' : Tabs} : planY fk ts = planY fk' ts' ↔ fk = fk' ∧ ts = ts' := by
  refine ⟨fun h => ?_, fun ⟨a, b⟩ => by rw [a, b]⟩
  unfold planY folkD tabsY at h
  simp only [PyData.list.injEq, List.cons.injEq, and_true] at h
  exact ⟨map_inj' pairD_inj h.1, map_inj' rowY_inj h.2⟩
theorem pl_plan {fk : Folk} {ts : Tabs} (o : FolkOk fk) : Pl 5 (planY fk ts) := by
  intro d m
  simp only [List.mem_cons, List.not_mem_nil, or_false] at m
  rcases m with rfl | rfl
  · intro d m
    obtain ⟨p, mp, rfl⟩ := List.mem_map.mp m
    refine ⟨Nat.le_refl 2, fun e m => ?_⟩
    simp only [List.mem_cons, List.not_mem_nil, or_false] at m
    rcases m with rfl | rfl
    · exact fun c mc => by have := (o.ok p mp).az c mc; omega
    · trivial
  · intro d m
    obtain ⟨r, mr, rfl⟩ := List.mem_map.mp m
    intro d m
    obtain ⟨x, mx, rfl⟩ := List.mem_map.mp m
    refine ⟨Nat.le_refl 2, fun e m => ?_⟩
    simp only [List.mem_cons, List.not_mem_nil, or_false] at m
    rcases m with rfl | rfl
    · intro d m
      obtain ⟨i, _, rfl⟩ := List.mem_map.mp m
      trivial
    · trivial
theorem dpAllY {α : Type} {K : PySem.W.Frag} {H : Hp} {f : α → PyData} : ∀ {vs : List V} {xs : List α}, All2 (fun v x => Dp K H v (f x)) vs xs → DpAll K H vs (xs.map f)
  | _, _, .nil => .nil
  | _, _, .cons a b => .cons a (dpAllY b)
theorem dpY_deal {K : PySem.W.Frag} {S : Addr → Prop} {H : Hp} {v : V} {d : Deal} (h : fDeal S H v d) : Dp K H v (dealY d) := by
  obtain ⟨T, u, z, rfl, _, h, f1, f2⟩ := h
  obtain ⟨a, rfl, _, ha⟩ := ints_of f1
  cases f2
  exact .tup (SqT.of h) (.cons (dp_ints ha) (.cons (.int _) .nil))
theorem dpY_tabs {K : PySem.W.Frag} {S : Addr → Prop} {H : Hp} {v : V} {ts : Tabs} (h : fTabs S H v ts) : Dp K H v (tabsY ts) := by
  obtain ⟨a, us, rfl, _, h, al⟩ := h
  refine .lst (SqL.of h) (dpAllY (al.imp fun v r f => ?_))
  obtain ⟨b, vs, rfl, _, hb, bl⟩ := f
  exact .lst (SqL.of hb) (dpAllY (bl.imp fun _ _ f => dpY_deal f))
theorem dpY_folk {K : PySem.W.Frag} {S : Addr → Prop} {H : Hp} {v : V} {fk : Folk} (h : fFolk S H v fk) : Dp K H v (folkD fk) := by
  obtain ⟨a, us, rfl, _, h, al⟩ := h
  refine .lst (SqL.of h) (dpAllY (al.imp fun v p f => ?_))
  obtain ⟨T, u, z, rfl, _, h, f1, f2⟩ := f
  cases f1; cases f2
  exact .tup (SqT.of h) (.cons (.str _) (.cons (.int _) .nil))
theorem tameY_deal {d : Deal} {b : Int} (n : d.1.length ≤ 8) (i : In (-b) b d.1) (lo : -b ≤ d.2) (hi : d.2 ≤ b) (hb : b ≤ 1000000000) : Tame 2 842 (dealY d) := by
  refine (Tame.tuple (j := 1) (k := 420) (ds := [.list (d.1.map PyData.int), .int d.2]) fun x m => ?_).mono (Nat.le_refl _) (Nat.le_refl 842)
  simp only [List.mem_cons, List.not_mem_nil, or_false] at m
  rcases m with rfl | rfl
  · exact (Tame.ints (in_mono i (by omega) (by omega))).mono (Nat.le_refl _) (by omega)
  · exact (Tame.int (by omega) (by omega)).mono (by decide) (by decide)
/-- small enough to be shown -/
structure PlanS (fk : Folk) (ts : Tabs) : Prop where
  ok : PlanOk fk ts
  n8 : fk.length ≤ 8
  h12 : heavy fk ≤ 12
  t12 : ts.length ≤ 12
theorem PlanS.tabs {fk : Folk} {ts : Tabs} (o : PlanS fk ts) : Tame 4 121404 (tabsY ts) := by
  have h1 := o.n8
  have h2 := o.h12
  have h3 := o.t12
  have := Tame.list (j := 3) (k := 10116) (ds := ts.map rowY) fun x m => by
    obtain ⟨r, mr, rfl⟩ := List.mem_map.mp m
    obtain ⟨i, hi⟩ := List.mem_iff_getElem?.mp mr
    have rok := o.ok.tabs.row i r hi
    have rl := rok.len
    have := Tame.list (j := 2) (k := 842) (ds := r.map dealY) fun x m => by
      obtain ⟨d, md, rfl⟩ := List.mem_map.mp m
      obtain ⟨e, he⟩ := List.mem_iff_getElem?.mp md
      have dok := rok.deal e d he
      exact tameY_deal (b := 30000000) (by rw [dok.len]; exact h1) dok.in_ (by have := dok.lo; omega) (by have := dok.hi; omega) (by decide)
    rw [List.length_map] at this
    exact this.mono (Nat.le_refl _) (by omega)
  rw [List.length_map] at this
  exact this.mono (Nat.le_refl _) (by omega)
theorem tameY_folk {fk : Folk} (o : FolkOk fk) (hv : heavy fk ≤ 16) (n8 : fk.length ≤ 8) : Tame 2 680 (folkD fk) := by
  have := Tame.list (j := 1) (k := 84) (ds := fk.map pairD) fun d m => by
    obtain ⟨p, hp, rfl⟩ := List.mem_map.mp m
    refine Tame.tuple (j := 0) (k := 41) (ds := [.str p.1, .int p.2]) fun d m => ?_
    simp only [List.mem_cons, List.not_mem_nil, or_false] at m
    have nn := o.nn p.2 (List.mem_map_of_mem hp)
    have le := le_sum o.nn p.2 (List.mem_map_of_mem hp)
    change p.2 ≤ heavy fk at le
    rcases m with rfl | rfl
    · exact Tame.name (o.ok p hp)
    · exact Tame.int (by omega) (by omega)
  rw [List.length_map] at this
  exact this.mono (Nat.le_refl _) (by omega)
theorem PlanS.tame {fk : Folk} {ts : Tabs} (o : PlanS fk ts) : Tame 5 242810 (planY fk ts) := by
  refine (Tame.list (j := 4) (k := 121404) (ds := [folkD fk, tabsY ts]) fun x m => ?_).mono (Nat.le_refl _) (Nat.le_refl 242810)
  simp only [List.mem_cons, List.not_mem_nil, or_false] at m
  rcases m with rfl | rfl
  · exact (tameY_folk o.ok.folk o.ok.hv o.n8).mono (by decide) (by decide)
  · exact o.tabs
def sp__law_alike (K : PySem.W.Frag) (Z : Ad) : Sp := fun vs H Q _ => ∃ (v u : V) (fk fk' : Folk) (ts ts' : Tabs) (S S' : Addr → Prop), vs = [v, u] ∧ fT fFolk fTabs S H v (fk, ts) ∧ fT fFolk fTabs S' H u (fk', ts') ∧ PlanS fk ts ∧ PlanS fk' ts' ∧ ∀ H', Same H H' → Q (.bl (decide (fk = fk' ∧ ts = ts'))) H'
abbrev N__law_alike : List Str := ["plan", "twin_plan"]
def t__law_alike (K : PySem.W.Frag) (Z : Ad) : TS :=
  (tRet (tOp rEq (tCB (rRepr K) (tCons (tLst (tCons (tOp (rIxT K) (tVar 0) (tC (.int 0))) (tCons (tOp (rIxT K) (tVar 0) (tC (.int 1))) tNil))) tNil)) (tCB (rRepr K) (tCons (tLst (tCons (tOp (rIxT K) (tVar 1) (tC (.int 0))) (tCons (tOp (rIxT K) (tVar 1) (tC (.int 1))) tNil))) tNil))))
theorem l__law_alike {K : PySem.W.Frag} {Z : Ad} {vs : List V} {H : Hp} {Q : VK} {E : XK} : sp__law_alike K Z vs H Q E → vs.length = 2 := by
  rintro ⟨_, _, _, _, _, _, _, _, rfl, _⟩; rfl
theorem r__law_alike {K : PySem.W.Frag} {Z : Ad} {vs : List V} {H : Hp} {Q : VK} {E : XK} (R : RuleK K Z) (h : sp__law_alike K Z vs H Q E) : t__law_alike K Z { nx := fun _ H' => Q .non H', rt := Q } (start N__law_alike vs) H := by
  obtain ⟨v, u, fk, fk', ts, ts', S, S', rfl, f, f', o, o', q⟩ := h
  show t__law_alike K Z _ [some v, some u] H
  unfold t__law_alike
  walk_at "go"
  refine w_ixP0 f fun pv f1 => ?_
  walk_at "go"
  refine w_ixP1 f fun tv f2 => ?_
  walk_at "go"
  refine w_lstN (by show 2 ≤ 100000; decide) fun A H1 nA c1 => ?_
  have s1 := c1.same nA
  walk_at "go"
  refine w_repr (d := planY fk ts) (.lst (SqL.of c1.at_) (.cons (dpY_folk (gFolk.same s1 f1)) (.cons (dpY_tabs (gTabs.same s1 f2)) .nil))) o.tame (by decide) (by decide) ?_
  walk_at "go"
  refine w_ixP0 ((gT gFolk gTabs).same s1 f') fun pv' f1' => ?_
  walk_at "go"
  refine w_ixP1 ((gT gFolk gTabs).same s1 f') fun tv' f2' => ?_
  walk_at "go"
  refine w_lstN (by show 2 ≤ 100000; decide) fun B H2 nB c2 => ?_
  have s2 := c2.same nB
  walk_at "go"
  refine w_repr (d := planY fk' ts') (.lst (SqL.of c2.at_) (.cons (dpY_folk (gFolk.same s2 f1')) (.cons (dpY_tabs (gTabs.same s2 f2')) .nil))) o'.tame (by decide) (by decide) ?_
  walk_at "go"
  refine w_eqS ?_
  rw [show decide ((planY fk ts).shown = (planY fk' ts').shown) = decide (fk = fk' ∧ ts = ts') from decide_eq_decide.mpr ((shown_pl (pl_plan o.ok.folk) (pl_plan o'.ok.folk)).trans planY_iff)]
  exact q H2 (s1.trans s2)
end Ow

set_option Elab.async false
set_option linter.all false
set_option maxRecDepth 100000
namespace Ow
open PySem L2
local macro_rules | `(tactic| walk_at "go") => `(tactic| (repeat (with_reducible first
  | refine w_seq ?_ | refine w_asg ?_ | refine w_ret ?_ | refine w_if ?_ | refine w_next ?_ | refine w_drop ?_
  | refine w_var (by with_unfolding_all rfl) ?_ | refine w_c ?_ | refine w_op ?_ | refine w_cons ?_ | refine w_nil ?_ | refine w_cb ?_ | refine w_call ?_
  | refine w_name (by simp only [List.set_cons_zero, List.set_cons_succ]; exact rfl) ?_
  | refine w_add ?_ | refine w_sub ?_ | refine w_lt ?_ | refine w_le ?_ | refine w_gt ?_ | refine w_ge ?_ | refine w_eqI ?_ | refine w_neI ?_
  | refine w_test ?_ | refine w_testK ?_ | refine w_tB ?_ | refine w_intI ?_ | refine w_intB ?_ | refine w_max2 ?_ | refine w_min2 ?_
  | refine w_lst ?_ | refine w_tup ?_ | refine w_gSub ?_ | refine w_fld ?_ | refine w_un ?_ | refine w_neg ?_ | refine w_par ?_ | refine w_tIf ?_ | refine w_and ?_ | refine w_or ?_ | refine w_not ?_
  | refine w_mod (by omega) ?_ | refine w_div (cdiv (by omega) (by omega)) ?_ | refine w_mul (cmulL (by omega) (by omega)) ?_ | refine w_mul (cmulR (by omega) (by omega)) ?_ | refine w_pow (cpow (by omega) (by omega) (by omega) (by omega)) ?_
  | refine w_ixL (SqL.of (by assumption)) (by with_unfolding_all rfl) ?_)))
local macro_rules | `(tactic| walk_at "st") => `(tactic| (repeat (with_reducible first
  | refine w_seq ?_ | refine w_asg ?_ | refine w_ret ?_ | refine w_next ?_ | refine w_drop ?_
  | refine w_var (by with_unfolding_all rfl) ?_ | refine w_c ?_ | refine w_op ?_ | refine w_cons ?_ | refine w_nil ?_ | refine w_cb ?_ | refine w_call ?_
  | refine w_name (by simp only [List.set_cons_zero, List.set_cons_succ]; exact rfl) ?_
  | refine w_add ?_ | refine w_sub ?_ | refine w_lt ?_ | refine w_le ?_ | refine w_gt ?_ | refine w_ge ?_ | refine w_eqI ?_ | refine w_neI ?_
  | refine w_test ?_ | refine w_testK ?_ | refine w_tB ?_ | refine w_intI ?_ | refine w_intB ?_ | refine w_max2 ?_ | refine w_min2 ?_
  | refine w_lst ?_ | refine w_tup ?_ | refine w_gSub ?_ | refine w_fld ?_ | refine w_un ?_ | refine w_neg ?_ | refine w_par ?_ | refine w_tIf ?_ | refine w_and ?_ | refine w_or ?_ | refine w_not ?_
  | refine w_mod (by omega) ?_ | refine w_div (cdiv (by omega) (by omega)) ?_ | refine w_mul (cmulL (by omega) (by omega)) ?_ | refine w_mul (cmulR (by omega) (by omega)) ?_ | refine w_pow (cpow (by omega) (by omega) (by omega) (by omega)) ?_
  | refine w_ixL (SqL.of (by assumption)) (by with_unfolding_all rfl) ?_)))
/-! ### one change -/
theorem insT_ok {n : Nat} {h b : Int} {ts : Tabs} {s : Nat} (t : TabsOk n h b ts) (hs : s ≤ n) (b0 : 0 ≤ b) : TabsOk (n + 1) h b (insT s ts) := by
  have at_ : ∀ {i : Nat} {r}, (insT s ts)[i]? = some r → ∃ r0, ts[i]? = some r0 ∧ r = r0.map fun d => (insF s 0 d.1, d.2) := fun {i r} e => by
    unfold insT at e
    rw [List.getElem?_map] at e
    cases e0 : ts[i]? with
    | none => rw [e0] at e; cases e
    | some r0 => rw [e0] at e; cases e; exact ⟨r0, rfl, rfl⟩
  have at2 : ∀ {r0 : Row} {j : Nat} {d}, (r0.map fun d => (insF s 0 d.1, d.2))[j]? = some d → ∃ d0, r0[j]? = some d0 ∧ d = (insF s 0 d0.1, d0.2) := fun {r0 j d} e => by
    rw [List.getElem?_map] at e
    cases e0 : r0[j]? with
    | none => rw [e0] at e; cases e
    | some d0 => rw [e0] at e; cases e; exact ⟨d0, rfl, rfl⟩
  have ll : (insT s ts).length = ts.length := by unfold insT; rw [List.length_map]
  refine ⟨by rw [ll]; exact t.len, fun i r e => ?_, fun r p e1 e2 => ?_⟩
  · obtain ⟨r0, e0, rfl⟩ := at_ e
    have rok := t.row i r0 e0
    refine ⟨by rw [List.length_map]; exact rok.len, fun j d ed => ?_⟩
    obtain ⟨d0, ed0, rfl⟩ := at2 ed
    have dok := rok.deal j d0 ed0
    rw [ll]
    refine ⟨by rw [insF_len (by rw [dok.len]; exact hs), dok.len], by rw [insF_sum]; exact dok.sum, fun x m => ?_, dok.lo, dok.hi⟩
    rcases insF_mem m with rfl | m
    · omega
    · exact dok.in_ x m
  · obtain ⟨r0, e0, rfl⟩ := at_ e1
    obtain ⟨d0, ed0, rfl⟩ := at2 e2
    intro x m
    rcases insF_mem m with rfl | m
    · rfl
    · exact t.zero r0 d0 e0 ed0 x m
theorem wider_ok {fk fk' : Folk} {ts ts' : Tabs} {most b : Int} (wd : Wider fk fk' ts ts' most) (t : TabsOk fk.length (heavy fk) b ts) (hv : heavy fk' = heavy fk) (b0 : 0 ≤ b) : TabsOk fk'.length (heavy fk') b ts' ∧ ts'.length = ts.length := by
  rw [hv]
  rcases wd with ⟨l, rfl⟩ | ⟨l, _, s, hs, rfl⟩
  · rw [l]; exact ⟨t, rfl⟩
  · rw [l]; exact ⟨insT_ok t hs b0, by unfold insT; rw [List.length_map]⟩
theorem TabsOk.again {n : Nat} {h b : Int} {ts : Tabs} {r : Row} (t : TabsOk n h b ts) (m : r ∈ ts) : TabsOk n h b (ts ++ [r]) := by
  have more : ∀ {r : Row}, RowOk n h b ts.length r → RowOk n h b (ts ++ [r]).length r := fun {r} o => ⟨o.len, fun e p he => by
    have d := o.deal e p he
    exact ⟨d.len, d.sum, d.in_, d.lo, by have := d.hi; rw [List.length_append]; show p.2 < ((_ + 1 : Nat) : Int); omega⟩⟩
  have more2 : ∀ {r x : Row}, RowOk n h b ts.length r → RowOk n h b (ts ++ [x]).length r := fun {r x} o => ⟨o.len, fun e p he => by
    have d := o.deal e p he
    exact ⟨d.len, d.sum, d.in_, d.lo, by have := d.hi; rw [List.length_append]; show p.2 < ((_ + 1 : Nat) : Int); omega⟩⟩
  have l0 := t.len
  refine ⟨by rw [List.length_append]; omega, fun s x e => ?_, fun x p e1 e2 => ?_⟩
  · rcases snoc_at e with e | ⟨rfl, rfl⟩
    · exact more2 (t.row s x e)
    · obtain ⟨i, hi⟩ := List.mem_iff_getElem?.mp m
      exact more2 (t.row i _ hi)
  · rw [List.getElem?_append_left (by omega)] at e1
    exact t.zero x p e1 e2
theorem TabsOk.less {n : Nat} {h b : Int} {ts : Tabs} (t : TabsOk n h b ts) (l : ts.take (ts.length - 1) ≠ []) (g : ∀ r ∈ ts.take (ts.length - 1), ∀ d ∈ r, d.2 ≠ (ts.length : Int) - 1) : TabsOk n h b (ts.take (ts.length - 1)) := by
  have l0 := t.len
  have lt : (ts.take (ts.length - 1)).length = ts.length - 1 := by rw [List.length_take]; omega
  have l1 : 1 ≤ (ts.take (ts.length - 1)).length := List.length_pos_iff.mpr l
  refine ⟨l1, fun s r e => ?_, fun r p e1 e2 => ?_⟩
  · have m := List.mem_of_getElem? e
    have hs := (List.getElem?_eq_some_iff.mp e).1
    rw [List.getElem?_take_of_lt (by omega)] at e
    have o := t.row s r e
    refine ⟨o.len, fun j d he => ?_⟩
    have dok := o.deal j d he
    have := g r m d (List.mem_of_getElem? he)
    exact ⟨dok.len, dok.sum, dok.in_, dok.lo, by have := dok.hi; rw [lt]; omega⟩
  · rw [List.getElem?_take_of_lt (by omega)] at e1
    exact t.zero r p e1 e2
theorem tameY_rows {ts : Tabs} (t12 : ts.length ≤ 12) (h : ∀ r ∈ ts, r.length ≤ 12 ∧ ∀ d ∈ r, d.1.length ≤ 8 ∧ In (-1000000000) 1000000000 d.1 ∧ -1000000000 ≤ d.2 ∧ d.2 ≤ 1000000000) : Tame 4 121404 (tabsY ts) := by
  have := Tame.list (j := 3) (k := 10116) (ds := ts.map rowY) fun x m => by
    obtain ⟨r, mr, rfl⟩ := List.mem_map.mp m
    obtain ⟨h1, h2⟩ := h r mr
    have := Tame.list (j := 2) (k := 842) (ds := r.map dealY) fun x m => by
      obtain ⟨d, md, rfl⟩ := List.mem_map.mp m
      obtain ⟨a1, a2, a3, a4⟩ := h2 d md
      exact tameY_deal (b := 1000000000) a1 a2 a3 a4 (by decide)
    rw [List.length_map] at this
    exact this.mono (Nat.le_refl _) (by omega)
  rw [List.length_map] at this
  exact this.mono (Nat.le_refl _) (by omega)
theorem w_slLastV {K : PySem.W.Frag} {H : Hp} {Q : VK} {a : Addr} {xs : List V} (h : H a = some (.lst xs)) (q : ∀ p H', H p = none → Ch p (.lst (xs.take (xs.length - 1))) H H' → Q (.ref p) H') : rSlL K (.ref a) none (some (-1)) H Q := by
  refine ⟨a, _, rfl, SqL.of h, fun p hp => q p _ hp ?_⟩
  have e : cutV xs none (some (-1)) = xs.take (xs.length - 1) := by
    have : HT.sIx xs.length xs.length (some (-1)) = xs.length - 1 := by
      show (if (-1 : Int) < 0 then ((-1 : Int) + (xs.length : Int)).toNat else min (-1 : Int).toNat xs.length) = _
      rw [if_pos (by decide)]
      omega
    unfold cutV
    rw [this, HT.sIx_none, List.drop_zero, Nat.sub_zero]
  rw [e]
  exact Ch.upd
theorem inV_int5 (x : Int) (os : List Int) : inV (.int x) (os.map V.int) = decide (x ∈ os) := by
  by_cases h : x ∈ os
  · rw [decide_eq_true h]
    unfold inV
    rw [List.any_eq_true]
    exact ⟨.int x, List.mem_map_of_mem h, by show (x == x) = true; exact beq_self_eq_true x⟩
  · rw [decide_eq_false h]
    unfold inV
    rw [List.any_eq_false]
    intro y hy
    obtain ⟨i, hi, rfl⟩ := List.mem_map.mp hy
    show ¬ (i == x) = true
    intro e
    have : i = x := by simpa using e
    exact h (this ▸ hi)
theorem w_ninI5 {K : PySem.W.Frag} {p : Addr} {x : Int} {xs : List Int} {H : Hp} {Q : VK} (h : H p = some (.lst (xs.map V.int))) (q : Q (.bl (!decide (x ∈ xs))) H) : rIn K true (.int x) (.ref p) H Q := ⟨p, _, rfl, .inl (SqL.of h), rfl, flat_ints _, by rw [if_pos rfl, inV_int5]; exact q⟩
theorem Deep.rowsF {S : Addr → Prop} {H : Hp} {D : Addr} {sk : Skel} {ts : Tabs} (d : Deep H D sk ts) (ss : ∀ p ∈ sk, S p.1 ∧ ∀ q ∈ p.2, S q.2.1 ∧ S q.1) : All2 (fRow S H) (sk.map fun p => V.ref p.1) ts :=
  all2_idx (by rw [List.length_map, d.len]) fun i u r eu er => by
    rw [List.getElem?_map] at eu
    cases ep : sk[i]? with
    | none => rw [ep] at eu; cases eu
    | some p =>
      rw [ep] at eu; cases eu
      have R := d.row i p r ep er
      obtain ⟨s1, s2⟩ := ss p (List.mem_of_getElem? ep)
      refine ⟨p.1, _, rfl, s1, R.at_, all2_idx (by rw [List.length_map, R.len]) fun j u d eu ed => ?_⟩
      rw [List.getElem?_map] at eu
      cases eq : p.2[j]? with
      | none => rw [eq] at eu; cases eu
      | some q =>
        rw [eq] at eu; cases eu
        obtain ⟨g, h1, h2⟩ := R.deal j q d eq ed
        obtain ⟨sc, sT⟩ := s2 q (List.mem_of_getElem? eq)
        exact ⟨q.1, _, _, rfl, sT, h1, ⟨q.2.1, _, rfl, sc, h2, All2.map_eq⟩, by rw [g]; rfl⟩
theorem all2_take {α β : Type} {R : α → β → Prop} {xs : List α} {ys : List β} (al : All2 R xs ys) (s : Nat) : All2 R (xs.take s) (ys.take s) := by
  induction al generalizing s with
  | nil => rw [List.take_nil, List.take_nil]; exact .nil
  | cons a r ih =>
    cases s with
    | zero => exact .nil
    | succ s => exact .cons a (ih s)
def sp__law_changed (K : PySem.W.Frag) (Z : Ad) : Sp := fun vs H Q _ => ∃ (w : Addr) (k : Nat) (v : V) (fk : Folk) (ts : Tabs) (most : Int), vs = [.ref w, v, .int most] ∧ Well H w k ∧ k < 90000000000 ∧ fT fFolk fTabs (Nw w) H v (fk, ts) ∧ FolkOk fk ∧ fk.length ≤ 8 ∧ heavy fk ≤ 12 ∧ TabsOk fk.length (heavy fk) 6000000 ts ∧ ts.length ≤ 12 ∧ 0 ≤ most ∧ most ≤ 1000000 ∧
  ∀ v' fk' ts' H', Kw w H H' → Well H' w (k + 20000000000) → fT fFolk fTabs (Nw w) H' v' (fk', ts') → PlanS fk' ts' → Q v' H'
abbrev N__law_changed : List Str := ["well", "plan", "most", "folk", "tables", "way", "few", "last", "goals", "deals", "cents", "goal"]
def t__law_changed (K : PySem.W.Frag) (Z : Ad) : TS :=
  (tSeq (tPar 3 4 (tCons (tCB (rList1 K) (tCons (tOp (rIxT K) (tVar 1) (tC (.int 0))) tNil)) (tCons (tCall (sp__law_copy K Z) [] E0 (tCons (tOp (rIxT K) (tVar 1) (tC (.int 1))) tNil)) tNil))) (tSeq (tAsg (tCall (sp__law_draw K Z) [] E0 (tCons (tVar 0) (tCons (tC (.int 9)) tNil))) (gName 5)) (tSeq (tIfS (tTest (tOp oLt (tVar 5) (tC (.int 3)))) (tRet (tCall (sp__law_other_folk K Z) [] E0 (tCons (tVar 0) (tCons (tVar 1) (tCons (tC (.int 8)) tNil))))) tNext) (tSeq (tIfS (tTest (tOp rEq (tVar 5) (tC (.int 3)))) (tAsg (tCall (sp__law_renumbered K Z) [] E0 (tCons (tVar 0) (tCons (tVar 4) tNil))) (gName 4)) (tIfS (tAnd (tTest (tOp rEq (tVar 5) (tC (.int 4)))) (tTest (tOp oLt (tCB (rLen K) (tCons (tVar 4) tNil)) (tC (.int 12))))) (tDrop (tBM K "list" rAppend (tVar 4) (tCons (tOp (rIxL K) (tVar 4) (tCall (sp__law_draw K Z) [] E0 (tCons (tVar 0) (tCons (tCB (rLen K) (tCons (tVar 4) tNil)) tNil)))) tNil))) (tIfS (tTest (tOp rEq (tVar 5) (tC (.int 5)))) (tSeq (tPar 6 7 (tCons (tSl (rSlL K) (tVar 4) tNoPart (tPart (tUn oNeg (tC (.int 1))))) (tCons (tOp oSub (tCB (rLen K) (tCons (tVar 4) tNil)) (tC (.int 1))) tNil))) (tSeq (tAsg (tLst tNil) (gName 8)) (tSeq (tFor (iList K (tVar 6)) (gName 9) (tAsg (tOp rCat (tVar 8) (tLc (iList K (tVar 9)) (gTup K 2 (gCons (gName 10) (gCons (gName 11) gNil))) tYes (tVar 11) [10, 11])) (gName 8))) (tIfS (tAnd (tTest (tOp (rNeD K) (tVar 6) (tLst tNil))) (tTest (tOp (rIn K true) (tVar 7) (tVar 8)))) (tAsg (tVar 6) (gName 4)) tNext)))) (tIfS (tTest (tOp rEq (tVar 5) (tC (.int 6)))) (tRet (tCall (sp__law_plan K Z) [] E0 (tCons (tVar 0) (tCons (tTup (tCons (tC (.int 4)) (tCons (tC (.int 6)) (tCons (tC (.int 6)) (tCons (tC (.int 50)) tNil))))) tNil)))) (tAsg (tCall (sp__law_bent K Z) [] E0 (tCons (tVar 0) (tCons (tVar 4) (tCons (tVar 2) tNil)))) (gName 4)))))) (tRet (tTup (tCons (tVar 3) (tCons (tVar 4) tNil))))))))
theorem l__law_changed {K : PySem.W.Frag} {Z : Ad} {vs : List V} {H : Hp} {Q : VK} {E : XK} : sp__law_changed K Z vs H Q E → vs.length = 3 := by
  rintro ⟨_, _, _, _, _, _, rfl, _⟩; rfl
theorem r__law_changed {K : PySem.W.Frag} {Z : Ad} {vs : List V} {H : Hp} {Q : VK} {E : XK} (R : RuleK K Z) (h : sp__law_changed K Z vs H Q E) : t__law_changed K Z { nx := fun _ H' => Q .non H', rt := Q } (start N__law_changed vs) H := by
  obtain ⟨w, k, v, fk, ts, most, rfl, W, hk, fp, fo, f8, h12, tok, t12, m0, m1, q⟩ := h
  show t__law_changed K Z _ [some (.ref w), some v, some (.int most), none, none, none, none, none, none, none, none, none] H
  unfold t__law_changed
  have f1 := fo.len
  have pos := fo.pos
  have tl := tok.len
  have rl : ∀ r ∈ ts, r.length ≤ 12 ∧ ∀ d ∈ r, d.1.length = fk.length ∧ In (-6000000) 6000000 d.1 ∧ 0 ≤ d.2 ∧ d.2 < ts.length := fun r m => by
    obtain ⟨i, hi⟩ := List.mem_iff_getElem?.mp m
    have rok := tok.row i r hi
    refine ⟨by have := rok.len; omega, fun d md => ?_⟩
    obtain ⟨j, hj⟩ := List.mem_iff_getElem?.mp md
    have dok := rok.deal j d hj
    exact ⟨dok.len, dok.in_, dok.lo, dok.hi⟩
  walk_at "go"
  refine w_ixP0 fp fun pv fpv => ?_
  walk_at "go"
  refine w_list1F fpv fun l us H1 nl c1 al0 => ?_
  have s1 := c1.same nl
  have lw : l ≠ w := W.ne nl
  walk_at "go"
  refine w_ixP1 ((gT gFolk gTabs).same s1 fp) fun tv ftv => ?_
  walk_at "go"
  refine ⟨tv, ts, Nw w, rfl, ftv, ⟨by omega, fun r m => by have := (rl r m).1; omega⟩, fun D sk H2 nD s2 dp ap ns => ?_⟩
  have s12 := s1.trans s2
  have K2 : Kw w H H2 := Kw.of s12
  have W2 := W.same s12
  have nw : ∀ {b : Addr}, H b = none → b ≠ w := fun {b} e => W.ne e
  have nD0 : H D = none := dom_same s1 D nD
  have Dw := nw nD0
  have fF2 : fFolk (fun a => a ≠ w ∧ a ≠ D) H2 (.ref l) fk := ⟨l, us, rfl, ⟨lw, ne_of_none c1.at_ nD⟩, s2 _ _ c1.at_, al0.imp fun _ _ f => by
    obtain ⟨t, u, z, rfl, st, ht, e1, e2⟩ := f
    exact ⟨t, u, z, rfl, ⟨st, fun z => by rw [z, nD0] at ht; cases ht⟩, s12 _ _ ht, e1, e2⟩⟩
  have aD : All2 (fRow (fun a => a ≠ w ∧ a ≠ D) H2) (sk.map fun p => V.ref p.1) ts := dp.rowsF fun p m => ⟨⟨nw (dom_same s1 _ (ns p m).1), ap.dr p m⟩, fun q mq => ⟨⟨nw (dom_same s1 _ ((ns p m).2 q mq).1), ap.dc p m q mq⟩, nw (dom_same s1 _ ((ns p m).2 q mq).2), fun z => by
    obtain ⟨i, hi⟩ := List.mem_iff_getElem?.mp m
    obtain ⟨r, er, RD⟩ := dp.at_ hi
    obtain ⟨_, xs, hx⟩ := RD.there q mq
    rw [z, dp.top] at hx; cases hx⟩⟩
  have hD2 := dp.top
  generalize (sk.map fun p => V.ref p.1) = tus at hD2 aD
  have ltu := aD.length
  walk_at "go"
  refine w_parK (by simp only [List.set_cons_zero, List.set_cons_succ]; exact rfl) ?_
  walk_at "go"
  refine w_draw W2 (by omega) (by omega) (by omega) fun way H3 y0 y1 K3 W3 => ?_
  have K03 := K2.trans K3
  have hD3 := K3 _ _ Dw hD2
  have fF3 := gFolk.keep (fun b o s e => K3 b o s.1 e) fF2
  have aD3 : All2 (fRow (fun a => a ≠ w ∧ a ≠ D) H3) tus ts := aD.imp fun _ _ f => gRow.keep (fun b o s e => K3 b o s.1 e) f
  have fT3 : fTabs (Nw w) H3 (.ref D) ts := ⟨D, tus, rfl, Dw, hD3, aD3.imp fun _ _ f => gRow.mono (fun a s => s.1) f⟩
  have fin : ∀ (tv' : V) (ts' : Tabs) (H9 : Hp), Kw w H H9 → Well H9 w (k + 20000000000) → fFolk (Nw w) H9 (.ref l) fk → fTabs (Nw w) H9 tv' ts' → TabsOk fk.length (heavy fk) 6000001 ts' → ts'.length ≤ 12 → tupK Q [.ref l, tv'] H9 := by
    intro tv' ts' H9 K9 W9 fF9 fT9 tok9 l9
    refine w_tupN (by show 2 ≤ 100000; decide) fun U H10 nU c10 => ?_
    have s10 := c10.same nU
    exact q (.ref U) fk ts' H10 (K9.trans (Kw.of s10)) (W9.same s10) ⟨U, _, _, rfl, W9.ne nU, c10.at_, gFolk.same s10 fF9, gTabs.same s10 fT9⟩ ⟨⟨fo, tok9.mono (by omega), by omega, by omega, by omega⟩, f8, h12, l9⟩
  have bent : ∀ H4, H3 = H4 → (tIfS (tTest (tOp rEq (tVar 5) (tC (.int 6)))) (tRet (tCall (sp__law_plan K Z) [] E0 (tCons (tVar 0) (tCons (tTup (tCons (tC (.int 4)) (tCons (tC (.int 6)) (tCons (tC (.int 6)) (tCons (tC (.int 50)) tNil))))) tNil)))) (tAsg (tCall (sp__law_bent K Z) [] E0 (tCons (tVar 0) (tCons (tVar 4) (tCons (tVar 2) tNil)))) (gName 4)))
      ⟨(tRet (tTup (tCons (tVar 3) (tCons (tVar 4) tNil)))) ⟨fun _ H' => Q .non H', Q, fun _ _ => False, fun _ _ => False⟩, Q, fun _ _ => False, fun _ _ => False⟩ [some (.ref w), some v, some (.int most), some (.ref l), some (.ref D), some (.int way), none, none, none, none, none, none] H4 := by
    rintro _ rfl
    walk_at "go"
    refine w_ite (fun _ => ?_) fun _ => ?_
    · walk_at "go"
      refine w_tupN (by show 4 ≤ 100000; decide) fun z H4 nz c4 => ?_
      have s4 := c4.same nz
      walk_at "go"
      refine ⟨w, _, z, 4, 6, 6, 50, rfl, W3.same s4, by omega, c4.at_, W3.ne nz, by decide, by decide, by decide, by decide, by decide, by decide, by decide, by decide, fun v' fk' ts' H5 K5 W5 f5 o5 n5 h5 t5 l5 => ?_⟩
      have n8 : fk'.length ≤ 8 := by omega
      exact q v' fk' ts' H5 ((K03.trans (Kw.of s4)).trans K5) (W5.mono (by omega)) ((gT gFolk gTabs).mono (fun a s => (W3.same s4).ne s) f5) ⟨⟨o5, t5.mono (by omega), by omega, by omega, by omega⟩, n8, by omega, by omega⟩
    · walk_at "go"
      refine ⟨w, _, .ref D, ts, fk.length, heavy fk, 6000000, most, Nw w, rfl, W3, by omega, fT3, fun a s => s, tok, by omega, by omega, by omega, by omega, by omega, m0, m1, fun v' ts' H4 K4 W4 f4 t4 l4 => ?_⟩
      walk_at "go"
      exact fin v' ts' H4 (K03.trans K4) (W4.mono (by omega)) (gFolk.kw K4 (gFolk.mono (fun a s => s.1) fF3)) (gTabs.mono (fun a s => s.elim id fun s => W3.ne s) f4) t4 (by omega)
  have rest : ∀ H4, H3 = H4 → (tIfS (tTest (tOp rEq (tVar 5) (tC (.int 5)))) (tSeq (tPar 6 7 (tCons (tSl (rSlL K) (tVar 4) tNoPart (tPart (tUn oNeg (tC (.int 1))))) (tCons (tOp oSub (tCB (rLen K) (tCons (tVar 4) tNil)) (tC (.int 1))) tNil))) (tSeq (tAsg (tLst tNil) (gName 8)) (tSeq (tFor (iList K (tVar 6)) (gName 9) (tAsg (tOp rCat (tVar 8) (tLc (iList K (tVar 9)) (gTup K 2 (gCons (gName 10) (gCons (gName 11) gNil))) tYes (tVar 11) [10, 11])) (gName 8))) (tIfS (tAnd (tTest (tOp (rNeD K) (tVar 6) (tLst tNil))) (tTest (tOp (rIn K true) (tVar 7) (tVar 8)))) (tAsg (tVar 6) (gName 4)) tNext)))) (tIfS (tTest (tOp rEq (tVar 5) (tC (.int 6)))) (tRet (tCall (sp__law_plan K Z) [] E0 (tCons (tVar 0) (tCons (tTup (tCons (tC (.int 4)) (tCons (tC (.int 6)) (tCons (tC (.int 6)) (tCons (tC (.int 50)) tNil))))) tNil)))) (tAsg (tCall (sp__law_bent K Z) [] E0 (tCons (tVar 0) (tCons (tVar 4) (tCons (tVar 2) tNil)))) (gName 4))))
      ⟨(tRet (tTup (tCons (tVar 3) (tCons (tVar 4) tNil)))) ⟨fun _ H' => Q .non H', Q, fun _ _ => False, fun _ _ => False⟩, Q, fun _ _ => False, fun _ _ => False⟩ [some (.ref w), some v, some (.int most), some (.ref l), some (.ref D), some (.int way), none, none, none, none, none, none] H4 := by
    rintro _ rfl
    walk_at "go"
    refine w_ite (fun _ => ?_) fun _ => ?_
    rotate_left
    · exact bent H3 rfl
    walk_at "go"
    refine w_sl ?_
    walk_at "go"
    refine w_nopart (w_part ?_)
    walk_at "go"
    refine w_prtK ?_
    refine w_slLastV hD3 fun F H4 nF c4 => ?_
    have s4 := c4.same nF
    walk_at "go"
    refine w_len (SqL.of (s4 _ _ hD3)) ?_
    rw [ltu]
    walk_at "go"
    refine w_parK (by simp only [List.set_cons_zero, List.set_cons_succ]; exact rfl) ?_
    walk_at "go"
    refine w_lstN (by show 0 ≤ 100000; decide) fun G0 H5 nG c5 => ?_
    have s5 := c5.same nG
    walk_at "go"
    refine w_for (w_ilist ?_)
    walk_at "go"
    have hF5 : H5 F = some (.lst (tus.take (tus.length - 1))) := s5 _ _ c4.at_
    have alF : All2 (fRow (fun a => a ≠ w ∧ a ≠ D) H3) (tus.take (tus.length - 1)) (ts.take (ts.length - 1)) := by rw [ltu]; exact all2_take aD3 _
    have lF := alF.length
    have lF2 : (ts.take (ts.length - 1)).length ≤ 12 := by rw [List.length_take]; omega
    have s35 := s4.trans s5
    refine w_ilistK (SqL.of hF5) ?_
    refine for_go (src_list (xs := tus.take (tus.length - 1))) (fun i σ H' => ∃ (Gi : Addr) (gs : List Int) (o9 : Option V), σ = [some (.ref w), some v, some (.int most), some (.ref l), some (.ref D), some (.int way), some (.ref F), some (.int ((ts.length : Int) - 1)), some (.ref Gi), o9, none, none] ∧ Same H5 H' ∧ H' Gi = some (.lst (gs.map V.int)) ∧ gs.length ≤ 12 * i ∧ (∀ r ∈ (ts.take (ts.length - 1)).take i, ∀ d ∈ r, d.2 ∈ gs)) ⟨G0, [], _, rfl, Same.refl _, c5.at_, Nat.le_refl 0, fun r m => by rw [List.take_zero] at m; cases m⟩ (fun i σ H' _ h => ?_) ?_ ?_
    · obtain ⟨_, _, _, _, s, _⟩ := h
      exact SqL.of (s _ _ hF5)
    · rintro i σ Hq x6 H6 hi ⟨Gi, gs, o9, rfl, s6, hG6, lg, mg⟩ ⟨rfl, ex6⟩
      obtain ⟨r, er, fr⟩ := alF.get ex6
      have mr : r ∈ ts := List.mem_of_mem_take (List.mem_of_getElem? er)
      obtain ⟨rl1, rl2⟩ := rl r mr
      have s36 := s35.trans s6
      obtain ⟨b, ws, rfl, sb, hb, bl⟩ := gRow.same s36 fr
      have lb := bl.length
      refine w_name (by simp only [List.set_cons_zero, List.set_cons_succ]; exact rfl) ?_
      walk_at "go"
      refine w_lc (w_ilist ?_)
      walk_at "go"
      refine w_ilistK (SqL.of hb) ?_
      refine lc_same gI (src_list (xs := ws)) (fun j as => as = (r.map Prod.snd).take j) (by omega) rfl (fun H' s => SqL.of (s _ _ hb)) ?_ ?_
      · rintro j as H7 x H8 N N' hj rfl s7 ⟨rfl, hx⟩ hN hN'
        obtain ⟨d, hd, fd⟩ := bl.get hx
        refine w_gT2 (gDeal.same s7 fd) fun u z f1 f2 => ?_
        cases f2
        refine w_gCons (w_name (by simp only [wipe, List.set_cons_zero, List.set_cons_succ]; exact rfl) ?_)
        refine w_gCons (w_name (by simp only [wipe, List.set_cons_zero, List.set_cons_succ]; exact rfl) ?_)
        refine w_gNil ?_
        refine ⟨rfl, ?_⟩
        refine w_yes (w_iteT ?_)
        walk_at "go"
        exact hN _ d.2 _ (Same.refl _) rfl (take_snoc (by rw [List.getElem?_map, hd]; rfl))
      · rintro A as H7 nA s7 rfl fA
        rw [show ws.length = (r.map Prod.snd).length by rw [lb, List.length_map], take_all] at fA
        obtain ⟨A', eA, _, hA⟩ := ints_of fA
        cases eA
        refine w_catV9 (s7 _ _ hG6) hA (by rw [List.length_map, List.length_map, List.length_map]; omega) fun G H8 nG8 c8 => ?_
        have s8 := c8.same nG8
        walk_at "go"
        refine ⟨G, gs ++ r.map Prod.snd, _, rfl, (s6.trans s7).trans s8, by rw [c8.at_, List.map_append], by rw [List.length_append, List.length_map]; omega, fun r' m d md => ?_⟩
        rw [← take_snoc er] at m
        rcases List.mem_append.mp m with m | m
        · exact List.mem_append_left _ (mg r' m d md)
        · rw [List.mem_singleton.mp m] at md
          exact List.mem_append_right _ (List.mem_map_of_mem md)
    · rintro σ H6 ⟨Gi, gs, o9, rfl, s6, hG6, lg, mg⟩
      rw [lF, List.take_of_length_le (Nat.le_refl _)] at mg
      have s36 := s35.trans s6
      have fF : fTabs (Nw w) H6 (.ref F) (ts.take (ts.length - 1)) := ⟨F, _, rfl, W3.ne nF, s6 _ _ hF5, alF.imp fun _ _ f => gRow.same s36 (gRow.mono (fun a s => s.1) f)⟩
      have K06 := K03.trans (Kw.of s36)
      have W6 := W3.same s36
      have fF6 : fFolk (Nw w) H6 (.ref l) fk := gFolk.same s36 (gFolk.mono (fun a s => s.1) fF3)
      have same : ∀ H7, Same H6 H7 → tupK Q [.ref l, .ref D] H7 := fun H7 s7 =>
        fin (.ref D) ts H7 (K06.trans (Kw.of s7)) ((W6.same s7).mono (by omega)) (gFolk.same s7 fF6) (gTabs.same (s36.trans s7) fT3) (tok.mono (by omega)) t12
      walk_at "go"
      refine w_lstN (by show 0 ≤ 100000; decide) fun L H7 nL c7 => ?_
      have s7 := c7.same nL
      refine w_neD (dpY_tabs (gTabs.same s7 fF)) (d := tabsY (ts.take (ts.length - 1))) (e := .list []) (.lst (SqL.of c7.at_) .nil) (tameY_rows lF2 fun r m => by
        obtain ⟨a, b⟩ := rl r (List.mem_of_mem_take m)
        exact ⟨a, fun d md => by
          obtain ⟨b1, b2, b3, b4⟩ := b d md
          exact ⟨by omega, in_mono b2 (by decide) (by decide), by omega, by omega⟩⟩) (Tame.list (j := 0) (k := 0) (ds := []) fun d m => nomatch m) (by decide) (by decide) ?_
      walk_at "go"
      refine w_iteB (fun e1 => ?_) fun _ => ?_
      · walk_at "go"
        refine w_ninI5 (s7 _ _ hG6) ?_
        walk_at "go"
        refine w_iteB (fun e2 => ?_) fun _ => ?_
        · walk_at "go"
          have ne : ts.take (ts.length - 1) ≠ [] := fun z => by rw [z] at e1; exact absurd e1 (by decide)
          have nm : (ts.length : Int) - 1 ∉ gs := by simpa using e2
          exact fin (.ref F) (ts.take (ts.length - 1)) H7 (K06.trans (Kw.of s7)) ((W6.same s7).mono (by omega)) (gFolk.same s7 fF6) (gTabs.same s7 fF) ((tok.less ne fun r m d md z => nm (z ▸ mg r m d md)).mono (by omega)) lF2
        · walk_at "go"
          exact same H7 s7
      · refine w_iteF ?_
        walk_at "go"
        exact same H7 s7
  walk_at "go"
  refine w_ite (fun _ => ?_) fun _ => ?_
  · walk_at "go"
    refine ⟨w, _, v, fk, ts, 8, Nw w, rfl, W3, by omega, (gT gFolk gTabs).kw K03 fp, fun a s => s, fo, f8, by decide, by omega, fun r m => ⟨by have := (rl r m).1; omega, fun d md => ((rl r m).2 d md).1⟩, fun v' fk' ts' H4 K4 W4 f4 o4 h4 wd => ?_⟩
    obtain ⟨tk, tl'⟩ := wider_ok wd tok h4 (by decide)
    have n8 : fk'.length ≤ 8 := by
      rcases wd with ⟨l, _⟩ | ⟨l, lt, _⟩ <;> omega
    exact q v' fk' ts' H4 (K03.trans K4) (W4.mono (by omega)) ((gT gFolk gTabs).mono (fun a s => s.elim id fun s => W3.ne s) f4) ⟨⟨o4, tk.mono (by omega), by omega, by omega, by omega⟩, n8, by omega, by omega⟩
  walk_at "go"
  refine w_ite (fun _ => ?_) fun _ => ?_
  · walk_at "go"
    refine ⟨w, _, .ref D, ts, fk.length, heavy fk, 6000000, rfl, W3, by omega, fT3, tok, by omega, by omega, by omega, fun v' ts' H4 K4 W4 f4 t4 l4 _ => ?_⟩
    walk_at "go"
    exact fin v' ts' H4 (K03.trans K4) (W4.mono (by omega)) (gFolk.kw K4 (gFolk.mono (fun a s => s.1) fF3)) (gTabs.mono (fun a s => W3.ne s) f4) (t4.mono (by omega)) (by omega)
  walk_at "go"
  refine w_ite (fun _ => ?_) fun _ => ?_
  · walk_at "go"
    refine w_len (SqL.of hD3) ?_
    rw [ltu]
    walk_at "go"
    refine w_ite (fun hl => ?_) fun _ => ?_
    · walk_at "go"
      refine w_bm ?_
      walk_at "go"
      refine w_bmL hD3 ?_
      walk_at "go"
      refine w_len (SqL.of hD3) ?_
      rw [ltu]
      walk_at "go"
      refine w_draw W3 (by omega) (by omega) (by omega) fun g H4 g0 g1 K4 W4 => ?_
      have hD4 := K4 _ _ Dw hD3
      obtain ⟨r, er⟩ := at_some g0 g1
      obtain ⟨u, eu, fu⟩ := aD3.getR er
      refine w_ixL (SqL.of hD4) (atI_of g0 eu) ?_
      walk_at "go"
      refine w_append hD4 (by omega) fun H5 c5 => ?_
      walk_at "go"
      have k35 : ∀ (b : Addr) (o : HO), b ≠ w ∧ b ≠ D → H3 b = some o → H5 b = some o := fun b o s e => c5.keep s.2 (K4 b o s.1 e)
      have K5 : Kw w H H5 := fun b o n e => c5.keep (ne_of_none e nD0) (K4 b o n (K03 b o n e))
      have a5 : All2 (fRow (fun a => a ≠ w ∧ a ≠ D) H5) tus ts := aD3.imp fun _ _ f => gRow.keep (fun b o s e => k35 b o s e) f
      have u5 := gRow.keep (fun b o s e => k35 b o s e) fu
      have m5 : fTabs (Nw w) H5 (.ref D) (ts ++ [r]) := ⟨D, _, rfl, Dw, c5.at_, (a5.append (.one u5)).imp fun _ _ f => gRow.mono (fun a s => s.1) f⟩
      exact fin (.ref D) (ts ++ [r]) H5 K5 ((W4.ch Dw c5).mono (by omega)) (gFolk.mono (fun a s => s.1) (gFolk.keep (fun b o s e => k35 b o s e) fF3)) m5 ((tok.again (List.mem_of_getElem? er)).mono (by omega)) (by rw [List.length_append]; show ts.length + 1 ≤ 12; omega)
    · exact rest H3 rfl
  · refine w_iteF ?_
    exact rest H3 rfl
end Ow

set_option Elab.async false
set_option linter.all false
set_option maxRecDepth 100000
namespace Ow
open PySem L2
local macro_rules | `(tactic| walk_at "go") => `(tactic| (repeat (with_reducible first
  | refine w_seq ?_ | refine w_asg ?_ | refine w_ret ?_ | refine w_if ?_ | refine w_next ?_ | refine w_drop ?_
  | refine w_var (by with_unfolding_all rfl) ?_ | refine w_c ?_ | refine w_op ?_ | refine w_cons ?_ | refine w_nil ?_ | refine w_cb ?_ | refine w_call ?_
  | refine w_name (by simp only [List.set_cons_zero, List.set_cons_succ]; exact rfl) ?_
  | refine w_add ?_ | refine w_sub ?_ | refine w_lt ?_ | refine w_le ?_ | refine w_gt ?_ | refine w_ge ?_ | refine w_eqI ?_ | refine w_neI ?_
  | refine w_test ?_ | refine w_testK ?_ | refine w_tB ?_ | refine w_intI ?_ | refine w_intB ?_ | refine w_max2 ?_ | refine w_min2 ?_
  | refine w_lst ?_ | refine w_tup ?_ | refine w_gSub ?_ | refine w_fld ?_ | refine w_un ?_ | refine w_neg ?_ | refine w_par ?_ | refine w_tIf ?_ | refine w_and ?_ | refine w_or ?_ | refine w_not ?_
  | refine w_mod (by omega) ?_ | refine w_div (cdiv (by omega) (by omega)) ?_ | refine w_mul (cmulL (by omega) (by omega)) ?_ | refine w_mul (cmulR (by omega) (by omega)) ?_ | refine w_pow (cpow (by omega) (by omega) (by omega) (by omega)) ?_
  | refine w_ixL (SqL.of (by assumption)) (by with_unfolding_all rfl) ?_)))
local macro_rules | `(tactic| walk_at "st") => `(tactic| (repeat (with_reducible first
  | refine w_seq ?_ | refine w_asg ?_ | refine w_ret ?_ | refine w_next ?_ | refine w_drop ?_
  | refine w_var (by with_unfolding_all rfl) ?_ | refine w_c ?_ | refine w_op ?_ | refine w_cons ?_ | refine w_nil ?_ | refine w_cb ?_ | refine w_call ?_
  | refine w_name (by simp only [List.set_cons_zero, List.set_cons_succ]; exact rfl) ?_
  | refine w_add ?_ | refine w_sub ?_ | refine w_lt ?_ | refine w_le ?_ | refine w_gt ?_ | refine w_ge ?_ | refine w_eqI ?_ | refine w_neI ?_
  | refine w_test ?_ | refine w_testK ?_ | refine w_tB ?_ | refine w_intI ?_ | refine w_intB ?_ | refine w_max2 ?_ | refine w_min2 ?_
  | refine w_lst ?_ | refine w_tup ?_ | refine w_gSub ?_ | refine w_fld ?_ | refine w_un ?_ | refine w_neg ?_ | refine w_par ?_ | refine w_tIf ?_ | refine w_and ?_ | refine w_or ?_ | refine w_not ?_
  | refine w_mod (by omega) ?_ | refine w_div (cdiv (by omega) (by omega)) ?_ | refine w_mul (cmulL (by omega) (by omega)) ?_ | refine w_mul (cmulR (by omega) (by omega)) ?_ | refine w_pow (cpow (by omega) (by omega) (by omega) (by omega)) ?_
  | refine w_ixL (SqL.of (by assumption)) (by with_unfolding_all rfl) ?_)))
/-! ### == of rules, of any two -/
theorem w_neB {a b : Bool} {H : Hp} {Q : VK} (q : Q (.bl (!decide (a = b))) H) : rNe (.bl a) (.bl b) H Q := ⟨rfl, by
  have : decide (V.bl a = V.bl b) = decide (a = b) := by cases a <;> cases b <;> rfl
  rw [this]; exact q⟩
theorem w_eqB5 {a b : Bool} {H : Hp} {Q : VK} (q : Q (.bl (decide (a = b))) H) : rEq (.bl a) (.bl b) H Q := ⟨rfl, by
  have : decide (V.bl a = V.bl b) = decide (a = b) := by cases a <;> cases b <;> rfl
  rw [this]; exact q⟩
theorem w_iteF' {c : Bool} {A B : Prop} (e : c = false) (h : B) : if c = true then A else B := by rw [e, if_neg Bool.false_ne_true]; exact h
theorem w_iteT' {c : Bool} {A B : Prop} (e : c = true) (h : A) : if c = true then A else B := by rw [e, if_pos rfl]; exact h
section
variable {K : PySem.W.Frag} {Z : Ad} {S : Addr → Prop} {H : Hp} {Q : VK} {E : XK} {v : V} {fk : Folk} {ts : Tabs} {σ : St} {n : Nat}
def propK (C : Addr) (sp : Sp) (E : XK) (Q : VK) (x : V) (H1 : Hp) : Prop := ∃ a dx fs, x = .ref a ∧ H1 a = some (.ins C dx fs) ∧ sp [.ref a] H1 Q E
theorem w_prop {C : Addr} {sp : Sp} {ta : TE} (h : ta σ H fun x H1 => propK C sp E Q x H1) : tProp C sp [] E ta σ H Q := h
theorem w_propR {sp : Sp} (f : fRule Z S H v (fk, ts)) (q : sp [v] H Q E) : propK Z.c_Rule sp E Q v H := by
  obtain ⟨r, dx, pv, cv, nv, rfl, _, hr, _⟩ := f
  exact ⟨r, dx, _, rfl, hr, q⟩
theorem w_lenR (f : fRule Z S H v (fk, ts)) (ok : PlanOk fk ts) (q : ∀ H', Same H H' → Q (.int ts.length) H') : rLenO Z.c_Rule (sp_Rule___len__ K Z) E [v] H Q := by
  have f0 := f
  have tl := ok.tl
  obtain ⟨r, dx, pv, cv, nv, rfl, _, hr, _⟩ := f
  exact ⟨r, dx, _, rfl, hr, .ref r, fk, ts, S, rfl, f0, fun H' s => ⟨_, rfl, by omega, by omega, q H' s⟩⟩
end
theorem w_cmp2 {K : PySem.W.Frag} {Z : Ad} {neg : Bool} {E : XK} {S S' : Addr → Prop} {v u : V} {fk fk' : Folk} {ts ts' : Tabs} {H : Hp} {Q : VK} (f : fRule Z S H v (fk, ts)) (f' : fRule Z S' H u (fk', ts')) (ok : PlanOk fk ts) (ok' : PlanOk fk' ts') {p : Prop} [Decidable p] (e : (fk = fk' ∧ ts = ts') ↔ p)
    (q : ∀ H', Same H H' → Q (.bl (if neg then !decide p else decide p)) H') : rCmpO Z.c_Rule neg (sp_Rule___eq__ K Z) E v u H Q := by
  have f0 := f
  have f0' := f'
  obtain ⟨a, dx, pv, cv, nv, rfl, _, ha, _, _⟩ := f
  obtain ⟨b, dy, pw, cw, nw, rfl, _, hb, _, _⟩ := f'
  refine ⟨a, b, dx, dy, _, _, rfl, rfl, ha, hb, .inl ⟨.ref a, .ref b, fk, fk', ts, ts', S, S', rfl, f0, f0', ok, ok', fun H' s => ⟨_, rfl, ?_⟩⟩⟩
  rw [eqR_iff ok ok', decide_eq_decide.mpr e]
  cases neg
  · exact q H' s
  · exact q H' s
theorem eqv_folk (fk fk' : Folk) : PyData.eqv (folkD fk) (folkD fk') = decide (fk = fk') := by
  have p1 : ∀ fk : Folk, Pe 2 (folkD fk) := fun fk d m => by
    obtain ⟨x, _, rfl⟩ := List.mem_map.mp m
    exact pe_pair x
  exact eqv_dec (p1 _) (p1 _) ⟨fun h => by
    unfold folkD at h
    injection h with h
    exact map_inj' pairD_inj h, fun h => by rw [h]⟩
theorem mix_back : ∀ {fk : Folk} {a b : List Int}, a.length = fk.length → b.length = fk.length → (∀ x ∈ b, x = 0) → mix 0 fk a b = a
  | [], [], _, _, _, _ => by cases ‹List Int› <;> rfl
  | [], _ :: _, _, h, _, _ => nomatch h
  | _ :: _, [], _, h, _, _ => nomatch h
  | _ :: _, _ :: _, [], _, h, _ => nomatch h
  | p :: fk, x :: a, y :: b, h1, h2, z => by
    show (0 * p.2 + x - y) :: mix 0 fk a b = x :: a
    rw [mix_back (by simpa using h1) (by simpa using h2) fun t m => z t (List.mem_cons_of_mem _ m), z y (List.mem_cons_self ..)]
    congr 1
    omega
theorem table_first {fk : Folk} {ls : Lines} {b : Int} (lo : LinesB fk.length b ls) (l1 : 1 ≤ ls.length) : ∃ row, (tableOf fk ls)[0]? = some row ∧ row.map Prod.fst = ls := by
  refine ⟨rowOf fk ls ls.length (0 + ((0 : Nat) : Int)), by unfold tableOf; rw [List.getElem?_map, List.getElem?_range l1]; rfl, ?_⟩
  unfold rowOf
  rw [List.map_map]
  refine (map_is rfl fun i x ex => ?_).symm
  obtain ⟨z0, e0⟩ : ∃ z, ls[0]? = some z := ⟨_, List.getElem?_eq_getElem l1⟩
  have hi := (List.getElem?_eq_some_iff.mp ex).1
  show x = mix ((0 + ((0 : Nat) : Int) + (0 + (i : Int))) / ls.length) fk (ls.getD ((0 + ((0 : Nat) : Int) + (0 + (i : Int))) % ls.length).toNat []) (ls.getD (0 + ((0 : Nat) : Int)).toNat [])
  have e1 : (0 + ((0 : Nat) : Int) + (0 + (i : Int))) = (i : Int) := by omega
  rw [e1, Int.ediv_eq_zero_of_lt (by omega) (by omega), Int.emod_eq_of_lt (by omega) (by omega), Int.toNat_natCast, getD_is ex]
  rw [show (0 + ((0 : Nat) : Int)).toNat = 0 from rfl, getD_is e0]
  exact (mix_back (lo.row i x ex).1 (lo.row 0 z0 e0).1 (lo.zero z0 e0)).symm
theorem gR5 : Good fR := ⟨fun _ h => h, fun _ h => h, fun h => h⟩
theorem all2_eq5 {S : Addr → Prop} {H : Hp} : ∀ {xs ys : List V}, All2 (fR S H) xs ys → xs = ys
  | _, _, .nil => rfl
  | _, _, .cons a r => by rw [show _ = _ from a, all2_eq5 r]
def sp__law_tables_right (K : PySem.W.Frag) (Z : Ad) : Sp := fun vs H Q _ => ∃ (w : Addr) (k : Nat) (v : V) (fk : Folk), vs = [.ref w, v] ∧ Well H w k ∧ k < 300000000000 ∧ fFolk (Nw w) H v fk ∧ FolkOk fk ∧ fk.length ≤ 8 ∧ heavy fk ≤ 12 ∧ ∀ H', Kw w H H' → Q (.bl true) H'
abbrev N__law_tables_right : List Str := ["well", "folk", "twin", "lines", "left", "right", "cents", "goal"]
def t__law_tables_right (K : PySem.W.Frag) (Z : Ad) : TS :=
  (tSeq (tAsg (tOp (rIxT K) (tCall (sp__law_other_folk K Z) [] E0 (tCons (tVar 0) (tCons (tTup (tCons (tVar 1) (tCons (tLst tNil) tNil))) (tCons (tCB (rLen K) (tCons (tVar 1) tNil)) tNil)))) (tC (.int 0))) (gName 2)) (tSeq (tAsg (tCall (sp__law_lines K Z) [] E0 (tCons (tVar 0) (tCons (tVar 1) (tCons (tC (.int 50)) tNil)))) (gName 3)) (tSeq (tFor (iTup K (tTup (tCons (tTup (tCons (tCall (sp_by_rows K Z) [] E0 (tCons (tVar 1) (tCons (tVar 3) tNil))) (tCons (tCall (sp_by_rows K Z) [] E0 (tCons (tVar 2) (tCons (tVar 3) tNil))) tNil))) (tCons (tTup (tCons (tCall (sp_in_turn K Z) [] E0 (tCons (tVar 1) tNil)) (tCons (tCall (sp_in_turn K Z) [] E0 (tCons (tVar 2) tNil)) tNil))) tNil)))) (gTup K 2 (gCons (gName 4) (gCons (gName 5) gNil))) (tIfS (tOr (tTest (tOp rNe (tOp (Ow.rCmpO Z.c_Rule false (sp_Rule___eq__ K Z) E0) (tVar 4) (tVar 5)) (tOp (rEqD K) (tVar 1) (tVar 2)))) (tTest (tOp rNe (tOp (Ow.rCmpO Z.c_Rule false (sp_Rule___eq__ K Z) E0) (tVar 5) (tVar 4)) (tOp (rEqD K) (tVar 1) (tVar 2))))) (tRet (tC (.bl false))) tNext)) (tRet (tOp (Ow.rCmpO Z.c_Rule false (sp_Rule___eq__ K Z) E0) (tCall (sp_in_turn K Z) [] E0 (tCons (tVar 1) tNil)) (tCall (sp_by_rows K Z) [] E0 (tCons (tVar 1) (tCons (tLc (iList K (tOp (rIxL K) (tProp Z.c_Rule (sp_Rule_states K Z) [] E0 (tCall (sp_in_turn K Z) [] E0 (tCons (tVar 1) tNil))) (tC (.int 0)))) (gTup K 2 (gCons (gName 6) (gCons (gName 7) gNil))) tYes (tVar 6) [6, 7]) tNil))))))))
theorem l__law_tables_right {K : PySem.W.Frag} {Z : Ad} {vs : List V} {H : Hp} {Q : VK} {E : XK} : sp__law_tables_right K Z vs H Q E → vs.length = 2 := by
  rintro ⟨_, _, _, _, rfl, _⟩; rfl
theorem r__law_tables_right {K : PySem.W.Frag} {Z : Ad} {vs : List V} {H : Hp} {Q : VK} {E : XK} (R : RuleK K Z) (h : sp__law_tables_right K Z vs H Q E) : t__law_tables_right K Z { nx := fun _ H' => Q .non H', rt := Q } (start N__law_tables_right vs) H := by
  obtain ⟨w, k, v, fk, rfl, W, hk, ff, fo, f8, h12, q⟩ := h
  show t__law_tables_right K Z _ [some (.ref w), some v, none, none, none, none, none, none] H
  unfold t__law_tables_right
  have f1 := fo.len
  have pos := fo.pos
  walk_at "go"
  refine w_lstN (by show 0 ≤ 100000; decide) fun E0 H1 nE c1 => ?_
  have s1 := c1.same nE
  walk_at "go"
  refine w_tupN (by show 2 ≤ 100000; decide) fun P H2 nP c2 => ?_
  have s2 := c2.same nP
  have s12 := s1.trans s2
  walk_at "go"
  refine w_lenF (gFolk.same s12 ff) ?_
  walk_at "go"
  have W2 := W.same s12
  refine ⟨w, _, .ref P, fk, [], fk.length, Nw w, rfl, W2, by omega, ⟨P, v, .ref E0, rfl, (W.same s1).ne nP, c2.at_, gFolk.same s12 ff, ⟨E0, [], rfl, W.ne nE, s2 _ _ c1.at_, .nil⟩⟩, fun a s => s, fo, f8, by omega, by decide, (fun r m => nomatch m), fun v' fk' ts' H3 K3 W3 f3 o3 h3 wd => ?_⟩
  have wl : fk'.length = fk.length := by
    rcases wd with ⟨l, _⟩ | ⟨_, l, _⟩
    · exact l
    · exact absurd l (Int.lt_irrefl _)
  walk_at "go"
  refine w_ixP0 f3 fun tv ft => ?_
  have ftw : fFolk (Nw w) H3 tv fk' := gFolk.mono (fun a s => s.elim id fun s => W2.ne s) ft
  have K03 := (Kw.of s12).trans K3
  have ff3 := gFolk.kw K03 ff
  walk_at "go"
  refine ⟨w, _, v, fk, 50, rfl, W3, by omega, ff3, fo, by omega, by omega, by decide, by decide, fun lv ls H4 K4 W4 f4 lo ll => ?_⟩
  have K04 := K03.trans K4
  have ff4 := gFolk.kw K4 ff3
  have ft4 := gFolk.kw K4 ftw
  have fl4 : fLines (Nw w) H4 lv ls := gLines.mono (fun a s => W3.ne s) f4
  have lb : LinesB fk.length 10000000 ls := lo.b (by decide)
  have lb' : LinesB fk'.length 10000000 ls := by rw [wl]; exact lb
  have okA : PlanOk fk (tableOf fk ls) := table_plan fo lb ll (by omega) (by omega)
  have okB : PlanOk fk' (tableOf fk' ls) := table_plan o3 lb' (by rw [h3]; exact ll) (by omega) (by omega)
  have tl : LinesB fk.length 10000000 (turnLs (heavy fk) (fk.map Prod.snd) (heavy fk).toNat) := (turn_lines fo (by omega)).mono (by decide)
  have tl' : LinesB fk'.length 10000000 (turnLs (heavy fk') (fk'.map Prod.snd) (heavy fk').toNat) := (turn_lines o3 (by omega)).mono (by decide)
  have okC : PlanOk fk (tableOf fk (turnLs (heavy fk) (fk.map Prod.snd) (heavy fk).toNat)) := table_plan fo tl (by rw [turnLs_len]; omega) (by omega) (by omega)
  have okD : PlanOk fk' (tableOf fk' (turnLs (heavy fk') (fk'.map Prod.snd) (heavy fk').toNat)) := table_plan o3 tl' (by rw [turnLs_len]; omega) (by omega) (by omega)
  have e1 : (fk = fk' ∧ tableOf fk ls = tableOf fk' ls) ↔ fk = fk' := ⟨And.left, fun h => ⟨h, by rw [h]⟩⟩
  have e2 : (fk = fk' ∧ tableOf fk (turnLs (heavy fk) (fk.map Prod.snd) (heavy fk).toNat) = tableOf fk' (turnLs (heavy fk') (fk'.map Prod.snd) (heavy fk').toNat)) ↔ fk = fk' := ⟨And.left, fun h => ⟨h, by rw [h]⟩⟩
  walk_at "go"
  refine w_for (w_itup ?_)
  walk_at "go"
  refine ⟨v, lv, fk, ls, Nw w, rfl, ff4, fl4, fo, lb, ll, by omega, by omega, fun rA H5 s5 fA => ?_⟩
  walk_at "go"
  refine ⟨tv, lv, fk', ls, Nw w, rfl, gFolk.same s5 ft4, gLines.same s5 fl4, o3, lb', by rw [h3]; exact ll, by omega, by omega, fun rB H6 s6 fB => ?_⟩
  have s46 := s5.trans s6
  walk_at "go"
  refine w_tupN (by show 2 ≤ 100000; decide) fun T1 H7 nT1 c7 => ?_
  have s47 := s46.trans (c7.same nT1)
  walk_at "go"
  refine ⟨v, fk, Nw w, rfl, gFolk.same s47 ff4, fo, by omega, by omega, fun rC H8 s8 fC => ?_⟩
  walk_at "go"
  have s48 := s47.trans s8
  refine ⟨tv, fk', Nw w, rfl, gFolk.same s48 ft4, o3, by omega, by omega, fun rD H9 s9 fD => ?_⟩
  have s49 := s48.trans s9
  walk_at "go"
  refine w_tupN (by show 2 ≤ 100000; decide) fun T2 H10 nT2 c10 => ?_
  have s10 := c10.same nT2
  walk_at "go"
  refine w_tupN (by show 2 ≤ 100000; decide) fun T3 H11 nT3 c11 => ?_
  have s11 := c11.same nT3
  have s411 := (s49.trans s10).trans s11
  walk_at "go"
  refine w_itupK (SqT.of c11.at_) ?_
  have s711 : Same H7 H11 := ((s8.trans s9).trans s10).trans s11
  have hT1 := s711 _ _ c7.at_
  have hT2 := s11 _ _ c10.at_
  have gA : fRule Z Any H11 rA (fk, tableOf fk ls) := gRule.any (gRule.same ((s6.trans (c7.same nT1)).trans s711) fA)
  have gB : fRule Z Any H11 rB (fk', tableOf fk' ls) := gRule.any (gRule.same ((c7.same nT1).trans s711) fB)
  have gC : fRule Z Any H11 rC (fk, _) := gRule.any (gRule.same ((s9.trans s10).trans s11) fC)
  have gD : fRule Z Any H11 rD (fk', _) := gRule.any (gRule.same (s10.trans s11) fD)
  have ff11 := gFolk.same s411 ff4
  have ft11 := gFolk.same s411 ft4
  have body : ∀ (a b : V) (tA tB : Tabs) (H12 : Hp), Same H11 H12 → fRule Z Any H11 a (fk, tA) → fRule Z Any H11 b (fk', tB) → PlanOk fk tA → PlanOk fk' tB → ((fk = fk' ∧ tA = tB) ↔ fk = fk') → ∀ (o6 o7 : Option V) (N B C : St → Hp → Prop), (∀ H13, Same H11 H13 → N [some (.ref w), some v, some tv, some lv, some a, some b, o6, o7] H13) →
      (tIfS (tOr (tTest (tOp rNe (tOp (Ow.rCmpO Z.c_Rule false (sp_Rule___eq__ K Z) L2.E0) (tVar 4) (tVar 5)) (tOp (rEqD K) (tVar 1) (tVar 2)))) (tTest (tOp rNe (tOp (Ow.rCmpO Z.c_Rule false (sp_Rule___eq__ K Z) L2.E0) (tVar 5) (tVar 4)) (tOp (rEqD K) (tVar 1) (tVar 2))))) (tRet (tC (.bl false))) tNext)
      ⟨N, Q, B, C⟩ [some (.ref w), some v, some tv, some lv, some a, some b, o6, o7] H12 := by
    intro a b tA tB H12 s12 ga gb oa ob e o6 o7 N B C hN
    walk_at "go"
    refine w_cmp2 (gRule.same s12 ga) (gRule.same s12 gb) oa ob e fun H13 s13 => ?_
    walk_at "go"
    have s113 := s12.trans s13
    refine w_eqD (dpY_folk (gFolk.same s113 ff11)) (dpY_folk (gFolk.same s113 ft11)) (tameY_folk fo (by omega) f8) (tameY_folk o3 (by omega) (by omega)) (by decide) (by decide) ?_
    rw [eqv_folk]
    refine w_neB ?_
    walk_at "go"
    refine w_iteF' (by simp) ?_
    walk_at "go"
    refine w_cmp2 (gRule.same s113 gb) (gRule.same s113 ga) ob oa (p := fk = fk') ⟨fun h => h.1.symm, fun h => ⟨h.symm, ((e.mpr h).2).symm⟩⟩ fun H14 s14 => ?_
    walk_at "go"
    have s114 := s113.trans s14
    refine w_eqD (dpY_folk (gFolk.same s114 ff11)) (dpY_folk (gFolk.same s114 ft11)) (tameY_folk fo (by omega) f8) (tameY_folk o3 (by omega) (by omega)) (by decide) (by decide) ?_
    rw [eqv_folk]
    refine w_neB ?_
    walk_at "go"
    refine w_iteF' (by simp) ?_
    walk_at "go"
    exact hN H14 s114
  refine for_go (src_tup (xs := [.ref T1, .ref T2])) (fun i σ H' => ∃ o4 o5, σ = [some (.ref w), some v, some tv, some lv, o4, o5, none, none] ∧ Same H11 H') ⟨_, _, rfl, Same.refl _⟩ (fun i σ H' _ h => ?_) ?_ ?_
  · obtain ⟨_, _, _, s⟩ := h
    exact SqT.of (s _ _ c11.at_)
  · rintro i σ Hq x H12 hi ⟨o4, o5, rfl, s12⟩ ⟨rfl, ex⟩
    match i, hi with
    | 0, _ =>
      cases ex
      refine w_gTup (SqT.of (s12 _ _ hT1)) rfl ?_
      refine w_gCons (w_name (by simp only [List.set_cons_zero, List.set_cons_succ]; exact rfl) ?_)
      refine w_gCons (w_name (by simp only [List.set_cons_zero, List.set_cons_succ]; exact rfl) ?_)
      refine w_gNil ?_
      exact body rA rB _ _ _ s12 gA gB okA okB e1 none none _ _ _ fun H13 s13 => ⟨_, _, rfl, s13⟩
    | 1, _ =>
      cases ex
      refine w_gTup (SqT.of (s12 _ _ hT2)) rfl ?_
      refine w_gCons (w_name (by simp only [List.set_cons_zero, List.set_cons_succ]; exact rfl) ?_)
      refine w_gCons (w_name (by simp only [List.set_cons_zero, List.set_cons_succ]; exact rfl) ?_)
      refine w_gNil ?_
      exact body rC rD _ _ _ s12 gC gD okC okD e2 none none _ _ _ fun H13 s13 => ⟨_, _, rfl, s13⟩
  · rintro σ H12 ⟨o4, o5, rfl, s12⟩
    have s412 := s411.trans s12
    walk_at "go"
    refine ⟨v, fk, Nw w, rfl, gFolk.same s412 ff4, fo, by omega, by omega, fun rE H13 s13 fE => ?_⟩
    walk_at "go"
    have s413 := s412.trans s13
    obtain ⟨row, er, em⟩ := table_first tl (by rw [turnLs_len]; omega)
    refine w_lc (w_ilist ?_)
    walk_at "go"
    refine w_prop ?_
    walk_at "go"
    refine ⟨v, fk, Nw w, rfl, gFolk.same s413 ff4, fo, by omega, by omega, fun rF H14 s14 fF => ?_⟩
    refine w_propR fF ⟨rF, fk, _, _, rfl, fF, okC, fun tv' H15 s15 f15 => ?_⟩
    walk_at "go"
    obtain ⟨ta, tus, rfl, _, hta, tal⟩ := f15
    obtain ⟨u, eu, fu⟩ := tal.getR er
    refine w_ixL (SqL.of hta) (atI_of (by decide) eu) ?_
    obtain ⟨ra, us, rfl, sra, hra, ral⟩ := fu
    refine w_ilistK (SqL.of hra) ?_
    have rl := ral.length
    have lr : row.length = (heavy fk).toNat := by rw [← turnLs_len (h := heavy fk) (ws := fk.map Prod.snd) (n := (heavy fk).toNat), ← em, List.length_map]
    refine lc_same gR5 (src_list (xs := us)) (fun i as => All2 (fLine Any H15) as ((row.map Prod.fst).take i)) (by omega) .nil (fun H' s => SqL.of (s _ _ hra)) ?_ ?_
    · rintro i as H16 x H17 N N' hi al16 s16 ⟨rfl, hx⟩ hN hN'
      obtain ⟨d, hd, fd⟩ := ral.get hx
      obtain ⟨T, u, z, rfl, _, hT, f1, f2⟩ := fd
      refine w_gTup (SqT.of (s16 _ _ hT)) rfl ?_
      cases f2
      refine w_gCons (w_name (by simp only [wipe, List.set_cons_zero, List.set_cons_succ]; exact rfl) ?_)
      refine w_gCons (w_name (by simp only [wipe, List.set_cons_zero, List.set_cons_succ]; exact rfl) ?_)
      refine w_gNil ?_
      refine ⟨rfl, ?_⟩
      refine w_yes (w_iteT ?_)
      walk_at "go"
      refine hN _ u _ (Same.refl _) rfl ?_
      rw [← take_snoc (by rw [List.getElem?_map, hd]; rfl)]
      exact al16.append (.one (gLine.any f1))
    · rintro A as H16 nA s16 al16 fA
      rw [show us.length = (row.map Prod.fst).length by rw [rl, List.length_map], take_all, em] at al16
      obtain ⟨A', as', eA, _, hA, aA⟩ := fA
      cases eA
      have eas : as' = as := all2_eq5 aA
      subst eas
      have fA : fLines Any H16 (.ref A) (turnLs (heavy fk) (fk.map Prod.snd) (heavy fk).toNat) := ⟨A, as', rfl, trivial, hA, al16.imp fun _ _ f => gLine.same s16 f⟩
      walk_at "go"
      have s416 := ((s413.trans s14).trans s15).trans s16
      refine ⟨v, .ref A, fk, _, Any, rfl, gFolk.any (gFolk.same s416 ff4), fA, fo, tl, by rw [turnLs_len]; omega, by omega, by omega, fun rG H17 s17 fG => ?_⟩
      refine w_cmpOne (gRule.same (((s14.trans s15).trans s16).trans s17) fE) fG okC fun H18 s18 => ?_
      exact q H18 (K04.trans (Kw.of ((s416.trans s17).trans s18)))
end Ow

set_option Elab.async false
set_option linter.all false
set_option maxRecDepth 100000
namespace Ow
open PySem L2
local macro_rules | `(tactic| walk_at "go") => `(tactic| (repeat (with_reducible first
  | refine w_seq ?_ | refine w_asg ?_ | refine w_ret ?_ | refine w_if ?_ | refine w_next ?_ | refine w_drop ?_
  | refine w_var (by with_unfolding_all rfl) ?_ | refine w_c ?_ | refine w_op ?_ | refine w_cons ?_ | refine w_nil ?_ | refine w_cb ?_ | refine w_call ?_
  | refine w_name (by simp only [List.set_cons_zero, List.set_cons_succ]; exact rfl) ?_
  | refine w_add ?_ | refine w_sub ?_ | refine w_lt ?_ | refine w_le ?_ | refine w_gt ?_ | refine w_ge ?_ | refine w_eqI ?_ | refine w_neI ?_
  | refine w_test ?_ | refine w_testK ?_ | refine w_tB ?_ | refine w_intI ?_ | refine w_intB ?_ | refine w_max2 ?_ | refine w_min2 ?_
  | refine w_lst ?_ | refine w_tup ?_ | refine w_gSub ?_ | refine w_fld ?_ | refine w_un ?_ | refine w_neg ?_ | refine w_par ?_ | refine w_tIf ?_ | refine w_and ?_ | refine w_or ?_ | refine w_not ?_
  | refine w_mod (by omega) ?_ | refine w_div (cdiv (by omega) (by omega)) ?_ | refine w_mul (cmulL (by omega) (by omega)) ?_ | refine w_mul (cmulR (by omega) (by omega)) ?_ | refine w_pow (cpow (by omega) (by omega) (by omega) (by omega)) ?_
  | refine w_ixL (SqL.of (by assumption)) (by with_unfolding_all rfl) ?_)))
local macro_rules | `(tactic| walk_at "st") => `(tactic| (repeat (with_reducible first
  | refine w_seq ?_ | refine w_asg ?_ | refine w_ret ?_ | refine w_next ?_ | refine w_drop ?_
  | refine w_var (by with_unfolding_all rfl) ?_ | refine w_c ?_ | refine w_op ?_ | refine w_cons ?_ | refine w_nil ?_ | refine w_cb ?_ | refine w_call ?_
  | refine w_name (by simp only [List.set_cons_zero, List.set_cons_succ]; exact rfl) ?_
  | refine w_add ?_ | refine w_sub ?_ | refine w_lt ?_ | refine w_le ?_ | refine w_gt ?_ | refine w_ge ?_ | refine w_eqI ?_ | refine w_neI ?_
  | refine w_test ?_ | refine w_testK ?_ | refine w_tB ?_ | refine w_intI ?_ | refine w_intB ?_ | refine w_max2 ?_ | refine w_min2 ?_
  | refine w_lst ?_ | refine w_tup ?_ | refine w_gSub ?_ | refine w_fld ?_ | refine w_un ?_ | refine w_neg ?_ | refine w_par ?_ | refine w_tIf ?_ | refine w_and ?_ | refine w_or ?_ | refine w_not ?_
  | refine w_mod (by omega) ?_ | refine w_div (cdiv (by omega) (by omega)) ?_ | refine w_mul (cmulL (by omega) (by omega)) ?_ | refine w_mul (cmulR (by omega) (by omega)) ?_ | refine w_pow (cpow (by omega) (by omega) (by omega) (by omega)) ?_
  | refine w_ixL (SqL.of (by assumption)) (by with_unfolding_all rfl) ?_)))
/-! ### a rule beside what is none -/
def Any7 (K : PySem.W.Frag) (Z : Ad) (H : Hp) (x : V) : Prop := ∃ t : String, Ty7 H x (.type t) ∧ PySem.W.kitOne K (.type t) (.ref Z.c_Rule) = some false ∧ PySem.W.notFirst K Z.c_Rule (.type t) = true ∧ PySem.W.subIn K (.ref Z.c_Rule) (.type t) = some false
theorem ty7_same {H H' : Hp} {x : V} {t : Value} (s : Same H H') (h : Ty7 H x t) : Ty7 H' x t := by
  cases h with
  | non => exact .non
  | bl b => exact .bl b
  | int i => exact .int i
  | str s => exact .str s
  | lst e => exact .lst (s _ _ e)
  | tup e => exact .tup (s _ _ e)
  | ins e => exact .ins (s _ _ e)
theorem Any7.same {K : PySem.W.Frag} {Z : Ad} {H H' : Hp} {x : V} (s : Same H H') (h : Any7 K Z H x) : Any7 K Z H' x := by
  obtain ⟨t, a, b, c, d⟩ := h
  exact ⟨t, ty7_same s a, b, c, d⟩
section
variable {K : PySem.W.Frag} {Z : Ad} {E : XK} {S : Addr → Prop} {v u : V} {x : Folk × Tabs} {H : Hp} {Q : VK}
theorem w_any1 (f : fRule Z S H v x) (ty : Any7 K Z H u) (q : ∀ H', Same H H' → Q (.bl false) H') : rCmpX K Z.c_Rule (sp_Rule___eq__ K Z) E v u H Q := by
  obtain ⟨t, a, b, c, d⟩ := ty
  exact w_cmpAny f a b c q
theorem w_any2 (f : fRule Z S H v x) (ty : Any7 K Z H u) (q : ∀ H', Same H H' → Q (.bl false) H') : rCmpL K Z.c_Rule (sp_Rule___eq__ K Z) E u v H Q := by
  obtain ⟨t, a, b, c, d⟩ := ty
  have f0 := f
  obtain ⟨r, dx, pv, cv, nv, rfl, _, ha, _, _⟩ := f
  exact ⟨r, dx, _, t, rfl, ha, a, d, .inr ⟨.ref r, u, t, x, S, rfl, f0, a, b, fun H' s => ⟨_, rfl, q H' s⟩⟩⟩
theorem w_any3 (f : fRule Z S H v x) (ty : Any7 K Z H u) (q : ∀ H', Same H H' → Q (.bl true) H') : rCmpXN K Z.c_Rule (sp_Rule___eq__ K Z) E v u H Q := by
  obtain ⟨t, a, b, c, d⟩ := ty
  have f0 := f
  obtain ⟨r, dx, pv, cv, nv, rfl, _, ha, _, _⟩ := f
  exact ⟨r, dx, _, _, rfl, ha, a, c, .inr ⟨.ref r, u, t, x, S, rfl, f0, a, b, fun H' s => ⟨_, rfl, q H' s⟩⟩⟩
end
theorem notself (b : Bool) : decide ((!b) = b) = false := by cases b <;> rfl
def sp__law_fits (K : PySem.W.Frag) (Z : Ad) : Sp := fun vs H Q _ => ∃ (w : Addr) (k : Nat), vs = [.ref w] ∧ Well H w k ∧ k < 1000 ∧ ∀ H', Kw w H H' → Q (.bl true) H'
abbrev N__law_fits : List Str := ["well", "sizes", "plan", "made", "twin", "near_plan", "near", "owed", "some", "last"]
def t__law_fits (K : PySem.W.Frag) (Z : Ad) : TS :=
  (tSeq (tAsg (tOp (rIxL K) (tLst (tCons (tTup (tCons (tC (.int 4)) (tCons (tC (.int 6)) (tCons (tC (.int 6)) (tCons (tC (.int 50)) tNil))))) (tCons (tTup (tCons (tC (.int 8)) (tCons (tC (.int 12)) (tCons (tC (.int 12)) (tCons (tC (.int 99)) tNil))))) (tCons (tTup (tCons (tC (.int 2)) (tCons (tC (.int 2)) (tCons (tC (.int 2)) (tCons (tC (.int 2)) tNil))))) tNil)))) (tCall (sp__law_draw K Z) [] E0 (tCons (tVar 0) (tCons (tC (.int 3)) tNil)))) (gName 1)) (tSeq (tAsg (tCall (sp__law_plan K Z) [] E0 (tCons (tVar 0) (tCons (tVar 1) tNil))) (gName 2)) (tSeq (tPar 3 4 (tCons (tCall (sp__law_made K Z) [] E0 (tCons (tVar 2) tNil)) (tCons (tCall (sp__law_made K Z) [] E0 (tCons (tVar 2) tNil)) tNil))) (tSeq (tIfS (tOr (tTest (tOp (Ow.rCmpO Z.c_Rule true (sp_Rule___eq__ K Z) E0) (tVar 3) (tVar 4))) (tNot (tTest (tOp (Ow.rCmpO Z.c_Rule false (sp_Rule___eq__ K Z) E0) (tVar 3) (tVar 4))))) (tRet (tC (.bl false))) tNext) (tSeq (tIfS (tOr (tTest (tOp (Ow.rCmpO Z.c_Rule true (sp_Rule___eq__ K Z) E0) (tVar 4) (tVar 3))) (tNot (tTest (tOp (Ow.rCmpO Z.c_Rule false (sp_Rule___eq__ K Z) E0) (tVar 4) (tVar 3))))) (tRet (tC (.bl false))) tNext) (tSeq (tAsg (tCall (sp__law_changed K Z) [] E0 (tCons (tVar 0) (tCons (tVar 2) (tCons (tOp (rIxT K) (tVar 1) (tC (.int 3))) tNil)))) (gName 5)) (tSeq (tPar 6 7 (tCons (tCall (sp__law_made K Z) [] E0 (tCons (tVar 5) tNil)) (tCons (tCall (sp__law_alike K Z) [] E0 (tCons (tVar 2) (tCons (tVar 5) tNil))) tNil))) (tSeq (tFor (iTup K (tTup (tCons (tVar 3) (tCons (tVar 4) tNil)))) (gName 8) (tSeq (tIfS (tOr (tTest (tOp rNe (tOp (Ow.rCmpO Z.c_Rule false (sp_Rule___eq__ K Z) E0) (tVar 8) (tVar 6)) (tVar 7))) (tTest (tOp rNe (tOp (Ow.rCmpO Z.c_Rule false (sp_Rule___eq__ K Z) E0) (tVar 6) (tVar 8)) (tVar 7)))) (tRet (tC (.bl false))) tNext) (tIfS (tOr (tTest (tOp rEq (tOp (Ow.rCmpO Z.c_Rule true (sp_Rule___eq__ K Z) E0) (tVar 8) (tVar 6)) (tVar 7))) (tTest (tOp rEq (tOp (Ow.rCmpO Z.c_Rule true (sp_Rule___eq__ K Z) E0) (tVar 6) (tVar 8)) (tVar 7)))) (tRet (tC (.bl false))) tNext))) (tSeq (tFor (iTup K (tTup (tCons (tVar 2) (tCons (tOp (rIxT K) (tVar 2) (tC (.int 0))) (tCons (tOp (rIxT K) (tVar 2) (tC (.int 1))) (tCons (tProp Z.c_Rule (sp_Rule_states K Z) [] E0 (tVar 3)) (tCons (tC (.str "")) (tCons (tC .non) (tCons (tCB (Ow.rLenO Z.c_Rule (sp_Rule___len__ K Z) E0) (tCons (tVar 3) tNil)) (tCons (tC (.bl true)) (tCons (tCall (sp__law_heavy K Z) [] E0 (tCons (tOp (rIxT K) (tVar 2) (tC (.int 0))) tNil)) tNil))))))))))) (gName 8) (tSeq (tIfS (tOr (tTest (tOp (Ow.rCmpX K Z.c_Rule (sp_Rule___eq__ K Z) E0) (tVar 3) (tVar 8))) (tTest (tOp (Ow.rCmpL K Z.c_Rule (sp_Rule___eq__ K Z) E0) (tVar 8) (tVar 3)))) (tRet (tC (.bl false))) tNext) (tIfS (tNot (tTest (tOp (Ow.rCmpXN K Z.c_Rule (sp_Rule___eq__ K Z) E0) (tVar 3) (tVar 8)))) (tRet (tC (.bl false))) tNext))) (tSeq (tAsg (tMake Z.c_Rule (sp_Rule___init__ K Z) [] E0 (tCons (tProp Z.c_Rule (sp_Rule_people K Z) [] E0 (tVar 3)) (tCons (tProp Z.c_Rule (sp_Rule_states K Z) [] E0 (tVar 3)) tNil))) (gName 9)) (tRet (tAndV (tOp (Ow.rCmpO Z.c_Rule false (sp_Rule___eq__ K Z) E0) (tVar 3) (tVar 9)) (tAndV (tOp rEq (tOp (Ow.rCmpO Z.c_Rule false (sp_Rule___eq__ K Z) E0) (tVar 6) (tVar 9)) (tVar 7)) (tCall (sp__law_tables_right K Z) [] E0 (tCons (tVar 0) (tCons (tOp (rIxT K) (tVar 2) (tC (.int 0))) tNil))))))))))))))))
theorem l__law_fits {K : PySem.W.Frag} {Z : Ad} {vs : List V} {H : Hp} {Q : VK} {E : XK} : sp__law_fits K Z vs H Q E → vs.length = 1 := by
  rintro ⟨_, _, rfl, _⟩; rfl
theorem r__law_fits {K : PySem.W.Frag} {Z : Ad} {vs : List V} {H : Hp} {Q : VK} {E : XK} (R : RuleK K Z) (h : sp__law_fits K Z vs H Q E) : t__law_fits K Z { nx := fun _ H' => Q .non H', rt := Q } (start N__law_fits vs) H := by
  obtain ⟨w, k, rfl, W, hk, q⟩ := h
  show t__law_fits K Z _ [some (.ref w), none, none, none, none, none, none, none, none, none] H
  unfold t__law_fits
  have gP := gT gFolk gTabs
  walk_at "go"
  refine w_tupN (by show 4 ≤ 100000; decide) fun t1 H1 n1 c1 => ?_
  have s1 := c1.same n1
  walk_at "go"
  refine w_tupN (by show 4 ≤ 100000; decide) fun t2 H2 n2 c2 => ?_
  have s2 := c2.same n2
  walk_at "go"
  refine w_tupN (by show 4 ≤ 100000; decide) fun t3 H3 n3 c3 => ?_
  have s3 := c3.same n3
  walk_at "go"
  refine w_lstN (by show 3 ≤ 100000; decide) fun l4 H4 n4 c4 => ?_
  have s4 := c4.same n4
  have S4 := ((s1.trans s2).trans s3).trans s4
  have W4 := W.same S4
  have h1 := s4 _ _ (s3 _ _ (s2 _ _ c1.at_))
  have h2 := s4 _ _ (s3 _ _ c2.at_)
  have h3 := s4 _ _ c3.at_
  have t1w := W.ne n1
  have t2w := W.ne (dom_same s1 t2 n2)
  have t3w := W.ne (dom_same (s1.trans s2) t3 n3)
  have l4w := W.ne (dom_same ((s1.trans s2).trans s3) l4 n4)
  walk_at "go"
  refine w_draw W4 (by omega) (by omega) (by omega) fun sz_ H5 z0 z1 K5 W5 => ?_
  have K05 : Kw w H H5 := (Kw.of S4).trans K5
  obtain ⟨z, a0, a1, a2, a3, ez, hz, zw, b0, b1, b2, b3, b4, b5, b6, b7⟩ : ∃ (z : Addr) (a0 a1 a2 a3 : Int), atI [V.ref t1, V.ref t2, V.ref t3] sz_ = some (.ref z) ∧ H5 z = some (.tup [.int a0, .int a1, .int a2, .int a3]) ∧ z ≠ w ∧ 1 ≤ a0 ∧ a0 ≤ 8 ∧ 1 ≤ a1 ∧ a1 ≤ 12 ∧ 1 ≤ a2 ∧ a2 ≤ 12 ∧ 0 ≤ a3 ∧ a3 ≤ 1000000 := by
    have : sz_ = 0 ∨ sz_ = 1 ∨ sz_ = 2 := by omega
    rcases this with rfl | rfl | rfl
    · exact ⟨t1, 4, 6, 6, 50, rfl, K5 _ _ t1w h1, t1w, by decide, by decide, by decide, by decide, by decide, by decide, by decide, by decide⟩
    · exact ⟨t2, 8, 12, 12, 99, rfl, K5 _ _ t2w h2, t2w, by decide, by decide, by decide, by decide, by decide, by decide, by decide, by decide⟩
    · exact ⟨t3, 2, 2, 2, 2, rfl, K5 _ _ t3w h3, t3w, by decide, by decide, by decide, by decide, by decide, by decide, by decide, by decide⟩
  refine w_ixL (SqL.of (K5 _ _ l4w c4.at_)) ez ?_
  clear h1 h2 h3 t1w t2w t3w l4w ez c1 c2 c3 c4 s1 s2 s3 s4 S4 K5 n1 n2 n3 n4 W4
  walk_at "go"
  refine ⟨w, _, z, a0, a1, a2, a3, rfl, W5, by omega, hz, zw, b0, b1, b2, by omega, b4, by omega, b6, b7, fun pv fk ts H6 K6 W6 fp fo hl hh tok tl => ?_⟩
  have fpw : fT fFolk fTabs (Nw w) H6 pv (fk, ts) := gP.nw W5.some fp
  have hz6 := K6 _ _ zw hz
  have K06 := K05.trans K6
  have oS : PlanS fk ts := ⟨⟨fo, tok.mono (by decide), by omega, by omega, by omega⟩, by omega, by omega, by omega⟩
  have ok := oS.ok
  walk_at "go"
  refine ⟨pv, fk, ts, Nw w, rfl, fpw, ok, fun mv H7 s7 fm => ?_⟩
  walk_at "go"
  refine ⟨pv, fk, ts, Nw w, rfl, gP.same s7 fpw, ok, fun tv H8 s8 ft => ?_⟩
  walk_at "go"
  refine w_parK (by simp only [List.set_cons_zero, List.set_cons_succ]; exact rfl) ?_
  have fm8 : fRule Z (Nw w) H8 mv (fk, ts) := gRule.mono (fun a s => W6.ne s) (gRule.same s8 fm)
  have ft8 : fRule Z (Nw w) H8 tv (fk, ts) := gRule.mono (fun a s => (W6.same s7).ne s) ft
  have s68 := s7.trans s8
  walk_at "go"
  refine w_cmpOne fm8 ft8 ok fun J0 r0 => ?_
  have j0 := r0
  walk_at "go"
  refine w_iteF' rfl ?_
  walk_at "go"
  refine w_cmpOne (gRule.same j0 fm8) (gRule.same j0 ft8) ok fun J1 r1 => ?_
  have j1 := j0.trans r1
  walk_at "go"
  refine w_iteF' rfl ?_
  walk_at "go"
  refine w_cmpOne (gRule.same j1 ft8) (gRule.same j1 fm8) ok fun J2 r2 => ?_
  have j2 := j1.trans r2
  walk_at "go"
  refine w_iteF' rfl ?_
  walk_at "go"
  refine w_cmpOne (gRule.same j2 ft8) (gRule.same j2 fm8) ok fun J3 r3 => ?_
  have j3 := j2.trans r3
  walk_at "go"
  refine w_iteF' rfl ?_
  walk_at "go"
  have s63 := s68.trans j3
  have W3 := W6.same s63
  have fp3 := gP.same s63 fpw
  have fm3 := gRule.same j3 fm8
  have ft3 := gRule.same j3 ft8
  refine w_ixT (SqT.of (s63 _ _ hz6)) (by with_unfolding_all rfl) ?_
  walk_at "go"
  refine ⟨w, _, pv, fk, ts, a3, rfl, W3, by omega, fp3, fo, by omega, by omega, tok, by omega, b6, b7, fun nv fk' ts' H9 K9 W9 fn oN => ?_⟩
  have fp9 := gP.kw K9 fp3
  have fm9 := gRule.kw K9 fm3
  have ft9 := gRule.kw K9 ft3
  have okN := oN.ok
  walk_at "go"
  refine ⟨nv, fk', ts', Nw w, rfl, fn, okN, fun ne H10 s10 fe => ?_⟩
  have fe10 : fRule Z (Nw w) H10 ne (fk', ts') := gRule.mono (fun a s => W9.ne s) fe
  walk_at "go"
  refine ⟨pv, nv, fk, fk', ts, ts', Nw w, Nw w, rfl, gP.same s10 fp9, gP.same s10 fn, oS, oN, fun H11 s11 => ?_⟩
  have s911 := s10.trans s11
  walk_at "go"
  refine w_parK (by simp only [List.set_cons_zero, List.set_cons_succ]; exact rfl) ?_
  have fe11 := gRule.same s11 fe10
  have fm11 := gRule.same s911 fm9
  have ft11 := gRule.same s911 ft9
  have fp11 := gP.same s911 fp9
  have K011 : Kw w H H11 := ((K06.trans (Kw.of s63)).trans K9).trans (Kw.of s911)
  have W11 := W9.same s911
  clear fm fm8 fm3 fm9 ft ft8 ft3 ft9 fe fe10 fp fpw fp3 fp9 fn K05 K06 K6 K9 s7 s8 s68 s63 s10 s11 s911 r0 r1 r2 r3 j0 j1 j2 j3 hz hz6 W5 W6 W9 W3
  walk_at "go"
  refine w_for (w_itup ?_)
  walk_at "go"
  refine w_tupN (by show 2 ≤ 100000; decide) fun P H12 nP c12 => ?_
  have s12 := c12.same nP
  refine w_itupK (SqT.of c12.at_) ?_
  refine for_go (src_tup (xs := [mv, tv])) (fun i σ H' => ∃ o8, σ = [some (.ref w), some (.ref z), some pv, some mv, some tv, some nv, some ne, some (.bl (decide (fk = fk' ∧ ts = ts'))), o8, none] ∧ Same H12 H') ⟨_, rfl, Same.refl _⟩ (fun i σ H' _ h => ?_) ?_ ?_
  · obtain ⟨_, _, s⟩ := h
    exact SqT.of (s _ _ c12.at_)
  · rintro i σ Hq x H13 hi ⟨o8, rfl, s13⟩ ⟨rfl, ex⟩
    have s1113 := s12.trans s13
    have fx : fRule Z (Nw w) H13 x (fk, ts) := by
      match i, hi, ex with
      | 0, _, ex => cases ex; exact gRule.same s1113 fm11
      | 1, _, ex => cases ex; exact gRule.same s1113 ft11
    have fe13 := gRule.same s1113 fe11
    have pb : (fk' = fk ∧ ts' = ts) ↔ (fk = fk' ∧ ts = ts') := ⟨fun h => ⟨h.1.symm, h.2.symm⟩, fun h => ⟨h.1.symm, h.2.symm⟩⟩
    refine w_name (by simp only [List.set_cons_zero, List.set_cons_succ]; exact rfl) ?_
    walk_at "go"
    refine w_cmp2 fx fe13 ok okN (p := fk = fk' ∧ ts = ts') Iff.rfl fun G1 g1 => ?_
    walk_at "go"
    refine w_neB ?_
    walk_at "go"
    refine w_iteF' (by simp) ?_
    walk_at "go"
    refine w_cmp2 (gRule.same g1 fe13) (gRule.same g1 fx) okN ok (p := fk = fk' ∧ ts = ts') pb fun G2 g2 => ?_
    have k2 := g1.trans g2
    walk_at "go"
    refine w_neB ?_
    walk_at "go"
    refine w_iteF' (by simp) ?_
    walk_at "go"
    refine w_cmp2 (gRule.same k2 fx) (gRule.same k2 fe13) ok okN (p := fk = fk' ∧ ts = ts') Iff.rfl fun G3 g3 => ?_
    have k3 := k2.trans g3
    walk_at "go"
    refine w_eqB5 ?_
    walk_at "go"
    refine w_iteF' (by rw [if_pos rfl]; exact notself _) ?_
    walk_at "go"
    refine w_cmp2 (gRule.same k3 fe13) (gRule.same k3 fx) okN ok (p := fk = fk' ∧ ts = ts') pb fun G4 g4 => ?_
    have k4 := k3.trans g4
    walk_at "go"
    refine w_eqB5 ?_
    walk_at "go"
    refine w_iteF' (by rw [if_pos rfl]; exact notself _) ?_
    walk_at "go"
    exact ⟨_, rfl, s13.trans k4⟩
  rintro σ H13 ⟨o8, rfl, s13⟩
  have s1113 := s12.trans s13
  have fp13 := gP.same s1113 fp11
  have fm13 := gRule.same s1113 fm11
  walk_at "go"
  refine w_for (w_itup ?_)
  walk_at "go"
  refine w_ixP0 fp13 fun fv ff => ?_
  walk_at "go"
  refine w_ixP1 fp13 fun gv fg => ?_
  walk_at "go"
  refine w_prop ?_
  walk_at "go"
  refine w_propR fm13 ⟨mv, fk, ts, _, rfl, fm13, ok, fun sv H14 s14 fs => ?_⟩
  walk_at "go"
  refine w_lenR (gRule.same s14 fm13) ok fun H15 s15 => ?_
  have s1315 := s14.trans s15
  walk_at "go"
  refine w_ixP0 (gP.same s1315 fp13) fun fv2 ff2 => ?_
  walk_at "go"
  refine ⟨fv2, fk, Nw w, rfl, ff2, by omega, fun H16 s16 => ?_⟩
  walk_at "go"
  refine w_tupN (by show 9 ≤ 100000; decide) fun P2 H17 nP2 c17 => ?_
  have s17 := c17.same nP2
  have s1317 := (s1315.trans s16).trans s17
  have any : ∀ x ∈ [pv, fv, gv, sv, V.str "", V.non, V.int ts.length, V.bl true, V.int (heavy fk)], Any7 K Z H17 x := by
    intro x m
    simp only [List.mem_cons, List.not_mem_nil, or_false] at m
    rcases m with rfl | rfl | rfl | rfl | rfl | rfl | rfl | rfl | rfl
    · obtain ⟨T, u, t, rfl, _, hT, _, _⟩ := fp13
      exact ⟨"tuple", .tup (s1317 _ _ hT), R.nk_tuple, R.nf_tuple, R.nb_tuple⟩
    · obtain ⟨a, us, rfl, _, ha, _⟩ := ff
      exact ⟨"list", .lst (s1317 _ _ ha), R.nk_list, R.nf_list, R.nb_list⟩
    · obtain ⟨a, us, rfl, _, ha, _⟩ := fg
      exact ⟨"list", .lst (s1317 _ _ ha), R.nk_list, R.nf_list, R.nb_list⟩
    · obtain ⟨a, us, rfl, _, ha, _⟩ := fs
      exact ⟨"list", .lst (s17 _ _ (s16 _ _ (s15 _ _ ha))), R.nk_list, R.nf_list, R.nb_list⟩
    · exact ⟨"str", .str _, R.nk_str, R.nf_str, R.nb_str⟩
    · exact ⟨"NoneType", .non, R.nk_NoneType, R.nf_NoneType, R.nb_NoneType⟩
    · exact ⟨"int", .int _, R.nk_int, R.nf_int, R.nb_int⟩
    · exact ⟨"bool", .bl _, R.nk_bool, R.nf_bool, R.nb_bool⟩
    · exact ⟨"int", .int _, R.nk_int, R.nf_int, R.nb_int⟩
  refine w_itupK (SqT.of c17.at_) ?_
  have fm17 := gRule.same s1317 fm13
  refine for_go (src_tup (xs := [pv, fv, gv, sv, V.str "", V.non, V.int ts.length, V.bl true, V.int (heavy fk)])) (fun i σ H' => ∃ o8, σ = [some (.ref w), some (.ref z), some pv, some mv, some tv, some nv, some ne, some (.bl (decide (fk = fk' ∧ ts = ts'))), o8, none] ∧ Same H17 H') ⟨_, rfl, Same.refl _⟩ (fun i σ H' _ h => ?_) ?_ ?_
  · obtain ⟨_, _, s⟩ := h
    exact SqT.of (s _ _ c17.at_)
  · rintro i σ Hq x H18 hi ⟨o8, rfl, s18⟩ ⟨rfl, ex⟩
    have ty := (any x (List.mem_of_getElem? ex)).same s18
    have fm18 := gRule.same s18 fm17
    refine w_name (by simp only [List.set_cons_zero, List.set_cons_succ]; exact rfl) ?_
    walk_at "go"
    refine w_any1 fm18 ty fun G1 g1 => ?_
    walk_at "go"
    refine w_iteF' rfl ?_
    walk_at "go"
    refine w_any2 (gRule.same g1 fm18) (ty.same g1) fun G2 g2 => ?_
    have k2 := g1.trans g2
    walk_at "go"
    refine w_iteF' rfl ?_
    walk_at "go"
    refine w_any3 (gRule.same k2 fm18) (ty.same k2) fun G3 g3 => ?_
    have k3 := k2.trans g3
    walk_at "go"
    refine w_iteF' rfl ?_
    walk_at "go"
    exact ⟨_, rfl, s18.trans k3⟩
  rintro σ H18 ⟨o8, rfl, s18⟩
  have s1118 := (s1113.trans s1317).trans s18
  have fm18 := gRule.same s18 fm17
  have W18 := W11.same s1118
  walk_at "go"
  refine w_make ?_
  walk_at "go"
  refine w_prop ?_
  walk_at "go"
  refine w_propR fm18 ⟨mv, fk, ts, _, rfl, fm18, fun l us H19 s19 nl hl al => ?_⟩
  walk_at "go"
  refine w_prop ?_
  walk_at "go"
  have fm19 := gRule.same s19 fm18
  refine w_propR fm19 ⟨mv, fk, ts, _, rfl, fm19, ok, fun qv H20 s20 fq => ?_⟩
  walk_at "go"
  have ffl : fFolk (fun a => H20 a ≠ none) H20 (.ref l) fk := gFolk.mono (fun a s => s.2) (gFolk.there (S := Any) ⟨l, us, rfl, trivial, s20 _ _ hl, al.imp fun _ _ f => (gT gS gI).any ((gT gS gI).same (s19.trans s20) f)⟩)
  have fql : fTabs (fun a => H20 a ≠ none) H20 qv ts := gTabs.mono (fun a s => s.2) (gTabs.there fq)
  refine w_mkK fun x dx H21 nx s21 hx => ?_
  refine ⟨x, dx, .ref l, qv, fk, ts, fun a => a ≠ x, rfl, hx, gFolk.same s21 (gFolk.mono (fun a s e => s (e ▸ nx)) ffl), gTabs.same s21 (gTabs.mono (fun a s e => s (e ▸ nx)) fql), ok, fun a h => h, fun H22 K22 f22 => ⟨rfl, ?_⟩⟩
  have s1820 := s19.trans s20
  have s2022 : Same H20 H22 := fun b o e => K22 b o (ne_of_none e nx) (s21 _ _ e)
  have s1822 := s1820.trans s2022
  have s1122 := s1118.trans s1822
  walk_at "go"
  refine w_andV ?_
  walk_at "go"
  refine w_cmpOne (gRule.same s1822 fm18) f22 ok fun H23 s23 => ?_
  refine w_andVK ?_
  refine w_iteT' rfl ?_
  refine w_andV ?_
  walk_at "go"
  refine w_cmp2 (gRule.same (s1122.trans s23) fe11) (gRule.same s23 f22) okN ok (p := fk = fk' ∧ ts = ts') ⟨fun h => ⟨h.1.symm, h.2.symm⟩, fun h => ⟨h.1.symm, h.2.symm⟩⟩ fun H24 s24 => ?_
  walk_at "go"
  refine w_eqB5 ?_
  refine w_andVK ?_
  refine w_iteT' (by simp) ?_
  have s1124 := (s1122.trans s23).trans s24
  have fp24 := gP.same s1124 fp11
  walk_at "go"
  refine w_ixP0 fp24 fun fv3 ff3 => ?_
  walk_at "go"
  refine ⟨w, _, fv3, fk, rfl, W11.same s1124, by omega, ff3, fo, by omega, by omega, fun H25 K25 => ?_⟩
  exact q H25 ((K011.trans (Kw.of s1124)).trans K25)
/-! ### the law -/
theorem sqL_same {K : PySem.W.Frag} {H H' : Hp} {a : Addr} {xs : List V} (s : Same H H') (h : SqL K H a xs) : SqL K H' a xs := Or.imp (fun r => Or.imp (s _ _) (fun ⟨o, e⟩ => ⟨o, s _ _ e⟩) r) id h
def sp_law (K : PySem.W.Frag) (Z : Ad) : Sp := fun vs H Q _ => ∃ (a : Addr) (ns : List Int), vs = [.ref a] ∧ SqL K H a (ns.map V.int) ∧ ns.length ≤ 63 ∧ ∀ H', Q (.bl true) H'
abbrev N_law : List Str := ["script", "place"]
def t_law (K : PySem.W.Frag) (Z : Ad) : TS :=
  (tSeq (tFor (iRng1 (tCons (tCB rMin2 (tCons (tC (.int 8)) (tCons (tCB rMax2 (tCons (tC (.int 1)) (tCons (tCB (rLen K) (tCons (tVar 0) tNil)) tNil))) tNil))) tNil)) (gName 1) (tIfS (tNot (tB (tCall (sp__law_fits K Z) [] E0 (tCons (tCall (sp__law_well K Z) [] E0 (tCons (tVar 0) (tCons (tVar 1) tNil))) tNil)))) (tRet (tC (.bl false))) tNext)) (tRet (tC (.bl true))))
theorem l_law {K : PySem.W.Frag} {Z : Ad} {vs : List V} {H : Hp} {Q : VK} {E : XK} : sp_law K Z vs H Q E → vs.length = 1 := by
  rintro ⟨_, _, rfl, _⟩; rfl
theorem r_law {K : PySem.W.Frag} {Z : Ad} {vs : List V} {H : Hp} {Q : VK} {E : XK} (R : RuleK K Z) (h : sp_law K Z vs H Q E) : t_law K Z { nx := fun _ H' => Q .non H', rt := Q } (start N_law vs) H := by
  obtain ⟨a, ns, rfl, hs, hl, q⟩ := h
  show t_law K Z _ [some (.ref a), none] H
  unfold t_law
  walk_at "go"
  refine w_for (w_rng1 ?_)
  walk_at "go"
  refine w_len hs ?_
  rw [List.length_map]
  walk_at "go"
  obtain ⟨n, en, n0, n1⟩ : ∃ n : Int, (if (if (ns.length : Int) > 1 then (ns.length : Int) else 1) < 8 then (if (ns.length : Int) > 1 then (ns.length : Int) else 1) else 8) = n ∧ 0 ≤ n ∧ n ≤ 63 := by
    refine ⟨_, rfl, ?_, ?_⟩ <;> (repeat' split) <;> omega
  rw [en]
  refine w_rng1K (by omega) (by omega) ?_
  refine for_go (src_range 0 n.toNat) (fun i σ H' => ∃ o, σ = [some (.ref a), o] ∧ Same H H') ⟨_, rfl, Same.refl _⟩ (fun _ _ _ _ _ => trivial) ?_ ?_
  · rintro i σ H1 x H2 hi ⟨o, rfl, s1⟩ ⟨rfl, rfl⟩
    refine w_name (by simp only [List.set_cons_zero, List.set_cons_succ]; exact rfl) ?_
    walk_at "go"
    refine ⟨a, ns, 0 + (i : Int), rfl, sqL_same s1 hs, by omega, by omega, fun l H3 nl s3 W3 => ?_⟩
    walk_at "go"
    refine ⟨l, 0, rfl, W3, by decide, fun H4 K4 => ?_⟩
    walk_at "go"
    refine w_iteF ?_
    walk_at "go"
    have nlH := dom_same s1 l nl
    exact ⟨_, rfl, fun b o e => K4 b o (ne_of_none e nlH) (s3 _ _ (s1 _ _ e))⟩
  · rintro σ H1 ⟨o, rfl, s1⟩
    walk_at "go"
    exact q H1
end Ow

set_option Elab.async false
set_option linter.all false
set_option maxRecDepth 100000
set_option maxHeartbeats 4000000
namespace Ow
open PySem L2
def top (i : Nat) : Stmt := PySem.Challenge.pw_owedafresh_k05_equal_rules.main.body.getD i (.Pass ⟨0, 0, 0, 0⟩)
abbrev s__law_draw : Stmt := top 27
theorem sc__law_draw : FnScope N__law_draw ["well", "many"] (defScope s__law_draw) := ⟨rfl, rfl, rfl, by decide +kernel, rfl, by decide +kernel, by decide +kernel⟩
abbrev s__law_titles : Stmt := top 28
theorem sc__law_titles : FnScope N__law_titles ["well", "many"] (defScope s__law_titles) := ⟨rfl, rfl, rfl, by decide +kernel, rfl, by decide +kernel, by decide +kernel⟩
abbrev s__law_folk : Stmt := top 29
theorem sc__law_folk : FnScope N__law_folk ["well", "most", "heaviest"] (defScope s__law_folk) := ⟨rfl, rfl, rfl, by decide +kernel, rfl, by decide +kernel, by decide +kernel⟩
abbrev s__law_heavy : Stmt := top 30
theorem sc__law_heavy : FnScope N__law_heavy ["folk"] (defScope s__law_heavy) := ⟨rfl, rfl, rfl, by decide +kernel, rfl, by decide +kernel, by decide +kernel⟩
abbrev s__law_by_table : Stmt := top 33
theorem sc__law_by_table : FnScope N__law_by_table ["folk", "lines"] (defScope s__law_by_table) := ⟨rfl, rfl, rfl, by decide +kernel, rfl, by decide +kernel, by decide +kernel⟩
abbrev s__law_cents : Stmt := top 31
theorem sc__law_cents : FnScope N__law_cents ["well", "many", "rest", "most"] (defScope s__law_cents) := ⟨rfl, rfl, rfl, by decide +kernel, rfl, by decide +kernel, by decide +kernel⟩
abbrev s__law_lines : Stmt := top 32
theorem sc__law_lines : FnScope N__law_lines ["well", "folk", "most"] (defScope s__law_lines) := ⟨rfl, rfl, rfl, by decide +kernel, rfl, by decide +kernel, by decide +kernel⟩
abbrev s__law_bent : Stmt := top 36
theorem sc__law_bent : FnScope N__law_bent ["well", "tables", "most"] (defScope s__law_bent) := ⟨rfl, rfl, rfl, by decide +kernel, rfl, by decide +kernel, by decide +kernel⟩
abbrev s__law_any_states : Stmt := top 34
theorem sc__law_any_states : FnScope N__law_any_states ["well", "folk", "counts", "most"] (defScope s__law_any_states) := ⟨rfl, rfl, rfl, by decide +kernel, rfl, by decide +kernel, by decide +kernel⟩
abbrev s__law_copied : Stmt := top 35
theorem sc__law_copied : FnScope N__law_copied ["well", "tables", "most"] (defScope s__law_copied) := ⟨rfl, rfl, rfl, by decide +kernel, rfl, by decide +kernel, by decide +kernel⟩
abbrev s__law_renumbered : Stmt := top 37
theorem sc__law_renumbered : FnScope N__law_renumbered ["well", "tables"] (defScope s__law_renumbered) := ⟨rfl, rfl, rfl, by decide +kernel, rfl, by decide +kernel, by decide +kernel⟩
abbrev s__law_plan : Stmt := top 38
theorem sc__law_plan : FnScope N__law_plan ["well", "sizes"] (defScope s__law_plan) := ⟨rfl, rfl, rfl, by decide +kernel, rfl, by decide +kernel, by decide +kernel⟩
abbrev s_is_name : Stmt := top 12
theorem sc_is_name : FnScope N_is_name ["name"] (defScope s_is_name) := ⟨rfl, rfl, rfl, by decide +kernel, rfl, by decide +kernel, by decide +kernel⟩
abbrev s_checked_weights : Stmt := top 13
theorem sc_checked_weights : FnScope N_checked_weights ["people"] (defScope s_checked_weights) := ⟨rfl, rfl, rfl, by decide +kernel, rfl, by decide +kernel, by decide +kernel⟩
abbrev s_wrong_rest : Stmt := top 14
theorem sc_wrong_rest : FnScope N_wrong_rest ["row", "whole", "many", "most"] (defScope s_wrong_rest) := ⟨rfl, rfl, rfl, by decide +kernel, rfl, by decide +kernel, by decide +kernel⟩
abbrev s_check_states : Stmt := top 15
theorem sc_check_states : FnScope N_check_states ["states", "whole", "many"] (defScope s_check_states) := ⟨rfl, rfl, rfl, by decide +kernel, rfl, by decide +kernel, by decide +kernel⟩
abbrev s_columns_of : Stmt := top 16
theorem sc_columns_of : FnScope N_columns_of ["rows"] (defScope s_columns_of) := ⟨rfl, rfl, rfl, by decide +kernel, rfl, by decide +kernel, by decide +kernel⟩
abbrev s_Rule___init__ : Stmt := inClass (top 18) 0
theorem sc_Rule___init__ : FnScope N_Rule___init__ ["self", "people", "states"] (defScope s_Rule___init__) := ⟨rfl, rfl, rfl, by decide +kernel, rfl, by decide +kernel, by decide +kernel⟩
abbrev s__law_copy : Stmt := top 39
theorem sc__law_copy : FnScope N__law_copy ["tables"] (defScope s__law_copy) := ⟨rfl, rfl, rfl, by decide +kernel, rfl, by decide +kernel, by decide +kernel⟩
abbrev s__law_made : Stmt := top 40
theorem sc__law_made : FnScope N__law_made ["plan"] (defScope s__law_made) := ⟨rfl, rfl, rfl, by decide +kernel, rfl, by decide +kernel, by decide +kernel⟩
abbrev s_Rule___eq__ : Stmt := inClass (top 18) 10
theorem sc_Rule___eq__ : FnScope N_Rule___eq__ ["self", "other"] (defScope s_Rule___eq__) := ⟨rfl, rfl, rfl, by decide +kernel, rfl, by decide +kernel, by decide +kernel⟩
abbrev s__law_one_more : Stmt := top 41
theorem sc__law_one_more : FnScope N__law_one_more ["well", "folk", "tables"] (defScope s__law_one_more) := ⟨rfl, rfl, rfl, by decide +kernel, rfl, by decide +kernel, by decide +kernel⟩
abbrev s__law_other_folk : Stmt := top 42
theorem sc__law_other_folk : FnScope N__law_other_folk ["well", "plan", "most"] (defScope s__law_other_folk) := ⟨rfl, rfl, rfl, by decide +kernel, rfl, by decide +kernel, by decide +kernel⟩
abbrev s__law_changed : Stmt := top 43
theorem sc__law_changed : FnScope N__law_changed ["well", "plan", "most"] (defScope s__law_changed) := ⟨rfl, rfl, rfl, by decide +kernel, rfl, by decide +kernel, by decide +kernel⟩
abbrev s__law_alike : Stmt := top 44
theorem sc__law_alike : FnScope N__law_alike ["plan", "twin_plan"] (defScope s__law_alike) := ⟨rfl, rfl, rfl, by decide +kernel, rfl, by decide +kernel, by decide +kernel⟩
abbrev s_rows_of : Stmt := top 17
theorem sc_rows_of : FnScope N_rows_of ["columns"] (defScope s_rows_of) := ⟨rfl, rfl, rfl, by decide +kernel, rfl, by decide +kernel, by decide +kernel⟩
abbrev s_Rule_states : Stmt := inClass (top 18) 2
theorem sc_Rule_states : FnScope N_Rule_states ["self"] (defScope s_Rule_states) := ⟨rfl, rfl, rfl, by decide +kernel, rfl, by decide +kernel, by decide +kernel⟩
abbrev s_Rule___len__ : Stmt := inClass (top 18) 9
theorem sc_Rule___len__ : FnScope N_Rule___len__ ["self"] (defScope s_Rule___len__) := ⟨rfl, rfl, rfl, by decide +kernel, rfl, by decide +kernel, by decide +kernel⟩
abbrev s_Rule_people : Stmt := inClass (top 18) 1
theorem sc_Rule_people : FnScope N_Rule_people ["self"] (defScope s_Rule_people) := ⟨rfl, rfl, rfl, by decide +kernel, rfl, by decide +kernel, by decide +kernel⟩
abbrev s_check_rows : Stmt := top 19
theorem sc_check_rows : FnScope N_check_rows ["rows", "whole", "many"] (defScope s_check_rows) := ⟨rfl, rfl, rfl, by decide +kernel, rfl, by decide +kernel, by decide +kernel⟩
abbrev s_table_nexts : Stmt := top 21
theorem sc_table_nexts : FnScope N_table_nexts ["whole"] (defScope s_table_nexts) := ⟨rfl, rfl, rfl, by decide +kernel, rfl, by decide +kernel, by decide +kernel⟩
abbrev s_table_cents : Stmt := top 20
theorem sc_table_cents : FnScope N_table_cents ["weights", "columns", "whole"] (defScope s_table_cents) := ⟨rfl, rfl, rfl, by decide +kernel, rfl, by decide +kernel, by decide +kernel⟩
abbrev s_by_rows : Stmt := top 22
theorem sc_by_rows : FnScope N_by_rows ["people", "rows"] (defScope s_by_rows) := ⟨rfl, rfl, rfl, by decide +kernel, rfl, by decide +kernel, by decide +kernel⟩
abbrev s_with_cent : Stmt := top 23
theorem sc_with_cent : FnScope N_with_cent ["weights", "row"] (defScope s_with_cent) := ⟨rfl, rfl, rfl, by decide +kernel, rfl, by decide +kernel, by decide +kernel⟩
abbrev s_in_turn : Stmt := top 24
theorem sc_in_turn : FnScope N_in_turn ["people"] (defScope s_in_turn) := ⟨rfl, rfl, rfl, by decide +kernel, rfl, by decide +kernel, by decide +kernel⟩
abbrev s__law_tables_right : Stmt := top 45
theorem sc__law_tables_right : FnScope N__law_tables_right ["well", "folk"] (defScope s__law_tables_right) := ⟨rfl, rfl, rfl, by decide +kernel, rfl, by decide +kernel, by decide +kernel⟩
abbrev s__law_fits : Stmt := top 46
theorem sc__law_fits : FnScope N__law_fits ["well"] (defScope s__law_fits) := ⟨rfl, rfl, rfl, by decide +kernel, rfl, by decide +kernel, by decide +kernel⟩
abbrev s__law_well : Stmt := top 26
theorem sc__law_well : FnScope N__law_well ["script", "place"] (defScope s__law_well) := ⟨rfl, rfl, rfl, by decide +kernel, rfl, by decide +kernel, by decide +kernel⟩
abbrev s_law : Stmt := top 47
theorem sc_law : FnScope N_law ["script"] (defScope s_law) := ⟨rfl, rfl, rfl, by decide +kernel, rfl, by decide +kernel, by decide +kernel⟩
structure Fa where
  f__law_draw : Addr
  d__law_draw : FuncData
  f__law_titles : Addr
  d__law_titles : FuncData
  f__law_folk : Addr
  d__law_folk : FuncData
  f__law_heavy : Addr
  d__law_heavy : FuncData
  f__law_by_table : Addr
  d__law_by_table : FuncData
  f__law_cents : Addr
  d__law_cents : FuncData
  f__law_lines : Addr
  d__law_lines : FuncData
  f__law_bent : Addr
  d__law_bent : FuncData
  f__law_any_states : Addr
  d__law_any_states : FuncData
  f__law_copied : Addr
  d__law_copied : FuncData
  f__law_renumbered : Addr
  d__law_renumbered : FuncData
  f__law_plan : Addr
  d__law_plan : FuncData
  f_is_name : Addr
  d_is_name : FuncData
  f_checked_weights : Addr
  d_checked_weights : FuncData
  f_wrong_rest : Addr
  d_wrong_rest : FuncData
  f_check_states : Addr
  d_check_states : FuncData
  f_columns_of : Addr
  d_columns_of : FuncData
  f_Rule___init__ : Addr
  d_Rule___init__ : FuncData
  f__law_copy : Addr
  d__law_copy : FuncData
  f__law_made : Addr
  d__law_made : FuncData
  f_Rule___eq__ : Addr
  d_Rule___eq__ : FuncData
  f__law_one_more : Addr
  d__law_one_more : FuncData
  f__law_other_folk : Addr
  d__law_other_folk : FuncData
  f__law_changed : Addr
  d__law_changed : FuncData
  f__law_alike : Addr
  d__law_alike : FuncData
  f_rows_of : Addr
  d_rows_of : FuncData
  f_Rule_states : Addr
  d_Rule_states : FuncData
  p_Rule_states : Addr
  f_Rule___len__ : Addr
  d_Rule___len__ : FuncData
  f_Rule_people : Addr
  d_Rule_people : FuncData
  p_Rule_people : Addr
  f_check_rows : Addr
  d_check_rows : FuncData
  f_table_nexts : Addr
  d_table_nexts : FuncData
  f_table_cents : Addr
  d_table_cents : FuncData
  f_by_rows : Addr
  d_by_rows : FuncData
  f_with_cent : Addr
  d_with_cent : FuncData
  f_in_turn : Addr
  d_in_turn : FuncData
  f__law_tables_right : Addr
  d__law_tables_right : FuncData
  f__law_fits : Addr
  d__law_fits : FuncData
  f__law_well : Addr
  d__law_well : FuncData
  f_law : Addr
  d_law : FuncData
  u_LETTERS : Value
  u_LONGEST_NAME : Value
structure Txt (K : PySem.W.Frag) (mg : Str → Option Value) (Z : Ad) (Y : Fa) : Prop where
  R : RuleK K Z
  m_Rule : mg "Rule" = some (.ref Z.c_Rule)
  isc_Rule : C8.InsC K Z.c_Rule
  nm_Rule : PySem.W.mroIn K Z.c_Rule (.type "object") = some true
  nn_Rule : PySem.W.findIn K (.ref Z.c_Rule) "__ne__" = some (some (.builtin "object.__ne__"))
  F__law_draw : Fun K "_law_draw" "_law_draw" s__law_draw Y.f__law_draw Y.d__law_draw
  bs__law_draw : Binds K Y.d__law_draw ["well", "many"] []
  m__law_draw : mg "_law_draw" = some (.ref Y.f__law_draw)
  F__law_titles : Fun K "_law_titles" "_law_titles" s__law_titles Y.f__law_titles Y.d__law_titles
  bs__law_titles : Binds K Y.d__law_titles ["well", "many"] []
  m__law_titles : mg "_law_titles" = some (.ref Y.f__law_titles)
  F__law_folk : Fun K "_law_folk" "_law_folk" s__law_folk Y.f__law_folk Y.d__law_folk
  bs__law_folk : Binds K Y.d__law_folk ["well", "most", "heaviest"] []
  m__law_folk : mg "_law_folk" = some (.ref Y.f__law_folk)
  F__law_heavy : Fun K "_law_heavy" "_law_heavy" s__law_heavy Y.f__law_heavy Y.d__law_heavy
  bs__law_heavy : Binds K Y.d__law_heavy ["folk"] []
  m__law_heavy : mg "_law_heavy" = some (.ref Y.f__law_heavy)
  F__law_by_table : Fun K "_law_by_table" "_law_by_table" s__law_by_table Y.f__law_by_table Y.d__law_by_table
  bs__law_by_table : Binds K Y.d__law_by_table ["folk", "lines"] []
  m__law_by_table : mg "_law_by_table" = some (.ref Y.f__law_by_table)
  F__law_cents : Fun K "_law_cents" "_law_cents" s__law_cents Y.f__law_cents Y.d__law_cents
  bs__law_cents : Binds K Y.d__law_cents ["well", "many", "rest", "most"] []
  m__law_cents : mg "_law_cents" = some (.ref Y.f__law_cents)
  F__law_lines : Fun K "_law_lines" "_law_lines" s__law_lines Y.f__law_lines Y.d__law_lines
  bs__law_lines : Binds K Y.d__law_lines ["well", "folk", "most"] []
  m__law_lines : mg "_law_lines" = some (.ref Y.f__law_lines)
  F__law_bent : Fun K "_law_bent" "_law_bent" s__law_bent Y.f__law_bent Y.d__law_bent
  bs__law_bent : Binds K Y.d__law_bent ["well", "tables", "most"] []
  m__law_bent : mg "_law_bent" = some (.ref Y.f__law_bent)
  F__law_any_states : Fun K "_law_any_states" "_law_any_states" s__law_any_states Y.f__law_any_states Y.d__law_any_states
  bs__law_any_states : Binds K Y.d__law_any_states ["well", "folk", "counts", "most"] []
  m__law_any_states : mg "_law_any_states" = some (.ref Y.f__law_any_states)
  F__law_copied : Fun K "_law_copied" "_law_copied" s__law_copied Y.f__law_copied Y.d__law_copied
  bs__law_copied : Binds K Y.d__law_copied ["well", "tables", "most"] []
  m__law_copied : mg "_law_copied" = some (.ref Y.f__law_copied)
  F__law_renumbered : Fun K "_law_renumbered" "_law_renumbered" s__law_renumbered Y.f__law_renumbered Y.d__law_renumbered
  bs__law_renumbered : Binds K Y.d__law_renumbered ["well", "tables"] []
  m__law_renumbered : mg "_law_renumbered" = some (.ref Y.f__law_renumbered)
  F__law_plan : Fun K "_law_plan" "_law_plan" s__law_plan Y.f__law_plan Y.d__law_plan
  bs__law_plan : Binds K Y.d__law_plan ["well", "sizes"] []
  m__law_plan : mg "_law_plan" = some (.ref Y.f__law_plan)
  F_is_name : Fun K "is_name" "is_name" s_is_name Y.f_is_name Y.d_is_name
  bs_is_name : Binds K Y.d_is_name ["name"] []
  m_is_name : mg "is_name" = some (.ref Y.f_is_name)
  F_checked_weights : Fun K "checked_weights" "checked_weights" s_checked_weights Y.f_checked_weights Y.d_checked_weights
  bs_checked_weights : Binds K Y.d_checked_weights ["people"] []
  m_checked_weights : mg "checked_weights" = some (.ref Y.f_checked_weights)
  F_wrong_rest : Fun K "wrong_rest" "wrong_rest" s_wrong_rest Y.f_wrong_rest Y.d_wrong_rest
  bs_wrong_rest : Binds K Y.d_wrong_rest ["row", "whole", "many", "most"] []
  m_wrong_rest : mg "wrong_rest" = some (.ref Y.f_wrong_rest)
  F_check_states : Fun K "check_states" "check_states" s_check_states Y.f_check_states Y.d_check_states
  bs_check_states : Binds K Y.d_check_states ["states", "whole", "many"] []
  m_check_states : mg "check_states" = some (.ref Y.f_check_states)
  F_columns_of : Fun K "columns_of" "columns_of" s_columns_of Y.f_columns_of Y.d_columns_of
  bs_columns_of : Binds K Y.d_columns_of ["rows"] []
  m_columns_of : mg "columns_of" = some (.ref Y.f_columns_of)
  F_Rule___init__ : Fun K "__init__" "Rule.__init__" s_Rule___init__ Y.f_Rule___init__ Y.d_Rule___init__
  bs_Rule___init__ : Binds K Y.d_Rule___init__ ["self", "people", "states"] []
  mk_Rule : Mk K Z.c_Rule Y.f_Rule___init__
  F__law_copy : Fun K "_law_copy" "_law_copy" s__law_copy Y.f__law_copy Y.d__law_copy
  bs__law_copy : Binds K Y.d__law_copy ["tables"] []
  m__law_copy : mg "_law_copy" = some (.ref Y.f__law_copy)
  F__law_made : Fun K "_law_made" "_law_made" s__law_made Y.f__law_made Y.d__law_made
  bs__law_made : Binds K Y.d__law_made ["plan"] []
  m__law_made : mg "_law_made" = some (.ref Y.f__law_made)
  F_Rule___eq__ : Fun K "__eq__" "Rule.__eq__" s_Rule___eq__ Y.f_Rule___eq__ Y.d_Rule___eq__
  bs_Rule___eq__ : Binds K Y.d_Rule___eq__ ["self", "other"] []
  me_Rule___eq__ : Meth K Z.c_Rule "__eq__" Y.f_Rule___eq__
  F__law_one_more : Fun K "_law_one_more" "_law_one_more" s__law_one_more Y.f__law_one_more Y.d__law_one_more
  bs__law_one_more : Binds K Y.d__law_one_more ["well", "folk", "tables"] []
  m__law_one_more : mg "_law_one_more" = some (.ref Y.f__law_one_more)
  F__law_other_folk : Fun K "_law_other_folk" "_law_other_folk" s__law_other_folk Y.f__law_other_folk Y.d__law_other_folk
  bs__law_other_folk : Binds K Y.d__law_other_folk ["well", "plan", "most"] []
  m__law_other_folk : mg "_law_other_folk" = some (.ref Y.f__law_other_folk)
  F__law_changed : Fun K "_law_changed" "_law_changed" s__law_changed Y.f__law_changed Y.d__law_changed
  bs__law_changed : Binds K Y.d__law_changed ["well", "plan", "most"] []
  m__law_changed : mg "_law_changed" = some (.ref Y.f__law_changed)
  F__law_alike : Fun K "_law_alike" "_law_alike" s__law_alike Y.f__law_alike Y.d__law_alike
  bs__law_alike : Binds K Y.d__law_alike ["plan", "twin_plan"] []
  m__law_alike : mg "_law_alike" = some (.ref Y.f__law_alike)
  F_rows_of : Fun K "rows_of" "rows_of" s_rows_of Y.f_rows_of Y.d_rows_of
  bs_rows_of : Binds K Y.d_rows_of ["columns"] []
  m_rows_of : mg "rows_of" = some (.ref Y.f_rows_of)
  F_Rule_states : Fun K "states" "Rule.states" s_Rule_states Y.f_Rule_states Y.d_Rule_states
  bs_Rule_states : Binds K Y.d_Rule_states ["self"] []
  pr_Rule_states : PropOf K Z.c_Rule "states" Y.p_Rule_states Y.f_Rule_states
  F_Rule___len__ : Fun K "__len__" "Rule.__len__" s_Rule___len__ Y.f_Rule___len__ Y.d_Rule___len__
  bs_Rule___len__ : Binds K Y.d_Rule___len__ ["self"] []
  me_Rule___len__ : Meth K Z.c_Rule "__len__" Y.f_Rule___len__
  F_Rule_people : Fun K "people" "Rule.people" s_Rule_people Y.f_Rule_people Y.d_Rule_people
  bs_Rule_people : Binds K Y.d_Rule_people ["self"] []
  pr_Rule_people : PropOf K Z.c_Rule "people" Y.p_Rule_people Y.f_Rule_people
  F_check_rows : Fun K "check_rows" "check_rows" s_check_rows Y.f_check_rows Y.d_check_rows
  bs_check_rows : Binds K Y.d_check_rows ["rows", "whole", "many"] []
  m_check_rows : mg "check_rows" = some (.ref Y.f_check_rows)
  F_table_nexts : Fun K "table_nexts" "table_nexts" s_table_nexts Y.f_table_nexts Y.d_table_nexts
  bs_table_nexts : Binds K Y.d_table_nexts ["whole"] []
  m_table_nexts : mg "table_nexts" = some (.ref Y.f_table_nexts)
  F_table_cents : Fun K "table_cents" "table_cents" s_table_cents Y.f_table_cents Y.d_table_cents
  bs_table_cents : Binds K Y.d_table_cents ["weights", "columns", "whole"] []
  m_table_cents : mg "table_cents" = some (.ref Y.f_table_cents)
  F_by_rows : Fun K "by_rows" "by_rows" s_by_rows Y.f_by_rows Y.d_by_rows
  bs_by_rows : Binds K Y.d_by_rows ["people", "rows"] []
  m_by_rows : mg "by_rows" = some (.ref Y.f_by_rows)
  F_with_cent : Fun K "with_cent" "with_cent" s_with_cent Y.f_with_cent Y.d_with_cent
  bs_with_cent : Binds K Y.d_with_cent ["weights", "row"] []
  m_with_cent : mg "with_cent" = some (.ref Y.f_with_cent)
  F_in_turn : Fun K "in_turn" "in_turn" s_in_turn Y.f_in_turn Y.d_in_turn
  bs_in_turn : Binds K Y.d_in_turn ["people"] []
  m_in_turn : mg "in_turn" = some (.ref Y.f_in_turn)
  F__law_tables_right : Fun K "_law_tables_right" "_law_tables_right" s__law_tables_right Y.f__law_tables_right Y.d__law_tables_right
  bs__law_tables_right : Binds K Y.d__law_tables_right ["well", "folk"] []
  m__law_tables_right : mg "_law_tables_right" = some (.ref Y.f__law_tables_right)
  F__law_fits : Fun K "_law_fits" "_law_fits" s__law_fits Y.f__law_fits Y.d__law_fits
  bs__law_fits : Binds K Y.d__law_fits ["well"] []
  m__law_fits : mg "_law_fits" = some (.ref Y.f__law_fits)
  F__law_well : Fun K "_law_well" "_law_well" s__law_well Y.f__law_well Y.d__law_well
  bs__law_well : Binds K Y.d__law_well ["script", "place"] []
  m__law_well : mg "_law_well" = some (.ref Y.f__law_well)
  F_law : Fun K "law" "law" s_law Y.f_law Y.d_law
  bs_law : Binds K Y.d_law ["script"] []
  m_law : mg "law" = some (.ref Y.f_law)
  b_all : mg "all" = none
  b_any : mg "any" = none
  b_enumerate : mg "enumerate" = none
  b_int : mg "int" = none
  b_isinstance : mg "isinstance" = none
  b_len : mg "len" = none
  b_list : mg "list" = none
  b_max : mg "max" = none
  b_min : mg "min" = none
  b_range : mg "range" = none
  b_repr : mg "repr" = none
  b_sum : mg "sum" = none
  b_tuple : mg "tuple" = none
  b_zip : mg "zip" = none
  c_LETTERS : mg "LETTERS" = some Y.u_LETTERS
  r_LETTERS : RelV (.str "abcdefghijklmnopqrstuvwxyz") Y.u_LETTERS
  c_LONGEST_NAME : mg "LONGEST_NAME" = some Y.u_LONGEST_NAME
  r_LONGEST_NAME : RelV (.int 8) Y.u_LONGEST_NAME
section
variable {P : Program} {w : World} {K : PySem.W.Frag} {mg : Str → Option Value} {base : Heap} {Z : Ad} {Y : Fa}
theorem ok__law_draw (T : Txt K mg Z Y) : FnOk P w K mg base CX0 1 Y.f__law_draw Y.d__law_draw ["well", "many"] (sp__law_draw K Z) := by
  refine T.F__law_draw.ok sc__law_draw (fun vs H Q E h => l__law_draw h) (fun cdv A outer s H vs Q E hr h => ⟨t__law_draw K Z, ?_, r__law_draw T.R h⟩)
  exact (pss_cons (ps_if (pt_cmpR op_gt (pe_ix ix_list (pv 0) pe_int (fun _ _ => rfl)) pe_int (nomark _)) (pss_cons (ps_set (i := 3) sc__law_draw.nd rfl (Or.inl rfl) (pe_op op_mod (pe_callTy call_int1 (by rfl) T.b_int (by decide +kernel) (pa_cons (pe_ix ix_list (pv 0) pe_int (fun _ _ => rfl)) pa_nil)) (pv 1))) (pss_cons (ps_asg (pe_op op_fdiv (pe_ix ix_list (pv 0) pe_int (fun _ _ => rfl)) (pv 1)) (pg_sub (pv 0) pe_int set_list)) (pss_one (ps_ret (pv 3))))) pss_nil) (pss_cons (ps_asg (pe_op op_add (pe_ix ix_list (pv 0) pe_int (fun _ _ => rfl)) pe_int) (pg_sub (pv 0) pe_int set_list)) (pss_cons (ps_set (i := 2) sc__law_draw.nd rfl (Or.inl rfl) (pe_op op_add (pe_ix ix_list (pv 0) pe_int (fun _ _ => rfl)) (pe_op op_mul (pe_op op_mul pe_int (pe_ix ix_list (pv 0) pe_int (fun _ _ => rfl))) (pe_ix ix_list (pv 0) pe_int (fun _ _ => rfl))))) (pss_cons (ps_set (i := 2) sc__law_draw.nd rfl (Or.inl rfl) (pe_op op_mod (pe_callTy call_int1 (by rfl) T.b_int (by decide +kernel) (pa_cons (pe_op op_add (pv 2) (pe_op op_mul pe_int (pe_ix ix_list (pv 0) pe_int (fun _ _ => rfl)))) pa_nil)) pe_int)) (pss_cons (ps_set (i := 2) sc__law_draw.nd rfl (Or.inl rfl) (pe_op op_mod (pe_callTy call_int1 (by rfl) T.b_int (by decide +kernel) (pa_cons (pe_op op_add (pe_op op_pow (pv 2) pe_int) (pv 2)) pa_nil)) pe_int)) (pss_cons (ps_set (i := 2) sc__law_draw.nd rfl (Or.inl rfl) (pe_op op_mod (pe_callTy call_int1 (by rfl) T.b_int (by decide +kernel) (pa_cons (pe_op op_pow (pv 2) pe_int) pa_nil)) pe_int)) (pss_one (ps_ret (pe_op op_mod (pe_callTy call_int1 (by rfl) T.b_int (by decide +kernel) (pa_cons (pe_op op_fdiv (pv 2) pe_int) pa_nil)) (pv 1))))))))))
theorem ok__law_titles (T : Txt K mg Z Y) : FnOk P w K mg base CX0 2 Y.f__law_titles Y.d__law_titles ["well", "many"] (sp__law_titles K Z) := by
  have G__law_draw := ok__law_draw (P := P) (w := w) (base := base) T
  refine T.F__law_titles.ok sc__law_titles (fun vs H Q E h => l__law_titles h) (fun cdv A outer s H vs Q E hr h => ⟨t__law_titles K Z, ?_, r__law_titles T.R h⟩)
  exact (pss_cons (ps_asg (pe_tup (pa_cons pe_str (pa_cons (pe_call G__law_draw (hr.mono (by decide)) (by rfl) T.m__law_draw T.F__law_draw.kp T.bs__law_draw .nil pass0 (pa_cons (pv 0) (pa_cons pe_int pa_nil))) (pa_cons (pe_call G__law_draw (hr.mono (by decide)) (by rfl) T.m__law_draw T.F__law_draw.kp T.bs__law_draw .nil pass0 (pa_cons (pv 0) (pa_cons pe_int pa_nil))) pa_nil)))) (pg_tup rfl (pgs_cons (pg_name (i := 2) sc__law_titles.nd rfl (Or.inr rfl)) (pgs_cons (pg_name (i := 3) sc__law_titles.nd rfl (Or.inl rfl)) (pgs_cons (pg_name (i := 4) sc__law_titles.nd rfl (Or.inr rfl)) pgs_nil))))) (pss_cons (ps_if (pt_cmpR op_eq (pv 3) pe_int (nomark _)) (pss_cons (ps_set (i := 10) sc__law_titles.nd rfl (Or.inr rfl) (pe_lst (pa_cons pe_str (pa_cons pe_str (pa_cons pe_str (pa_cons pe_str (pa_cons pe_str (pa_cons pe_str (pa_cons pe_str (pa_cons pe_str pa_nil)))))))))) (pss_one (ps_ret (pe_lc (own := [("rank", 9)]) (g := (gName 9)) (tt := tYes) rfl sc__law_titles.nd (pi_range1 rfl T.b_range (pa_cons (pv 1) pa_nil)) (Ow.blkOk_k (by kernel_rfl)) (fun _ _ _ _ _ => (pg_name (i := 9) sc__law_titles.nd rfl (Or.inl rfl))) (fun _ _ _ _ _ => pts_nil) (fun _ _ _ _ _ => (pe_ix ix_list (pv 10) (pe_op op_mod (pe_callTy call_int1 (by rfl) T.b_int (by decide +kernel) (pa_cons (pe_op op_add (pv 4) (pe_op op_mul pe_int (pv 9))) pa_nil)) pe_int) (fun _ _ => rfl))))))) pss_nil) (pss_cons (ps_set (i := 5) sc__law_titles.nd rfl (Or.inr rfl) (pe_join pe_str (pe_lc (own := [("turn", 14)]) (g := (gName 14)) (tt := tYes) rfl sc__law_titles.nd (pi_range1 rfl T.b_range (pa_cons pe_int pa_nil)) (Ow.blkOk_k (by kernel_rfl)) (fun _ _ _ _ _ => (pg_name (i := 14) sc__law_titles.nd rfl (Or.inl rfl))) (fun _ _ _ _ _ => pts_nil) (fun _ _ _ _ _ => (pe_ix ix_str (pv 2) (pe_call G__law_draw (hr.mono (by decide)) (by rfl) T.m__law_draw T.F__law_draw.kp T.bs__law_draw .nil pass0 (pa_cons (pv 0) (pa_cons pe_int pa_nil))) (fun _ _ => rfl)))))) (pss_cons (ps_if (pt_cmpR op_eq (pv 3) pe_int (nomark _)) (pss_one (ps_ret (pe_lc (own := [("rank", 9)]) (g := (gName 9)) (tt := tYes) rfl sc__law_titles.nd (pi_range1 rfl T.b_range (pa_cons (pv 1) pa_nil)) (Ow.blkOk_k (by kernel_rfl)) (fun _ _ _ _ _ => (pg_name (i := 9) sc__law_titles.nd rfl (Or.inl rfl))) (fun _ _ _ _ _ => pts_nil) (fun _ _ _ _ _ => (pe_slice sl_str (pv 5) po_none (po_some (pe_op op_add pe_int (pe_op op_mod (pe_callTy call_int1 (by rfl) T.b_int (by decide +kernel) (pa_cons (pe_op op_add (pv 4) (pe_op op_mul pe_int (pv 9))) pa_nil)) pe_int)))))))) pss_nil) (pss_cons (ps_set (i := 6) sc__law_titles.nd rfl (Or.inl rfl) (pe_op op_add pe_int (pe_call G__law_draw (hr.mono (by decide)) (by rfl) T.m__law_draw T.F__law_draw.kp T.bs__law_draw .nil pass0 (pa_cons (pv 0) (pa_cons pe_int pa_nil))))) (pss_cons (ps_set (i := 7) sc__law_titles.nd rfl (Or.inl rfl) (pe_call G__law_draw (hr.mono (by decide)) (by rfl) T.m__law_draw T.F__law_draw.kp T.bs__law_draw .nil pass0 (pa_cons (pv 0) (pa_cons (pv 6) pa_nil)))) (pss_cons (ps_if (pt_cmpR op_eq (pv 3) pe_int (nomark _)) (pss_cons (ps_asg (pe_tup (pa_cons (pe_slice sl_str (pv 5) po_none (po_some (pv 7))) (pa_cons (pe_slice sl_str (pv 5) (po_some (pe_op op_add (pv 7) pe_int)) (po_some (pv 6))) pa_nil))) (pg_tup rfl (pgs_cons (pg_name (i := 11) sc__law_titles.nd rfl (Or.inr rfl)) (pgs_cons (pg_name (i := 12) sc__law_titles.nd rfl (Or.inr rfl)) pgs_nil)))) (pss_one (ps_ret (pe_lc (own := [("rank", 9)]) (g := (gName 9)) (tt := tYes) rfl sc__law_titles.nd (pi_range1 rfl T.b_range (pa_cons (pv 1) pa_nil)) (Ow.blkOk_k (by kernel_rfl)) (fun _ _ _ _ _ => (pg_name (i := 9) sc__law_titles.nd rfl (Or.inl rfl))) (fun _ _ _ _ _ => pts_nil) (fun _ _ _ _ _ => (pe_op op_add_str (pe_op op_add_str (pv 11) (pe_ix ix_str (pv 2) (pe_op op_mod (pe_callTy call_int1 (by rfl) T.b_int (by decide +kernel) (pa_cons (pe_op op_add (pv 4) (pe_op op_mul pe_int (pv 9))) pa_nil)) pe_int) (fun _ _ => rfl))) (pv 12))))))) pss_nil) (pss_cons (ps_set (i := 8) sc__law_titles.nd rfl (Or.inl rfl) (pe_lst pa_nil)) (pss_cons (ps_for PassesOwn.never rfl (pi_range1 rfl T.b_range (pa_cons (pv 1) pa_nil)) (pg_name (i := 9) sc__law_titles.nd rfl (Or.inl rfl)) (pss_cons (ps_set (i := 13) sc__law_titles.nd rfl (Or.inl rfl) (pe_slice sl_str (pe_slice sl_str (pv 5) (po_some (pe_call G__law_draw (hr.mono (by decide)) (by rfl) T.m__law_draw T.F__law_draw.kp T.bs__law_draw .nil pass0 (pa_cons (pv 0) (pa_cons pe_int pa_nil)))) po_none) po_none (po_some (pe_call G__law_draw (hr.mono (by decide)) (by rfl) T.m__law_draw T.F__law_draw.kp T.bs__law_draw .nil pass0 (pa_cons (pv 0) (pa_cons pe_int pa_nil)))))) (pss_one (ps_expr (pe_bm PySem.F.plainAttrs_list PySem.F.slot_list_append PySem.F.type_list_append mt_append (pv 8) (pa_cons (pe_op op_add_str (pe_ix ix_str (pv 2) (pe_op op_mod (pe_callTy call_int1 (by rfl) T.b_int (by decide +kernel) (pa_cons (pe_op op_add (pv 4) (pe_op op_mul pe_int (pv 9))) pa_nil)) pe_int) (fun _ _ => rfl)) (pv 13)) pa_nil)))))) (pss_one (ps_ret (pv 8))))))))))))
theorem ok__law_folk (T : Txt K mg Z Y) : FnOk P w K mg base CX0 3 Y.f__law_folk Y.d__law_folk ["well", "most", "heaviest"] (sp__law_folk K Z) := by
  have G__law_titles := ok__law_titles (P := P) (w := w) (base := base) T
  have G__law_draw := ok__law_draw (P := P) (w := w) (base := base) T
  refine T.F__law_folk.ok sc__law_folk (fun vs H Q E h => l__law_folk h) (fun cdv A outer s H vs Q E hr h => ⟨t__law_folk K Z, ?_, r__law_folk T.R h⟩)
  exact (pss_cons (ps_set (i := 3) sc__law_folk.nd rfl (Or.inl rfl) (pe_call G__law_titles (hr.mono (by decide)) (by rfl) T.m__law_titles T.F__law_titles.kp T.bs__law_titles .nil pass0 (pa_cons (pv 0) (pa_cons (pe_op op_add pe_int (pe_call G__law_draw (hr.mono (by decide)) (by rfl) T.m__law_draw T.F__law_draw.kp T.bs__law_draw .nil pass0 (pa_cons (pv 0) (pa_cons (pv 1) pa_nil)))) pa_nil)))) (pss_cons (ps_set (i := 4) sc__law_folk.nd rfl (Or.inl rfl) (pe_op op_rep (pe_lst (pa_cons pe_int pa_nil)) (pe_callB call_len_seq (by rfl) T.b_len PySem.boot_len (pa_cons (pv 3) pa_nil)))) (pss_cons (ps_for PassesOwn.never rfl (pi_range1 rfl T.b_range (pa_cons (pe_op op_add pe_int (pe_call G__law_draw (hr.mono (by decide)) (by rfl) T.m__law_draw T.F__law_draw.kp T.bs__law_draw .nil pass0 (pa_cons (pv 0) (pa_cons (pv 2) pa_nil)))) pa_nil)) (pg_name (i := 5) sc__law_folk.nd rfl (Or.inl rfl)) (pss_cons (ps_set (i := 6) sc__law_folk.nd rfl (Or.inl rfl) (pe_call G__law_draw (hr.mono (by decide)) (by rfl) T.m__law_draw T.F__law_draw.kp T.bs__law_draw .nil pass0 (pa_cons (pv 0) (pa_cons (pe_callB call_len_seq (by rfl) T.b_len PySem.boot_len (pa_cons (pv 3) pa_nil)) pa_nil)))) (pss_one (ps_asg (pe_op op_add (pe_ix ix_list (pv 4) (pv 6) (fun _ _ => rfl)) pe_int) (pg_sub (pv 4) (pv 6) set_list))))) (pss_one (ps_ret (Ow.pe_listzip (by rfl) T.b_list (by rfl) T.b_zip (pa_cons (pv 3) (pa_cons (pv 4) pa_nil))))))))
theorem ok__law_heavy (T : Txt K mg Z Y) : FnOk P w K mg base CX0 1 Y.f__law_heavy Y.d__law_heavy ["folk"] (sp__law_heavy K Z) := by
  refine T.F__law_heavy.ok sc__law_heavy (fun vs H Q E h => l__law_heavy h) (fun cdv A outer s H vs Q E hr h => ⟨t__law_heavy K Z, ?_, r__law_heavy T.R h⟩)
  exact (pss_one (ps_ret (pe_callB (cr_sum rfl) (by rfl) T.b_sum (by decide +kernel) (pa_cons (pe_lc (own := [("title", 1), ("load", 2)]) (g := (gTup K 2 (gCons (gName 1) (gCons (gName 2) gNil)))) (tt := tYes) rfl sc__law_heavy.nd (pi_list (pv 0)) (Ow.blkOk_k (by kernel_rfl)) (fun _ _ _ _ _ => (pg_tup rfl (pgs_cons (pg_name (i := 1) sc__law_heavy.nd rfl (Or.inl rfl)) (pgs_cons (pg_name (i := 2) sc__law_heavy.nd rfl (Or.inl rfl)) pgs_nil)))) (fun _ _ _ _ _ => pts_nil) (fun _ _ _ _ _ => (pv 2))) pa_nil))))
theorem ok__law_by_table (T : Txt K mg Z Y) : FnOk P w K mg base CX0 1 Y.f__law_by_table Y.d__law_by_table ["folk", "lines"] (sp__law_by_table K Z) := by
  refine T.F__law_by_table.ok sc__law_by_table (fun vs H Q E h => l__law_by_table h) (fun cdv A outer s H vs Q E hr h => ⟨t__law_by_table K Z, ?_, r__law_by_table T.R h⟩)
  exact (pss_cons (ps_set (i := 2) sc__law_by_table.nd rfl (Or.inl rfl) (pe_lst pa_nil)) (pss_cons (ps_for PassesOwn.never rfl (pi_range1 rfl T.b_range (pa_cons (pe_callB call_len_seq (by rfl) T.b_len PySem.boot_len (pa_cons (pv 1) pa_nil)) pa_nil)) (pg_name (i := 3) sc__law_by_table.nd rfl (Or.inl rfl)) (pss_cons (ps_set (i := 4) sc__law_by_table.nd rfl (Or.inl rfl) (pe_lst pa_nil)) (pss_cons (ps_for PassesOwn.never rfl (pi_range1 rfl T.b_range (pa_cons (pe_callB call_len_seq (by rfl) T.b_len PySem.boot_len (pa_cons (pv 1) pa_nil)) pa_nil)) (pg_name (i := 5) sc__law_by_table.nd rfl (Or.inl rfl)) (pss_cons (ps_set (i := 6) sc__law_by_table.nd rfl (Or.inr rfl) (pe_callTy call_int1 (by rfl) T.b_int (by decide +kernel) (pa_cons (pe_cmpR op_ge (pe_op op_add (pv 3) (pv 5)) (pe_callB call_len_seq (by rfl) T.b_len PySem.boot_len (pa_cons (pv 1) pa_nil)) (nomark _)) pa_nil))) (pss_cons (ps_set (i := 7) sc__law_by_table.nd rfl (Or.inl rfl) (pe_op op_sub (pe_op op_add (pv 3) (pv 5)) (pe_op op_mul (pv 6) (pe_callB call_len_seq (by rfl) T.b_len PySem.boot_len (pa_cons (pv 1) pa_nil))))) (pss_cons (ps_asg (pe_tup (pa_cons (pe_ix ix_list (pv 1) (pv 7) (fun _ _ => rfl)) (pa_cons (pe_ix ix_list (pv 1) (pv 3) (fun _ _ => rfl)) pa_nil))) (pg_tup rfl (pgs_cons (pg_name (i := 8) sc__law_by_table.nd rfl (Or.inr rfl)) (pgs_cons (pg_name (i := 9) sc__law_by_table.nd rfl (Or.inr rfl)) pgs_nil)))) (pss_cons (ps_setLc (i := 10) (own := [("at", 11), ("duo", 12)]) (g := (gTup K 2 (gCons (gName 11) (gCons (gName 12) gNil)))) (tt := tYes) rfl sc__law_by_table.nd rfl rfl (sw_true rfl rfl rfl (by kernel_rfl)) (pi_enum (by rfl) T.b_enumerate (pa_cons (pv 0) pa_nil)) (Ow.blkOk_k (by kernel_rfl)) (fun _ _ _ _ _ => (pg_tup rfl (pgs_cons (pg_name (i := 11) sc__law_by_table.nd rfl (Or.inl rfl)) (pgs_cons (pg_name (i := 12) sc__law_by_table.nd rfl (Or.inl rfl)) pgs_nil)))) (fun _ _ _ _ _ => pts_nil) (fun _ _ _ _ _ => (pe_op op_sub (pe_op op_add (pe_op op_mul (pv 6) (pe_ix ix_tup (pv 12) pe_int (fun _ _ => rfl))) (pe_ix ix_list (pv 8) (pv 11) (fun _ _ => rfl))) (pe_ix ix_list (pv 9) (pv 11) (fun _ _ => rfl))))) (pss_one (ps_expr (pe_bm PySem.F.plainAttrs_list PySem.F.slot_list_append PySem.F.type_list_append mt_append (pv 4) (pa_cons (pe_tup (pa_cons (pv 10) (pa_cons (pv 7) pa_nil))) pa_nil))))))))) (pss_one (ps_expr (pe_bm PySem.F.plainAttrs_list PySem.F.slot_list_append PySem.F.type_list_append mt_append (pv 2) (pa_cons (pv 4) pa_nil))))))) (pss_one (ps_ret (pv 2)))))
theorem ok__law_cents (T : Txt K mg Z Y) : FnOk P w K mg base CX0 2 Y.f__law_cents Y.d__law_cents ["well", "many", "rest", "most"] (sp__law_cents K Z) := by
  have G__law_draw := ok__law_draw (P := P) (w := w) (base := base) T
  refine T.F__law_cents.ok sc__law_cents (fun vs H Q E h => l__law_cents h) (fun cdv A outer s H vs Q E hr h => ⟨t__law_cents K Z, ?_, r__law_cents T.R h⟩)
  exact (pss_cons (ps_par (i := 4) (j := 5) (by rfl) sc__law_cents.nd rfl rfl (by decide) rfl rfl (pa_cons (pe_op op_rep (pe_lst (pa_cons pe_int pa_nil)) (pv 1)) (pa_cons pe_int pa_nil)) (by rfl)) (pss_cons (ps_for PassesOwn.never rfl (pi_range1 rfl T.b_range (pa_cons (pv 2) pa_nil)) (pg_name (i := 6) sc__law_cents.nd rfl (Or.inl rfl)) (pss_cons (ps_set (i := 5) sc__law_cents.nd rfl (Or.inl rfl) (pe_ifExp (pt_cmpR op_lt (pv 6) pe_int (nomark _)) (pe_call G__law_draw (hr.mono (by decide)) (by rfl) T.m__law_draw T.F__law_draw.kp T.bs__law_draw .nil pass0 (pa_cons (pv 0) (pa_cons (pv 1) pa_nil))) (pe_op op_mod (pe_callTy call_int1 (by rfl) T.b_int (by decide +kernel) (pa_cons (pe_op op_add (pv 5) pe_int) pa_nil)) (pv 1)))) (pss_one (ps_asg (pe_op op_add (pe_ix ix_list (pv 4) (pv 5) (fun _ _ => rfl)) pe_int) (pg_sub (pv 4) (pv 5) set_list))))) (pss_cons (ps_if (PW.pt (pw_and (pt_cmpR op_ge (pv 3) (pv 2) (nomark _)) (pw_and1 (pt_cmpR op_eq (pe_call G__law_draw (hr.mono (by decide)) (by rfl) T.m__law_draw T.F__law_draw.kp T.bs__law_draw .nil pass0 (pa_cons (pv 0) (pa_cons pe_int pa_nil))) pe_int (nomark _))))) (pss_cons (ps_par (i := 7) (j := 8) (by rfl) sc__law_cents.nd rfl rfl (by decide) rfl rfl (pa_cons (pe_call G__law_draw (hr.mono (by decide)) (by rfl) T.m__law_draw T.F__law_draw.kp T.bs__law_draw .nil pass0 (pa_cons (pv 0) (pa_cons (pv 1) pa_nil))) (pa_cons (pe_call G__law_draw (hr.mono (by decide)) (by rfl) T.m__law_draw T.F__law_draw.kp T.bs__law_draw .nil pass0 (pa_cons (pv 0) (pa_cons (pv 1) pa_nil))) pa_nil)) (by rfl)) (pss_cons (ps_set (i := 9) sc__law_cents.nd rfl (Or.inl rfl) (pe_callB (Ow.call_min3 rfl) (by rfl) T.b_min (by decide +kernel) (pa_cons (pe_call G__law_draw (hr.mono (by decide)) (by rfl) T.m__law_draw T.F__law_draw.kp T.bs__law_draw .nil pass0 (pa_cons (pv 0) (pa_cons (pe_op op_add (pv 3) pe_int) pa_nil))) (pa_cons (pe_op op_add (pv 3) (pe_ix ix_list (pv 4) (pv 7) (fun _ _ => rfl))) (pa_cons (pe_op op_sub (pv 3) (pe_ix ix_list (pv 4) (pv 8) (fun _ _ => rfl))) pa_nil))))) (pss_cons (ps_asg (pe_op op_sub (pe_ix ix_list (pv 4) (pv 7) (fun _ _ => rfl)) (pv 9)) (pg_sub (pv 4) (pv 7) set_list)) (pss_one (ps_asg (pe_op op_add (pe_ix ix_list (pv 4) (pv 8) (fun _ _ => rfl)) (pv 9)) (pg_sub (pv 4) (pv 8) set_list)))))) pss_nil) (pss_one (ps_ret (pv 4))))))
theorem ok__law_lines (T : Txt K mg Z Y) : FnOk P w K mg base CX0 3 Y.f__law_lines Y.d__law_lines ["well", "folk", "most"] (sp__law_lines K Z) := by
  have G__law_heavy := ok__law_heavy (P := P) (w := w) (base := base) T
  have G__law_draw := ok__law_draw (P := P) (w := w) (base := base) T
  have G__law_cents := ok__law_cents (P := P) (w := w) (base := base) T
  refine T.F__law_lines.ok sc__law_lines (fun vs H Q E h => l__law_lines h) (fun cdv A outer s H vs Q E hr h => ⟨t__law_lines K Z, ?_, r__law_lines T.R h⟩)
  exact (pss_cons (ps_par (i := 3) (j := 4) (by rfl) sc__law_lines.nd rfl rfl (by decide) rfl rfl (pa_cons (pe_call G__law_heavy (hr.mono (by decide)) (by rfl) T.m__law_heavy T.F__law_heavy.kp T.bs__law_heavy .nil pass0 (pa_cons (pv 1) pa_nil)) (pa_cons (pe_callB call_len_seq (by rfl) T.b_len PySem.boot_len (pa_cons (pv 1) pa_nil)) pa_nil)) (by rfl)) (pss_cons (ps_set (i := 5) sc__law_lines.nd rfl (Or.inl rfl) (pe_cmpR op_eq (pe_call G__law_draw (hr.mono (by decide)) (by rfl) T.m__law_draw T.F__law_draw.kp T.bs__law_draw .nil pass0 (pa_cons (pv 0) (pa_cons pe_int pa_nil))) pe_int (nomark _))) (pss_cons (ps_par (i := 6) (j := 7) (by rfl) sc__law_lines.nd rfl rfl (by decide) rfl rfl (pa_cons (pe_lst (pa_cons (pe_op op_rep (pe_lst (pa_cons pe_int pa_nil)) (pv 4)) pa_nil)) (pa_cons (pe_op op_fdiv (pe_op op_sub (pv 2) (pv 3)) pe_int) pa_nil)) (by rfl)) (pss_cons (ps_if (pt_cmpR op_lt (pv 7) (pe_op op_sub (pv 3) pe_int) (nomark _)) (pss_one (ps_set (i := 7) sc__law_lines.nd rfl (Or.inl rfl) pe_int)) pss_nil) (pss_cons (ps_for PassesOwn.never rfl (pi_range2 rfl T.b_range (pa_cons pe_int (pa_cons (pv 3) pa_nil))) (pg_name (i := 8) sc__law_lines.nd rfl (Or.inl rfl)) (pss_one (ps_if (pt_val (pv 5)) (pss_cons (ps_set (i := 9) sc__law_lines.nd rfl (Or.inr rfl) (pe_call G__law_draw (hr.mono (by decide)) (by rfl) T.m__law_draw T.F__law_draw.kp T.bs__law_draw .nil pass0 (pa_cons (pv 0) (pa_cons (pv 4) pa_nil)))) (pss_one (ps_expr (pe_bm PySem.F.plainAttrs_list PySem.F.slot_list_append PySem.F.type_list_append mt_append (pv 6) (pa_cons (pe_lc (own := [("at", 10), ("cents", 11)]) (g := (gTup K 2 (gCons (gName 10) (gCons (gName 11) gNil)))) (tt := tYes) rfl sc__law_lines.nd (pi_enum (by rfl) T.b_enumerate (pa_cons (pe_ix ix_list (pv 6) (pe_un un_neg pe_int) (fun _ _ => rfl)) pa_nil)) (Ow.blkOk_k (by kernel_rfl)) (fun _ _ _ _ _ => (pg_tup rfl (pgs_cons (pg_name (i := 10) sc__law_lines.nd rfl (Or.inl rfl)) (pgs_cons (pg_name (i := 11) sc__law_lines.nd rfl (Or.inl rfl)) pgs_nil)))) (fun _ _ _ _ _ => pts_nil) (fun _ _ _ _ _ => (pe_op op_add (pv 11) (pe_callTy call_int1 (by rfl) T.b_int (by decide +kernel) (pa_cons (pe_cmpR op_eq (pv 10) (pv 9) (nomark _)) pa_nil))))) pa_nil))))) (pss_one (ps_expr (pe_bm PySem.F.plainAttrs_list PySem.F.slot_list_append PySem.F.type_list_append mt_append (pv 6) (pa_cons (pe_call G__law_cents (hr.mono (by decide)) (by rfl) T.m__law_cents T.F__law_cents.kp T.bs__law_cents .nil pass0 (pa_cons (pv 0) (pa_cons (pv 4) (pa_cons (pv 8) (pa_cons (pv 7) pa_nil))))) pa_nil))))))) (pss_one (ps_ret (pv 6))))))))
theorem ok__law_bent (T : Txt K mg Z Y) : FnOk P w K mg base CX0 2 Y.f__law_bent Y.d__law_bent ["well", "tables", "most"] (sp__law_bent K Z) := by
  have G__law_draw := ok__law_draw (P := P) (w := w) (base := base) T
  refine T.F__law_bent.ok sc__law_bent (fun vs H Q E h => l__law_bent h) (fun cdv A outer s H vs Q E hr h => ⟨t__law_bent K Z, ?_, r__law_bent T.R h⟩)
  exact (pss_cons (ps_par (i := 3) (j := 4) (by rfl) sc__law_bent.nd rfl rfl (by decide) rfl rfl (pa_cons (pe_call G__law_draw (hr.mono (by decide)) (by rfl) T.m__law_draw T.F__law_draw.kp T.bs__law_draw .nil pass0 (pa_cons (pv 0) (pa_cons (pe_callB call_len_seq (by rfl) T.b_len PySem.boot_len (pa_cons (pv 1) pa_nil)) pa_nil))) (pa_cons (pe_call G__law_draw (hr.mono (by decide)) (by rfl) T.m__law_draw T.F__law_draw.kp T.bs__law_draw .nil pass0 (pa_cons (pv 0) (pa_cons (pe_callB call_len_seq (by rfl) T.b_len PySem.boot_len (pa_cons (pe_ix ix_list (pv 1) pe_int (fun _ _ => rfl)) pa_nil)) pa_nil))) pa_nil)) (by rfl)) (pss_cons (ps_asg (pe_ix ix_list (pe_ix ix_list (pv 1) (pv 3) (fun _ _ => rfl)) (pv 4) (fun _ _ => rfl)) (pg_tup rfl (pgs_cons (pg_name (i := 5) sc__law_bent.nd rfl (Or.inl rfl)) (pgs_cons (pg_name (i := 6) sc__law_bent.nd rfl (Or.inl rfl)) pgs_nil)))) (pss_cons (ps_par (i := 5) (j := 7) (by rfl) sc__law_bent.nd rfl rfl (by decide) rfl rfl (pa_cons (pe_callTy call_list_of (by rfl) T.b_list (by decide +kernel) (pa_cons (pv 5) pa_nil)) (pa_cons (pe_call G__law_draw (hr.mono (by decide)) (by rfl) T.m__law_draw T.F__law_draw.kp T.bs__law_draw .nil pass0 (pa_cons (pv 0) (pa_cons (pe_callB call_len_seq (by rfl) T.b_len PySem.boot_len (pa_cons (pv 5) pa_nil)) pa_nil))) pa_nil)) (by rfl)) (pss_cons (ps_set (i := 8) sc__law_bent.nd rfl (Or.inl rfl) (pe_op op_mod (pe_callTy call_int1 (by rfl) T.b_int (by decide +kernel) (pa_cons (pe_op op_add (pe_op op_add (pv 7) pe_int) (pe_call G__law_draw (hr.mono (by decide)) (by rfl) T.m__law_draw T.F__law_draw.kp T.bs__law_draw .nil pass0 (pa_cons (pv 0) (pa_cons (pe_callB (call_max2 rfl) (by rfl) T.b_max (by decide +kernel) (pa_cons pe_int (pa_cons (pe_op op_sub (pe_callB call_len_seq (by rfl) T.b_len PySem.boot_len (pa_cons (pv 5) pa_nil)) pe_int) pa_nil))) pa_nil)))) pa_nil)) (pe_callB call_len_seq (by rfl) T.b_len PySem.boot_len (pa_cons (pv 5) pa_nil)))) (pss_cons (ps_set (i := 9) sc__law_bent.nd rfl (Or.inl rfl) (pe_and (pe_cmpR op_gt (pe_op op_add (pv 3) (pv 4)) pe_int (nomark _)) (pe_one (pe_cmpR op_gt (pe_ix ix_list (pv 5) (pv 7) (fun _ _ => rfl)) (pe_op op_sub pe_int (pv 2)) (nomark _))))) (pss_cons (ps_set (i := 9) sc__law_bent.nd rfl (Or.inl rfl) (pe_and (pv 9) (pe_one (pe_cmpR op_lt (pe_ix ix_list (pv 5) (pv 8) (fun _ _ => rfl)) (pv 2) (nomark _))))) (pss_cons (ps_if (PW.pt (pw_and (pt_cmpR op_eq (pe_call G__law_draw (hr.mono (by decide)) (by rfl) T.m__law_draw T.F__law_draw.kp T.bs__law_draw .nil pass0 (pa_cons (pv 0) (pa_cons pe_int pa_nil))) pe_int (nomark _)) (pw_and1 (pt_val (pv 9))))) (pss_cons (ps_asg (pe_op op_sub (pe_ix ix_list (pv 5) (pv 7) (fun _ _ => rfl)) pe_int) (pg_sub (pv 5) (pv 7) set_list)) (pss_one (ps_asg (pe_op op_add (pe_ix ix_list (pv 5) (pv 8) (fun _ _ => rfl)) pe_int) (pg_sub (pv 5) (pv 8) set_list)))) (pss_one (ps_set (i := 6) sc__law_bent.nd rfl (Or.inl rfl) (pe_op op_mod (pe_callTy call_int1 (by rfl) T.b_int (by decide +kernel) (pa_cons (pe_op op_add (pe_op op_add (pv 6) pe_int) (pe_call G__law_draw (hr.mono (by decide)) (by rfl) T.m__law_draw T.F__law_draw.kp T.bs__law_draw .nil pass0 (pa_cons (pv 0) (pa_cons (pe_callB (call_max2 rfl) (by rfl) T.b_max (by decide +kernel) (pa_cons pe_int (pa_cons (pe_op op_sub (pe_callB call_len_seq (by rfl) T.b_len PySem.boot_len (pa_cons (pv 1) pa_nil)) pe_int) pa_nil))) pa_nil)))) pa_nil)) (pe_callB call_len_seq (by rfl) T.b_len PySem.boot_len (pa_cons (pv 1) pa_nil)))))) (pss_cons (ps_setLc (i := 10) (own := [("deals", 11)]) (g := (gName 11)) (tt := tYes) rfl sc__law_bent.nd rfl rfl (sw_true rfl rfl rfl (by kernel_rfl)) (pi_list (pv 1)) (Ow.blkOk_k (by kernel_rfl)) (fun _ _ _ _ _ => (pg_name (i := 11) sc__law_bent.nd rfl (Or.inl rfl))) (fun _ _ _ _ _ => pts_nil) (fun _ _ _ _ _ => (pe_callTy call_list_of (by rfl) T.b_list (by decide +kernel) (pa_cons (pv 11) pa_nil)))) (pss_cons (ps_asg (pe_tup (pa_cons (pv 5) (pa_cons (pv 6) pa_nil))) (pg_sub (pe_ix ix_list (pv 10) (pv 3) (fun _ _ => rfl)) (pv 4) set_list)) (pss_one (ps_ret (pv 10))))))))))))
theorem ok__law_any_states (T : Txt K mg Z Y) : FnOk P w K mg base CX0 3 Y.f__law_any_states Y.d__law_any_states ["well", "folk", "counts", "most"] (sp__law_any_states K Z) := by
  have G__law_heavy := ok__law_heavy (P := P) (w := w) (base := base) T
  have G__law_cents := ok__law_cents (P := P) (w := w) (base := base) T
  have G__law_draw := ok__law_draw (P := P) (w := w) (base := base) T
  refine T.F__law_any_states.ok sc__law_any_states (fun vs H Q E h => l__law_any_states h) (fun cdv A outer s H vs Q E hr h => ⟨t__law_any_states K Z, ?_, r__law_any_states T.R h⟩)
  exact (pss_cons (ps_set (i := 4) sc__law_any_states.nd rfl (Or.inl rfl) (pe_lst pa_nil)) (pss_cons (ps_for PassesOwn.never rfl (pi_range1 rfl T.b_range (pa_cons (pe_ix ix_list (pv 2) pe_int (fun _ _ => rfl)) pa_nil)) (pg_name (i := 5) sc__law_any_states.nd rfl (Or.inl rfl)) (pss_cons (ps_par (i := 6) (j := 7) (by rfl) sc__law_any_states.nd rfl rfl (by decide) rfl rfl (pa_cons (pe_ifExp (pt_cmpR op_lt (pv 5) (pe_ix ix_list (pv 2) pe_int (fun _ _ => rfl)) (nomark _)) (pe_ix ix_list (pv 2) pe_int (fun _ _ => rfl)) (pe_ix ix_list (pv 2) pe_int (fun _ _ => rfl))) (pa_cons (pe_lst pa_nil) pa_nil)) (by rfl)) (pss_cons (ps_for PassesOwn.never rfl (pi_range1 rfl T.b_range (pa_cons (pe_call G__law_heavy (hr.mono (by decide)) (by rfl) T.m__law_heavy T.F__law_heavy.kp T.bs__law_heavy .nil pass0 (pa_cons (pv 1) pa_nil)) pa_nil)) (pg_name (i := 8) sc__law_any_states.nd rfl (Or.inl rfl)) (pss_cons (ps_set (i := 9) sc__law_any_states.nd rfl (Or.inl rfl) (pe_ifExp (pt_cmpR op_gt (pe_op op_add (pv 5) (pv 8)) pe_int (nomark _)) (pe_call G__law_cents (hr.mono (by decide)) (by rfl) T.m__law_cents T.F__law_cents.kp T.bs__law_cents .nil pass0 (pa_cons (pv 0) (pa_cons (pe_callB call_len_seq (by rfl) T.b_len PySem.boot_len (pa_cons (pv 1) pa_nil)) (pa_cons (pv 8) (pa_cons (pv 3) pa_nil))))) (pe_op op_rep (pe_lst (pa_cons pe_int pa_nil)) (pe_callB call_len_seq (by rfl) T.b_len PySem.boot_len (pa_cons (pv 1) pa_nil))))) (pss_one (ps_expr (pe_bm PySem.F.plainAttrs_list PySem.F.slot_list_append PySem.F.type_list_append mt_append (pv 7) (pa_cons (pe_tup (pa_cons (pv 9) (pa_cons (pe_call G__law_draw (hr.mono (by decide)) (by rfl) T.m__law_draw T.F__law_draw.kp T.bs__law_draw .nil pass0 (pa_cons (pv 0) (pa_cons (pv 6) pa_nil))) pa_nil))) pa_nil)))))) (pss_one (ps_expr (pe_bm PySem.F.plainAttrs_list PySem.F.slot_list_append PySem.F.type_list_append mt_append (pv 4) (pa_cons (pv 7) pa_nil))))))) (pss_one (ps_ret (pv 4)))))
theorem ok__law_copied (T : Txt K mg Z Y) : FnOk P w K mg base CX0 2 Y.f__law_copied Y.d__law_copied ["well", "tables", "most"] (sp__law_copied K Z) := by
  have G__law_draw := ok__law_draw (P := P) (w := w) (base := base) T
  refine T.F__law_copied.ok sc__law_copied (fun vs H Q E h => l__law_copied h) (fun cdv A outer s H vs Q E hr h => ⟨t__law_copied K Z, ?_, r__law_copied T.R h⟩)
  exact (pss_cons (ps_par (i := 3) (j := 4) (by rfl) sc__law_copied.nd rfl rfl (by decide) rfl rfl (pa_cons (pe_listRg rfl (by rfl) T.b_list (prg_1 (by rfl) T.b_range (pe_callB call_len_seq (by rfl) T.b_len PySem.boot_len (pa_cons (pv 1) pa_nil)))) (pa_cons (pe_lst pa_nil) pa_nil)) (by rfl)) (pss_cons (ps_for PassesOwn.never rfl (pi_range1 rfl T.b_range (pa_cons (pe_call G__law_draw (hr.mono (by decide)) (by rfl) T.m__law_draw T.F__law_draw.kp T.bs__law_draw .nil pass0 (pa_cons (pv 0) (pa_cons (pe_callB (call_max2 rfl) (by rfl) T.b_max (by decide +kernel) (pa_cons pe_int (pa_cons (pe_op op_add (pe_op op_sub (pv 2) (pe_callB call_len_seq (by rfl) T.b_len PySem.boot_len (pa_cons (pv 1) pa_nil))) pe_int) pa_nil))) pa_nil))) pa_nil)) (pg_name (i := 5) sc__law_copied.nd rfl (Or.inl rfl)) (pss_one (ps_expr (pe_bm PySem.F.plainAttrs_list PySem.F.slot_list_append PySem.F.type_list_append mt_append (pv 3) (pa_cons (pe_call G__law_draw (hr.mono (by decide)) (by rfl) T.m__law_draw T.F__law_draw.kp T.bs__law_draw .nil pass0 (pa_cons (pv 0) (pa_cons (pe_callB call_len_seq (by rfl) T.b_len PySem.boot_len (pa_cons (pv 1) pa_nil)) pa_nil))) pa_nil))))) (pss_cons (ps_for PassesOwn.never rfl (pi_list (pv 3)) (pg_name (i := 6) sc__law_copied.nd rfl (Or.inl rfl)) (pss_cons (ps_set (i := 7) sc__law_copied.nd rfl (Or.inl rfl) (pe_lst pa_nil)) (pss_cons (ps_for PassesOwn.never rfl (pi_list (pe_ix ix_list (pv 1) (pv 6) (fun _ _ => rfl))) (pg_tup rfl (pgs_cons (pg_name (i := 8) sc__law_copied.nd rfl (Or.inl rfl)) (pgs_cons (pg_name (i := 9) sc__law_copied.nd rfl (Or.inr rfl)) pgs_nil))) (pss_cons (ps_setLc (i := 10) (own := [("spot", 11), ("some", 12)]) (g := (gTup K 2 (gCons (gName 11) (gCons (gName 12) gNil)))) (tt := (tTest (tOp rEq (tVar 12) (tVar 9)))) rfl sc__law_copied.nd rfl rfl (sw_true rfl rfl rfl (by kernel_rfl)) (pi_enum (by rfl) T.b_enumerate (pa_cons (pv 3) pa_nil)) (Ow.blkOk_k (by kernel_rfl)) (fun _ _ _ _ _ => (pg_tup rfl (pgs_cons (pg_name (i := 11) sc__law_copied.nd rfl (Or.inl rfl)) (pgs_cons (pg_name (i := 12) sc__law_copied.nd rfl (Or.inl rfl)) pgs_nil)))) (fun _ _ _ _ _ => (pts_one (pt_cmpR op_eq (pv 12) (pv 9) (nomark _)))) (fun _ _ _ _ _ => (pv 11))) (pss_one (ps_expr (pe_bm PySem.F.plainAttrs_list PySem.F.slot_list_append PySem.F.type_list_append mt_append (pv 7) (pa_cons (pe_tup (pa_cons (pe_callTy call_list_of (by rfl) T.b_list (by decide +kernel) (pa_cons (pv 8) pa_nil)) (pa_cons (pe_ix ix_list (pv 10) (pe_call G__law_draw (hr.mono (by decide)) (by rfl) T.m__law_draw T.F__law_draw.kp T.bs__law_draw .nil pass0 (pa_cons (pv 0) (pa_cons (pe_callB call_len_seq (by rfl) T.b_len PySem.boot_len (pa_cons (pv 10) pa_nil)) pa_nil))) (fun _ _ => rfl)) pa_nil))) pa_nil)))))) (pss_one (ps_expr (pe_bm PySem.F.plainAttrs_list PySem.F.slot_list_append PySem.F.type_list_append mt_append (pv 4) (pa_cons (pv 7) pa_nil))))))) (pss_one (ps_ret (pv 4))))))
theorem ok__law_renumbered (T : Txt K mg Z Y) : FnOk P w K mg base CX0 2 Y.f__law_renumbered Y.d__law_renumbered ["well", "tables"] (sp__law_renumbered K Z) := by
  have G__law_draw := ok__law_draw (P := P) (w := w) (base := base) T
  refine T.F__law_renumbered.ok sc__law_renumbered (fun vs H Q E h => l__law_renumbered h) (fun cdv A outer s H vs Q E hr h => ⟨t__law_renumbered K Z, ?_, r__law_renumbered T.R h⟩)
  exact (pss_cons (ps_set (i := 2) sc__law_renumbered.nd rfl (Or.inr rfl) (pe_lst (pa_cons pe_int pa_nil))) (pss_cons (ps_for PassesOwn.never rfl (pi_range2 rfl T.b_range (pa_cons pe_int (pa_cons (pe_callB call_len_seq (by rfl) T.b_len PySem.boot_len (pa_cons (pv 1) pa_nil)) pa_nil))) (pg_name (i := 3) sc__law_renumbered.nd rfl (Or.inl rfl)) (pss_one (ps_expr (pe_bm PySem.F.plainAttrs_list PySem.F.slot_list_insert PySem.F.type_list_insert mt_insert (pv 2) (pa_cons (pe_op op_add pe_int (pe_call G__law_draw (hr.mono (by decide)) (by rfl) T.m__law_draw T.F__law_draw.kp T.bs__law_draw .nil pass0 (pa_cons (pv 0) (pa_cons (pv 3) pa_nil)))) (pa_cons (pv 3) pa_nil)))))) (pss_one (ps_ret (pe_lc (own := [("rank", 3)]) (g := (gName 3)) (tt := tYes) rfl sc__law_renumbered.nd (pi_list (pv 2)) (Ow.blkOk_k (by kernel_rfl)) (fun _ _ _ _ _ => (pg_name (i := 3) sc__law_renumbered.nd rfl (Or.inl rfl))) (fun _ _ _ _ _ => pts_nil) (fun _ _ _ _ _ => (pe_lc (own := [("cents", 4), ("goal", 5)]) (g := (gTup K 2 (gCons (gName 4) (gCons (gName 5) gNil)))) (tt := tYes) rfl sc__law_renumbered.nd (pi_list (pe_ix ix_list (pv 1) (pv 3) (fun _ _ => rfl))) (Ow.blkOk_k (by kernel_rfl)) (fun _ _ _ _ _ => (pg_tup rfl (pgs_cons (pg_name (i := 4) sc__law_renumbered.nd rfl (Or.inl rfl)) (pgs_cons (pg_name (i := 5) sc__law_renumbered.nd rfl (Or.inl rfl)) pgs_nil)))) (fun _ _ _ _ _ => pts_nil) (fun _ _ _ _ _ => (pe_tup (pa_cons (pe_callTy call_list_of (by rfl) T.b_list (by decide +kernel) (pa_cons (pv 4) pa_nil)) (pa_cons (pe_bm PySem.F.plainAttrs_list PySem.F.slot_list_index PySem.F.type_list_index mt_index (pv 2) (pa_cons (pv 5) pa_nil)) pa_nil)))))))))))
theorem ok__law_plan (T : Txt K mg Z Y) : FnOk P w K mg base CX0 4 Y.f__law_plan Y.d__law_plan ["well", "sizes"] (sp__law_plan K Z) := by
  have G__law_draw := ok__law_draw (P := P) (w := w) (base := base) T
  have G__law_folk := ok__law_folk (P := P) (w := w) (base := base) T
  have G__law_heavy := ok__law_heavy (P := P) (w := w) (base := base) T
  have G__law_by_table := ok__law_by_table (P := P) (w := w) (base := base) T
  have G__law_lines := ok__law_lines (P := P) (w := w) (base := base) T
  have G__law_bent := ok__law_bent (P := P) (w := w) (base := base) T
  have G__law_any_states := ok__law_any_states (P := P) (w := w) (base := base) T
  have G__law_copied := ok__law_copied (P := P) (w := w) (base := base) T
  have G__law_renumbered := ok__law_renumbered (P := P) (w := w) (base := base) T
  refine T.F__law_plan.ok sc__law_plan (fun vs H Q E h => l__law_plan h) (fun cdv A outer s H vs Q E hr h => ⟨t__law_plan K Z, ?_, r__law_plan T.R h⟩)
  exact (pss_cons (ps_par (i := 2) (j := 3) (by rfl) sc__law_plan.nd rfl rfl (by decide) rfl rfl (pa_cons (pe_call G__law_draw (hr.mono (by decide)) (by rfl) T.m__law_draw T.F__law_draw.kp T.bs__law_draw .nil pass0 (pa_cons (pv 0) (pa_cons pe_int pa_nil))) (pa_cons (pe_call G__law_folk (hr.mono (by decide)) (by rfl) T.m__law_folk T.F__law_folk.kp T.bs__law_folk .nil pass0 (pa_cons (pv 0) (pa_cons (pe_ix ix_tup (pv 1) pe_int (fun _ _ => rfl)) (pa_cons (pe_ix ix_tup (pv 1) pe_int (fun _ _ => rfl)) pa_nil)))) pa_nil)) (by rfl)) (pss_cons (ps_set (i := 4) sc__law_plan.nd rfl (Or.inl rfl) (pe_op op_add pe_int (pe_call G__law_draw (hr.mono (by decide)) (by rfl) T.m__law_draw T.F__law_draw.kp T.bs__law_draw .nil pass0 (pa_cons (pv 0) (pa_cons (pe_ix ix_tup (pv 1) pe_int (fun _ _ => rfl)) pa_nil))))) (pss_cons (ps_if (PW.pt (pw_and (pt_cmpR op_in_seq (pv 2) (pe_tup (pa_cons pe_int (pa_cons pe_int pa_nil))) (by rfl)) (pw_and1 (pt_cmpR op_le (pe_call G__law_heavy (hr.mono (by decide)) (by rfl) T.m__law_heavy T.F__law_heavy.kp T.bs__law_heavy .nil pass0 (pa_cons (pv 3) pa_nil)) (pe_ix ix_tup (pv 1) pe_int (fun _ _ => rfl)) (nomark _))))) (pss_cons (ps_set (i := 5) sc__law_plan.nd rfl (Or.inl rfl) (pe_call G__law_by_table (hr.mono (by decide)) (by rfl) T.m__law_by_table T.F__law_by_table.kp T.bs__law_by_table .nil pass0 (pa_cons (pv 3) (pa_cons (pe_call G__law_lines (hr.mono (by decide)) (by rfl) T.m__law_lines T.F__law_lines.kp T.bs__law_lines .nil pass0 (pa_cons (pv 0) (pa_cons (pv 3) (pa_cons (pe_ix ix_tup (pv 1) pe_int (fun _ _ => rfl)) pa_nil)))) pa_nil)))) (pss_one (ps_set (i := 5) sc__law_plan.nd rfl (Or.inl rfl) (pe_ifExp (pt_cmpR op_eq (pv 2) pe_int (nomark _)) (pe_call G__law_bent (hr.mono (by decide)) (by rfl) T.m__law_bent T.F__law_bent.kp T.bs__law_bent .nil pass0 (pa_cons (pv 0) (pa_cons (pv 5) (pa_cons (pe_ix ix_tup (pv 1) pe_int (fun _ _ => rfl)) pa_nil)))) (pv 5))))) (pss_one (ps_if (pt_cmpR op_eq (pv 2) pe_int (nomark _)) (pss_one (ps_set (i := 5) sc__law_plan.nd rfl (Or.inl rfl) (pe_call G__law_any_states (hr.mono (by decide)) (by rfl) T.m__law_any_states T.F__law_any_states.kp T.bs__law_any_states .nil pass0 (pa_cons (pv 0) (pa_cons (pv 3) (pa_cons (pe_lst (pa_cons pe_int (pa_cons pe_int pa_nil))) (pa_cons (pe_ix ix_tup (pv 1) pe_int (fun _ _ => rfl)) pa_nil))))))) (pss_one (ps_if (pt_cmpR op_eq (pv 2) pe_int (nomark _)) (pss_cons (ps_set (i := 6) sc__law_plan.nd rfl (Or.inl rfl) (pe_callB (call_min2 rfl) (by rfl) T.b_min (by decide +kernel) (pa_cons (pv 4) (pa_cons (pe_op op_add pe_int (pe_op op_fdiv (pe_ix ix_tup (pv 1) pe_int (fun _ _ => rfl)) pe_int)) pa_nil)))) (pss_one (ps_set (i := 5) sc__law_plan.nd rfl (Or.inl rfl) (pe_call G__law_copied (hr.mono (by decide)) (by rfl) T.m__law_copied T.F__law_copied.kp T.bs__law_copied .nil pass0 (pa_cons (pv 0) (pa_cons (pe_call G__law_any_states (hr.mono (by decide)) (by rfl) T.m__law_any_states T.F__law_any_states.kp T.bs__law_any_states .nil pass0 (pa_cons (pv 0) (pa_cons (pv 3) (pa_cons (pe_lst (pa_cons (pv 6) (pa_cons (pv 6) pa_nil))) (pa_cons (pe_ix ix_tup (pv 1) pe_int (fun _ _ => rfl)) pa_nil))))) (pa_cons (pe_ix ix_tup (pv 1) pe_int (fun _ _ => rfl)) pa_nil))))))) (pss_one (ps_if (pt_cmpR op_eq (pv 2) pe_int (nomark _)) (pss_one (ps_set (i := 5) sc__law_plan.nd rfl (Or.inl rfl) (pe_call G__law_any_states (hr.mono (by decide)) (by rfl) T.m__law_any_states T.F__law_any_states.kp T.bs__law_any_states .nil pass0 (pa_cons (pv 0) (pa_cons (pv 3) (pa_cons (pe_lst (pa_cons (pe_op op_add pe_int (pe_call G__law_draw (hr.mono (by decide)) (by rfl) T.m__law_draw T.F__law_draw.kp T.bs__law_draw .nil pass0 (pa_cons (pv 0) (pa_cons (pv 4) pa_nil)))) (pa_cons (pv 4) pa_nil))) (pa_cons (pe_ix ix_tup (pv 1) pe_int (fun _ _ => rfl)) pa_nil))))))) (pss_one (ps_set (i := 5) sc__law_plan.nd rfl (Or.inl rfl) (pe_call G__law_any_states (hr.mono (by decide)) (by rfl) T.m__law_any_states T.F__law_any_states.kp T.bs__law_any_states .nil pass0 (pa_cons (pv 0) (pa_cons (pv 3) (pa_cons (pe_lst (pa_cons (pv 4) (pa_cons (pv 4) pa_nil))) (pa_cons (pe_ix ix_tup (pv 1) pe_int (fun _ _ => rfl)) pa_nil)))))))))))))) (pss_one (ps_ret (pe_tup (pa_cons (pv 3) (pa_cons (pe_ifExp (pt_cmpR op_eq (pe_call G__law_draw (hr.mono (by decide)) (by rfl) T.m__law_draw T.F__law_draw.kp T.bs__law_draw .nil pass0 (pa_cons (pv 0) (pa_cons pe_int pa_nil))) pe_int (nomark _)) (pe_call G__law_renumbered (hr.mono (by decide)) (by rfl) T.m__law_renumbered T.F__law_renumbered.kp T.bs__law_renumbered .nil pass0 (pa_cons (pv 0) (pa_cons (pv 5) pa_nil))) (pv 5)) pa_nil))))))))
theorem ok_is_name (T : Txt K mg Z Y) : FnOk P w K mg base CX0 1 Y.f_is_name Y.d_is_name ["name"] (sp_is_name K Z) := by
  refine T.F_is_name.ok sc_is_name (fun vs H Q E h => l_is_name h) (fun cdv A outer s H vs Q E hr h => ⟨t_is_name K Z, ?_, r_is_name T.R h⟩)
  exact (pss_one (ps_ret (pe_and (pe_chain op_le op_le pe_int (pe_callB call_len_str (by rfl) T.b_len PySem.boot_len (pa_cons (pv 0) pa_nil)) (pe_glob (by rfl) T.c_LONGEST_NAME T.r_LONGEST_NAME)) (pe_one (pe_callB (cr_all rfl) (by rfl) T.b_all (by decide +kernel) (pa_cons (pe_lc (own := [("letter", 1)]) (g := (gName 1)) (tt := tYes) rfl sc_is_name.nd (pi_str (pv 0)) (Ow.blkOk_k (by kernel_rfl)) (fun _ _ _ _ _ => (pg_name (i := 1) sc_is_name.nd rfl (Or.inl rfl))) (fun _ _ _ _ _ => pts_nil) (fun _ _ _ _ _ => (pe_cmpR op_in_str (pv 1) (pe_glob (by rfl) T.c_LETTERS T.r_LETTERS) (by rfl)))) pa_nil))))))
theorem ok_checked_weights (T : Txt K mg Z Y) : FnOk P w K mg base CX0 2 Y.f_checked_weights Y.d_checked_weights ["people"] (sp_checked_weights K Z) := by
  have G_is_name := ok_is_name (P := P) (w := w) (base := base) T
  refine T.F_checked_weights.ok sc_checked_weights (fun vs H Q E h => l_checked_weights h) (fun cdv A outer s H vs Q E hr h => ⟨t_checked_weights K Z, ?_, r_checked_weights T.R h⟩)
  exact (pss_cons (ps_set (i := 1) sc_checked_weights.nd rfl (Or.inl rfl) (pe_lst pa_nil)) (pss_cons (ps_for PassesOwn.never rfl (pi_list (pv 0)) (pg_tup rfl (pgs_cons (pg_name (i := 2) sc_checked_weights.nd rfl (Or.inl rfl)) (pgs_cons (pg_name (i := 3) sc_checked_weights.nd rfl (Or.inl rfl)) pgs_nil))) (pss_cons (ps_if (pt_not (pt_val (pe_call G_is_name (hr.mono (by decide)) (by rfl) T.m_is_name T.F_is_name.kp T.bs_is_name .nil pass0 (pa_cons (pv 2) pa_nil)))) (pss_one ps_never) pss_nil) (pss_cons (ps_if (pt_cmpR op_in_seq (pv 2) (pv 1) (by rfl)) (pss_one ps_never) pss_nil) (pss_cons (ps_if (pt_cmpR op_lt (pv 3) pe_int (nomark _)) (pss_one ps_never) pss_nil) (pss_one (ps_expr (pe_bm PySem.F.plainAttrs_list PySem.F.slot_list_append PySem.F.type_list_append mt_append (pv 1) (pa_cons (pv 2) pa_nil)))))))) (pss_cons (ps_setLc (i := 4) (own := [("_", 5), ("weight", 3)]) (g := (gTup K 2 (gCons (gName 5) (gCons (gName 3) gNil)))) (tt := tYes) rfl sc_checked_weights.nd rfl rfl (sw_true rfl rfl rfl (by kernel_rfl)) (pi_list (pv 0)) (Ow.blkOk_k (by kernel_rfl)) (fun _ _ _ _ _ => (pg_tup rfl (pgs_cons (pg_name (i := 5) sc_checked_weights.nd rfl (Or.inl rfl)) (pgs_cons (pg_name (i := 3) sc_checked_weights.nd rfl (Or.inl rfl)) pgs_nil)))) (fun _ _ _ _ _ => pts_nil) (fun _ _ _ _ _ => (pv 3))) (pss_cons (ps_if (pt_cmpR op_eq (pe_callB (cr_sum rfl) (by rfl) T.b_sum (by decide +kernel) (pa_cons (pv 4) pa_nil)) pe_int (nomark _)) (pss_one ps_never) pss_nil) (pss_one (ps_ret (pv 4)))))))
theorem ok_wrong_rest (T : Txt K mg Z Y) : FnOk P w K mg base CX0 1 Y.f_wrong_rest Y.d_wrong_rest ["row", "whole", "many", "most"] (sp_wrong_rest K Z) := by
  refine T.F_wrong_rest.ok sc_wrong_rest (fun vs H Q E h => l_wrong_rest h) (fun cdv A outer s H vs Q E hr h => ⟨t_wrong_rest K Z, ?_, r_wrong_rest T.R h⟩)
  exact (pss_cons (ps_for PassesOwn.never rfl (pi_enum (by rfl) T.b_enumerate (pa_cons (pv 0) pa_nil)) (pg_tup rfl (pgs_cons (pg_name (i := 4) sc_wrong_rest.nd rfl (Or.inl rfl)) (pgs_cons (pg_tup rfl (pgs_cons (pg_name (i := 5) sc_wrong_rest.nd rfl (Or.inl rfl)) (pgs_cons (pg_name (i := 6) sc_wrong_rest.nd rfl (Or.inl rfl)) pgs_nil))) pgs_nil))) (pss_one (ps_if (PW.pt (pw_or (pt_cmpR op_eq (pv 4) (pv 1) (nomark _)) (pw_or (pt_cmpR op_ne (pe_callB call_len_seq (by rfl) T.b_len PySem.boot_len (pa_cons (pv 5) pa_nil)) (pv 2) (nomark _)) (pw_or (pt_cmpR op_ne (pe_callB (cr_sum rfl) (by rfl) T.b_sum (by decide +kernel) (pa_cons (pv 5) pa_nil)) (pv 4) (nomark _)) (pw_or1 (pt_not (pt_chain op_le op_lt pe_int (pv 6) (pv 3)))))))) (pss_one (ps_ret (pv 4))) pss_nil))) (pss_cons (ps_if (pt_cmpR op_lt (pe_callB call_len_seq (by rfl) T.b_len PySem.boot_len (pa_cons (pv 0) pa_nil)) (pv 1) (nomark _)) (pss_one (ps_ret (pe_callB call_len_seq (by rfl) T.b_len PySem.boot_len (pa_cons (pv 0) pa_nil)))) pss_nil) (pss_one (ps_ret pe_non))))
theorem ok_check_states (T : Txt K mg Z Y) : FnOk P w K mg base CX0 2 Y.f_check_states Y.d_check_states ["states", "whole", "many"] (sp_check_states K Z) := by
  have G_wrong_rest := ok_wrong_rest (P := P) (w := w) (base := base) T
  refine T.F_check_states.ok sc_check_states (fun vs H Q E h => l_check_states h) (fun cdv A outer s H vs Q E hr h => ⟨t_check_states K Z, ?_, r_check_states T.R h⟩)
  exact (pss_cons (ps_if (pt_cmpR op_eq (pe_callB call_len_seq (by rfl) T.b_len PySem.boot_len (pa_cons (pv 0) pa_nil)) pe_int (nomark _)) (pss_one ps_never) pss_nil) (pss_cons (ps_if (PW.pt (pw_and (pt_cmpR op_gt (pe_callB call_len_seq (by rfl) T.b_len PySem.boot_len (pa_cons (pe_ix ix_list (pv 0) pe_int (fun _ _ => rfl)) pa_nil)) pe_int (nomark _)) (pw_and1 (pt_val (pe_callB (Ow.call_anyI rfl) (by rfl) T.b_any (by decide +kernel) (pa_cons (pe_ix ix_tup (pe_ix ix_list (pe_ix ix_list (pv 0) pe_int (fun _ _ => rfl)) pe_int (fun _ _ => rfl)) pe_int (fun _ _ => rfl)) pa_nil)))))) (pss_one ps_never) pss_nil) (pss_one (ps_for PassesOwn.never rfl (pi_enum (by rfl) T.b_enumerate (pa_cons (pv 0) pa_nil)) (pg_tup rfl (pgs_cons (pg_name (i := 3) sc_check_states.nd rfl (Or.inl rfl)) (pgs_cons (pg_name (i := 4) sc_check_states.nd rfl (Or.inl rfl)) pgs_nil))) (pss_cons (ps_set (i := 5) sc_check_states.nd rfl (Or.inl rfl) (pe_call G_wrong_rest (hr.mono (by decide)) (by rfl) T.m_wrong_rest T.F_wrong_rest.kp T.bs_wrong_rest .nil pass0 (pa_cons (pv 4) (pa_cons (pv 1) (pa_cons (pv 2) (pa_cons (pe_callB call_len_seq (by rfl) T.b_len PySem.boot_len (pa_cons (pv 0) pa_nil)) pa_nil)))))) (pss_one (ps_if (pt_cmpR op_notN (pv 5) pe_non (nomark _)) (pss_one ps_never) pss_nil)))))))
theorem ok_columns_of (T : Txt K mg Z Y) : FnOk P w K mg base CX0 1 Y.f_columns_of Y.d_columns_of ["rows"] (sp_columns_of K Z) := by
  refine T.F_columns_of.ok sc_columns_of (fun vs H Q E h => l_columns_of h) (fun cdv A outer s H vs Q E hr h => ⟨t_columns_of K Z, ?_, r_columns_of T.R h⟩)
  exact (pss_one (ps_ret (Ow.pe_tupzip (by rfl) T.b_tuple (by rfl) T.b_zip (pv 0))))
theorem ok_Rule___init__ (T : Txt K mg Z Y) : FnOk P w K mg base CX0 3 Y.f_Rule___init__ Y.d_Rule___init__ ["self", "people", "states"] (sp_Rule___init__ K Z) := by
  have G_checked_weights := ok_checked_weights (P := P) (w := w) (base := base) T
  have G_check_states := ok_check_states (P := P) (w := w) (base := base) T
  have G_columns_of := ok_columns_of (P := P) (w := w) (base := base) T
  refine T.F_Rule___init__.ok sc_Rule___init__ (fun vs H Q E h => l_Rule___init__ h) (fun cdv A outer s H vs Q E hr h => ⟨t_Rule___init__ K Z, ?_, r_Rule___init__ T.R h⟩)
  exact (pss_cons (ps_set (i := 3) sc_Rule___init__.nd rfl (Or.inl rfl) (pe_call G_checked_weights (hr.mono (by decide)) (by rfl) T.m_checked_weights T.F_checked_weights.kp T.bs_checked_weights .nil pass0 (pa_cons (pv 1) pa_nil))) (pss_cons (ps_expr (pe_call G_check_states (hr.mono (by decide)) (by rfl) T.m_check_states T.F_check_states.kp T.bs_check_states .nil pass0 (pa_cons (pv 2) (pa_cons (pe_callB (cr_sum rfl) (by rfl) T.b_sum (by decide +kernel) (pa_cons (pv 3) pa_nil)) (pa_cons (pe_callB call_len_seq (by rfl) T.b_len PySem.boot_len (pa_cons (pv 3) pa_nil)) pa_nil))))) (pss_cons (ps_fld (pv 0) (pe_callTy call_tuple_of (by rfl) T.b_tuple (by decide +kernel) (pa_cons (pe_lc (own := [("name", 4), ("weight", 5)]) (g := (gTup K 2 (gCons (gName 4) (gCons (gName 5) gNil)))) (tt := tYes) rfl sc_Rule___init__.nd (pi_list (pv 1)) (Ow.blkOk_k (by kernel_rfl)) (fun _ _ _ _ _ => (pg_tup rfl (pgs_cons (pg_name (i := 4) sc_Rule___init__.nd rfl (Or.inl rfl)) (pgs_cons (pg_name (i := 5) sc_Rule___init__.nd rfl (Or.inl rfl)) pgs_nil)))) (fun _ _ _ _ _ => pts_nil) (fun _ _ _ _ _ => (pe_tup (pa_cons (pv 4) (pa_cons (pv 5) pa_nil))))) pa_nil)) rfl) (pss_cons (ps_fld (pv 0) (pe_callTy call_tuple_of (by rfl) T.b_tuple (by decide +kernel) (pa_cons (pe_lc (own := [("row", 6)]) (g := (gName 6)) (tt := tYes) rfl sc_Rule___init__.nd (pi_list (pv 2)) (Ow.blkOk_k (by kernel_rfl)) (fun _ _ _ _ _ => (pg_name (i := 6) sc_Rule___init__.nd rfl (Or.inl rfl))) (fun _ _ _ _ _ => pts_nil) (fun _ _ _ _ _ => (pe_call G_columns_of (hr.mono (by decide)) (by rfl) T.m_columns_of T.F_columns_of.kp T.bs_columns_of .nil pass0 (pa_cons (pe_lc (own := [("extras", 7), ("_", 8)]) (g := (gTup K 2 (gCons (gName 7) (gCons (gName 8) gNil)))) (tt := tYes) rfl sc_Rule___init__.nd (pi_list (pv 6)) (Ow.blkOk_k (by kernel_rfl)) (fun _ _ _ _ _ => (pg_tup rfl (pgs_cons (pg_name (i := 7) sc_Rule___init__.nd rfl (Or.inl rfl)) (pgs_cons (pg_name (i := 8) sc_Rule___init__.nd rfl (Or.inl rfl)) pgs_nil)))) (fun _ _ _ _ _ => pts_nil) (fun _ _ _ _ _ => (pv 7))) pa_nil)))) pa_nil)) rfl) (pss_cons (ps_fld (pv 0) (pe_callTy call_tuple_of (by rfl) T.b_tuple (by decide +kernel) (pa_cons (pe_lc (own := [("row", 6)]) (g := (gName 6)) (tt := tYes) rfl sc_Rule___init__.nd (pi_list (pv 2)) (Ow.blkOk_k (by kernel_rfl)) (fun _ _ _ _ _ => (pg_name (i := 6) sc_Rule___init__.nd rfl (Or.inl rfl))) (fun _ _ _ _ _ => pts_nil) (fun _ _ _ _ _ => (pe_callTy call_tuple_of (by rfl) T.b_tuple (by decide +kernel) (pa_cons (pe_lc (own := [("_", 8), ("after", 9)]) (g := (gTup K 2 (gCons (gName 8) (gCons (gName 9) gNil)))) (tt := tYes) rfl sc_Rule___init__.nd (pi_list (pv 6)) (Ow.blkOk_k (by kernel_rfl)) (fun _ _ _ _ _ => (pg_tup rfl (pgs_cons (pg_name (i := 8) sc_Rule___init__.nd rfl (Or.inl rfl)) (pgs_cons (pg_name (i := 9) sc_Rule___init__.nd rfl (Or.inl rfl)) pgs_nil)))) (fun _ _ _ _ _ => pts_nil) (fun _ _ _ _ _ => (pv 9))) pa_nil)))) pa_nil)) rfl) (pss_one (ps_fld (pv 0) (pe_callB (cr_sum rfl) (by rfl) T.b_sum (by decide +kernel) (pa_cons (pv 3) pa_nil)) rfl)))))))
theorem ok__law_copy (T : Txt K mg Z Y) : FnOk P w K mg base CX0 1 Y.f__law_copy Y.d__law_copy ["tables"] (sp__law_copy K Z) := by
  refine T.F__law_copy.ok sc__law_copy (fun vs H Q E h => l__law_copy h) (fun cdv A outer s H vs Q E hr h => ⟨t__law_copy K Z, ?_, r__law_copy T.R h⟩)
  exact (pss_one (ps_ret (pe_lc (own := [("deals", 1)]) (g := (gName 1)) (tt := tYes) rfl sc__law_copy.nd (pi_list (pv 0)) (Ow.blkOk_k (by kernel_rfl)) (fun _ _ _ _ _ => (pg_name (i := 1) sc__law_copy.nd rfl (Or.inl rfl))) (fun _ _ _ _ _ => pts_nil) (fun _ _ _ _ _ => (pe_lc (own := [("cents", 2), ("goal", 3)]) (g := (gTup K 2 (gCons (gName 2) (gCons (gName 3) gNil)))) (tt := tYes) rfl sc__law_copy.nd (pi_list (pv 1)) (Ow.blkOk_k (by kernel_rfl)) (fun _ _ _ _ _ => (pg_tup rfl (pgs_cons (pg_name (i := 2) sc__law_copy.nd rfl (Or.inl rfl)) (pgs_cons (pg_name (i := 3) sc__law_copy.nd rfl (Or.inl rfl)) pgs_nil)))) (fun _ _ _ _ _ => pts_nil) (fun _ _ _ _ _ => (pe_tup (pa_cons (pe_callTy call_list_of (by rfl) T.b_list (by decide +kernel) (pa_cons (pv 2) pa_nil)) (pa_cons (pv 3) pa_nil)))))))))
theorem ok__law_made (T : Txt K mg Z Y) : FnOk P w K mg base CX0 5 Y.f__law_made Y.d__law_made ["plan"] (sp__law_made K Z) := by
  have G_Rule___init__ := ok_Rule___init__ (P := P) (w := w) (base := base) T
  have G__law_copy := ok__law_copy (P := P) (w := w) (base := base) T
  refine T.F__law_made.ok sc__law_made (fun vs H Q E h => l__law_made h) (fun cdv A outer s H vs Q E hr h => ⟨t__law_made K Z, ?_, r__law_made T.R h⟩)
  exact (pss_one (ps_ret (pe_make T.mk_Rule G_Rule___init__ (hr.mono (by decide)) (by rfl) T.m_Rule T.bs_Rule___init__ .nil pass0 (pa_cons (pe_callTy call_list_of (by rfl) T.b_list (by decide +kernel) (pa_cons (pe_ix ix_tup (pv 0) pe_int (fun _ _ => rfl)) pa_nil)) (pa_cons (pe_call G__law_copy (hr.mono (by decide)) (by rfl) T.m__law_copy T.F__law_copy.kp T.bs__law_copy .nil pass0 (pa_cons (pe_ix ix_tup (pv 0) pe_int (fun _ _ => rfl)) pa_nil)) pa_nil)))))
theorem ok_Rule___eq__ (T : Txt K mg Z Y) : FnOk P w K mg base CX0 1 Y.f_Rule___eq__ Y.d_Rule___eq__ ["self", "other"] (sp_Rule___eq__ K Z) := by
  refine T.F_Rule___eq__.ok sc_Rule___eq__ (fun vs H Q E h => l_Rule___eq__ h) (fun cdv A outer s H vs Q E hr h => ⟨t_Rule___eq__ K Z, ?_, r_Rule___eq__ T.R h⟩)
  exact (pss_cons (ps_if (pt_not (pt_val (pe_callB call_isi (by rfl) T.b_isinstance (by decide +kernel) (pa_cons (pv 1) (pa_cons (pe_glob (by rfl) T.m_Rule rfl) pa_nil))))) (pss_one (ps_ret pe_bl)) pss_nil) (pss_one (ps_ret (pe_and (pe_cmpR (op_eqD hr.units) (pe_fld (pv 0) rfl) (pe_fld (pv 1) rfl) (nomark _)) (pe_and (pe_cmpR (op_eqD hr.units) (pe_fld (pv 0) rfl) (pe_fld (pv 1) rfl) (nomark _)) (pe_one (pe_cmpR (op_eqD hr.units) (pe_fld (pv 0) rfl) (pe_fld (pv 1) rfl) (nomark _))))))))
theorem ok__law_one_more (T : Txt K mg Z Y) : FnOk P w K mg base CX0 3 Y.f__law_one_more Y.d__law_one_more ["well", "folk", "tables"] (sp__law_one_more K Z) := by
  have G__law_titles := ok__law_titles (P := P) (w := w) (base := base) T
  have G__law_draw := ok__law_draw (P := P) (w := w) (base := base) T
  refine T.F__law_one_more.ok sc__law_one_more (fun vs H Q E h => l__law_one_more h) (fun cdv A outer s H vs Q E hr h => ⟨t__law_one_more K Z, ?_, r__law_one_more T.R h⟩)
  exact (pss_cons (ps_set (i := 3) sc__law_one_more.nd rfl (Or.inr rfl) (pe_lc (own := [("title", 9), ("load", 10)]) (g := (gTup K 2 (gCons (gName 9) (gCons (gName 10) gNil)))) (tt := tYes) rfl sc__law_one_more.nd (pi_list (pv 1)) (Ow.blkOk_k (by kernel_rfl)) (fun _ _ _ _ _ => (pg_tup rfl (pgs_cons (pg_name (i := 9) sc__law_one_more.nd rfl (Or.inl rfl)) (pgs_cons (pg_name (i := 10) sc__law_one_more.nd rfl (Or.inl rfl)) pgs_nil)))) (fun _ _ _ _ _ => pts_nil) (fun _ _ _ _ _ => (pv 9)))) (pss_cons (ps_setLc (i := 4) (own := [("some", 11)]) (g := (gName 11)) (tt := (tTest (tOp (rIn K true) (tVar 11) (tVar 3)))) rfl sc__law_one_more.nd rfl rfl (sw_true rfl rfl rfl (by kernel_rfl)) (pi_list (pe_call G__law_titles (hr.mono (by decide)) (by rfl) T.m__law_titles T.F__law_titles.kp T.bs__law_titles .nil pass0 (pa_cons (pv 0) (pa_cons pe_int pa_nil)))) (Ow.blkOk_k (by kernel_rfl)) (fun _ _ _ _ _ => (pg_name (i := 11) sc__law_one_more.nd rfl (Or.inl rfl))) (fun _ _ _ _ _ => (pts_one (pt_cmpR op_notIn_seq (pv 11) (pv 3) (by rfl)))) (fun _ _ _ _ _ => (pv 11))) (pss_cons (ps_set (i := 5) sc__law_one_more.nd rfl (Or.inl rfl) (pe_call G__law_draw (hr.mono (by decide)) (by rfl) T.m__law_draw T.F__law_draw.kp T.bs__law_draw .nil pass0 (pa_cons (pv 0) (pa_cons (pe_op op_add (pe_callB call_len_seq (by rfl) T.b_len PySem.boot_len (pa_cons (pv 1) pa_nil)) pe_int) pa_nil)))) (pss_cons (ps_expr (pe_bm PySem.F.plainAttrs_list PySem.F.slot_list_insert PySem.F.type_list_insert mt_insert (pv 1) (pa_cons (pv 5) (pa_cons (pe_tup (pa_cons (pe_ix ix_list (pv 4) pe_int (fun _ _ => rfl)) (pa_cons pe_int pa_nil))) pa_nil)))) (pss_cons (ps_for PassesOwn.never rfl (pi_list (pv 2)) (pg_name (i := 6) sc__law_one_more.nd rfl (Or.inl rfl)) (pss_one (ps_for PassesOwn.never rfl (pi_list (pv 6)) (pg_tup rfl (pgs_cons (pg_name (i := 7) sc__law_one_more.nd rfl (Or.inl rfl)) (pgs_cons (pg_name (i := 8) sc__law_one_more.nd rfl (Or.inl rfl)) pgs_nil))) (pss_one (ps_expr (pe_bm PySem.F.plainAttrs_list PySem.F.slot_list_insert PySem.F.type_list_insert mt_insert (pv 7) (pa_cons (pv 5) (pa_cons pe_int pa_nil)))))))) (pss_one (ps_ret (pe_tup (pa_cons (pv 1) (pa_cons (pv 2) pa_nil))))))))))
theorem ok__law_other_folk (T : Txt K mg Z Y) : FnOk P w K mg base CX0 4 Y.f__law_other_folk Y.d__law_other_folk ["well", "plan", "most"] (sp__law_other_folk K Z) := by
  have G__law_copy := ok__law_copy (P := P) (w := w) (base := base) T
  have G__law_draw := ok__law_draw (P := P) (w := w) (base := base) T
  have G__law_one_more := ok__law_one_more (P := P) (w := w) (base := base) T
  have G__law_titles := ok__law_titles (P := P) (w := w) (base := base) T
  refine T.F__law_other_folk.ok sc__law_other_folk (fun vs H Q E h => l__law_other_folk h) (fun cdv A outer s H vs Q E hr h => ⟨t__law_other_folk K Z, ?_, r__law_other_folk T.R h⟩)
  exact (pss_cons (ps_par (i := 3) (j := 4) (by rfl) sc__law_other_folk.nd rfl rfl (by decide) rfl rfl (pa_cons (pe_callTy call_list_of (by rfl) T.b_list (by decide +kernel) (pa_cons (pe_ix ix_tup (pv 1) pe_int (fun _ _ => rfl)) pa_nil)) (pa_cons (pe_call G__law_copy (hr.mono (by decide)) (by rfl) T.m__law_copy T.F__law_copy.kp T.bs__law_copy .nil pass0 (pa_cons (pe_ix ix_tup (pv 1) pe_int (fun _ _ => rfl)) pa_nil)) pa_nil)) (by rfl)) (pss_cons (ps_set (i := 5) sc__law_other_folk.nd rfl (Or.inl rfl) (pe_call G__law_draw (hr.mono (by decide)) (by rfl) T.m__law_draw T.F__law_draw.kp T.bs__law_draw .nil pass0 (pa_cons (pv 0) (pa_cons pe_int pa_nil)))) (pss_cons (ps_par (i := 6) (j := 7) (by rfl) sc__law_other_folk.nd rfl rfl (by decide) rfl rfl (pa_cons (pe_call G__law_draw (hr.mono (by decide)) (by rfl) T.m__law_draw T.F__law_draw.kp T.bs__law_draw .nil pass0 (pa_cons (pv 0) (pa_cons (pe_callB call_len_seq (by rfl) T.b_len PySem.boot_len (pa_cons (pv 3) pa_nil)) pa_nil))) (pa_cons (pe_call G__law_draw (hr.mono (by decide)) (by rfl) T.m__law_draw T.F__law_draw.kp T.bs__law_draw .nil pass0 (pa_cons (pv 0) (pa_cons (pe_callB call_len_seq (by rfl) T.b_len PySem.boot_len (pa_cons (pv 3) pa_nil)) pa_nil))) pa_nil)) (by rfl)) (pss_cons (ps_if (PW.pt (pw_and (pt_cmpR op_eq (pv 5) pe_int (nomark _)) (pw_and1 (pt_cmpR op_lt (pe_callB call_len_seq (by rfl) T.b_len PySem.boot_len (pa_cons (pv 3) pa_nil)) (pv 2) (nomark _))))) (pss_one (ps_ret (pe_call G__law_one_more (hr.mono (by decide)) (by rfl) T.m__law_one_more T.F__law_one_more.kp T.bs__law_one_more .nil pass0 (pa_cons (pv 0) (pa_cons (pv 3) (pa_cons (pv 4) pa_nil)))))) pss_nil) (pss_cons (ps_if (pt_cmpR op_eq (pv 5) pe_int (nomark _)) (pss_one (ps_asg (pe_tup (pa_cons (pe_ix ix_list (pv 3) (pv 7) (fun _ _ => rfl)) (pa_cons (pe_ix ix_list (pv 3) (pv 6) (fun _ _ => rfl)) pa_nil))) (pg_tup rfl (pgs_cons (pg_sub (pv 3) (pv 6) set_list) (pgs_cons (pg_sub (pv 3) (pv 7) set_list) pgs_nil))))) (pss_one (ps_if (PW.pt (pw_and (pt_cmpR op_eq (pv 5) pe_int (nomark _)) (pw_and1 (pt_cmpR op_gt (pe_ix ix_tup (pe_ix ix_list (pv 3) (pv 6) (fun _ _ => rfl)) pe_int (fun _ _ => rfl)) pe_int (nomark _))))) (pss_cons (ps_asg (pe_tup (pa_cons (pe_ix ix_tup (pe_ix ix_list (pv 3) (pv 6) (fun _ _ => rfl)) pe_int (fun _ _ => rfl)) (pa_cons (pe_op op_sub (pe_ix ix_tup (pe_ix ix_list (pv 3) (pv 6) (fun _ _ => rfl)) pe_int (fun _ _ => rfl)) pe_int) pa_nil))) (pg_sub (pv 3) (pv 6) set_list)) (pss_one (ps_asg (pe_tup (pa_cons (pe_ix ix_tup (pe_ix ix_list (pv 3) (pv 7) (fun _ _ => rfl)) pe_int (fun _ _ => rfl)) (pa_cons (pe_op op_add (pe_ix ix_tup (pe_ix ix_list (pv 3) (pv 7) (fun _ _ => rfl)) pe_int (fun _ _ => rfl)) pe_int) pa_nil))) (pg_sub (pv 3) (pv 7) set_list)))) (pss_cons (ps_set (i := 8) sc__law_other_folk.nd rfl (Or.inr rfl) (pe_lc (own := [("title", 10), ("load", 11)]) (g := (gTup K 2 (gCons (gName 10) (gCons (gName 11) gNil)))) (tt := tYes) rfl sc__law_other_folk.nd (pi_list (pv 3)) (Ow.blkOk_k (by kernel_rfl)) (fun _ _ _ _ _ => (pg_tup rfl (pgs_cons (pg_name (i := 10) sc__law_other_folk.nd rfl (Or.inl rfl)) (pgs_cons (pg_name (i := 11) sc__law_other_folk.nd rfl (Or.inl rfl)) pgs_nil)))) (fun _ _ _ _ _ => pts_nil) (fun _ _ _ _ _ => (pv 10)))) (pss_cons (ps_set (i := 9) sc__law_other_folk.nd rfl (Or.inl rfl) (pe_op op_cat (pe_lc (own := [("some", 12)]) (g := (gName 12)) (tt := (tTest (tOp (rIn K true) (tVar 12) (tVar 8)))) rfl sc__law_other_folk.nd (pi_list (pe_call G__law_titles (hr.mono (by decide)) (by rfl) T.m__law_titles T.F__law_titles.kp T.bs__law_titles .nil pass0 (pa_cons (pv 0) (pa_cons pe_int pa_nil)))) (Ow.blkOk_k (by kernel_rfl)) (fun _ _ _ _ _ => (pg_name (i := 12) sc__law_other_folk.nd rfl (Or.inl rfl))) (fun _ _ _ _ _ => (pts_one (pt_cmpR op_notIn_seq (pv 12) (pv 8) (by rfl)))) (fun _ _ _ _ _ => (pv 12))) (pe_lst (pa_cons (pe_ix ix_list (pv 8) (pv 6) (fun _ _ => rfl)) pa_nil)))) (pss_one (ps_asg (pe_tup (pa_cons (pe_ix ix_list (pv 9) pe_int (fun _ _ => rfl)) (pa_cons (pe_ix ix_tup (pe_ix ix_list (pv 3) (pv 6) (fun _ _ => rfl)) pe_int (fun _ _ => rfl)) pa_nil))) (pg_sub (pv 3) (pv 6) set_list)))))))) (pss_one (ps_ret (pe_tup (pa_cons (pv 3) (pa_cons (pv 4) pa_nil))))))))))
theorem ok__law_changed (T : Txt K mg Z Y) : FnOk P w K mg base CX0 5 Y.f__law_changed Y.d__law_changed ["well", "plan", "most"] (sp__law_changed K Z) := by
  have G__law_copy := ok__law_copy (P := P) (w := w) (base := base) T
  have G__law_draw := ok__law_draw (P := P) (w := w) (base := base) T
  have G__law_other_folk := ok__law_other_folk (P := P) (w := w) (base := base) T
  have G__law_renumbered := ok__law_renumbered (P := P) (w := w) (base := base) T
  have G__law_plan := ok__law_plan (P := P) (w := w) (base := base) T
  have G__law_bent := ok__law_bent (P := P) (w := w) (base := base) T
  refine T.F__law_changed.ok sc__law_changed (fun vs H Q E h => l__law_changed h) (fun cdv A outer s H vs Q E hr h => ⟨t__law_changed K Z, ?_, r__law_changed T.R h⟩)
  exact (pss_cons (ps_par (i := 3) (j := 4) (by rfl) sc__law_changed.nd rfl rfl (by decide) rfl rfl (pa_cons (pe_callTy call_list_of (by rfl) T.b_list (by decide +kernel) (pa_cons (pe_ix ix_tup (pv 1) pe_int (fun _ _ => rfl)) pa_nil)) (pa_cons (pe_call G__law_copy (hr.mono (by decide)) (by rfl) T.m__law_copy T.F__law_copy.kp T.bs__law_copy .nil pass0 (pa_cons (pe_ix ix_tup (pv 1) pe_int (fun _ _ => rfl)) pa_nil)) pa_nil)) (by rfl)) (pss_cons (ps_set (i := 5) sc__law_changed.nd rfl (Or.inl rfl) (pe_call G__law_draw (hr.mono (by decide)) (by rfl) T.m__law_draw T.F__law_draw.kp T.bs__law_draw .nil pass0 (pa_cons (pv 0) (pa_cons pe_int pa_nil)))) (pss_cons (ps_if (pt_cmpR op_lt (pv 5) pe_int (nomark _)) (pss_one (ps_ret (pe_call G__law_other_folk (hr.mono (by decide)) (by rfl) T.m__law_other_folk T.F__law_other_folk.kp T.bs__law_other_folk .nil pass0 (pa_cons (pv 0) (pa_cons (pv 1) (pa_cons pe_int pa_nil)))))) pss_nil) (pss_cons (ps_if (pt_cmpR op_eq (pv 5) pe_int (nomark _)) (pss_one (ps_set (i := 4) sc__law_changed.nd rfl (Or.inl rfl) (pe_call G__law_renumbered (hr.mono (by decide)) (by rfl) T.m__law_renumbered T.F__law_renumbered.kp T.bs__law_renumbered .nil pass0 (pa_cons (pv 0) (pa_cons (pv 4) pa_nil))))) (pss_one (ps_if (PW.pt (pw_and (pt_cmpR op_eq (pv 5) pe_int (nomark _)) (pw_and1 (pt_cmpR op_lt (pe_callB call_len_seq (by rfl) T.b_len PySem.boot_len (pa_cons (pv 4) pa_nil)) pe_int (nomark _))))) (pss_one (ps_expr (pe_bm PySem.F.plainAttrs_list PySem.F.slot_list_append PySem.F.type_list_append mt_append (pv 4) (pa_cons (pe_ix ix_list (pv 4) (pe_call G__law_draw (hr.mono (by decide)) (by rfl) T.m__law_draw T.F__law_draw.kp T.bs__law_draw .nil pass0 (pa_cons (pv 0) (pa_cons (pe_callB call_len_seq (by rfl) T.b_len PySem.boot_len (pa_cons (pv 4) pa_nil)) pa_nil))) (fun _ _ => rfl)) pa_nil)))) (pss_one (ps_if (pt_cmpR op_eq (pv 5) pe_int (nomark _)) (pss_cons (ps_par (i := 6) (j := 7) (by rfl) sc__law_changed.nd rfl rfl (by decide) rfl rfl (pa_cons (pe_slice sl_list (pv 4) po_none (po_some (pe_un un_neg pe_int))) (pa_cons (pe_op op_sub (pe_callB call_len_seq (by rfl) T.b_len PySem.boot_len (pa_cons (pv 4) pa_nil)) pe_int) pa_nil)) (by rfl)) (pss_cons (ps_set (i := 8) sc__law_changed.nd rfl (Or.inl rfl) (pe_lst pa_nil)) (pss_cons (ps_for PassesOwn.never rfl (pi_list (pv 6)) (pg_name (i := 9) sc__law_changed.nd rfl (Or.inl rfl)) (pss_one (ps_set (i := 8) sc__law_changed.nd rfl (Or.inl rfl) (pe_op op_cat (pv 8) (pe_lc (own := [("cents", 10), ("goal", 11)]) (g := (gTup K 2 (gCons (gName 10) (gCons (gName 11) gNil)))) (tt := tYes) rfl sc__law_changed.nd (pi_list (pv 9)) (Ow.blkOk_k (by kernel_rfl)) (fun _ _ _ _ _ => (pg_tup rfl (pgs_cons (pg_name (i := 10) sc__law_changed.nd rfl (Or.inl rfl)) (pgs_cons (pg_name (i := 11) sc__law_changed.nd rfl (Or.inl rfl)) pgs_nil)))) (fun _ _ _ _ _ => pts_nil) (fun _ _ _ _ _ => (pv 11))))))) (pss_one (ps_if (PW.pt (pw_and (pt_cmpR (op_neD hr.units) (pv 6) (pe_lst pa_nil) (nomark _)) (pw_and1 (pt_cmpR op_notIn_seq (pv 7) (pv 8) (by rfl))))) (pss_one (ps_set (i := 4) sc__law_changed.nd rfl (Or.inl rfl) (pv 6))) pss_nil))))) (pss_one (ps_if (pt_cmpR op_eq (pv 5) pe_int (nomark _)) (pss_one (ps_ret (pe_call G__law_plan (hr.mono (by decide)) (by rfl) T.m__law_plan T.F__law_plan.kp T.bs__law_plan .nil pass0 (pa_cons (pv 0) (pa_cons (pe_tup (pa_cons pe_int (pa_cons pe_int (pa_cons pe_int (pa_cons pe_int pa_nil))))) pa_nil))))) (pss_one (ps_set (i := 4) sc__law_changed.nd rfl (Or.inl rfl) (pe_call G__law_bent (hr.mono (by decide)) (by rfl) T.m__law_bent T.F__law_bent.kp T.bs__law_bent .nil pass0 (pa_cons (pv 0) (pa_cons (pv 4) (pa_cons (pv 2) pa_nil))))))))))))) (pss_one (ps_ret (pe_tup (pa_cons (pv 3) (pa_cons (pv 4) pa_nil)))))))))
theorem ok__law_alike (T : Txt K mg Z Y) : FnG P w K mg base CX0 1 Y.f__law_alike Y.d__law_alike ["plan", "twin_plan"] (sp__law_alike K Z) := by
  refine Fun.okG T.F__law_alike sc__law_alike (fun vs H Q E h => l__law_alike h) (fun cdv A outer s H vs Q E hr hG h => ⟨t__law_alike K Z, ?_, r__law_alike T.R h⟩)
  exact (pss_one (ps_ret (pe_cmpR op_eq (pe_callB (Ow.call_repr hG hr.units) (by rfl) T.b_repr (by decide +kernel) (pa_cons (pe_lst (pa_cons (pe_ix ix_tup (pv 0) pe_int (fun _ _ => rfl)) (pa_cons (pe_ix ix_tup (pv 0) pe_int (fun _ _ => rfl)) pa_nil))) pa_nil)) (pe_callB (Ow.call_repr hG hr.units) (by rfl) T.b_repr (by decide +kernel) (pa_cons (pe_lst (pa_cons (pe_ix ix_tup (pv 1) pe_int (fun _ _ => rfl)) (pa_cons (pe_ix ix_tup (pv 1) pe_int (fun _ _ => rfl)) pa_nil))) pa_nil)) (nomark _))))
theorem ok_rows_of (T : Txt K mg Z Y) : FnOk P w K mg base CX0 1 Y.f_rows_of Y.d_rows_of ["columns"] (sp_rows_of K Z) := by
  refine T.F_rows_of.ok sc_rows_of (fun vs H Q E h => l_rows_of h) (fun cdv A outer s H vs Q E hr h => ⟨t_rows_of K Z, ?_, r_rows_of T.R h⟩)
  exact (pss_one (ps_ret (pe_lc (own := [("row", 1)]) (g := (gName 1)) (tt := tYes) rfl sc_rows_of.nd (Ow.pi_star (by rfl) T.b_zip (pv 0)) (Ow.blkOk_k (by kernel_rfl)) (fun _ _ _ _ _ => (pg_name (i := 1) sc_rows_of.nd rfl (Or.inl rfl))) (fun _ _ _ _ _ => pts_nil) (fun _ _ _ _ _ => (pe_callTy call_list_of (by rfl) T.b_list (by decide +kernel) (pa_cons (pv 1) pa_nil))))))
theorem ok_Rule_states (T : Txt K mg Z Y) : FnOk P w K mg base CX0 2 Y.f_Rule_states Y.d_Rule_states ["self"] (sp_Rule_states K Z) := by
  have G_rows_of := ok_rows_of (P := P) (w := w) (base := base) T
  refine T.F_Rule_states.ok sc_Rule_states (fun vs H Q E h => l_Rule_states h) (fun cdv A outer s H vs Q E hr h => ⟨t_Rule_states K Z, ?_, r_Rule_states T.R h⟩)
  exact (pss_one (ps_ret (pe_lc (own := [("k", 1), ("row", 2)]) (g := (gTup K 2 (gCons (gName 1) (gCons (gName 2) gNil)))) (tt := tYes) rfl sc_Rule_states.nd (Ow.pi_enumT (by rfl) T.b_enumerate (pa_cons (pe_fld (pv 0) rfl) pa_nil)) (Ow.blkOk_k (by kernel_rfl)) (fun _ _ _ _ _ => (pg_tup rfl (pgs_cons (pg_name (i := 1) sc_Rule_states.nd rfl (Or.inl rfl)) (pgs_cons (pg_name (i := 2) sc_Rule_states.nd rfl (Or.inl rfl)) pgs_nil)))) (fun _ _ _ _ _ => pts_nil) (fun _ _ _ _ _ => (Ow.pe_listzipM (by rfl) T.b_list (by rfl) T.b_zip (pa_cons (pe_call G_rows_of (hr.mono (by decide)) (by rfl) T.m_rows_of T.F_rows_of.kp T.bs_rows_of .nil pass0 (pa_cons (pe_ix ix_tup (pe_fld (pv 0) rfl) (pv 1) (fun _ _ => rfl)) pa_nil)) (pa_cons (pv 2) pa_nil)))))))
theorem ok_Rule___len__ (T : Txt K mg Z Y) : FnOk P w K mg base CX0 1 Y.f_Rule___len__ Y.d_Rule___len__ ["self"] (sp_Rule___len__ K Z) := by
  refine T.F_Rule___len__.ok sc_Rule___len__ (fun vs H Q E h => l_Rule___len__ h) (fun cdv A outer s H vs Q E hr h => ⟨t_Rule___len__ K Z, ?_, r_Rule___len__ T.R h⟩)
  exact (pss_one (ps_ret (pe_callB call_len_seq (by rfl) T.b_len PySem.boot_len (pa_cons (pe_fld (pv 0) rfl) pa_nil))))
theorem ok_Rule_people (T : Txt K mg Z Y) : FnOk P w K mg base CX0 1 Y.f_Rule_people Y.d_Rule_people ["self"] (sp_Rule_people K Z) := by
  refine T.F_Rule_people.ok sc_Rule_people (fun vs H Q E h => l_Rule_people h) (fun cdv A outer s H vs Q E hr h => ⟨t_Rule_people K Z, ?_, r_Rule_people T.R h⟩)
  exact (pss_one (ps_ret (pe_callTy call_list_of (by rfl) T.b_list (by decide +kernel) (pa_cons (pe_fld (pv 0) rfl) pa_nil))))
theorem ok_check_rows (T : Txt K mg Z Y) : FnOk P w K mg base CX0 1 Y.f_check_rows Y.d_check_rows ["rows", "whole", "many"] (sp_check_rows K Z) := by
  refine T.F_check_rows.ok sc_check_rows (fun vs H Q E h => l_check_rows h) (fun cdv A outer s H vs Q E hr h => ⟨t_check_rows K Z, ?_, r_check_rows T.R h⟩)
  exact (pss_cons (ps_for PassesOwn.never rfl (pi_range1 rfl T.b_range (pa_cons (pv 1) pa_nil)) (pg_name (i := 3) sc_check_rows.nd rfl (Or.inl rfl)) (pss_cons (ps_if (PW.pt (pw_or (pt_cmpR op_ge (pv 3) (pe_callB call_len_seq (by rfl) T.b_len PySem.boot_len (pa_cons (pv 0) pa_nil)) (nomark _)) (pw_or (pt_cmpR op_ne (pe_callB call_len_seq (by rfl) T.b_len PySem.boot_len (pa_cons (pe_ix ix_list (pv 0) (pv 3) (fun _ _ => rfl)) pa_nil)) (pv 2) (nomark _)) (pw_or1 (pt_cmpR op_ne (pe_callB (cr_sum rfl) (by rfl) T.b_sum (by decide +kernel) (pa_cons (pe_ix ix_list (pv 0) (pv 3) (fun _ _ => rfl)) pa_nil)) (pv 3) (nomark _)))))) (pss_one ps_never) pss_nil) (pss_one (ps_if (PW.pt (pw_and (pt_cmpR op_eq (pv 3) pe_int (nomark _)) (pw_and1 (pt_val (pe_callB (Ow.call_anyI rfl) (by rfl) T.b_any (by decide +kernel) (pa_cons (pe_ix ix_list (pv 0) (pv 3) (fun _ _ => rfl)) pa_nil)))))) (pss_one ps_never) pss_nil)))) (pss_one (ps_if (pt_cmpR op_gt (pe_callB call_len_seq (by rfl) T.b_len PySem.boot_len (pa_cons (pv 0) pa_nil)) (pv 1) (nomark _)) (pss_one ps_never) pss_nil)))
theorem ok_table_nexts (T : Txt K mg Z Y) : FnOk P w K mg base CX0 1 Y.f_table_nexts Y.d_table_nexts ["whole"] (sp_table_nexts K Z) := by
  refine T.F_table_nexts.ok sc_table_nexts (fun vs H Q E h => l_table_nexts h) (fun cdv A outer s H vs Q E hr h => ⟨t_table_nexts K Z, ?_, r_table_nexts T.R h⟩)
  exact (pss_cons (ps_set (i := 1) sc_table_nexts.nd rfl (Or.inr rfl) (pe_tupRg rfl (by rfl) T.b_tuple (prg_1 (by rfl) T.b_range (pv 0)))) (pss_one (ps_ret (pe_lc (own := [("rest", 2)]) (g := (gName 2)) (tt := tYes) rfl sc_table_nexts.nd (pi_tup (pv 1)) (Ow.blkOk_k (by kernel_rfl)) (fun _ _ _ _ _ => (pg_name (i := 2) sc_table_nexts.nd rfl (Or.inl rfl))) (fun _ _ _ _ _ => pts_nil) (fun _ _ _ _ _ => (pe_op op_catA (pe_slice sl_tupA (pv 1) (po_some (pv 2)) po_none) (pe_slice sl_tupA (pv 1) po_none (po_some (pv 2)))))))))
theorem ok_table_cents (T : Txt K mg Z Y) : FnOk P w K mg base CX0 1 Y.f_table_cents Y.d_table_cents ["weights", "columns", "whole"] (sp_table_cents K Z) := by
  refine T.F_table_cents.ok sc_table_cents (fun vs H Q E h => l_table_cents h) (fun cdv A outer s H vs Q E hr h => ⟨t_table_cents K Z, ?_, r_table_cents T.R h⟩)
  exact (pss_cons (ps_setLc (i := 3) (own := [("_", 9)]) (g := (gName 9)) (tt := tYes) rfl sc_table_cents.nd rfl rfl (sw_true rfl rfl rfl (by kernel_rfl)) (pi_range1 rfl T.b_range (pa_cons (pv 2) pa_nil)) (Ow.blkOk_k (by kernel_rfl)) (fun _ _ _ _ _ => (pg_name (i := 9) sc_table_cents.nd rfl (Or.inl rfl))) (fun _ _ _ _ _ => pts_nil) (fun _ _ _ _ _ => (pe_lst pa_nil))) (pss_cons (ps_for PassesOwn.never rfl (Ow.pi_zipM (by rfl) T.b_zip (pa_cons (pv 0) (pa_cons (pv 1) pa_nil))) (pg_tup rfl (pgs_cons (pg_name (i := 4) sc_table_cents.nd rfl (Or.inr rfl)) (pgs_cons (pg_name (i := 5) sc_table_cents.nd rfl (Or.inl rfl)) pgs_nil))) (pss_cons (ps_set (i := 6) sc_table_cents.nd rfl (Or.inl rfl) (pe_op op_cat (pe_callTy call_list_of (by rfl) T.b_list (by decide +kernel) (pa_cons (pv 5) pa_nil)) (pe_lc (own := [("cents", 8)]) (g := (gName 8)) (tt := tYes) rfl sc_table_cents.nd (pi_tup (pv 5)) (Ow.blkOk_k (by kernel_rfl)) (fun _ _ _ _ _ => (pg_name (i := 8) sc_table_cents.nd rfl (Or.inl rfl))) (fun _ _ _ _ _ => pts_nil) (fun _ _ _ _ _ => (pe_op op_add (pv 8) (pv 4)))))) (pss_one (ps_for PassesOwn.never rfl (Ow.pi_enumT (by rfl) T.b_enumerate (pa_cons (pv 5) pa_nil)) (pg_tup rfl (pgs_cons (pg_name (i := 7) sc_table_cents.nd rfl (Or.inl rfl)) (pgs_cons (pg_name (i := 8) sc_table_cents.nd rfl (Or.inr rfl)) pgs_nil))) (pss_one (ps_expr (pe_bm PySem.F.plainAttrs_list PySem.F.slot_list_append PySem.F.type_list_append mt_append (pe_ix ix_list (pv 3) (pv 7) (fun _ _ => rfl)) (pa_cons (pe_callTy call_tuple_of (by rfl) T.b_tuple (by decide +kernel) (pa_cons (pe_lc (own := [("later", 11)]) (g := (gName 11)) (tt := tYes) rfl sc_table_cents.nd (pi_list (pe_slice sl_list (pv 6) (po_some (pv 7)) (po_some (pe_op op_add (pv 7) (pv 2))))) (Ow.blkOk_k (by kernel_rfl)) (fun _ _ _ _ _ => (pg_name (i := 11) sc_table_cents.nd rfl (Or.inl rfl))) (fun _ _ _ _ _ => pts_nil) (fun _ _ _ _ _ => (pe_op op_sub (pv 11) (pv 8)))) pa_nil)) pa_nil)))))))) (pss_one (ps_ret (pe_lc (own := [("rows", 10)]) (g := (gName 10)) (tt := tYes) rfl sc_table_cents.nd (pi_list (pv 3)) (Ow.blkOk_k (by kernel_rfl)) (fun _ _ _ _ _ => (pg_name (i := 10) sc_table_cents.nd rfl (Or.inl rfl))) (fun _ _ _ _ _ => pts_nil) (fun _ _ _ _ _ => (pe_callTy call_tuple_of (by rfl) T.b_tuple (by decide +kernel) (pa_cons (pv 10) pa_nil))))))))
theorem ok_by_rows (T : Txt K mg Z Y) : FnOk P w K mg base CX0 5 Y.f_by_rows Y.d_by_rows ["people", "rows"] (sp_by_rows K Z) := by
  have G_checked_weights := ok_checked_weights (P := P) (w := w) (base := base) T
  have G_check_rows := ok_check_rows (P := P) (w := w) (base := base) T
  have G_table_nexts := ok_table_nexts (P := P) (w := w) (base := base) T
  have G_table_cents := ok_table_cents (P := P) (w := w) (base := base) T
  have G_columns_of := ok_columns_of (P := P) (w := w) (base := base) T
  have G_Rule___init__ := ok_Rule___init__ (P := P) (w := w) (base := base) T
  have G_rows_of := ok_rows_of (P := P) (w := w) (base := base) T
  refine T.F_by_rows.ok sc_by_rows (fun vs H Q E h => l_by_rows h) (fun cdv A outer s H vs Q E hr h => ⟨t_by_rows K Z, ?_, r_by_rows T.R h⟩)
  exact (pss_cons (ps_set (i := 2) sc_by_rows.nd rfl (Or.inl rfl) (pe_call G_checked_weights (hr.mono (by decide)) (by rfl) T.m_checked_weights T.F_checked_weights.kp T.bs_checked_weights .nil pass0 (pa_cons (pv 0) pa_nil))) (pss_cons (ps_expr (pe_call G_check_rows (hr.mono (by decide)) (by rfl) T.m_check_rows T.F_check_rows.kp T.bs_check_rows .nil pass0 (pa_cons (pv 1) (pa_cons (pe_callB (cr_sum rfl) (by rfl) T.b_sum (by decide +kernel) (pa_cons (pv 2) pa_nil)) (pa_cons (pe_callB call_len_seq (by rfl) T.b_len PySem.boot_len (pa_cons (pv 2) pa_nil)) pa_nil))))) (pss_cons (ps_set (i := 3) sc_by_rows.nd rfl (Or.inr rfl) (pe_call G_table_nexts (hr.mono (by decide)) (by rfl) T.m_table_nexts T.F_table_nexts.kp T.bs_table_nexts .nil pass0 (pa_cons (pe_callB call_len_seq (by rfl) T.b_len PySem.boot_len (pa_cons (pv 1) pa_nil)) pa_nil))) (pss_cons (ps_set (i := 4) sc_by_rows.nd rfl (Or.inr rfl) (pe_call G_table_cents (hr.mono (by decide)) (by rfl) T.m_table_cents T.F_table_cents.kp T.bs_table_cents .nil pass0 (pa_cons (pv 2) (pa_cons (pe_call G_columns_of (hr.mono (by decide)) (by rfl) T.m_columns_of T.F_columns_of.kp T.bs_columns_of .nil pass0 (pa_cons (pv 1) pa_nil)) (pa_cons (pe_callB call_len_seq (by rfl) T.b_len PySem.boot_len (pa_cons (pv 1) pa_nil)) pa_nil))))) (pss_one (ps_ret (pe_make T.mk_Rule G_Rule___init__ (hr.mono (by decide)) (by rfl) T.m_Rule T.bs_Rule___init__ .nil pass0 (pa_cons (pv 0) (pa_cons (pe_lc (own := [("rest", 5)]) (g := (gName 5)) (tt := tYes) rfl sc_by_rows.nd (pi_range1 rfl T.b_range (pa_cons (pe_callB call_len_seq (by rfl) T.b_len PySem.boot_len (pa_cons (pv 1) pa_nil)) pa_nil)) (Ow.blkOk_k (by kernel_rfl)) (fun _ _ _ _ _ => (pg_name (i := 5) sc_by_rows.nd rfl (Or.inl rfl))) (fun _ _ _ _ _ => pts_nil) (fun _ _ _ _ _ => (Ow.pe_listzipM (by rfl) T.b_list (by rfl) T.b_zip (pa_cons (pe_call G_rows_of (hr.mono (by decide)) (by rfl) T.m_rows_of T.F_rows_of.kp T.bs_rows_of .nil pass0 (pa_cons (pe_ix ix_list (pv 4) (pv 5) (fun _ _ => rfl)) pa_nil)) (pa_cons (pe_ix ix_list (pv 3) (pv 5) (fun _ _ => rfl)) pa_nil))))) pa_nil)))))))))
theorem ok_with_cent (T : Txt K mg Z Y) : FnOk P w K mg base CX0 1 Y.f_with_cent Y.d_with_cent ["weights", "row"] (sp_with_cent K Z) := by
  refine T.F_with_cent.ok sc_with_cent (fun vs H Q E h => l_with_cent h) (fun cdv A outer s H vs Q E hr h => ⟨t_with_cent K Z, ?_, r_with_cent T.R h⟩)
  exact (pss_cons (ps_set (i := 2) sc_with_cent.nd rfl (Or.inr rfl) (pe_op op_add (pe_callB (cr_sum rfl) (by rfl) T.b_sum (by decide +kernel) (pa_cons (pv 1) pa_nil)) pe_int)) (pss_cons (ps_setLc (i := 3) (own := [("k", 5), ("weight", 6)]) (g := (gTup K 2 (gCons (gName 5) (gCons (gName 6) gNil)))) (tt := tYes) rfl sc_with_cent.nd rfl rfl (sw_true rfl rfl rfl (by kernel_rfl)) (pi_enum (by rfl) T.b_enumerate (pa_cons (pv 0) pa_nil)) (Ow.blkOk_k (by kernel_rfl)) (fun _ _ _ _ _ => (pg_tup rfl (pgs_cons (pg_name (i := 5) sc_with_cent.nd rfl (Or.inl rfl)) (pgs_cons (pg_name (i := 6) sc_with_cent.nd rfl (Or.inl rfl)) pgs_nil)))) (fun _ _ _ _ _ => pts_nil) (fun _ _ _ _ _ => (pe_op op_sub (pe_op op_mul (pv 2) (pv 6)) (pe_op op_mul (pe_callB (cr_sum rfl) (by rfl) T.b_sum (by decide +kernel) (pa_cons (pv 0) pa_nil)) (pe_ix ix_list (pv 1) (pv 5) (fun _ _ => rfl)))))) (pss_cons (ps_set (i := 4) sc_with_cent.nd rfl (Or.inr rfl) (pe_bm PySem.F.plainAttrs_list PySem.F.slot_list_index PySem.F.type_list_index mt_index (pv 3) (pa_cons (pe_callB (cr_max rfl) (by rfl) T.b_max (by decide +kernel) (pa_cons (pv 3) pa_nil)) pa_nil))) (pss_one (ps_ret (pe_lc (own := [("k", 5), ("cent", 7)]) (g := (gTup K 2 (gCons (gName 5) (gCons (gName 7) gNil)))) (tt := tYes) rfl sc_with_cent.nd (pi_enum (by rfl) T.b_enumerate (pa_cons (pv 1) pa_nil)) (Ow.blkOk_k (by kernel_rfl)) (fun _ _ _ _ _ => (pg_tup rfl (pgs_cons (pg_name (i := 5) sc_with_cent.nd rfl (Or.inl rfl)) (pgs_cons (pg_name (i := 7) sc_with_cent.nd rfl (Or.inl rfl)) pgs_nil)))) (fun _ _ _ _ _ => pts_nil) (fun _ _ _ _ _ => (pe_ifExp (pt_cmpR op_eq (pv 5) (pv 4) (nomark _)) (pe_op op_add (pv 7) pe_int) (pv 7)))))))))
theorem ok_in_turn (T : Txt K mg Z Y) : FnOk P w K mg base CX0 6 Y.f_in_turn Y.d_in_turn ["people"] (sp_in_turn K Z) := by
  have G_checked_weights := ok_checked_weights (P := P) (w := w) (base := base) T
  have G_with_cent := ok_with_cent (P := P) (w := w) (base := base) T
  have G_by_rows := ok_by_rows (P := P) (w := w) (base := base) T
  refine T.F_in_turn.ok sc_in_turn (fun vs H Q E h => l_in_turn h) (fun cdv A outer s H vs Q E hr h => ⟨t_in_turn K Z, ?_, r_in_turn T.R h⟩)
  exact (pss_cons (ps_set (i := 1) sc_in_turn.nd rfl (Or.inl rfl) (pe_call G_checked_weights (hr.mono (by decide)) (by rfl) T.m_checked_weights T.F_checked_weights.kp T.bs_checked_weights .nil pass0 (pa_cons (pv 0) pa_nil))) (pss_cons (ps_set (i := 2) sc_in_turn.nd rfl (Or.inl rfl) (pe_lst (pa_cons (pe_lc (own := [("_", 3)]) (g := (gName 3)) (tt := tYes) rfl sc_in_turn.nd (pi_list (pv 1)) (Ow.blkOk_k (by kernel_rfl)) (fun _ _ _ _ _ => (pg_name (i := 3) sc_in_turn.nd rfl (Or.inl rfl))) (fun _ _ _ _ _ => pts_nil) (fun _ _ _ _ _ => pe_int)) pa_nil))) (pss_cons (ps_for PassesOwn.never rfl (pi_range2 rfl T.b_range (pa_cons pe_int (pa_cons (pe_callB (cr_sum rfl) (by rfl) T.b_sum (by decide +kernel) (pa_cons (pv 1) pa_nil)) pa_nil))) (pg_name (i := 3) sc_in_turn.nd rfl (Or.inl rfl)) (pss_one (ps_expr (pe_bm PySem.F.plainAttrs_list PySem.F.slot_list_append PySem.F.type_list_append mt_append (pv 2) (pa_cons (pe_call G_with_cent (hr.mono (by decide)) (by rfl) T.m_with_cent T.F_with_cent.kp T.bs_with_cent .nil pass0 (pa_cons (pv 1) (pa_cons (pe_ix ix_list (pv 2) (pe_un un_neg pe_int) (fun _ _ => rfl)) pa_nil))) pa_nil))))) (pss_one (ps_ret (pe_call G_by_rows (hr.mono (by decide)) (by rfl) T.m_by_rows T.F_by_rows.kp T.bs_by_rows .nil pass0 (pa_cons (pv 0) (pa_cons (pv 2) pa_nil))))))))
theorem ok__law_tables_right (T : Txt K mg Z Y) : FnOk P w K mg base CX0 7 Y.f__law_tables_right Y.d__law_tables_right ["well", "folk"] (sp__law_tables_right K Z) := by
  have G__law_other_folk := ok__law_other_folk (P := P) (w := w) (base := base) T
  have G__law_lines := ok__law_lines (P := P) (w := w) (base := base) T
  have G_by_rows := ok_by_rows (P := P) (w := w) (base := base) T
  have G_in_turn := ok_in_turn (P := P) (w := w) (base := base) T
  have G_Rule___eq__ := ok_Rule___eq__ (P := P) (w := w) (base := base) T
  have G_Rule_states := ok_Rule_states (P := P) (w := w) (base := base) T
  refine T.F__law_tables_right.ok sc__law_tables_right (fun vs H Q E h => l__law_tables_right h) (fun cdv A outer s H vs Q E hr h => ⟨t__law_tables_right K Z, ?_, r__law_tables_right T.R h⟩)
  exact (pss_cons (ps_set (i := 2) sc__law_tables_right.nd rfl (Or.inl rfl) (pe_ix ix_tup (pe_call G__law_other_folk (hr.mono (by decide)) (by rfl) T.m__law_other_folk T.F__law_other_folk.kp T.bs__law_other_folk .nil pass0 (pa_cons (pv 0) (pa_cons (pe_tup (pa_cons (pv 1) (pa_cons (pe_lst pa_nil) pa_nil))) (pa_cons (pe_callB call_len_seq (by rfl) T.b_len PySem.boot_len (pa_cons (pv 1) pa_nil)) pa_nil)))) pe_int (fun _ _ => rfl))) (pss_cons (ps_set (i := 3) sc__law_tables_right.nd rfl (Or.inl rfl) (pe_call G__law_lines (hr.mono (by decide)) (by rfl) T.m__law_lines T.F__law_lines.kp T.bs__law_lines .nil pass0 (pa_cons (pv 0) (pa_cons (pv 1) (pa_cons pe_int pa_nil))))) (pss_cons (ps_for PassesOwn.never rfl (pi_tup (pe_tup (pa_cons (pe_tup (pa_cons (pe_call G_by_rows (hr.mono (by decide)) (by rfl) T.m_by_rows T.F_by_rows.kp T.bs_by_rows .nil pass0 (pa_cons (pv 1) (pa_cons (pv 3) pa_nil))) (pa_cons (pe_call G_by_rows (hr.mono (by decide)) (by rfl) T.m_by_rows T.F_by_rows.kp T.bs_by_rows .nil pass0 (pa_cons (pv 2) (pa_cons (pv 3) pa_nil))) pa_nil))) (pa_cons (pe_tup (pa_cons (pe_call G_in_turn (hr.mono (by decide)) (by rfl) T.m_in_turn T.F_in_turn.kp T.bs_in_turn .nil pass0 (pa_cons (pv 1) pa_nil)) (pa_cons (pe_call G_in_turn (hr.mono (by decide)) (by rfl) T.m_in_turn T.F_in_turn.kp T.bs_in_turn .nil pass0 (pa_cons (pv 2) pa_nil)) pa_nil))) pa_nil)))) (pg_tup rfl (pgs_cons (pg_name (i := 4) sc__law_tables_right.nd rfl (Or.inl rfl)) (pgs_cons (pg_name (i := 5) sc__law_tables_right.nd rfl (Or.inl rfl)) pgs_nil))) (pss_one (ps_if (PW.pt (pw_or (pt_cmpR op_ne (pe_cmpR (Ow.op_eqO G_Rule___eq__ T.me_Rule___eq__.at_ T.me_Rule___eq__.fn T.bs_Rule___eq__ pass0 (hr.mono (by decide))) (pv 4) (pv 5) (nomark _)) (pe_cmpR (op_eqD hr.units) (pv 1) (pv 2) (nomark _)) (nomark _)) (pw_or1 (pt_cmpR op_ne (pe_cmpR (Ow.op_eqO G_Rule___eq__ T.me_Rule___eq__.at_ T.me_Rule___eq__.fn T.bs_Rule___eq__ pass0 (hr.mono (by decide))) (pv 5) (pv 4) (nomark _)) (pe_cmpR (op_eqD hr.units) (pv 1) (pv 2) (nomark _)) (nomark _))))) (pss_one (ps_ret pe_bl)) pss_nil))) (pss_one (ps_ret (pe_cmpR (Ow.op_eqO G_Rule___eq__ T.me_Rule___eq__.at_ T.me_Rule___eq__.fn T.bs_Rule___eq__ pass0 (hr.mono (by decide))) (pe_call G_in_turn (hr.mono (by decide)) (by rfl) T.m_in_turn T.F_in_turn.kp T.bs_in_turn .nil pass0 (pa_cons (pv 1) pa_nil)) (pe_call G_by_rows (hr.mono (by decide)) (by rfl) T.m_by_rows T.F_by_rows.kp T.bs_by_rows .nil pass0 (pa_cons (pv 1) (pa_cons (pe_lc (own := [("cents", 6), ("goal", 7)]) (g := (gTup K 2 (gCons (gName 6) (gCons (gName 7) gNil)))) (tt := tYes) rfl sc__law_tables_right.nd (pi_list (pe_ix ix_list (pe_prop (pe_call G_in_turn (hr.mono (by decide)) (by rfl) T.m_in_turn T.F_in_turn.kp T.bs_in_turn .nil pass0 (pa_cons (pv 1) pa_nil)) T.R.cl T.pr_Rule_states G_Rule_states (hr.mono (by decide)) T.bs_Rule_states .nil pass0 (by rfl)) pe_int (fun _ _ => rfl))) (Ow.blkOk_k (by kernel_rfl)) (fun _ _ _ _ _ => (pg_tup rfl (pgs_cons (pg_name (i := 6) sc__law_tables_right.nd rfl (Or.inl rfl)) (pgs_cons (pg_name (i := 7) sc__law_tables_right.nd rfl (Or.inl rfl)) pgs_nil)))) (fun _ _ _ _ _ => pts_nil) (fun _ _ _ _ _ => (pv 6))) pa_nil))) (nomark _)))))))
theorem ok__law_fits (T : Txt K mg Z Y) : FnG P w K mg base CX0 8 Y.f__law_fits Y.d__law_fits ["well"] (sp__law_fits K Z) := by
  have G__law_draw := ok__law_draw (P := P) (w := w) (base := base) T
  have G__law_plan := ok__law_plan (P := P) (w := w) (base := base) T
  have G__law_made := ok__law_made (P := P) (w := w) (base := base) T
  have G_Rule___eq__ := ok_Rule___eq__ (P := P) (w := w) (base := base) T
  have G__law_changed := ok__law_changed (P := P) (w := w) (base := base) T
  have G__law_alike := ok__law_alike (P := P) (w := w) (base := base) T
  have G_Rule_states := ok_Rule_states (P := P) (w := w) (base := base) T
  have G_Rule___len__ := ok_Rule___len__ (P := P) (w := w) (base := base) T
  have G__law_heavy := ok__law_heavy (P := P) (w := w) (base := base) T
  have G_Rule___init__ := ok_Rule___init__ (P := P) (w := w) (base := base) T
  have G_Rule_people := ok_Rule_people (P := P) (w := w) (base := base) T
  have G__law_tables_right := ok__law_tables_right (P := P) (w := w) (base := base) T
  refine Fun.okG T.F__law_fits sc__law_fits (fun vs H Q E h => l__law_fits h) (fun cdv A outer s H vs Q E hr hG h => ⟨t__law_fits K Z, ?_, r__law_fits T.R h⟩)
  exact (pss_cons (ps_set (i := 1) sc__law_fits.nd rfl (Or.inl rfl) (pe_ix ix_list (pe_lst (pa_cons (pe_tup (pa_cons pe_int (pa_cons pe_int (pa_cons pe_int (pa_cons pe_int pa_nil))))) (pa_cons (pe_tup (pa_cons pe_int (pa_cons pe_int (pa_cons pe_int (pa_cons pe_int pa_nil))))) (pa_cons (pe_tup (pa_cons pe_int (pa_cons pe_int (pa_cons pe_int (pa_cons pe_int pa_nil))))) pa_nil)))) (pe_call G__law_draw (hr.mono (by decide)) (by rfl) T.m__law_draw T.F__law_draw.kp T.bs__law_draw .nil pass0 (pa_cons (pv 0) (pa_cons pe_int pa_nil))) (fun _ _ => rfl))) (pss_cons (ps_set (i := 2) sc__law_fits.nd rfl (Or.inl rfl) (pe_call G__law_plan (hr.mono (by decide)) (by rfl) T.m__law_plan T.F__law_plan.kp T.bs__law_plan .nil pass0 (pa_cons (pv 0) (pa_cons (pv 1) pa_nil)))) (pss_cons (ps_par (i := 3) (j := 4) (by rfl) sc__law_fits.nd rfl rfl (by decide) rfl rfl (pa_cons (pe_call G__law_made (hr.mono (by decide)) (by rfl) T.m__law_made T.F__law_made.kp T.bs__law_made .nil pass0 (pa_cons (pv 2) pa_nil)) (pa_cons (pe_call G__law_made (hr.mono (by decide)) (by rfl) T.m__law_made T.F__law_made.kp T.bs__law_made .nil pass0 (pa_cons (pv 2) pa_nil)) pa_nil)) (by rfl)) (pss_cons (ps_if (PW.pt (pw_or (pt_cmpR (Ow.op_neO G_Rule___eq__ T.me_Rule___eq__.at_ T.me_Rule___eq__.fn T.nm_Rule T.nn_Rule T.bs_Rule___eq__ pass0 (hr.mono (by decide))) (pv 3) (pv 4) (nomark _)) (pw_or1 (pt_not (pt_cmpR (Ow.op_eqO G_Rule___eq__ T.me_Rule___eq__.at_ T.me_Rule___eq__.fn T.bs_Rule___eq__ pass0 (hr.mono (by decide))) (pv 3) (pv 4) (nomark _)))))) (pss_one (ps_ret pe_bl)) pss_nil) (pss_cons (ps_if (PW.pt (pw_or (pt_cmpR (Ow.op_neO G_Rule___eq__ T.me_Rule___eq__.at_ T.me_Rule___eq__.fn T.nm_Rule T.nn_Rule T.bs_Rule___eq__ pass0 (hr.mono (by decide))) (pv 4) (pv 3) (nomark _)) (pw_or1 (pt_not (pt_cmpR (Ow.op_eqO G_Rule___eq__ T.me_Rule___eq__.at_ T.me_Rule___eq__.fn T.bs_Rule___eq__ pass0 (hr.mono (by decide))) (pv 4) (pv 3) (nomark _)))))) (pss_one (ps_ret pe_bl)) pss_nil) (pss_cons (ps_set (i := 5) sc__law_fits.nd rfl (Or.inl rfl) (pe_call G__law_changed (hr.mono (by decide)) (by rfl) T.m__law_changed T.F__law_changed.kp T.bs__law_changed .nil pass0 (pa_cons (pv 0) (pa_cons (pv 2) (pa_cons (pe_ix ix_tup (pv 1) pe_int (fun _ _ => rfl)) pa_nil))))) (pss_cons (ps_par (i := 6) (j := 7) (by rfl) sc__law_fits.nd rfl rfl (by decide) rfl rfl (pa_cons (pe_call G__law_made (hr.mono (by decide)) (by rfl) T.m__law_made T.F__law_made.kp T.bs__law_made .nil pass0 (pa_cons (pv 5) pa_nil)) (pa_cons (pe_callG hG G__law_alike (hr.mono (by decide)) (by rfl) T.m__law_alike T.F__law_alike.kp T.bs__law_alike .nil pass0 (pa_cons (pv 2) (pa_cons (pv 5) pa_nil))) pa_nil)) (by rfl)) (pss_cons (ps_for PassesOwn.never rfl (pi_tup (pe_tup (pa_cons (pv 3) (pa_cons (pv 4) pa_nil)))) (pg_name (i := 8) sc__law_fits.nd rfl (Or.inl rfl)) (pss_cons (ps_if (PW.pt (pw_or (pt_cmpR op_ne (pe_cmpR (Ow.op_eqO G_Rule___eq__ T.me_Rule___eq__.at_ T.me_Rule___eq__.fn T.bs_Rule___eq__ pass0 (hr.mono (by decide))) (pv 8) (pv 6) (nomark _)) (pv 7) (nomark _)) (pw_or1 (pt_cmpR op_ne (pe_cmpR (Ow.op_eqO G_Rule___eq__ T.me_Rule___eq__.at_ T.me_Rule___eq__.fn T.bs_Rule___eq__ pass0 (hr.mono (by decide))) (pv 6) (pv 8) (nomark _)) (pv 7) (nomark _))))) (pss_one (ps_ret pe_bl)) pss_nil) (pss_one (ps_if (PW.pt (pw_or (pt_cmpR op_eq (pe_cmpR (Ow.op_neO G_Rule___eq__ T.me_Rule___eq__.at_ T.me_Rule___eq__.fn T.nm_Rule T.nn_Rule T.bs_Rule___eq__ pass0 (hr.mono (by decide))) (pv 8) (pv 6) (nomark _)) (pv 7) (nomark _)) (pw_or1 (pt_cmpR op_eq (pe_cmpR (Ow.op_neO G_Rule___eq__ T.me_Rule___eq__.at_ T.me_Rule___eq__.fn T.nm_Rule T.nn_Rule T.bs_Rule___eq__ pass0 (hr.mono (by decide))) (pv 6) (pv 8) (nomark _)) (pv 7) (nomark _))))) (pss_one (ps_ret pe_bl)) pss_nil)))) (pss_cons (ps_for PassesOwn.never rfl (pi_tup (pe_tup (pa_cons (pv 2) (pa_cons (pe_ix ix_tup (pv 2) pe_int (fun _ _ => rfl)) (pa_cons (pe_ix ix_tup (pv 2) pe_int (fun _ _ => rfl)) (pa_cons (pe_prop (pv 3) T.R.cl T.pr_Rule_states G_Rule_states (hr.mono (by decide)) T.bs_Rule_states .nil pass0 (by rfl)) (pa_cons pe_str (pa_cons pe_non (pa_cons (pe_callB (Ow.call_lenO G_Rule___len__ T.me_Rule___len__.at_ T.me_Rule___len__.fn T.bs_Rule___len__ pass0 (hr.mono (by decide))) (by rfl) T.b_len PySem.boot_len (pa_cons (pv 3) pa_nil)) (pa_cons pe_bl (pa_cons (pe_call G__law_heavy (hr.mono (by decide)) (by rfl) T.m__law_heavy T.F__law_heavy.kp T.bs__law_heavy .nil pass0 (pa_cons (pe_ix ix_tup (pv 2) pe_int (fun _ _ => rfl)) pa_nil)) pa_nil))))))))))) (pg_name (i := 8) sc__law_fits.nd rfl (Or.inl rfl)) (pss_cons (ps_if (PW.pt (pw_or (pt_cmpR (Ow.op_eqX G_Rule___eq__ T.me_Rule___eq__.at_ T.me_Rule___eq__.fn T.bs_Rule___eq__ pass0 (hr.mono (by decide))) (pv 3) (pv 8) (nomark _)) (pw_or1 (pt_cmpR (Ow.op_eqL G_Rule___eq__ T.me_Rule___eq__.at_ T.me_Rule___eq__.fn T.bs_Rule___eq__ pass0 (hr.mono (by decide))) (pv 8) (pv 3) (nomark _))))) (pss_one (ps_ret pe_bl)) pss_nil) (pss_one (ps_if (pt_not (pt_cmpR (Ow.op_neX G_Rule___eq__ T.me_Rule___eq__.at_ T.me_Rule___eq__.fn T.nm_Rule T.nn_Rule T.bs_Rule___eq__ pass0 (hr.mono (by decide))) (pv 3) (pv 8) (nomark _))) (pss_one (ps_ret pe_bl)) pss_nil)))) (pss_cons (ps_set (i := 9) sc__law_fits.nd rfl (Or.inl rfl) (pe_make T.mk_Rule G_Rule___init__ (hr.mono (by decide)) (by rfl) T.m_Rule T.bs_Rule___init__ .nil pass0 (pa_cons (pe_prop (pv 3) T.R.cl T.pr_Rule_people G_Rule_people (hr.mono (by decide)) T.bs_Rule_people .nil pass0 (by rfl)) (pa_cons (pe_prop (pv 3) T.R.cl T.pr_Rule_states G_Rule_states (hr.mono (by decide)) T.bs_Rule_states .nil pass0 (by rfl)) pa_nil)))) (pss_one (ps_ret (pe_and (pe_cmpR (Ow.op_eqO G_Rule___eq__ T.me_Rule___eq__.at_ T.me_Rule___eq__.fn T.bs_Rule___eq__ pass0 (hr.mono (by decide))) (pv 3) (pv 9) (nomark _)) (pe_and (pe_cmpR op_eq (pe_cmpR (Ow.op_eqO G_Rule___eq__ T.me_Rule___eq__.at_ T.me_Rule___eq__.fn T.bs_Rule___eq__ pass0 (hr.mono (by decide))) (pv 6) (pv 9) (nomark _)) (pv 7) (nomark _)) (pe_one (pe_call G__law_tables_right (hr.mono (by decide)) (by rfl) T.m__law_tables_right T.F__law_tables_right.kp T.bs__law_tables_right .nil pass0 (pa_cons (pv 0) (pa_cons (pe_ix ix_tup (pv 2) pe_int (fun _ _ => rfl)) pa_nil))))))))))))))))))
theorem ok__law_well (T : Txt K mg Z Y) : FnOk P w K mg base CX0 1 Y.f__law_well Y.d__law_well ["script", "place"] (sp__law_well K Z) := by
  refine T.F__law_well.ok sc__law_well (fun vs H Q E h => l__law_well h) (fun cdv A outer s H vs Q E hr h => ⟨t__law_well K Z, ?_, r__law_well T.R h⟩)
  exact (pss_cons (ps_set (i := 2) sc__law_well.nd rfl (Or.inl rfl) (pe_ifExp (pt_cmpR op_lt (pv 1) (pe_callB call_len_seq (by rfl) T.b_len PySem.boot_len (pa_cons (pv 0) pa_nil)) (nomark _)) (pe_ix ix_list (pv 0) (pv 1) (fun _ _ => rfl)) pe_int)) (pss_one (ps_ret (pe_lst (pa_cons (pe_callB (call_max2 rfl) (by rfl) T.b_max (by decide +kernel) (pa_cons pe_int (pa_cons (pe_op op_sub (pv 2) (pe_op op_pow pe_int pe_int)) pa_nil))) (pa_cons (pe_op op_add (pe_op op_add (pe_op op_mul pe_int (pv 2)) (pe_op op_mul pe_int (pv 1))) pe_int) (pa_cons pe_int pa_nil)))))))
theorem ok_law (T : Txt K mg Z Y) : FnG P w K mg base CX0 9 Y.f_law Y.d_law ["script"] (sp_law K Z) := by
  have G__law_fits := ok__law_fits (P := P) (w := w) (base := base) T
  have G__law_well := ok__law_well (P := P) (w := w) (base := base) T
  refine Fun.okG T.F_law sc_law (fun vs H Q E h => l_law h) (fun cdv A outer s H vs Q E hr hG h => ⟨t_law K Z, ?_, r_law T.R h⟩)
  exact (pss_cons (ps_for PassesOwn.never rfl (pi_range1 rfl T.b_range (pa_cons (pe_callB (call_min2 rfl) (by rfl) T.b_min (by decide +kernel) (pa_cons pe_int (pa_cons (pe_callB (call_max2 rfl) (by rfl) T.b_max (by decide +kernel) (pa_cons pe_int (pa_cons (pe_callB call_len_seq (by rfl) T.b_len PySem.boot_len (pa_cons (pv 0) pa_nil)) pa_nil))) pa_nil))) pa_nil)) (pg_name (i := 1) sc_law.nd rfl (Or.inl rfl)) (pss_one (ps_if (pt_not (pt_val (pe_callG hG G__law_fits (hr.mono (by decide)) (by rfl) T.m__law_fits T.F__law_fits.kp T.bs__law_fits .nil pass0 (pa_cons (pe_call G__law_well (hr.mono (by decide)) (by rfl) T.m__law_well T.F__law_well.kp T.bs__law_well .nil pass0 (pa_cons (pv 0) (pa_cons (pv 1) pa_nil))) pa_nil)))) (pss_one (ps_ret pe_bl)) pss_nil))) (pss_one (ps_ret pe_bl)))
end
theorem all_mk {l : PySem.W.OpenLaw} {w : World} {K : PySem.W.Frag} {h : Heap} {mg : Str → Option Value} {fa C : Addr} (X : K.In h) (G : h.Ns mainGlobals mg) (hfa : mg "law" = some (.ref fa))
    {f0 f1 f2 f3 f4 f5 f6 f7 f8 f9 f10 f11 f12 f13 f14 f15 f16 f17 f18 f19 f20 f21 f22 f23 f24 f25 f26 f27 f28 f29 f30 f31 f32 f33 f34 f35 f36 f37 f38 : Addr} {od0 an0 od1 an1 od2 an2 od3 an3 od4 an4 od5 an5 od6 an6 od7 an7 od8 an8 od9 an9 od10 an10 od11 an11 od12 an12 od13 an13 od14 an14 od15 an15 od16 an16 od17 an17 od18 an18 od19 an19 od20 an20 od21 an21 od22 an22 od23 an23 od24 an24 od25 an25 od26 an26 od27 an27 od28 an28 od29 an29 od30 an30 od31 an31 od32 an32 od33 an33 od34 an34 od35 an35 od36 an36 od37 an37 od38 an38 : Option Addr} {sl0 sl1 sl2 sl3 sl4 sl5 sl6 sl7 sl8 sl9 sl10 sl11 sl12 sl13 sl14 sl15 sl16 sl17 sl18 sl19 sl20 sl21 sl22 sl23 sl24 sl25 sl26 sl27 sl28 sl29 sl30 sl31 sl32 sl33 sl34 sl35 sl36 sl37 sl38 : Array (Option Value)} {oc0 kV0 dc0 pm0 cd0 ct0 oc1 kV1 dc1 pm1 cd1 ct1 oc2 kV2 dc2 pm2 cd2 ct2 oc3 kV3 dc3 pm3 cd3 ct3 oc4 kV4 dc4 pm4 cd4 ct4 oc5 kV5 dc5 pm5 cd5 ct5 oc6 kV6 dc6 pm6 cd6 ct6 oc7 kV7 dc7 pm7 cd7 ct7 oc8 kV8 dc8 pm8 cd8 ct8 oc9 kV9 dc9 pm9 cd9 ct9 oc10 kV10 dc10 pm10 cd10 ct10 oc11 kV11 dc11 pm11 cd11 ct11 oc12 kV12 dc12 pm12 cd12 ct12 oc13 kV13 dc13 pm13 cd13 ct13 oc14 kV14 dc14 pm14 cd14 ct14 oc15 kV15 dc15 pm15 cd15 ct15 oc16 kV16 dc16 pm16 cd16 ct16 oc17 kV17 dc17 pm17 cd17 ct17 oc18 kV18 dc18 pm18 cd18 ct18 oc19 kV19 dc19 pm19 cd19 ct19 oc20 kV20 dc20 pm20 cd20 ct20 oc21 kV21 dc21 pm21 cd21 ct21 oc22 kV22 dc22 pm22 cd22 ct22 oc23 kV23 dc23 pm23 cd23 ct23 oc24 kV24 dc24 pm24 cd24 ct24 oc25 kV25 dc25 pm25 cd25 ct25 oc26 kV26 dc26 pm26 cd26 ct26 oc27 kV27 dc27 pm27 cd27 ct27 oc28 kV28 dc28 pm28 cd28 ct28 oc29 kV29 dc29 pm29 cd29 ct29 oc30 kV30 dc30 pm30 cd30 ct30 oc31 kV31 dc31 pm31 cd31 ct31 oc32 kV32 dc32 pm32 cd32 ct32 oc33 kV33 dc33 pm33 cd33 ct33 oc34 kV34 dc34 pm34 cd34 ct34 oc35 kV35 dc35 pm35 cd35 ct35 oc36 kV36 dc36 pm36 cd36 ct36 oc37 kV37 dc37 pm37 cd37 ct37 oc38 kV38 dc38 pm38 cd38 ct38 : Value}
    {p26 p28 : Addr} {rs26 rs28 : List Value}
    {tk_LETTERS tk_LONGEST_NAME : Tok}
    (aC : PySem.W.nsIn K mainGlobals "Rule" = some (some (.ref C)))
    (yR : PySem.W.isClsIn K C = true)
    (tR : PySem.W.typeIn K (.ref C) = some (.type "type"))
    (nq_tuple : PySem.W.subIn K (.type "tuple") (.ref C) = some false)
    (nq_list : PySem.W.subIn K (.type "list") (.ref C) = some false)
    (nq_str : PySem.W.subIn K (.type "str") (.ref C) = some false)
    (nq_NoneType : PySem.W.subIn K (.type "NoneType") (.ref C) = some false)
    (nq_int : PySem.W.subIn K (.type "int") (.ref C) = some false)
    (nq_bool : PySem.W.subIn K (.type "bool") (.ref C) = some false)
    (nb_tuple : PySem.W.subIn K (.ref C) (.type "tuple") = some false)
    (nb_list : PySem.W.subIn K (.ref C) (.type "list") = some false)
    (nb_str : PySem.W.subIn K (.ref C) (.type "str") = some false)
    (nb_NoneType : PySem.W.subIn K (.ref C) (.type "NoneType") = some false)
    (nb_int : PySem.W.subIn K (.ref C) (.type "int") = some false)
    (nb_bool : PySem.W.subIn K (.ref C) (.type "bool") = some false)
    (a0 : PySem.W.nsIn K mainGlobals "_law_draw" = some (some (.ref f0)))
    (l0 : K.lookup f0 = some ⟨oc0, od0, .func (PySem.W.fnOf "_law_draw" "_law_draw" (defArgs s__law_draw) (defBody s__law_draw) (defScope s__law_draw) .none kV0 dc0 pm0 an0 cd0 ct0), sl0⟩)
    (c0 : PySem.W.codeIn K cd0 "_law_draw" = true)
    (k0 : PySem.W.keepIn K (.ref f0) = true)
    (a1 : PySem.W.nsIn K mainGlobals "_law_titles" = some (some (.ref f1)))
    (l1 : K.lookup f1 = some ⟨oc1, od1, .func (PySem.W.fnOf "_law_titles" "_law_titles" (defArgs s__law_titles) (defBody s__law_titles) (defScope s__law_titles) .none kV1 dc1 pm1 an1 cd1 ct1), sl1⟩)
    (c1 : PySem.W.codeIn K cd1 "_law_titles" = true)
    (k1 : PySem.W.keepIn K (.ref f1) = true)
    (a2 : PySem.W.nsIn K mainGlobals "_law_folk" = some (some (.ref f2)))
    (l2 : K.lookup f2 = some ⟨oc2, od2, .func (PySem.W.fnOf "_law_folk" "_law_folk" (defArgs s__law_folk) (defBody s__law_folk) (defScope s__law_folk) .none kV2 dc2 pm2 an2 cd2 ct2), sl2⟩)
    (c2 : PySem.W.codeIn K cd2 "_law_folk" = true)
    (k2 : PySem.W.keepIn K (.ref f2) = true)
    (a3 : PySem.W.nsIn K mainGlobals "_law_heavy" = some (some (.ref f3)))
    (l3 : K.lookup f3 = some ⟨oc3, od3, .func (PySem.W.fnOf "_law_heavy" "_law_heavy" (defArgs s__law_heavy) (defBody s__law_heavy) (defScope s__law_heavy) .none kV3 dc3 pm3 an3 cd3 ct3), sl3⟩)
    (c3 : PySem.W.codeIn K cd3 "_law_heavy" = true)
    (k3 : PySem.W.keepIn K (.ref f3) = true)
    (a4 : PySem.W.nsIn K mainGlobals "_law_by_table" = some (some (.ref f4)))
    (l4 : K.lookup f4 = some ⟨oc4, od4, .func (PySem.W.fnOf "_law_by_table" "_law_by_table" (defArgs s__law_by_table) (defBody s__law_by_table) (defScope s__law_by_table) .none kV4 dc4 pm4 an4 cd4 ct4), sl4⟩)
    (c4 : PySem.W.codeIn K cd4 "_law_by_table" = true)
    (k4 : PySem.W.keepIn K (.ref f4) = true)
    (a5 : PySem.W.nsIn K mainGlobals "_law_cents" = some (some (.ref f5)))
    (l5 : K.lookup f5 = some ⟨oc5, od5, .func (PySem.W.fnOf "_law_cents" "_law_cents" (defArgs s__law_cents) (defBody s__law_cents) (defScope s__law_cents) .none kV5 dc5 pm5 an5 cd5 ct5), sl5⟩)
    (c5 : PySem.W.codeIn K cd5 "_law_cents" = true)
    (k5 : PySem.W.keepIn K (.ref f5) = true)
    (a6 : PySem.W.nsIn K mainGlobals "_law_lines" = some (some (.ref f6)))
    (l6 : K.lookup f6 = some ⟨oc6, od6, .func (PySem.W.fnOf "_law_lines" "_law_lines" (defArgs s__law_lines) (defBody s__law_lines) (defScope s__law_lines) .none kV6 dc6 pm6 an6 cd6 ct6), sl6⟩)
    (c6 : PySem.W.codeIn K cd6 "_law_lines" = true)
    (k6 : PySem.W.keepIn K (.ref f6) = true)
    (a7 : PySem.W.nsIn K mainGlobals "_law_bent" = some (some (.ref f7)))
    (l7 : K.lookup f7 = some ⟨oc7, od7, .func (PySem.W.fnOf "_law_bent" "_law_bent" (defArgs s__law_bent) (defBody s__law_bent) (defScope s__law_bent) .none kV7 dc7 pm7 an7 cd7 ct7), sl7⟩)
    (c7 : PySem.W.codeIn K cd7 "_law_bent" = true)
    (k7 : PySem.W.keepIn K (.ref f7) = true)
    (a8 : PySem.W.nsIn K mainGlobals "_law_any_states" = some (some (.ref f8)))
    (l8 : K.lookup f8 = some ⟨oc8, od8, .func (PySem.W.fnOf "_law_any_states" "_law_any_states" (defArgs s__law_any_states) (defBody s__law_any_states) (defScope s__law_any_states) .none kV8 dc8 pm8 an8 cd8 ct8), sl8⟩)
    (c8 : PySem.W.codeIn K cd8 "_law_any_states" = true)
    (k8 : PySem.W.keepIn K (.ref f8) = true)
    (a9 : PySem.W.nsIn K mainGlobals "_law_copied" = some (some (.ref f9)))
    (l9 : K.lookup f9 = some ⟨oc9, od9, .func (PySem.W.fnOf "_law_copied" "_law_copied" (defArgs s__law_copied) (defBody s__law_copied) (defScope s__law_copied) .none kV9 dc9 pm9 an9 cd9 ct9), sl9⟩)
    (c9 : PySem.W.codeIn K cd9 "_law_copied" = true)
    (k9 : PySem.W.keepIn K (.ref f9) = true)
    (a10 : PySem.W.nsIn K mainGlobals "_law_renumbered" = some (some (.ref f10)))
    (l10 : K.lookup f10 = some ⟨oc10, od10, .func (PySem.W.fnOf "_law_renumbered" "_law_renumbered" (defArgs s__law_renumbered) (defBody s__law_renumbered) (defScope s__law_renumbered) .none kV10 dc10 pm10 an10 cd10 ct10), sl10⟩)
    (c10 : PySem.W.codeIn K cd10 "_law_renumbered" = true)
    (k10 : PySem.W.keepIn K (.ref f10) = true)
    (a11 : PySem.W.nsIn K mainGlobals "_law_plan" = some (some (.ref f11)))
    (l11 : K.lookup f11 = some ⟨oc11, od11, .func (PySem.W.fnOf "_law_plan" "_law_plan" (defArgs s__law_plan) (defBody s__law_plan) (defScope s__law_plan) .none kV11 dc11 pm11 an11 cd11 ct11), sl11⟩)
    (c11 : PySem.W.codeIn K cd11 "_law_plan" = true)
    (k11 : PySem.W.keepIn K (.ref f11) = true)
    (a12 : PySem.W.nsIn K mainGlobals "is_name" = some (some (.ref f12)))
    (l12 : K.lookup f12 = some ⟨oc12, od12, .func (PySem.W.fnOf "is_name" "is_name" (defArgs s_is_name) (defBody s_is_name) (defScope s_is_name) .none kV12 dc12 pm12 an12 cd12 ct12), sl12⟩)
    (c12 : PySem.W.codeIn K cd12 "is_name" = true)
    (k12 : PySem.W.keepIn K (.ref f12) = true)
    (a13 : PySem.W.nsIn K mainGlobals "checked_weights" = some (some (.ref f13)))
    (l13 : K.lookup f13 = some ⟨oc13, od13, .func (PySem.W.fnOf "checked_weights" "checked_weights" (defArgs s_checked_weights) (defBody s_checked_weights) (defScope s_checked_weights) .none kV13 dc13 pm13 an13 cd13 ct13), sl13⟩)
    (c13 : PySem.W.codeIn K cd13 "checked_weights" = true)
    (k13 : PySem.W.keepIn K (.ref f13) = true)
    (a14 : PySem.W.nsIn K mainGlobals "wrong_rest" = some (some (.ref f14)))
    (l14 : K.lookup f14 = some ⟨oc14, od14, .func (PySem.W.fnOf "wrong_rest" "wrong_rest" (defArgs s_wrong_rest) (defBody s_wrong_rest) (defScope s_wrong_rest) .none kV14 dc14 pm14 an14 cd14 ct14), sl14⟩)
    (c14 : PySem.W.codeIn K cd14 "wrong_rest" = true)
    (k14 : PySem.W.keepIn K (.ref f14) = true)
    (a15 : PySem.W.nsIn K mainGlobals "check_states" = some (some (.ref f15)))
    (l15 : K.lookup f15 = some ⟨oc15, od15, .func (PySem.W.fnOf "check_states" "check_states" (defArgs s_check_states) (defBody s_check_states) (defScope s_check_states) .none kV15 dc15 pm15 an15 cd15 ct15), sl15⟩)
    (c15 : PySem.W.codeIn K cd15 "check_states" = true)
    (k15 : PySem.W.keepIn K (.ref f15) = true)
    (a16 : PySem.W.nsIn K mainGlobals "columns_of" = some (some (.ref f16)))
    (l16 : K.lookup f16 = some ⟨oc16, od16, .func (PySem.W.fnOf "columns_of" "columns_of" (defArgs s_columns_of) (defBody s_columns_of) (defScope s_columns_of) .none kV16 dc16 pm16 an16 cd16 ct16), sl16⟩)
    (c16 : PySem.W.codeIn K cd16 "columns_of" = true)
    (k16 : PySem.W.keepIn K (.ref f16) = true)
    (a17 : PySem.W.findIn K (.ref C) "__init__" = some (some (.ref f17)))
    (i17 : PySem.W.isFn K (.ref f17) = true)
    (l17 : K.lookup f17 = some ⟨oc17, od17, .func (PySem.W.fnOf "__init__" "Rule.__init__" (defArgs s_Rule___init__) (defBody s_Rule___init__) (defScope s_Rule___init__) .none kV17 dc17 pm17 an17 cd17 ct17), sl17⟩)
    (c17 : PySem.W.codeIn K cd17 "Rule.__init__" = true)
    (k17 : PySem.W.keepIn K (.ref f17) = true)
    (a18 : PySem.W.nsIn K mainGlobals "_law_copy" = some (some (.ref f18)))
    (l18 : K.lookup f18 = some ⟨oc18, od18, .func (PySem.W.fnOf "_law_copy" "_law_copy" (defArgs s__law_copy) (defBody s__law_copy) (defScope s__law_copy) .none kV18 dc18 pm18 an18 cd18 ct18), sl18⟩)
    (c18 : PySem.W.codeIn K cd18 "_law_copy" = true)
    (k18 : PySem.W.keepIn K (.ref f18) = true)
    (a19 : PySem.W.nsIn K mainGlobals "_law_made" = some (some (.ref f19)))
    (l19 : K.lookup f19 = some ⟨oc19, od19, .func (PySem.W.fnOf "_law_made" "_law_made" (defArgs s__law_made) (defBody s__law_made) (defScope s__law_made) .none kV19 dc19 pm19 an19 cd19 ct19), sl19⟩)
    (c19 : PySem.W.codeIn K cd19 "_law_made" = true)
    (k19 : PySem.W.keepIn K (.ref f19) = true)
    (a20 : PySem.W.findIn K (.ref C) "__eq__" = some (some (.ref f20)))
    (i20 : PySem.W.isFn K (.ref f20) = true)
    (l20 : K.lookup f20 = some ⟨oc20, od20, .func (PySem.W.fnOf "__eq__" "Rule.__eq__" (defArgs s_Rule___eq__) (defBody s_Rule___eq__) (defScope s_Rule___eq__) .none kV20 dc20 pm20 an20 cd20 ct20), sl20⟩)
    (c20 : PySem.W.codeIn K cd20 "Rule.__eq__" = true)
    (k20 : PySem.W.keepIn K (.ref f20) = true)
    (a21 : PySem.W.nsIn K mainGlobals "_law_one_more" = some (some (.ref f21)))
    (l21 : K.lookup f21 = some ⟨oc21, od21, .func (PySem.W.fnOf "_law_one_more" "_law_one_more" (defArgs s__law_one_more) (defBody s__law_one_more) (defScope s__law_one_more) .none kV21 dc21 pm21 an21 cd21 ct21), sl21⟩)
    (c21 : PySem.W.codeIn K cd21 "_law_one_more" = true)
    (k21 : PySem.W.keepIn K (.ref f21) = true)
    (a22 : PySem.W.nsIn K mainGlobals "_law_other_folk" = some (some (.ref f22)))
    (l22 : K.lookup f22 = some ⟨oc22, od22, .func (PySem.W.fnOf "_law_other_folk" "_law_other_folk" (defArgs s__law_other_folk) (defBody s__law_other_folk) (defScope s__law_other_folk) .none kV22 dc22 pm22 an22 cd22 ct22), sl22⟩)
    (c22 : PySem.W.codeIn K cd22 "_law_other_folk" = true)
    (k22 : PySem.W.keepIn K (.ref f22) = true)
    (a23 : PySem.W.nsIn K mainGlobals "_law_changed" = some (some (.ref f23)))
    (l23 : K.lookup f23 = some ⟨oc23, od23, .func (PySem.W.fnOf "_law_changed" "_law_changed" (defArgs s__law_changed) (defBody s__law_changed) (defScope s__law_changed) .none kV23 dc23 pm23 an23 cd23 ct23), sl23⟩)
    (c23 : PySem.W.codeIn K cd23 "_law_changed" = true)
    (k23 : PySem.W.keepIn K (.ref f23) = true)
    (a24 : PySem.W.nsIn K mainGlobals "_law_alike" = some (some (.ref f24)))
    (l24 : K.lookup f24 = some ⟨oc24, od24, .func (PySem.W.fnOf "_law_alike" "_law_alike" (defArgs s__law_alike) (defBody s__law_alike) (defScope s__law_alike) .none kV24 dc24 pm24 an24 cd24 ct24), sl24⟩)
    (c24 : PySem.W.codeIn K cd24 "_law_alike" = true)
    (k24 : PySem.W.keepIn K (.ref f24) = true)
    (a25 : PySem.W.nsIn K mainGlobals "rows_of" = some (some (.ref f25)))
    (l25 : K.lookup f25 = some ⟨oc25, od25, .func (PySem.W.fnOf "rows_of" "rows_of" (defArgs s_rows_of) (defBody s_rows_of) (defScope s_rows_of) .none kV25 dc25 pm25 an25 cd25 ct25), sl25⟩)
    (c25 : PySem.W.codeIn K cd25 "rows_of" = true)
    (k25 : PySem.W.keepIn K (.ref f25) = true)
    (a26 : PySem.W.findIn K (.ref C) "states" = some (some (.ref p26)))
    (g26 : PySem.W.specialIn K (.ref p26) "__get__" = some (some (.builtin "property.__get__")))
    (t26 : PySem.W.takesIn K (.ref p26) = some true)
    (r26 : PySem.W.recIn K p26 "property" = some (.ref f26 :: rs26))
    (l26 : K.lookup f26 = some ⟨oc26, od26, .func (PySem.W.fnOf "states" "Rule.states" (defArgs s_Rule_states) (defBody s_Rule_states) (defScope s_Rule_states) .none kV26 dc26 pm26 an26 cd26 ct26), sl26⟩)
    (c26 : PySem.W.codeIn K cd26 "Rule.states" = true)
    (k26 : PySem.W.keepIn K (.ref f26) = true)
    (a27 : PySem.W.findIn K (.ref C) "__len__" = some (some (.ref f27)))
    (i27 : PySem.W.isFn K (.ref f27) = true)
    (l27 : K.lookup f27 = some ⟨oc27, od27, .func (PySem.W.fnOf "__len__" "Rule.__len__" (defArgs s_Rule___len__) (defBody s_Rule___len__) (defScope s_Rule___len__) .none kV27 dc27 pm27 an27 cd27 ct27), sl27⟩)
    (c27 : PySem.W.codeIn K cd27 "Rule.__len__" = true)
    (k27 : PySem.W.keepIn K (.ref f27) = true)
    (a28 : PySem.W.findIn K (.ref C) "people" = some (some (.ref p28)))
    (g28 : PySem.W.specialIn K (.ref p28) "__get__" = some (some (.builtin "property.__get__")))
    (t28 : PySem.W.takesIn K (.ref p28) = some true)
    (r28 : PySem.W.recIn K p28 "property" = some (.ref f28 :: rs28))
    (l28 : K.lookup f28 = some ⟨oc28, od28, .func (PySem.W.fnOf "people" "Rule.people" (defArgs s_Rule_people) (defBody s_Rule_people) (defScope s_Rule_people) .none kV28 dc28 pm28 an28 cd28 ct28), sl28⟩)
    (c28 : PySem.W.codeIn K cd28 "Rule.people" = true)
    (k28 : PySem.W.keepIn K (.ref f28) = true)
    (a29 : PySem.W.nsIn K mainGlobals "check_rows" = some (some (.ref f29)))
    (l29 : K.lookup f29 = some ⟨oc29, od29, .func (PySem.W.fnOf "check_rows" "check_rows" (defArgs s_check_rows) (defBody s_check_rows) (defScope s_check_rows) .none kV29 dc29 pm29 an29 cd29 ct29), sl29⟩)
    (c29 : PySem.W.codeIn K cd29 "check_rows" = true)
    (k29 : PySem.W.keepIn K (.ref f29) = true)
    (a30 : PySem.W.nsIn K mainGlobals "table_nexts" = some (some (.ref f30)))
    (l30 : K.lookup f30 = some ⟨oc30, od30, .func (PySem.W.fnOf "table_nexts" "table_nexts" (defArgs s_table_nexts) (defBody s_table_nexts) (defScope s_table_nexts) .none kV30 dc30 pm30 an30 cd30 ct30), sl30⟩)
    (c30 : PySem.W.codeIn K cd30 "table_nexts" = true)
    (k30 : PySem.W.keepIn K (.ref f30) = true)
    (a31 : PySem.W.nsIn K mainGlobals "table_cents" = some (some (.ref f31)))
    (l31 : K.lookup f31 = some ⟨oc31, od31, .func (PySem.W.fnOf "table_cents" "table_cents" (defArgs s_table_cents) (defBody s_table_cents) (defScope s_table_cents) .none kV31 dc31 pm31 an31 cd31 ct31), sl31⟩)
    (c31 : PySem.W.codeIn K cd31 "table_cents" = true)
    (k31 : PySem.W.keepIn K (.ref f31) = true)
    (a32 : PySem.W.nsIn K mainGlobals "by_rows" = some (some (.ref f32)))
    (l32 : K.lookup f32 = some ⟨oc32, od32, .func (PySem.W.fnOf "by_rows" "by_rows" (defArgs s_by_rows) (defBody s_by_rows) (defScope s_by_rows) .none kV32 dc32 pm32 an32 cd32 ct32), sl32⟩)
    (c32 : PySem.W.codeIn K cd32 "by_rows" = true)
    (k32 : PySem.W.keepIn K (.ref f32) = true)
    (a33 : PySem.W.nsIn K mainGlobals "with_cent" = some (some (.ref f33)))
    (l33 : K.lookup f33 = some ⟨oc33, od33, .func (PySem.W.fnOf "with_cent" "with_cent" (defArgs s_with_cent) (defBody s_with_cent) (defScope s_with_cent) .none kV33 dc33 pm33 an33 cd33 ct33), sl33⟩)
    (c33 : PySem.W.codeIn K cd33 "with_cent" = true)
    (k33 : PySem.W.keepIn K (.ref f33) = true)
    (a34 : PySem.W.nsIn K mainGlobals "in_turn" = some (some (.ref f34)))
    (l34 : K.lookup f34 = some ⟨oc34, od34, .func (PySem.W.fnOf "in_turn" "in_turn" (defArgs s_in_turn) (defBody s_in_turn) (defScope s_in_turn) .none kV34 dc34 pm34 an34 cd34 ct34), sl34⟩)
    (c34 : PySem.W.codeIn K cd34 "in_turn" = true)
    (k34 : PySem.W.keepIn K (.ref f34) = true)
    (a35 : PySem.W.nsIn K mainGlobals "_law_tables_right" = some (some (.ref f35)))
    (l35 : K.lookup f35 = some ⟨oc35, od35, .func (PySem.W.fnOf "_law_tables_right" "_law_tables_right" (defArgs s__law_tables_right) (defBody s__law_tables_right) (defScope s__law_tables_right) .none kV35 dc35 pm35 an35 cd35 ct35), sl35⟩)
    (c35 : PySem.W.codeIn K cd35 "_law_tables_right" = true)
    (k35 : PySem.W.keepIn K (.ref f35) = true)
    (a36 : PySem.W.nsIn K mainGlobals "_law_fits" = some (some (.ref f36)))
    (l36 : K.lookup f36 = some ⟨oc36, od36, .func (PySem.W.fnOf "_law_fits" "_law_fits" (defArgs s__law_fits) (defBody s__law_fits) (defScope s__law_fits) .none kV36 dc36 pm36 an36 cd36 ct36), sl36⟩)
    (c36 : PySem.W.codeIn K cd36 "_law_fits" = true)
    (k36 : PySem.W.keepIn K (.ref f36) = true)
    (a37 : PySem.W.nsIn K mainGlobals "_law_well" = some (some (.ref f37)))
    (l37 : K.lookup f37 = some ⟨oc37, od37, .func (PySem.W.fnOf "_law_well" "_law_well" (defArgs s__law_well) (defBody s__law_well) (defScope s__law_well) .none kV37 dc37 pm37 an37 cd37 ct37), sl37⟩)
    (c37 : PySem.W.codeIn K cd37 "_law_well" = true)
    (k37 : PySem.W.keepIn K (.ref f37) = true)
    (a38 : PySem.W.nsIn K mainGlobals "law" = some (some (.ref f38)))
    (l38 : K.lookup f38 = some ⟨oc38, od38, .func (PySem.W.fnOf "law" "law" (defArgs s_law) (defBody s_law) (defScope s_law) .none kV38 dc38 pm38 an38 cd38 ct38), sl38⟩)
    (c38 : PySem.W.codeIn K cd38 "law" = true)
    (k38 : PySem.W.keepIn K (.ref f38) = true)
    (pg : PySem.W.plainGet K C Str.empty = true)
    (hd : PySem.W.hasDictIn K C = true)
    (po : PySem.W.plainOver K C = true)
    (sa : PySem.W.findIn K (.ref C) "__setattr__" = some (some (.builtin "object.__setattr__")))
    (mk : PySem.W.makesIn K C = true)
    (kc : PySem.W.keepIn K (.ref C) = true)
    (np : PySem.W.findIn K (.ref C) "_people" = some none)
    (nc : PySem.W.findIn K (.ref C) "_cents" = some none)
    (nn : PySem.W.findIn K (.ref C) "_nexts" = some none)
    (nw : PySem.W.findIn K (.ref C) "_weight" = some none)
    (nmm : PySem.W.mroIn K C (.type "object") = some true)
    (nnn : PySem.W.findIn K (.ref C) "__ne__" = some (some (.builtin "object.__ne__")))
    (iha : PySem.W.findIn K (.ref C) "__class__" = some (some (.builtin "object.__class__")))
    (ihn : PySem.W.specialIn K (.builtin "object.__class__") "__get__" = some (some (.builtin "getset_descriptor.__get__")))
    (iht : PySem.W.takesIn K (.builtin "object.__class__") = some true)
    (ihm : PySem.W.mroIn K C (.type "object") = some true)
    (z_all : PySem.W.nsIn K mainGlobals "all" = some none)
    (z_any : PySem.W.nsIn K mainGlobals "any" = some none)
    (z_enumerate : PySem.W.nsIn K mainGlobals "enumerate" = some none)
    (z_int : PySem.W.nsIn K mainGlobals "int" = some none)
    (z_isinstance : PySem.W.nsIn K mainGlobals "isinstance" = some none)
    (z_len : PySem.W.nsIn K mainGlobals "len" = some none)
    (z_list : PySem.W.nsIn K mainGlobals "list" = some none)
    (z_max : PySem.W.nsIn K mainGlobals "max" = some none)
    (z_min : PySem.W.nsIn K mainGlobals "min" = some none)
    (z_range : PySem.W.nsIn K mainGlobals "range" = some none)
    (z_repr : PySem.W.nsIn K mainGlobals "repr" = some none)
    (z_sum : PySem.W.nsIn K mainGlobals "sum" = some none)
    (z_tuple : PySem.W.nsIn K mainGlobals "tuple" = some none)
    (z_zip : PySem.W.nsIn K mainGlobals "zip" = some none)
    (u_LETTERS : PySem.W.nsIn K mainGlobals "LETTERS" = some (some (.str "abcdefghijklmnopqrstuvwxyz" tk_LETTERS)))
    (u_LONGEST_NAME : PySem.W.nsIn K mainGlobals "LONGEST_NAME" = some (some (.int 8 tk_LONGEST_NAME)))
    : ∃ fd : FuncData, (∀ (s : Shared) (v : Value), BindsTo s fd ⟨[v], []⟩ [("script", v)]) ∧ ∀ base : Heap, K.In base → base.Ns mainGlobals mg → FnG l.prog w K mg base CX0 9 fa fd ["script"] (sp_law K ⟨C⟩) := by
  have e := hfa.symm.trans (PySem.W.mg_of X G a38)
  cases e
  have F0 := fun_mk (st := s__law_draw) l0 c0 k0
  have b0 := F0.binds (ps := ["well", "many"]) fun _ _ _ _ _ _ us hl => match us, hl with | [_, _], _ => rfl
  have F1 := fun_mk (st := s__law_titles) l1 c1 k1
  have b1 := F1.binds (ps := ["well", "many"]) fun _ _ _ _ _ _ us hl => match us, hl with | [_, _], _ => rfl
  have F2 := fun_mk (st := s__law_folk) l2 c2 k2
  have b2 := F2.binds (ps := ["well", "most", "heaviest"]) fun _ _ _ _ _ _ us hl => match us, hl with | [_, _, _], _ => rfl
  have F3 := fun_mk (st := s__law_heavy) l3 c3 k3
  have b3 := F3.binds (ps := ["folk"]) fun _ _ _ _ _ _ us hl => match us, hl with | [_], _ => rfl
  have F4 := fun_mk (st := s__law_by_table) l4 c4 k4
  have b4 := F4.binds (ps := ["folk", "lines"]) fun _ _ _ _ _ _ us hl => match us, hl with | [_, _], _ => rfl
  have F5 := fun_mk (st := s__law_cents) l5 c5 k5
  have b5 := F5.binds (ps := ["well", "many", "rest", "most"]) fun _ _ _ _ _ _ us hl => match us, hl with | [_, _, _, _], _ => rfl
  have F6 := fun_mk (st := s__law_lines) l6 c6 k6
  have b6 := F6.binds (ps := ["well", "folk", "most"]) fun _ _ _ _ _ _ us hl => match us, hl with | [_, _, _], _ => rfl
  have F7 := fun_mk (st := s__law_bent) l7 c7 k7
  have b7 := F7.binds (ps := ["well", "tables", "most"]) fun _ _ _ _ _ _ us hl => match us, hl with | [_, _, _], _ => rfl
  have F8 := fun_mk (st := s__law_any_states) l8 c8 k8
  have b8 := F8.binds (ps := ["well", "folk", "counts", "most"]) fun _ _ _ _ _ _ us hl => match us, hl with | [_, _, _, _], _ => rfl
  have F9 := fun_mk (st := s__law_copied) l9 c9 k9
  have b9 := F9.binds (ps := ["well", "tables", "most"]) fun _ _ _ _ _ _ us hl => match us, hl with | [_, _, _], _ => rfl
  have F10 := fun_mk (st := s__law_renumbered) l10 c10 k10
  have b10 := F10.binds (ps := ["well", "tables"]) fun _ _ _ _ _ _ us hl => match us, hl with | [_, _], _ => rfl
  have F11 := fun_mk (st := s__law_plan) l11 c11 k11
  have b11 := F11.binds (ps := ["well", "sizes"]) fun _ _ _ _ _ _ us hl => match us, hl with | [_, _], _ => rfl
  have F12 := fun_mk (st := s_is_name) l12 c12 k12
  have b12 := F12.binds (ps := ["name"]) fun _ _ _ _ _ _ us hl => match us, hl with | [_], _ => rfl
  have F13 := fun_mk (st := s_checked_weights) l13 c13 k13
  have b13 := F13.binds (ps := ["people"]) fun _ _ _ _ _ _ us hl => match us, hl with | [_], _ => rfl
  have F14 := fun_mk (st := s_wrong_rest) l14 c14 k14
  have b14 := F14.binds (ps := ["row", "whole", "many", "most"]) fun _ _ _ _ _ _ us hl => match us, hl with | [_, _, _, _], _ => rfl
  have F15 := fun_mk (st := s_check_states) l15 c15 k15
  have b15 := F15.binds (ps := ["states", "whole", "many"]) fun _ _ _ _ _ _ us hl => match us, hl with | [_, _, _], _ => rfl
  have F16 := fun_mk (st := s_columns_of) l16 c16 k16
  have b16 := F16.binds (ps := ["rows"]) fun _ _ _ _ _ _ us hl => match us, hl with | [_], _ => rfl
  have F17 := fun_mk (st := s_Rule___init__) l17 c17 k17
  have b17 := F17.binds (ps := ["self", "people", "states"]) fun _ _ _ _ _ _ us hl => match us, hl with | [_, _, _], _ => rfl
  have F18 := fun_mk (st := s__law_copy) l18 c18 k18
  have b18 := F18.binds (ps := ["tables"]) fun _ _ _ _ _ _ us hl => match us, hl with | [_], _ => rfl
  have F19 := fun_mk (st := s__law_made) l19 c19 k19
  have b19 := F19.binds (ps := ["plan"]) fun _ _ _ _ _ _ us hl => match us, hl with | [_], _ => rfl
  have F20 := fun_mk (st := s_Rule___eq__) l20 c20 k20
  have b20 := F20.binds (ps := ["self", "other"]) fun _ _ _ _ _ _ us hl => match us, hl with | [_, _], _ => rfl
  have F21 := fun_mk (st := s__law_one_more) l21 c21 k21
  have b21 := F21.binds (ps := ["well", "folk", "tables"]) fun _ _ _ _ _ _ us hl => match us, hl with | [_, _, _], _ => rfl
  have F22 := fun_mk (st := s__law_other_folk) l22 c22 k22
  have b22 := F22.binds (ps := ["well", "plan", "most"]) fun _ _ _ _ _ _ us hl => match us, hl with | [_, _, _], _ => rfl
  have F23 := fun_mk (st := s__law_changed) l23 c23 k23
  have b23 := F23.binds (ps := ["well", "plan", "most"]) fun _ _ _ _ _ _ us hl => match us, hl with | [_, _, _], _ => rfl
  have F24 := fun_mk (st := s__law_alike) l24 c24 k24
  have b24 := F24.binds (ps := ["plan", "twin_plan"]) fun _ _ _ _ _ _ us hl => match us, hl with | [_, _], _ => rfl
  have F25 := fun_mk (st := s_rows_of) l25 c25 k25
  have b25 := F25.binds (ps := ["columns"]) fun _ _ _ _ _ _ us hl => match us, hl with | [_], _ => rfl
  have F26 := fun_mk (st := s_Rule_states) l26 c26 k26
  have b26 := F26.binds (ps := ["self"]) fun _ _ _ _ _ _ us hl => match us, hl with | [_], _ => rfl
  have F27 := fun_mk (st := s_Rule___len__) l27 c27 k27
  have b27 := F27.binds (ps := ["self"]) fun _ _ _ _ _ _ us hl => match us, hl with | [_], _ => rfl
  have F28 := fun_mk (st := s_Rule_people) l28 c28 k28
  have b28 := F28.binds (ps := ["self"]) fun _ _ _ _ _ _ us hl => match us, hl with | [_], _ => rfl
  have F29 := fun_mk (st := s_check_rows) l29 c29 k29
  have b29 := F29.binds (ps := ["rows", "whole", "many"]) fun _ _ _ _ _ _ us hl => match us, hl with | [_, _, _], _ => rfl
  have F30 := fun_mk (st := s_table_nexts) l30 c30 k30
  have b30 := F30.binds (ps := ["whole"]) fun _ _ _ _ _ _ us hl => match us, hl with | [_], _ => rfl
  have F31 := fun_mk (st := s_table_cents) l31 c31 k31
  have b31 := F31.binds (ps := ["weights", "columns", "whole"]) fun _ _ _ _ _ _ us hl => match us, hl with | [_, _, _], _ => rfl
  have F32 := fun_mk (st := s_by_rows) l32 c32 k32
  have b32 := F32.binds (ps := ["people", "rows"]) fun _ _ _ _ _ _ us hl => match us, hl with | [_, _], _ => rfl
  have F33 := fun_mk (st := s_with_cent) l33 c33 k33
  have b33 := F33.binds (ps := ["weights", "row"]) fun _ _ _ _ _ _ us hl => match us, hl with | [_, _], _ => rfl
  have F34 := fun_mk (st := s_in_turn) l34 c34 k34
  have b34 := F34.binds (ps := ["people"]) fun _ _ _ _ _ _ us hl => match us, hl with | [_], _ => rfl
  have F35 := fun_mk (st := s__law_tables_right) l35 c35 k35
  have b35 := F35.binds (ps := ["well", "folk"]) fun _ _ _ _ _ _ us hl => match us, hl with | [_, _], _ => rfl
  have F36 := fun_mk (st := s__law_fits) l36 c36 k36
  have b36 := F36.binds (ps := ["well"]) fun _ _ _ _ _ _ us hl => match us, hl with | [_], _ => rfl
  have F37 := fun_mk (st := s__law_well) l37 c37 k37
  have b37 := F37.binds (ps := ["script", "place"]) fun _ _ _ _ _ _ us hl => match us, hl with | [_, _], _ => rfl
  have F38 := fun_mk (st := s_law) l38 c38 k38
  have b38 := F38.binds (ps := ["script"]) fun _ _ _ _ _ _ us hl => match us, hl with | [_], _ => rfl
  have T : Txt K mg ⟨C⟩ { f__law_draw := f0, d__law_draw := PySem.W.fnOf "_law_draw" "_law_draw" (defArgs s__law_draw) (defBody s__law_draw) (defScope s__law_draw) .none kV0 dc0 pm0 an0 cd0 ct0, f__law_titles := f1, d__law_titles := PySem.W.fnOf "_law_titles" "_law_titles" (defArgs s__law_titles) (defBody s__law_titles) (defScope s__law_titles) .none kV1 dc1 pm1 an1 cd1 ct1, f__law_folk := f2, d__law_folk := PySem.W.fnOf "_law_folk" "_law_folk" (defArgs s__law_folk) (defBody s__law_folk) (defScope s__law_folk) .none kV2 dc2 pm2 an2 cd2 ct2, f__law_heavy := f3, d__law_heavy := PySem.W.fnOf "_law_heavy" "_law_heavy" (defArgs s__law_heavy) (defBody s__law_heavy) (defScope s__law_heavy) .none kV3 dc3 pm3 an3 cd3 ct3, f__law_by_table := f4, d__law_by_table := PySem.W.fnOf "_law_by_table" "_law_by_table" (defArgs s__law_by_table) (defBody s__law_by_table) (defScope s__law_by_table) .none kV4 dc4 pm4 an4 cd4 ct4, f__law_cents := f5, d__law_cents := PySem.W.fnOf "_law_cents" "_law_cents" (defArgs s__law_cents) (defBody s__law_cents) (defScope s__law_cents) .none kV5 dc5 pm5 an5 cd5 ct5, f__law_lines := f6, d__law_lines := PySem.W.fnOf "_law_lines" "_law_lines" (defArgs s__law_lines) (defBody s__law_lines) (defScope s__law_lines) .none kV6 dc6 pm6 an6 cd6 ct6, f__law_bent := f7, d__law_bent := PySem.W.fnOf "_law_bent" "_law_bent" (defArgs s__law_bent) (defBody s__law_bent) (defScope s__law_bent) .none kV7 dc7 pm7 an7 cd7 ct7, f__law_any_states := f8, d__law_any_states := PySem.W.fnOf "_law_any_states" "_law_any_states" (defArgs s__law_any_states) (defBody s__law_any_states) (defScope s__law_any_states) .none kV8 dc8 pm8 an8 cd8 ct8, f__law_copied := f9, d__law_copied := PySem.W.fnOf "_law_copied" "_law_copied" (defArgs s__law_copied) (defBody s__law_copied) (defScope s__law_copied) .none kV9 dc9 pm9 an9 cd9 ct9, f__law_renumbered := f10, d__law_renumbered := PySem.W.fnOf "_law_renumbered" "_law_renumbered" (defArgs s__law_renumbered) (defBody s__law_renumbered) (defScope s__law_renumbered) .none kV10 dc10 pm10 an10 cd10 ct10, f__law_plan := f11, d__law_plan := PySem.W.fnOf "_law_plan" "_law_plan" (defArgs s__law_plan) (defBody s__law_plan) (defScope s__law_plan) .none kV11 dc11 pm11 an11 cd11 ct11, f_is_name := f12, d_is_name := PySem.W.fnOf "is_name" "is_name" (defArgs s_is_name) (defBody s_is_name) (defScope s_is_name) .none kV12 dc12 pm12 an12 cd12 ct12, f_checked_weights := f13, d_checked_weights := PySem.W.fnOf "checked_weights" "checked_weights" (defArgs s_checked_weights) (defBody s_checked_weights) (defScope s_checked_weights) .none kV13 dc13 pm13 an13 cd13 ct13, f_wrong_rest := f14, d_wrong_rest := PySem.W.fnOf "wrong_rest" "wrong_rest" (defArgs s_wrong_rest) (defBody s_wrong_rest) (defScope s_wrong_rest) .none kV14 dc14 pm14 an14 cd14 ct14, f_check_states := f15, d_check_states := PySem.W.fnOf "check_states" "check_states" (defArgs s_check_states) (defBody s_check_states) (defScope s_check_states) .none kV15 dc15 pm15 an15 cd15 ct15, f_columns_of := f16, d_columns_of := PySem.W.fnOf "columns_of" "columns_of" (defArgs s_columns_of) (defBody s_columns_of) (defScope s_columns_of) .none kV16 dc16 pm16 an16 cd16 ct16, f_Rule___init__ := f17, d_Rule___init__ := PySem.W.fnOf "__init__" "Rule.__init__" (defArgs s_Rule___init__) (defBody s_Rule___init__) (defScope s_Rule___init__) .none kV17 dc17 pm17 an17 cd17 ct17, f__law_copy := f18, d__law_copy := PySem.W.fnOf "_law_copy" "_law_copy" (defArgs s__law_copy) (defBody s__law_copy) (defScope s__law_copy) .none kV18 dc18 pm18 an18 cd18 ct18, f__law_made := f19, d__law_made := PySem.W.fnOf "_law_made" "_law_made" (defArgs s__law_made) (defBody s__law_made) (defScope s__law_made) .none kV19 dc19 pm19 an19 cd19 ct19, f_Rule___eq__ := f20, d_Rule___eq__ := PySem.W.fnOf "__eq__" "Rule.__eq__" (defArgs s_Rule___eq__) (defBody s_Rule___eq__) (defScope s_Rule___eq__) .none kV20 dc20 pm20 an20 cd20 ct20, f__law_one_more := f21, d__law_one_more := PySem.W.fnOf "_law_one_more" "_law_one_more" (defArgs s__law_one_more) (defBody s__law_one_more) (defScope s__law_one_more) .none kV21 dc21 pm21 an21 cd21 ct21, f__law_other_folk := f22, d__law_other_folk := PySem.W.fnOf "_law_other_folk" "_law_other_folk" (defArgs s__law_other_folk) (defBody s__law_other_folk) (defScope s__law_other_folk) .none kV22 dc22 pm22 an22 cd22 ct22, f__law_changed := f23, d__law_changed := PySem.W.fnOf "_law_changed" "_law_changed" (defArgs s__law_changed) (defBody s__law_changed) (defScope s__law_changed) .none kV23 dc23 pm23 an23 cd23 ct23, f__law_alike := f24, d__law_alike := PySem.W.fnOf "_law_alike" "_law_alike" (defArgs s__law_alike) (defBody s__law_alike) (defScope s__law_alike) .none kV24 dc24 pm24 an24 cd24 ct24, f_rows_of := f25, d_rows_of := PySem.W.fnOf "rows_of" "rows_of" (defArgs s_rows_of) (defBody s_rows_of) (defScope s_rows_of) .none kV25 dc25 pm25 an25 cd25 ct25, f_Rule_states := f26, d_Rule_states := PySem.W.fnOf "states" "Rule.states" (defArgs s_Rule_states) (defBody s_Rule_states) (defScope s_Rule_states) .none kV26 dc26 pm26 an26 cd26 ct26, p_Rule_states := p26, f_Rule___len__ := f27, d_Rule___len__ := PySem.W.fnOf "__len__" "Rule.__len__" (defArgs s_Rule___len__) (defBody s_Rule___len__) (defScope s_Rule___len__) .none kV27 dc27 pm27 an27 cd27 ct27, f_Rule_people := f28, d_Rule_people := PySem.W.fnOf "people" "Rule.people" (defArgs s_Rule_people) (defBody s_Rule_people) (defScope s_Rule_people) .none kV28 dc28 pm28 an28 cd28 ct28, p_Rule_people := p28, f_check_rows := f29, d_check_rows := PySem.W.fnOf "check_rows" "check_rows" (defArgs s_check_rows) (defBody s_check_rows) (defScope s_check_rows) .none kV29 dc29 pm29 an29 cd29 ct29, f_table_nexts := f30, d_table_nexts := PySem.W.fnOf "table_nexts" "table_nexts" (defArgs s_table_nexts) (defBody s_table_nexts) (defScope s_table_nexts) .none kV30 dc30 pm30 an30 cd30 ct30, f_table_cents := f31, d_table_cents := PySem.W.fnOf "table_cents" "table_cents" (defArgs s_table_cents) (defBody s_table_cents) (defScope s_table_cents) .none kV31 dc31 pm31 an31 cd31 ct31, f_by_rows := f32, d_by_rows := PySem.W.fnOf "by_rows" "by_rows" (defArgs s_by_rows) (defBody s_by_rows) (defScope s_by_rows) .none kV32 dc32 pm32 an32 cd32 ct32, f_with_cent := f33, d_with_cent := PySem.W.fnOf "with_cent" "with_cent" (defArgs s_with_cent) (defBody s_with_cent) (defScope s_with_cent) .none kV33 dc33 pm33 an33 cd33 ct33, f_in_turn := f34, d_in_turn := PySem.W.fnOf "in_turn" "in_turn" (defArgs s_in_turn) (defBody s_in_turn) (defScope s_in_turn) .none kV34 dc34 pm34 an34 cd34 ct34, f__law_tables_right := f35, d__law_tables_right := PySem.W.fnOf "_law_tables_right" "_law_tables_right" (defArgs s__law_tables_right) (defBody s__law_tables_right) (defScope s__law_tables_right) .none kV35 dc35 pm35 an35 cd35 ct35, f__law_fits := f36, d__law_fits := PySem.W.fnOf "_law_fits" "_law_fits" (defArgs s__law_fits) (defBody s__law_fits) (defScope s__law_fits) .none kV36 dc36 pm36 an36 cd36 ct36, f__law_well := f37, d__law_well := PySem.W.fnOf "_law_well" "_law_well" (defArgs s__law_well) (defBody s__law_well) (defScope s__law_well) .none kV37 dc37 pm37 an37 cd37 ct37, f_law := fa, d_law := PySem.W.fnOf "law" "law" (defArgs s_law) (defBody s_law) (defScope s_law) .none kV38 dc38 pm38 an38 cd38 ct38, u_LETTERS := .str "abcdefghijklmnopqrstuvwxyz" tk_LETTERS, u_LONGEST_NAME := .int 8 tk_LONGEST_NAME } :=
    { R := ⟨⟨pg, hd, po, sa⟩, np, nc, nn, nw, ⟨⟨pg, hd, po, sa⟩, iha, ihn, iht, ihm, by simp [PySem.W.kitOne]⟩, Ow.kit_no yR tR nq_tuple, Ow.not_first nq_tuple, Ow.kit_no yR tR nq_list, Ow.not_first nq_list, Ow.kit_no yR tR nq_str, Ow.not_first nq_str, Ow.kit_no yR tR nq_NoneType, Ow.not_first nq_NoneType, Ow.kit_no yR tR nq_int, Ow.not_first nq_int, Ow.kit_no yR tR nq_bool, Ow.not_first nq_bool, nb_tuple, nb_list, nb_str, nb_NoneType, nb_int, nb_bool⟩, m_Rule := PySem.W.mg_of X G aC, nm_Rule := nmm, nn_Rule := nnn, isc_Rule := ⟨⟨pg, hd, po, sa⟩, iha, ihn, iht, ihm, by simp [PySem.W.kitOne]⟩, F__law_draw := F0, bs__law_draw := b0, m__law_draw := PySem.W.mg_of X G a0, F__law_titles := F1, bs__law_titles := b1, m__law_titles := PySem.W.mg_of X G a1, F__law_folk := F2, bs__law_folk := b2, m__law_folk := PySem.W.mg_of X G a2, F__law_heavy := F3, bs__law_heavy := b3, m__law_heavy := PySem.W.mg_of X G a3, F__law_by_table := F4, bs__law_by_table := b4, m__law_by_table := PySem.W.mg_of X G a4, F__law_cents := F5, bs__law_cents := b5, m__law_cents := PySem.W.mg_of X G a5, F__law_lines := F6, bs__law_lines := b6, m__law_lines := PySem.W.mg_of X G a6, F__law_bent := F7, bs__law_bent := b7, m__law_bent := PySem.W.mg_of X G a7, F__law_any_states := F8, bs__law_any_states := b8, m__law_any_states := PySem.W.mg_of X G a8, F__law_copied := F9, bs__law_copied := b9, m__law_copied := PySem.W.mg_of X G a9, F__law_renumbered := F10, bs__law_renumbered := b10, m__law_renumbered := PySem.W.mg_of X G a10, F__law_plan := F11, bs__law_plan := b11, m__law_plan := PySem.W.mg_of X G a11, F_is_name := F12, bs_is_name := b12, m_is_name := PySem.W.mg_of X G a12, F_checked_weights := F13, bs_checked_weights := b13, m_checked_weights := PySem.W.mg_of X G a13, F_wrong_rest := F14, bs_wrong_rest := b14, m_wrong_rest := PySem.W.mg_of X G a14, F_check_states := F15, bs_check_states := b15, m_check_states := PySem.W.mg_of X G a15, F_columns_of := F16, bs_columns_of := b16, m_columns_of := PySem.W.mg_of X G a16, F_Rule___init__ := F17, bs_Rule___init__ := b17, mk_Rule := ⟨mk, a17, i17, kc⟩, F__law_copy := F18, bs__law_copy := b18, m__law_copy := PySem.W.mg_of X G a18, F__law_made := F19, bs__law_made := b19, m__law_made := PySem.W.mg_of X G a19, F_Rule___eq__ := F20, bs_Rule___eq__ := b20, me_Rule___eq__ := ⟨a20, i20, k20⟩, F__law_one_more := F21, bs__law_one_more := b21, m__law_one_more := PySem.W.mg_of X G a21, F__law_other_folk := F22, bs__law_other_folk := b22, m__law_other_folk := PySem.W.mg_of X G a22, F__law_changed := F23, bs__law_changed := b23, m__law_changed := PySem.W.mg_of X G a23, F__law_alike := F24, bs__law_alike := b24, m__law_alike := PySem.W.mg_of X G a24, F_rows_of := F25, bs_rows_of := b25, m_rows_of := PySem.W.mg_of X G a25, F_Rule_states := F26, bs_Rule_states := b26, pr_Rule_states := ⟨a26, g26, t26, ⟨_, r26⟩⟩, F_Rule___len__ := F27, bs_Rule___len__ := b27, me_Rule___len__ := ⟨a27, i27, k27⟩, F_Rule_people := F28, bs_Rule_people := b28, pr_Rule_people := ⟨a28, g28, t28, ⟨_, r28⟩⟩, F_check_rows := F29, bs_check_rows := b29, m_check_rows := PySem.W.mg_of X G a29, F_table_nexts := F30, bs_table_nexts := b30, m_table_nexts := PySem.W.mg_of X G a30, F_table_cents := F31, bs_table_cents := b31, m_table_cents := PySem.W.mg_of X G a31, F_by_rows := F32, bs_by_rows := b32, m_by_rows := PySem.W.mg_of X G a32, F_with_cent := F33, bs_with_cent := b33, m_with_cent := PySem.W.mg_of X G a33, F_in_turn := F34, bs_in_turn := b34, m_in_turn := PySem.W.mg_of X G a34, F__law_tables_right := F35, bs__law_tables_right := b35, m__law_tables_right := PySem.W.mg_of X G a35, F__law_fits := F36, bs__law_fits := b36, m__law_fits := PySem.W.mg_of X G a36, F__law_well := F37, bs__law_well := b37, m__law_well := PySem.W.mg_of X G a37, F_law := F38, bs_law := b38, m_law := PySem.W.mg_of X G a38, b_all := PySem.W.mg_none_of X G z_all, b_any := PySem.W.mg_none_of X G z_any, b_enumerate := PySem.W.mg_none_of X G z_enumerate, b_int := PySem.W.mg_none_of X G z_int, b_isinstance := PySem.W.mg_none_of X G z_isinstance, b_len := PySem.W.mg_none_of X G z_len, b_list := PySem.W.mg_none_of X G z_list, b_max := PySem.W.mg_none_of X G z_max, b_min := PySem.W.mg_none_of X G z_min, b_range := PySem.W.mg_none_of X G z_range, b_repr := PySem.W.mg_none_of X G z_repr, b_sum := PySem.W.mg_none_of X G z_sum, b_tuple := PySem.W.mg_none_of X G z_tuple, b_zip := PySem.W.mg_none_of X G z_zip, c_LETTERS := PySem.W.mg_of X G u_LETTERS, r_LETTERS := ⟨_, rfl⟩, c_LONGEST_NAME := PySem.W.mg_of X G u_LONGEST_NAME, r_LONGEST_NAME := ⟨_, rfl⟩ }
  exact ⟨PySem.W.fnOf "law" "law" (defArgs s_law) (defBody s_law) (defScope s_law) .none kV38 dc38 pm38 an38 cd38 ct38, fun s v => .of_eq rfl, fun base _ _ => ok_law T⟩
theorem walk {l : PySem.W.OpenLaw} {q : Program} {loose : List Str} {XP : (Str → Option Value) → Heap → Prop} {YP : World → Heap → Prop} {d : DefRec} {K : Params → PySem.W.Frag} (hn : l.most = some 63) (hdf : d.params.defaults = [])
    (hY : ∀ (w : World) (h : Heap), YP w h → (K w.params).In h) (C : World → Ad)
    (F : ∀ (w : World) (mg : Str → Option Value) (fa : Addr) (h : Heap), (K w.params).In h → h.Ns mainGlobals mg → mg d.name = some (.ref fa) →
      ∃ fd : FuncData, (∀ (s : Shared) (u : Value), BindsTo s fd ⟨[u], []⟩ [("script", u)]) ∧ ∀ base : Heap, (K w.params).In base → base.Ns mainGlobals mg → FnG l.prog w (K w.params) mg base CX0 9 fa fd ["script"] (sp_law (K w.params) (C w))) :
    PySem.W.WalkO q loose XP YP l.row.toRowW d [] (fun f vs => PySem.call f vs) :=
  walk_G (n := 63) (k := 9) (x := "script") (CX := fun _ => CX0) (sp := fun w => sp_law (K w.params) (C w)) hn (by decide) hdf ⟨rfl, by decide, by decide⟩ hY F (fun _ _ a ns hl _ hS => ⟨a, ns, rfl, hS, hl, fun _ => rfl⟩) fun _ _ _ _ _ z => z
end Ow

open PySem PySem.W PyProof.Rows in
set_option maxRecDepth 100000 in
set_option maxHeartbeats 0 in
theorem PySem.Challenge.cw_owedafresh_k05_equal_rules_holds : PySem.Challenge.rw_owedafresh_k05_equal_rules.Holds := by
  w_on; o_law; k_head; (case hw => w_witness2)
  k_fill
  refine Ow.walk (l := PySem.Challenge.rw_owedafresh_k05_equal_rules) rfl rfl (fun w h Y => PySem.W.kIn_of Y) ?C ?F
  case F =>
    intro w mg fa h KX G hmg
    refine' Ow.all_mk KX G hmg ?aC ?yR ?tR ?nq_tuple ?nq_list ?nq_str ?nq_NoneType ?nq_int ?nq_bool ?nb_tuple ?nb_list ?nb_str ?nb_NoneType ?nb_int ?nb_bool ?a0 ?l0 ?c0 ?k0 ?a1 ?l1 ?c1 ?k1 ?a2 ?l2 ?c2 ?k2 ?a3 ?l3 ?c3 ?k3 ?a4 ?l4 ?c4 ?k4 ?a5 ?l5 ?c5 ?k5 ?a6 ?l6 ?c6 ?k6 ?a7 ?l7 ?c7 ?k7 ?a8 ?l8 ?c8 ?k8 ?a9 ?l9 ?c9 ?k9 ?a10 ?l10 ?c10 ?k10 ?a11 ?l11 ?c11 ?k11 ?a12 ?l12 ?c12 ?k12 ?a13 ?l13 ?c13 ?k13 ?a14 ?l14 ?c14 ?k14 ?a15 ?l15 ?c15 ?k15 ?a16 ?l16 ?c16 ?k16 ?a17 ?i17 ?l17 ?c17 ?k17 ?a18 ?l18 ?c18 ?k18 ?a19 ?l19 ?c19 ?k19 ?a20 ?i20 ?l20 ?c20 ?k20 ?a21 ?l21 ?c21 ?k21 ?a22 ?l22 ?c22 ?k22 ?a23 ?l23 ?c23 ?k23 ?a24 ?l24 ?c24 ?k24 ?a25 ?l25 ?c25 ?k25 ?a26 ?g26 ?t26 ?r26 ?l26 ?c26 ?k26 ?a27 ?i27 ?l27 ?c27 ?k27 ?a28 ?g28 ?t28 ?r28 ?l28 ?c28 ?k28 ?a29 ?l29 ?c29 ?k29 ?a30 ?l30 ?c30 ?k30 ?a31 ?l31 ?c31 ?k31 ?a32 ?l32 ?c32 ?k32 ?a33 ?l33 ?c33 ?k33 ?a34 ?l34 ?c34 ?k34 ?a35 ?l35 ?c35 ?k35 ?a36 ?l36 ?c36 ?k36 ?a37 ?l37 ?c37 ?k37 ?a38 ?l38 ?c38 ?k38 ?pg ?hd ?po ?sa ?mk ?kc ?np ?nc ?nn ?nw ?nmm ?nnn ?iha ?ihn ?iht ?ihm ?z_all ?z_any ?z_enumerate ?z_int ?z_isinstance ?z_len ?z_list ?z_max ?z_min ?z_range ?z_repr ?z_sum ?z_tuple ?z_zip ?u_LETTERS ?u_LONGEST_NAME
    (case aC => k_is)
    (case yR => k_is)
    (case tR => k_is)
    (case nq_tuple => k_is)
    (case nq_list => k_is)
    (case nq_str => k_is)
    (case nq_NoneType => k_is)
    (case nq_int => k_is)
    (case nq_bool => k_is)
    (case nb_tuple => k_is)
    (case nb_list => k_is)
    (case nb_str => k_is)
    (case nb_NoneType => k_is)
    (case nb_int => k_is)
    (case nb_bool => k_is)
    (case a0 => k_is)
    (case l0 => k_is)
    (case c0 => k_is)
    (case k0 => k_is)
    (case a1 => k_is)
    (case l1 => k_is)
    (case c1 => k_is)
    (case k1 => k_is)
    (case a2 => k_is)
    (case l2 => k_is)
    (case c2 => k_is)
    (case k2 => k_is)
    (case a3 => k_is)
    (case l3 => k_is)
    (case c3 => k_is)
    (case k3 => k_is)
    (case a4 => k_is)
    (case l4 => k_is)
    (case c4 => k_is)
    (case k4 => k_is)
    (case a5 => k_is)
    (case l5 => k_is)
    (case c5 => k_is)
    (case k5 => k_is)
    (case a6 => k_is)
    (case l6 => k_is)
    (case c6 => k_is)
    (case k6 => k_is)
    (case a7 => k_is)
    (case l7 => k_is)
    (case c7 => k_is)
    (case k7 => k_is)
    (case a8 => k_is)
    (case l8 => k_is)
    (case c8 => k_is)
    (case k8 => k_is)
    (case a9 => k_is)
    (case l9 => k_is)
    (case c9 => k_is)
    (case k9 => k_is)
    (case a10 => k_is)
    (case l10 => k_is)
    (case c10 => k_is)
    (case k10 => k_is)
    (case a11 => k_is)
    (case l11 => k_is)
    (case c11 => k_is)
    (case k11 => k_is)
    (case a12 => k_is)
    (case l12 => k_is)
    (case c12 => k_is)
    (case k12 => k_is)
    (case a13 => k_is)
    (case l13 => k_is)
    (case c13 => k_is)
    (case k13 => k_is)
    (case a14 => k_is)
    (case l14 => k_is)
    (case c14 => k_is)
    (case k14 => k_is)
    (case a15 => k_is)
    (case l15 => k_is)
    (case c15 => k_is)
    (case k15 => k_is)
    (case a16 => k_is)
    (case l16 => k_is)
    (case c16 => k_is)
    (case k16 => k_is)
    (case a17 => k_is)
    (case i17 => k_is)
    (case l17 => k_is)
    (case c17 => k_is)
    (case k17 => k_is)
    (case a18 => k_is)
    (case l18 => k_is)
    (case c18 => k_is)
    (case k18 => k_is)
    (case a19 => k_is)
    (case l19 => k_is)
    (case c19 => k_is)
    (case k19 => k_is)
    (case a20 => k_is)
    (case i20 => k_is)
    (case l20 => k_is)
    (case c20 => k_is)
    (case k20 => k_is)
    (case a21 => k_is)
    (case l21 => k_is)
    (case c21 => k_is)
    (case k21 => k_is)
    (case a22 => k_is)
    (case l22 => k_is)
    (case c22 => k_is)
    (case k22 => k_is)
    (case a23 => k_is)
    (case l23 => k_is)
    (case c23 => k_is)
    (case k23 => k_is)
    (case a24 => k_is)
    (case l24 => k_is)
    (case c24 => k_is)
    (case k24 => k_is)
    (case a25 => k_is)
    (case l25 => k_is)
    (case c25 => k_is)
    (case k25 => k_is)
    (case a26 => k_is)
    (case g26 => k_is)
    (case t26 => k_is)
    (case r26 => k_is)
    (case l26 => k_is)
    (case c26 => k_is)
    (case k26 => k_is)
    (case a27 => k_is)
    (case i27 => k_is)
    (case l27 => k_is)
    (case c27 => k_is)
    (case k27 => k_is)
    (case a28 => k_is)
    (case g28 => k_is)
    (case t28 => k_is)
    (case r28 => k_is)
    (case l28 => k_is)
    (case c28 => k_is)
    (case k28 => k_is)
    (case a29 => k_is)
    (case l29 => k_is)
    (case c29 => k_is)
    (case k29 => k_is)
    (case a30 => k_is)
    (case l30 => k_is)
    (case c30 => k_is)
    (case k30 => k_is)
    (case a31 => k_is)
    (case l31 => k_is)
    (case c31 => k_is)
    (case k31 => k_is)
    (case a32 => k_is)
    (case l32 => k_is)
    (case c32 => k_is)
    (case k32 => k_is)
    (case a33 => k_is)
    (case l33 => k_is)
    (case c33 => k_is)
    (case k33 => k_is)
    (case a34 => k_is)
    (case l34 => k_is)
    (case c34 => k_is)
    (case k34 => k_is)
    (case a35 => k_is)
    (case l35 => k_is)
    (case c35 => k_is)
    (case k35 => k_is)
    (case a36 => k_is)
    (case l36 => k_is)
    (case c36 => k_is)
    (case k36 => k_is)
    (case a37 => k_is)
    (case l37 => k_is)
    (case c37 => k_is)
    (case k37 => k_is)
    (case a38 => k_is)
    (case l38 => k_is)
    (case c38 => k_is)
    (case k38 => k_is)
    (case pg => k_is)
    (case hd => k_is)
    (case po => k_is)
    (case sa => k_is)
    (case mk => k_is)
    (case kc => k_is)
    (case np => k_is)
    (case nc => k_is)
    (case nn => k_is)
    (case nw => k_is)
    (case nmm => k_is)
    (case nnn => k_is)
    (case iha => k_is)
    (case ihn => k_is)
    (case iht => k_is)
    (case ihm => k_is)
    (case z_all => k_is)
    (case z_any => k_is)
    (case z_enumerate => k_is)
    (case z_int => k_is)
    (case z_isinstance => k_is)
    (case z_len => k_is)
    (case z_list => k_is)
    (case z_max => k_is)
    (case z_min => k_is)
    (case z_range => k_is)
    (case z_repr => k_is)
    (case z_sum => k_is)
    (case z_tuple => k_is)
    (case z_zip => k_is)
    (case u_LETTERS => k_is)
    (case u_LONGEST_NAME => k_is)

