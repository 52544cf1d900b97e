import PyProof.Rows.All
import Wide.All
import OpenK.AllK
import Wide.FinOn
import HandS.Base
import HandS.Call
import HandS.List
import HandS.Comp
import HandS.Iter
import HandS.Walk
import HandS.Ends
import HandS.Words
import HandS.WordsList
import HandS.WordsExc
import HandS.Exc
import HandS.ExcOwn
import HandS.ExcInit
import HandS.ExcIs
import HandS.IsInst
import HandS.Defaults
import HandS.Gcd
import HandS.Wide
import HandS.ExcField
import HandS.ExcValue
import KE.KExcIs
import PyProof.ReprRoads
import HandS.HeadEnd
import HandS.Lambda
import HandS.SortInts
import HandS.TupAny
import HandS.TryMany
import HandS.HeadHook1
import HandS.HeadHook2
import HandS.HeadHook3
import HandS.HeadHook4
import KE.GoesNew
import HandS.Zip
import HandS.SetFor
import HandS.NamedTupSort
import HandS.More
import HandS.Deep
import HandS.Conv
import HandS.SortKw
import HandS.Style
import PyProof.WalksMore
import KE.BitLaws
import KE.KStar
import KE.KMathG
import PyProof.CompFree
import HandS.SetKeys
import HandS.Rev
import HandS.RevTup
import PyProof.ListNew
import KE.SortKeyHeap
import HandS.MapJoin
import HandS.Nested
import KE.KLam
import HandS.HeadWalk
import HandS.EndTab
import HandS.GenList
import HandS.GenYield
import KE.SortData
import HandS.TryOnly
import PySem.Challenge.RW_letbychecks_k04_whole_worst_lots_of_all
import KE.KStateDown
import Lean
import HandS.Head0
import HandS.Head1
import HandS.Head2
import HandS.Head3
import HandS.WideBits
import KE.KNestM
set_option Elab.async false
set_option linter.all false
set_option maxRecDepth 100000
set_option maxHeartbeats 2000000
namespace MB
open PySem PySem.Spec PyProof.Rows L2
def BlQ (x : V) (H : Hp) (Q : Bool → Hp → Prop) : Prop := ∃ k, x = .bl k ∧ Q k H
def TwoQ (vs : List V) (H : Hp) (R : V → V → Hp → Prop) : Prop := ∃ v w, vs = [v, w] ∧ R v w H
def NewT (xs : List V) (H : Hp) (Q : VK) : Prop := xs.length ≤ sizeLine ∧ ∀ p, H p = none → Q (.ref p) (upd H p (.tup xs))
def NewL (xs : List V) (H : Hp) (Q : VK) : Prop := xs.length ≤ sizeLine ∧ ∀ p, H p = none → Q (.ref p) (upd H p (.lst xs))
abbrev RC := List V → Hp → VK → Prop
def rInt1 : RC := fun xs H Q => (∃ i, xs = [.int i] ∧ Q (.int i) H) ∨ ∃ k, xs = [.bl k] ∧ Q (.int (if k then 1 else 0)) H
def rAbs : RC := fun xs H Q => ∃ i, xs = [.int i] ∧ Q (.int (if i < 0 then -i else i)) H
def rLenQ (K : PySem.W.Frag) : RC := fun xs H Q => ∃ p ys, xs = [.ref p] ∧ (SqL K H p ys ∨ SqT K H p ys) ∧ Q (.int ys.length) H
def rListOf (K : PySem.W.Frag) : RC := fun xs H Q => ∃ p ys, xs = [.ref p] ∧ (SqL K H p ys ∨ SqT K H p ys) ∧ ∀ l, H l = none → Q (.ref l) (upd H l (.lst ys))
def rTupOf (K : PySem.W.Frag) : RC := fun xs H Q => ∃ p ys, xs = [.ref p] ∧ ((SqL K H p ys ∧ ∀ l, H l = none → Q (.ref l) (upd H l (.tup ys))) ∨ (SqT K H p ys ∧ Q (.ref p) H))
def rIsNo : R2 := fun x y H Q => y = .non ∧ Q (.bl (decide (x = .non))) H
def rNotNo : R2 := fun x y H Q => y = .non ∧ Q (.bl (!decide (x = .non))) H
section rules
variable {X : Cx}
theorem k_int1 : CallR X (.type "int") rInt1 := call_int1
theorem k_abs : CallR X (.builtin "abs") rAbs := call_abs
theorem k_len : CallR X (.builtin "len") (rLenQ X.K) := call_len_seq
theorem k_listOf : CallR X (.type "list") (rListOf X.K) := call_list_of
theorem k_tupOf : CallR X (.type "tuple") (rTupOf X.K) := call_tuple_of
theorem k_isN : OpR X (compareOp .Is) rIsNo := op_isN
theorem k_notN : OpR X (compareOp .IsNot) rNotNo := op_notN
end rules
section readings
variable {σ : L2.St} {H : Hp} {Q : VK} {D : Ends}
theorem r_var {i : Nat} {v : V} (h : σ[i]? = some (some v)) (q : Q v H) : tVar i σ H Q := ⟨v, h, q⟩
theorem r_c {v : V} (q : Q v H) : tC v σ H Q := q
theorem r_op {r : R2} {ta tb : TE} (q : ta σ H fun x H1 => tb σ H1 fun y H2 => r x y H2 Q) : tOp r ta tb σ H Q := q
theorem r_un {r : V → Hp → VK → Prop} {ta : TE} (q : ta σ H fun x H1 => r x H1 Q) : tUn r ta σ H Q := q
theorem r_nil {Q : List V → Hp → Prop} (q : Q [] H) : tNil σ H Q := q
theorem r_cons {Q : List V → Hp → Prop} {ta : TE} {tr : TA} (q : ta σ H fun x H1 => tr σ H1 fun xs H2 => Q (x :: xs) H2) : tCons ta tr σ H Q := q
theorem r_I {C : Int → Int → Prop} {g : Int → Int → V} {i j : Int} (c : C i j) (q : Q (g i j) H) : rI C g (.int i) (.int j) H Q := ⟨i, j, rfl, rfl, c, q⟩
theorem r_I0 {g : Int → Int → V} {i j : Int} (q : Q (g i j) H) : rI0 g (.int i) (.int j) H Q := ⟨i, j, rfl, rfl, q⟩
theorem r_U {g : Int → V} {i : Int} (q : Q (g i) H) : rU g (.int i) H Q := ⟨i, rfl, q⟩
theorem r_eq {x y : V} (s : scal x y = true) (q : Q (.bl (decide (x = y))) H) : rEq x y H Q := ⟨s, q⟩
theorem r_ne {x y : V} (s : scal x y = true) (q : Q (.bl (!decide (x = y))) H) : rNe x y H Q := ⟨s, q⟩
theorem r_seq {t u : TS} (q : t { D with nx := u D } σ H) : tSeq t u D σ H := q
theorem r_asg {te : TE} {g : TG} (q : te σ H fun x H1 => g x σ H1 D.nx) : tAsg te g D σ H := q
theorem r_name {Q : L2.St → Hp → Prop} {i : Nat} {v : V} (q : Q (σ.set i (some v)) H) : gName i v σ H Q := q
theorem r_sub {Q : L2.St → Hp → Prop} {to ti : TE} {t : TSet} {v : V} (q : to σ H fun o H1 => ti σ H1 fun i H2 => t o i v H2 fun H3 => Q σ H3) : gSub to ti t v σ H Q := q
theorem r_ret {te : TE} (q : te σ H D.rt) : tRet te D σ H := q
theorem r_next (q : D.nx σ H) : tNext D σ H := q
theorem r_break (q : D.bk σ H) : tBreak D σ H := q
theorem r_drop {te : TE} (q : te σ H fun _ H1 => D.nx σ H1) : tDrop te D σ H := q
theorem r_ifS {c : TT} {t u : TS} (q : c σ H fun b H1 => if b = true then t D σ H1 else u D σ H1) : tIfS c t u D σ H := q
theorem r_test {t : TE} {Q : Bool → Hp → Prop} (q : t σ H fun x H' => BlQ x H' Q) : tTest t σ H Q := q
theorem r_tB {t : TE} {Q : Bool → Hp → Prop} (q : t σ H fun x H' => BlQ x H' Q) : tB t σ H Q := q
theorem r_bl {b : Bool} {Q : Bool → Hp → Prop} (q : Q b H) : BlQ (.bl b) H Q := ⟨b, rfl, q⟩
theorem r_and {t u : TT} {Q : Bool → Hp → Prop} (q : t σ H fun c H1 => if c = true then u σ H1 Q else Q false H1) : tAnd t u σ H Q := q
theorem r_or {t u : TT} {Q : Bool → Hp → Prop} (q : t σ H fun c H1 => if c = true then Q true H1 else u σ H1 Q) : tOr t u σ H Q := q
theorem r_not {t : TT} {Q : Bool → Hp → Prop} (q : t σ H fun c H1 => Q (!c) H1) : tNot t σ H Q := q
theorem r_andV {ta tb : TE} (q : ta σ H fun x H1 => BlQ x H1 fun c H1 => if c = true then tb σ H1 Q else Q (.bl false) H1) : tAndV ta tb σ H Q := q
theorem r_orV {ta tb : TE} (q : ta σ H fun x H1 => BlQ x H1 fun c H1 => if c = true then Q (.bl true) H1 else tb σ H1 Q) : tOrV ta tb σ H Q := q
theorem r_notV {ta : TE} (q : ta σ H fun x H1 => BlQ x H1 fun c H1 => Q (.bl (!c)) H1) : tNotV ta σ H Q := q
theorem r_isN {ta : TE} (q : ta σ H fun x H1 => Q (.bl (decide (x = .non))) H1) : tIsN ta σ H Q := q
theorem r_notN {ta : TE} (q : ta σ H fun x H1 => Q (.bl (!decide (x = .non))) H1) : tNotN ta σ H Q := q
theorem r_tIf {t : TT} {ta tb : TE} (q : t σ H fun c H1 => if c = true then ta σ H1 Q else tb σ H1 Q) : tIf t ta tb σ H Q := q
theorem r_chain {r r' : R2} {ta tb tc : TE} (q : ta σ H fun x H1 => tb σ H1 fun y H2 => r x y H2 fun z H3 => BlQ z H3 fun k H3 => if k = true then tc σ H3 fun w' H4 => r' y w' H4 Q else Q (.bl false) H3) : tChain r r' ta tb tc σ H Q := q
theorem r_call {sp : Sp} {dvs : List V} {E : XK} {t : TA} (q : t σ H fun vs H1 => sp (vs ++ dvs) H1 Q E) : tCall sp dvs E t σ H Q := q
theorem r_CB {r : List V → Hp → VK → Prop} {t : TA} (q : t σ H fun vs H1 => r vs H1 Q) : tCB r t σ H Q := q
theorem r_tup {t : TA} (q : t σ H fun xs H1 => NewT xs H1 Q) : tTup t σ H Q := q
theorem r_lst {t : TA} (q : t σ H fun xs H1 => NewL xs H1 Q) : tLst t σ H Q := q
theorem r_par {i j : Nat} {ta : TA} (q : ta σ H fun vs H1 => TwoQ vs H1 fun v w H1 => D.nx ((σ.set i (some v)).set j (some w)) H1) : tPar i j ta D σ H := q
theorem r_two {v w : V} {R : V → V → Hp → Prop} (q : R v w H) : TwoQ [v, w] H R := ⟨v, w, rfl, q⟩
theorem r_ixL {K : PySem.W.Frag} {p : Addr} {xs : List V} {i : Int} {v : V} (s : SqL K H p xs) (a : atI xs i = some v) (q : Q v H) : rIxL K (.ref p) (.int i) H Q := ⟨p, xs, i, v, rfl, rfl, s, a, q⟩
theorem r_ixT {K : PySem.W.Frag} {p : Addr} {xs : List V} {i : Int} {v : V} (s : SqT K H p xs) (a : atI xs i = some v) (q : Q v H) : rIxT K (.ref p) (.int i) H Q := ⟨p, xs, i, v, rfl, rfl, s, a, q⟩
theorem r_setL {p : Addr} {xs : List V} {k : Int} {j : Nat} {v : V} {Q : Hp → Prop} (h : H p = some (.lst xs)) (e : ixN xs.length k = some j) (q : Q (upd H p (.lst (xs.set j v)))) : rSetL (.ref p) (.int k) v H Q := ⟨p, xs, k, j, rfl, rfl, h, e, q⟩
theorem r_lenQ {K : PySem.W.Frag} {p : Addr} {ys : List V} (s : SqL K H p ys ∨ SqT K H p ys) (q : Q (.int ys.length) H) : rLenQ K [.ref p] H Q := ⟨p, ys, rfl, s, q⟩
theorem r_isNo {x : V} (q : Q (.bl (decide (x = .non))) H) : rIsNo x .non H Q := ⟨rfl, q⟩
theorem r_notNo {x : V} (q : Q (.bl (!decide (x = .non))) H) : rNotNo x .non H Q := ⟨rfl, q⟩
theorem r_int1 {i : Int} (q : Q (.int i) H) : rInt1 [.int i] H Q := .inl ⟨i, rfl, q⟩
theorem r_int1b {b : Bool} (q : Q (.int (if b then 1 else 0)) H) : rInt1 [.bl b] H Q := .inr ⟨b, rfl, q⟩
theorem r_abs {i : Int} (q : Q (.int (if i < 0 then -i else i)) H) : rAbs [.int i] H Q := ⟨i, rfl, q⟩
theorem r_gcd {a b : Int} (q : Q (.int ((Nat.gcd a.natAbs b.natAbs : Nat) : Int)) H) : rGcd [.int a, .int b] H Q := ⟨a, b, rfl, q⟩
theorem r_yes {Q : Bool → Hp → Prop} (q : Q true H) : tYes σ H Q := q
theorem r_gtup {K : PySem.W.Frag} {n : Nat} {t : TGs} {a : Addr} {xs : List V} {Q : L2.St → Hp → Prop} (s : SqT K H a xs) (l : xs.length = n) (q : t xs σ H Q) : gTup K n t (.ref a) σ H Q := ⟨a, xs, rfl, s, l, q⟩
theorem r_gcons {t : TG} {u : TGs} {v : V} {r : List V} {Q : L2.St → Hp → Prop} (q : t v σ H fun σ' H' => u r σ' H' Q) : gCons t u (v :: r) σ H Q := ⟨v, r, rfl, q⟩
theorem r_gnil {Q : L2.St → Hp → Prop} (q : Q σ H) : gNil [] σ H Q := ⟨rfl, q⟩
end readings
theorem int_at {ns : List Int} {i : Nat} {y : V} (h : (ns.map V.int)[i]? = some y) : ∃ c, ns[i]? = some c ∧ y = .int c := by
  rw [List.getElem?_map] at h
  cases e : ns[i]? with
  | none => rw [e] at h; cases h
  | some c => rw [e] at h; exact ⟨c, rfl, (Option.some.inj h).symm⟩
theorem st0 {N : List Str} {vs : List V} {σ : L2.St} {t : TS} {D : Ends} {H : Hp} (e : start N vs = σ) (q : t D σ H) : t D (start N vs) H := by rw [e]; exact q
theorem if_d {c : Prop} [Decidable c] {A B : Prop} (h1 : c → A) (h2 : ¬ c → B) : if decide c = true then A else B := by
  by_cases h : c
  · rw [decide_eq_true h, if_pos rfl]; exact h1 h
  · rw [decide_eq_false h, if_neg Bool.false_ne_true]; exact h2 h
theorem if_nd {c : Prop} [Decidable c] {A B : Prop} (h1 : ¬ c → A) (h2 : c → B) : if (!decide c) = true then A else B := by
  by_cases h : c
  · rw [decide_eq_true h]; exact iteF (h2 h)
  · rw [decide_eq_false h]; exact iteT (h1 h)
theorem if_b {b : Bool} {A B : Prop} (h1 : b = true → A) (h2 : b = false → B) : if b = true then A else B := by
  cases b
  · exact iteF (h2 rfl)
  · exact iteT (h1 rfl)
theorem if_yes {b : Bool} {A B : Prop} (h : b = true) (h1 : A) : if b = true then A else B := by rw [if_pos h]; exact h1
theorem if_no {b : Bool} {A B : Prop} (h : b = false) (h1 : B) : if b = true then A else B := by rw [h]; exact iteF h1
section
variable {A B : Prop}
theorem if_nt (h : B) : if (!true) = true then A else B := iteF h
theorem if_nf (h : A) : if (!false) = true then A else B := iteT h
theorem if_n0 (h : A) : if decide (V.non = V.non) = true then A else B := iteT h
theorem if_n1 {i : Int} (h : B) : if decide (V.int i = V.non) = true then A else B := iteF h
theorem if_n2 {i : Bool} (h : B) : if decide (V.bl i = V.non) = true then A else B := iteF h
theorem if_n3 {i : Str} (h : B) : if decide (V.str i = V.non) = true then A else B := iteF h
theorem if_n4 {i : Addr} (h : B) : if decide (V.ref i = V.non) = true then A else B := iteF h
theorem if_m0 (h : B) : if (!decide (V.non = V.non)) = true then A else B := iteF h
theorem if_m1 {i : Int} (h : A) : if (!decide (V.int i = V.non)) = true then A else B := iteT h
theorem if_m2 {i : Bool} (h : A) : if (!decide (V.bl i = V.non)) = true then A else B := iteT h
theorem if_m3 {i : Str} (h : A) : if (!decide (V.str i = V.non)) = true then A else B := iteT h
theorem if_m4 {i : Addr} (h : A) : if (!decide (V.ref i = V.non)) = true then A else B := iteT h
theorem vd_int {i j : Int} : decide (V.int i = V.int j) = decide (i = j) := by
  by_cases h : i = j
  · rw [h, decide_eq_true rfl, decide_eq_true rfl]
  · rw [decide_eq_false h, decide_eq_false fun e => h (V.int.inj e)]
/-- two ints compared -/
theorem if_i {i j : Int} (h1 : i = j → A) (h2 : i ≠ j → B) : if decide (V.int i = V.int j) = true then A else B := by rw [vd_int]; exact if_d h1 h2
theorem if_ni {i j : Int} (h1 : i ≠ j → A) (h2 : i = j → B) : if (!decide (V.int i = V.int j)) = true then A else B := by rw [vd_int]; exact if_nd h1 h2
end
def Cal (P : Program) (w : World) (K : PySem.W.Frag) (mg : Str → Option Value) (base : Heap) (CX : CXT) (k : Nat) (x : Str) (ps : List Str) (dvs : List V) (sp : Sp) : Prop :=
  ∃ (f : Addr) (fd : FuncData) (ds : List Value), FnOk P w K mg base CX k f fd ps sp ∧ mg x = some (.ref f) ∧ PySem.W.keepIn K (.ref f) = true ∧ Binds K fd ps ds ∧ Vals dvs ds
section
variable {X : Cx} {CX : CXT} {k : Nat} {x : Str} {ps : List Str} {dvs : List V} {sp : Sp} {E : XK} {e : Expr} {es : List Expr} {t : TA} {p pos : Pos}
theorem pe_cal (h : Cal X.prog X.w X.K X.mg X.base CX k x ps dvs sp) (hr : Room k X.A) (hx : Passes CX X E) (ha : PA X (e :: es) t) (hg : Gl X x := by rfl) (hdb : (x == ("__debug__" : Str)) = false := by decide)
    (he : starEach (e :: es) X.env = (false, eval e X.env) :: starEach es X.env := by rfl) (hpl : (backTo pos (starEach es X.env)).any (·.1) = false := by rfl) : PE X (.Call (.Name x p) (e :: es) [] pos) (tCall sp dvs E t) := by
  obtain ⟨f, fd, ds, F, hm, hk, hb, hd⟩ := h
  exact pe_call F hr hg hm hk hb hd hx ha hdb he hpl
theorem pe_cal0 (h : Cal X.prog X.w X.K X.mg X.base CX k x ps dvs sp) (hr : Room k X.A) (hx : Passes CX X E) (hg : Gl X x := by rfl) (hdb : (x == ("__debug__" : Str)) = false := by decide) :
    PE X (.Call (.Name x p) [] [] pos) (tCall sp dvs E tNil) := by
  obtain ⟨f, fd, ds, F, hm, hk, hb, hd⟩ := h
  exact pe_call0 F hr hg hm hk hb hd hx hdb
end
theorem pe_ty {X : Cx} {x : Str} {pos : Pos} (n : String) (hg : Gl X x) (hm : X.mg x = none) (hv : bootBuiltins x = some (.type n)) (hn : x ≠ "__name__" := by decide) (hd : (x == ("__debug__" : Str)) = false := by decide) : PE X (.Name x pos) (tC (.ty n)) := pe_bltn hg hm hv rfl hn hd
/-- all but p stays -/
def Kp (p : Addr) (H H' : Hp) : Prop := ∀ b o, b ≠ p → H b = some o → H' b = some o
theorem Kp.refl (p : Addr) (H : Hp) : Kp p H H := fun _ _ _ h => h
theorem Kp.trans {p : Addr} {H H1 H2 : Hp} (a : Kp p H H1) (b : Kp p H1 H2) : Kp p H H2 := fun c o n h => b c o n (a c o n h)
theorem Same.kp {p : Addr} {H H1 : Hp} (a : Same H H1) : Kp p H H1 := fun c o _ h => a c o h
theorem Same.upd {H : Hp} {p : Addr} {o : HO} (n : H p = none) : Same H (upd H p o) := fun b u e => by
  rw [upd_ne (ne_of_none e n)]; exact e
def HandAt (H : Hp) (p l : Addr) : Prop := ∃ (ns : List Int) (i rest st : Int), H p = some (.lst [.ref l, .int i, .int rest, .int st]) ∧ l ≠ p ∧ H l = some (.lst (ns.map V.int)) ∧ 0 ≤ i ∧ 0 ≤ rest ∧ (∀ n ∈ ns, 0 ≤ n) ∧ ns.length ≤ 63
theorem line63 {n : Nat} (h : n ≤ 1000) : n ≤ sizeLine := by rw [sizeLine_eq]; omega
theorem HandAt.same {H H' : Hp} {p l : Addr} (h : HandAt H p l) (s : Same H H') : HandAt H' p l := by
  obtain ⟨ns, i, rest, st, a, b, c, d⟩ := h
  exact ⟨ns, i, rest, st, s _ _ a, b, s _ _ c, d⟩
/-- a write elsewhere -/
theorem HandAt.write {H : Hp} {p l L : Addr} {o : HO} (h : HandAt H p l) (n1 : L ≠ p) (n2 : L ≠ l) : HandAt (upd H L o) p l := by
  obtain ⟨ns, i, rest, st, a, b, c, d⟩ := h
  exact ⟨ns, i, rest, st, (upd_ne (Ne.symm n1)).trans a, b, (upd_ne (Ne.symm n2)).trans c, d⟩
theorem HandAt.ne1 {H : Hp} {p l q : Addr} (h : HandAt H p l) (n : H q = none) : q ≠ p ∧ q ≠ l := by
  obtain ⟨ns, i, rest, st, a, b, c, d⟩ := h
  exact ⟨Ne.symm (ne_of_none a n), Ne.symm (ne_of_none c n)⟩
theorem HandAt.lst {H : Hp} {p l : Addr} (h : HandAt H p l) : ∃ xs, H p = some (.lst xs) := by
  obtain ⟨ns, i, rest, st, a, b, c, d⟩ := h
  exact ⟨_, a⟩
theorem seqT_kp {K : PySem.W.Frag} {H H' : Hp} {p l a : Addr} {xs : List V} (h : HandAt H p l) (k : Kp p H H') (s : SqT K H a xs) : SqT K H' a xs := by
  obtain ⟨ys, e⟩ := h.lst
  rcases s with (s | ⟨o, s⟩) | s
  · exact .inl (.inl (k _ _ (ne_of s e (fun z => by cases z)) s))
  · exact .inl (.inr ⟨o, k _ _ (ne_of s e (fun z => by cases z)) s⟩)
  · exact .inr s
theorem seqT_write {K : PySem.W.Frag} {H : Hp} {L a : Addr} {xs ys zs : List V} (h : H L = some (.lst ys)) (s : SqT K H a xs) : SqT K (upd H L (.lst zs)) a xs := by
  rcases s with (s | ⟨o, s⟩) | s
  · exact .inl (.inl ((upd_ne (ne_of s h (fun z => by cases z))).trans s))
  · exact .inl (.inr ⟨o, (upd_ne (ne_of s h (fun z => by cases z))).trans s⟩)
  · exact .inr s
theorem HandAt.upd {H : Hp} {p l : Addr} {ns : List Int} {i rest st : Int} (hl : H l = some (.lst (ns.map V.int))) (ne : l ≠ p) (h0 : 0 ≤ i) (h1 : 0 ≤ rest) (h2 : ∀ n ∈ ns, 0 ≤ n) (h3 : ns.length ≤ 63) :
    HandAt (L2.upd H p (.lst [.ref l, .int i, .int rest, .int st])) p l := ⟨ns, i, rest, st, upd_same, ne, (upd_ne ne).trans hl, h0, h1, h2, h3⟩
theorem Kp.upd {H : Hp} {p : Addr} {o : HO} : Kp p H (L2.upd H p o) := fun b u n e => by rw [upd_ne n]; exact e
theorem Kp.upd' {H H1 : Hp} {p : Addr} {o : HO} (k : Kp p H H1) : Kp p H (L2.upd H1 p o) := k.trans Kp.upd
theorem ints_at {ns : List Int} {i : Int} (h0 : 0 ≤ i) (h : i < (ns.map V.int).length) : ∃ c, c ∈ ns ∧ atI (ns.map V.int) i = some (.int c) := by
  rw [List.length_map] at h
  have e : i = ((i.toNat : Nat) : Int) := by omega
  have hl : i.toNat < ns.length := by omega
  refine ⟨ns[i.toNat], List.getElem_mem hl, at_of e ?_⟩
  rw [List.getElem?_map, List.getElem?_eq_getElem hl]
  rfl
def spStir : Sp := fun vs H Q _ => ∃ n t : Int, vs = [.int n, .int t] ∧ ∀ r : Int, Q (.int r) H
def spHand (K : PySem.W.Frag) : Sp := fun vs H Q _ => ∃ (a : Addr) (ns : List Int), vs = [.ref a] ∧ SqL K H a (ns.map V.int) ∧ ns.length ≤ 63 ∧ ∀ (p l : Addr) (H' : Hp), HandAt H' p l → Same H H' → Q (.ref p) H'
def spDraw : Sp := fun vs H Q _ => ∃ (p l : Addr) (m : Int), vs = [.ref p, .int m] ∧ HandAt H p l ∧ 0 < m ∧ m < 1073741824 ∧ ∀ (d : Int) (H' : Hp), 0 ≤ d → d < m → HandAt H' p l → Kp p H H' → Q (.int d) H'
end MB
set_option maxHeartbeats 2000000
namespace MB
open PySem PySem.Spec PyProof.Rows L2
def oexB (K : PySem.W.Frag) (C : Addr) : Bool := (match K.lookup C with
  | some ⟨.type "type", _, .cls cd, sl⟩ => (match cd.mro, sl.toList with
    | .ref C' :: bm, [_, _, _, _, some (.builtin n), _] => C' == C && (n == "ValueError.__new__" && (!cd.hasDel && (cd.hasDict && PySem.HandSPX.refsVE bm)))
    | _, _ => false)
  | _ => false) && (decide (PySem.W.findIn K (.ref C) "__setattr__" = some (some (.builtin "object.__setattr__"))) && (decide (PySem.W.subIn K (.ref C) (.type "BaseException") = some true) && (decide (PySem.W.typeIn K (.ref C) = some (.type "type")) && PySem.W.keepIn K (.ref C))))
theorem ba {a b : Bool} (h : (a && b) = true) : a = true ∧ b = true := Bool.and_eq_true_iff.mp h
theorem oexB_ok {K : PySem.W.Frag} {C : Addr} (h : oexB K C = true) : OexC K C := by
  obtain ⟨q, h⟩ := ba h
  obtain ⟨h1, h⟩ := ba h
  obtain ⟨h2, h⟩ := ba h
  obtain ⟨h3, h4⟩ := ba h
  refine ⟨?_, of_decide_eq_true h1, of_decide_eq_true h2, of_decide_eq_true h3, h4⟩
  split at q
  · rename_i dd cd sl ho
    split at q
    · rename_i C' bm k0 k1 k2 k3 n k5 hm hs
      obtain ⟨a1, q⟩ := ba q
      obtain ⟨a2, q⟩ := ba q
      obtain ⟨a3, q⟩ := ba q
      obtain ⟨a4, a5⟩ := ba q
      have e1 := eq_of_beq a1
      have e2 := eq_of_beq a2
      subst e1 e2
      obtain ⟨nm, bs, mro, ns, qn, hd, sn, sub, ab, col, del⟩ := cd
      dsimp only at hm a3 a4
      have e3 : del = false := by
        cases del with
        | false => rfl
        | true => cases a3
      subst hm a4 e3
      have hsl : sl = #[k0, k1, k2, k3, some (.builtin "ValueError.__new__"), k5] := by
        obtain ⟨l⟩ := sl
        simp only at hs
        rw [hs]
      subst hsl
      exact ⟨nm, qn, ns, bs, bm, sn, sub, ab, col, dd, k0, k1, k2, k3, k5, ho, a5⟩
    · cases q
  · cases q
def excCB (K : PySem.W.Frag) (D : Addr) : Bool := decide (PySem.W.findIn K (.ref D) "__getattribute__" = some (some (.builtin "BaseException.__getattribute__"))) && (decide (PySem.W.findIn K (.ref D) "__getattr__" = some none) && (decide (PySem.W.subIn K (.ref D) (.type "BaseException") = some true) && (PySem.W.hasDictIn K D &&
  (decide (PySem.W.findIn K (.ref D) "__class__" = some (some (.builtin "object.__class__"))) && (decide (PySem.W.specialIn K (.builtin "object.__class__") "__get__" = some (some (.builtin "getset_descriptor.__get__"))) && (decide (PySem.W.takesIn K (.builtin "object.__class__") = some true) && decide (PySem.W.mroIn K D (.type "object") = some true)))))))
theorem excCB_ok {K : PySem.W.Frag} {D : Addr} (h : excCB K D = true) : ExcC K D := by
  obtain ⟨h1, h⟩ := ba h
  obtain ⟨h2, h⟩ := ba h
  obtain ⟨h3, h⟩ := ba h
  obtain ⟨h4, h⟩ := ba h
  obtain ⟨h5, h⟩ := ba h
  obtain ⟨h6, h⟩ := ba h
  obtain ⟨h7, h8⟩ := ba h
  exact ⟨of_decide_eq_true h1, of_decide_eq_true h2, of_decide_eq_true h3, h4, of_decide_eq_true h5, of_decide_eq_true h6, of_decide_eq_true h7, of_decide_eq_true h8⟩
section
variable {X : Cx} {C : Addr} {bmB : List Value} {B newId initId : String}
/-- X() -/
theorem pmk_own0 {x : Str} {p pos : Pos} (F : ExcBaseFacts B newId initId bmB) (q : PySem.W.excIn X.K C bmB newId = true) (gC : X.mg x = some (.ref C)) (kC : PySem.W.keepIn X.K (.ref C) = true) (r : Raises X (.ref C)) (hg : Gl X x)
    (hdb : (x == ("__debug__" : Str)) = false := by decide) : PMk X (.Call (.Name x p) [] [] pos) (fun _ H Q => Q (.ref C) none H) := by
  intro pins s σ H Q I h
  refine wpAny_Call_Name_kw (ld_glob I hg gC ?_ hdb)
  refine PySem.W.callWith_K0 I.kIn kC ?_
  obtain ⟨bm, N, nm, qn, bs, hdct, sn, sub, ab, col, dd, k0, k1, k2, k3, k5, mN, hC, hN, hni, T⟩ := exc_obj I.kIn q
  refine wpAny_call_exc_subT F T hC hN hni (fun h' e hm => ?_) (Nat.zero_le _)
  exact mk_of I hm r h (I.hok.gone hm.new)
end
/-- isinstance(e, c) in a suite, whatever it caught: it caught a D without fields -/
def rIsX (K : PySem.W.Frag) (D a : Addr) (cls : Value) (d : Option Addr) : List V → Hp → VK → Prop := fun xs H Q => cls = .ref D ∧ d = none ∧ rIsE K D a xs H Q
theorem call_isX {X : Cx} {a D : Addr} {cls : Value} {d : Option Addr} {oe : Obj} {pn : List (Addr × Obj)} (C : ExcC X.K D) (hz : Zc cls d oe) (hf : ∃ vs, oe.data = .fields vs) : CallR (X.suite a ((a, oe) :: pn)) (.builtin "isinstance") (rIsX X.K D a cls d) := by
  intro pins s σ H xs us Q I r h
  obtain ⟨rfl, rfl, h⟩ := h
  exact call_isE C hz hf pins s σ H xs us Q I r h
def spInit1 (C : Addr) (f : Str) : Sp := fun vs H Q _ => ∃ (a : Addr) (v : V), vs = [.ref a, v] ∧ H a = some (exo a C none) ∧ ∀ dx, H dx = none → dx ≠ a → Q .non (upd (upd H dx (exd dx [(f, v)])) a (exo a C (some dx)))
def spInit2 (C : Addr) (f g : Str) : Sp := fun vs H Q _ => ∃ (a : Addr) (v u : V), vs = [.ref a, v, u] ∧ H a = some (exo a C none) ∧ ∀ dx, H dx = none → dx ≠ a → Q .non (upd (upd (upd H dx (exd dx [(f, v)])) a (exo a C (some dx))) dx (exd dx [(g, u), (f, v)]))
/-- what an __init__ that keeps spInit1 leaves of C(e) -/
theorem mk1 {C : Addr} {f : Str} {v : V} {H : Hp} {Q : XK} (q : ∀ d H', L2.Same H H' → H' d = some (.xd [(f, v)]) → Q (.ref C) (some d) H') :
    [v].length ≤ 1000 ∧ ∀ a, H a = none → spInit1 C f (.ref a :: ([v] ++ [])) (upd H a (exo a C none))
      (fun v H2 => v = .non ∧ ∃ (d : Addr) (fs : List (Str × V)), H2 a = some (exo a C (some d)) ∧ H2 d = some (exd d fs) ∧ H d = none ∧ Q (.ref C) (some d) (upd (del H2 a) d (.xd fs))) (fun _ _ _ => False) := by
  refine ⟨by show 1 ≤ 1000; decide, fun a ha => ⟨a, v, rfl, upd_same, fun dx h1 h2 => ⟨rfl, dx, [(f, v)], upd_same, ?_, ?_, ?_⟩⟩⟩
  · rw [upd_ne h2, upd_same]
  · rw [upd_ne h2] at h1
    exact h1
  · rw [upd_ne h2] at h1
    refine q dx _ (fun b o e => ?_) upd_same
    have n1 := ne_of_none e h1
    have n2 := ne_of_none e ha
    rw [upd_ne n1, del_ne n2, upd_ne n2, upd_ne n1, upd_ne n2]
    exact e
theorem mk2 {C : Addr} {f g : Str} {v u : V} {H : Hp} {Q : XK} (q : ∀ d H', L2.Same H H' → H' d = some (.xd [(g, u), (f, v)]) → Q (.ref C) (some d) H') :
    [v, u].length ≤ 1000 ∧ ∀ a, H a = none → spInit2 C f g (.ref a :: ([v, u] ++ [])) (upd H a (exo a C none))
      (fun v H2 => v = .non ∧ ∃ (d : Addr) (fs : List (Str × V)), H2 a = some (exo a C (some d)) ∧ H2 d = some (exd d fs) ∧ H d = none ∧ Q (.ref C) (some d) (upd (del H2 a) d (.xd fs))) (fun _ _ _ => False) := by
  refine ⟨by show 2 ≤ 1000; decide, fun a ha => ⟨a, v, u, rfl, upd_same, fun dx h1 h2 => ⟨rfl, dx, [(g, u), (f, v)], ?_, upd_same, ?_, ?_⟩⟩⟩
  · rw [upd_ne (Ne.symm h2), upd_same]
  · rw [upd_ne h2] at h1
    exact h1
  · rw [upd_ne h2] at h1
    refine q dx _ (fun b o e => ?_) upd_same
    have n1 := ne_of_none e h1
    have n2 := ne_of_none e ha
    rw [upd_ne n1, del_ne n2, upd_ne n1, upd_ne n2, upd_ne n1, upd_ne n2]
    exact e
section
variable {X : Cx} {CX : CXT} {k : Nat} {x : Str} {ps : List Str} {sp : Sp} {E : L2.St → XK} {e : Expr} {es : List Expr} {t : TA} {p pos : Pos}
/-- in a try: f(e, ..), f may raise -/
theorem pe_calS (h : Cal X.prog X.w X.K X.mg X.base (L2.CX X.prog X.w) k x ps [] sp) (hr : Room k X.A) (hx : ∀ σ, PassesAt (L2.CX X.prog X.w) X σ (E σ)) (ha : PA X (e :: es) t) (hg : Gl X x := by rfl) (hdb : (x == ("__debug__" : Str)) = false := by decide)
    (he : starEach (e :: es) X.env = (false, eval e X.env) :: starEach es X.env := by rfl) (hpl : (backTo pos (starEach es X.env)).any (·.1) = false := by rfl) : PE X (.Call (.Name x p) (e :: es) [] pos) (tCallS sp E t) := by
  obtain ⟨f, fd, ds, F, hm, hk, hb, hd⟩ := h
  cases hd
  exact pe_callS F hr hg hm hk hb hx ha hdb he hpl
end
theorem r_callS {σ : L2.St} {H : Hp} {Q : VK} {sp : Sp} {E : L2.St → XK} {t : TA} (q : t σ H fun vs H1 => sp vs H1 Q (E σ)) : tCallS sp E t σ H Q := q
end MB
set_option maxHeartbeats 4000000
namespace MB
open PySem PySem.Spec PyProof.Rows L2
/-- the reading of C(e, ..) -/
def tMkV (C : Addr) (sp : Sp) (ta : TA) : TE := fun σ H Q => ta σ H fun vs H1 => vs.length ≤ 1000 ∧ ∀ a, H1 a = none → sp (.ref a :: (vs ++ [])) (upd H1 a (exo a C none)) (fun v H2 => v = .non ∧ Q (.ref a) H2) (fun _ _ _ => False)
section
variable {X : Cx} {e : Expr} {es : List Expr} {ta : TA} {p pos : Pos} {CX : CXT} {x : Str} {C fI : Addr} {k : Nat} {fd : FuncData} {ps : List Str} {sp : Sp}
theorem pe_mkv (T : OexC X.K C) (iC : PySem.W.findIn X.K (.ref C) "__init__" = some (some (.ref fI))) (tI : PySem.W.typeIn X.K (.ref fI) = some (.type "function")) (F1 : FnOk X.prog X.w X.K X.mg X.base CX k fI fd ps sp) (hr : Room (k + 1) X.A) (hb : Binds X.K fd ps [])
    (hx : Passes CX X (fun _ _ _ => False)) (hm : X.mg x = some (.ref C)) (ha : PA X (e :: es) ta) (hg : Gl X x := by rfl) (hdb : (x == ("__debug__" : Str)) = false := by decide) (he : starEach (e :: es) X.env = (false, eval e X.env) :: starEach es X.env := by rfl)
    (hpl : (backTo pos (starEach es X.env)).any (·.1) = false := by rfl) : PE X (.Call (.Name x p) (e :: es) [] pos) (tMkV C sp ta) := by
  refine ⟨fun pins s σ H Q I h => ?_⟩
  obtain ⟨nm, q, N, bs, bm, sn, sub, ab, col, dd, k0, k1, k2, k3, k5, hC, hbm⟩ := T.cls
  refine wpAny_Call_Name_kw (ld_glob I hg hm ?_ hdb)
  refine PySem.W.callWith_K (h₀ := X.base) I.ok.mod.kin T.kC (thn (ha.run pos pins s σ H _ I h) fun us s1 ⟨vs, H1, I1, r1, hz, q1⟩ => ⟨I1.kIn, ?_⟩) he hpl
  show wpAny _ _ (call (.ref C) us) _ _ _
  obtain ⟨hp, g, dr, tk, os⟩ := s1
  have hsz : hp.objs.size ≤ hp.objs.size + 1 := Nat.le_succ _
  have hq := q1 _ (I1.hok.fresh hsz)
  have hget : ((hp.push (PySem.W.kdv_tup us)).push (PySem.HandSPX.excO C hp.objs.size)).get? (hp.objs.size + 1) = some (PySem.HandSPX.excO C hp.objs.size) := by heap_get
  have I2 := I1.laid (t' := tk) (a := hp.objs.size + 1) (o := exo (hp.objs.size + 1) C none) (h' := (hp.push (PySem.W.kdv_tup us)).push (PySem.HandSPX.excO C hp.objs.size)) (fun b o e => Heap.get?_push_of_some _ (Heap.get?_push_of_some _ e)) hsz (exo_ok hget)
  have r2 : Vals (V.ref (hp.objs.size + 1) :: (vs ++ [])) (Value.ref (hp.objs.size + 1) :: (us ++ [])) := .cons rfl (r1.append .nil)
  have hl : (Value.ref (hp.objs.size + 1) :: us ++ []).length = ps.length := (F1.len _ _ _ _ hq ▸ r2.length).symm
  have hB : BindsTo ⟨(hp.push (PySem.W.kdv_tup us)).push (PySem.HandSPX.excO C hp.objs.size), g, dr, tk, os⟩ fd ⟨Value.ref (hp.objs.size + 1) :: us, []⟩ (ps.zip (Value.ref (hp.objs.size + 1) :: (us ++ []))) := hb _ (Value.ref (hp.objs.size + 1) :: us) I2.kIn hl
  have hus : us.length ≤ sizeLine := by rw [← Paired.length r1]; exact line63 hz
  refine wpAny_call (PySem.HandSPX.call_own F.excBase_ValueError (fun Y => PySem.HandSPX.refsVE_contains Y bm hbm) (I1.kIn _ _ hC) (PySem.W.looks_findIn I1.kIn iC) (fun self => PySem.W.bind_fn I1.kIn self tI) hus
    (codeAny_mono (F1.run _ X.stack _ _ ⟨Value.ref (hp.objs.size + 1) :: us, []⟩ (Value.ref (hp.objs.size + 1) :: (us ++ [])) _ _ (fun _ _ _ => False) (hr.make C us []) (I2.env0.make C us []) hB r2 hq) fun r s' hq' => ?_))
  match r, hq' with
  | .error er, hq' => exact hx pins σ _ _ er s' I2 hq'
  | .ok (.ret u), hq' =>
    obtain ⟨v, H2, J, rv, ev, q2⟩ := I2.after hq'
    subst ev
    exact ⟨rv, V.ref (hp.objs.size + 1), H2, J, rfl, q2⟩
  | .ok .next, hq' => exact hq'.elim
  | .ok .brk, hq' => exact hq'.elim
  | .ok .cont, hq' => exact hq'.elim
/-- X(), an own class without fields -/
def Mk0Q (C : Addr) (H : Hp) (Q : VK) : Prop := ∀ a, H a = none → Q (.ref a) (upd H a (ExO (.ref C) a))
def tMk0 (C : Addr) : TE := fun _ H Q => Mk0Q C H Q
theorem pe_mk0 {bmB : List Value} {B newId initId : String} (F : ExcBaseFacts B newId initId bmB) (q : PySem.W.excIn X.K C bmB newId = true) (gC : X.mg x = some (.ref C)) (kC : PySem.W.keepIn X.K (.ref C) = true) (hg : Gl X x := by rfl)
    (hdb : (x == ("__debug__" : Str)) = false := by decide) : PE X (.Call (.Name x p) [] [] pos) (tMk0 C) := by
  refine ⟨fun pins s σ H Q I h => ?_⟩
  refine wpAny_Call_Name_kw (ld_glob I hg gC ?_ hdb)
  refine PySem.W.callWith_K0 I.kIn kC ?_
  obtain ⟨bm, N, nm, qn, bs, hdct, sn, sub, ab, col, dd, k0, k1, k2, k3, k5, mN, hC, hN, hni, T⟩ := exc_obj I.kIn q
  refine wpAny_call_exc_subT F T hC hN hni (fun h' a hm => ?_) (Nat.zero_le _)
  have hn : H a = none := I.hok.gone hm.new
  obtain ⟨t, ht, _, _⟩ := hm.there
  exact ⟨.ref a, _, I.laidN hm.keeps hm.new hn (exO_ok ht ⟨rfl, rfl⟩ rfl rfl rfl (show 4 < 6 by decide)), rfl, h a hn⟩
/-- e.f of such -/
def tXat (K : PySem.W.Frag) (n : Str) (te : TE) : TE := fun σ H Q => te σ H fun x H1 => ∃ (a C dx : Addr) (fs : List (Str × V)) (v : V), x = .ref a ∧ XfC K C ∧ PySem.W.findIn K (.ref C) n = some none ∧ H1 a = some (exo a C (some dx)) ∧ H1 dx = some (exd dx fs) ∧ fs.lookup n = some v ∧ Q v H1
theorem pe_xat {te : TE} {n : Str} (he : PE X e te) (hb : attributeBase e n X.env (eval e X.env) = eval e X.env := by rfl) : PE X (.Attribute e n pos) (tXat X.K n te) := by
  refine ⟨fun pins s σ H Q I h => ?_⟩
  refine attr_of hb (thn (he.run pins s σ H _ I h) fun u s1 ⟨x, H1, I1, rx, a, C, dx, fs, v, ex, T, hno, ea, ed, l, q⟩ => ?_)
  subst ex
  obtain rfl : u = Value.ref a := rx
  obtain ⟨t1, ha⟩ := exo_at I1.hok ea
  obtain ⟨mA, hns, rel⟩ := exd_at I1.hok ed
  obtain ⟨od, ho, hl⟩ := lookIn_ns hns
  obtain ⟨u, hu, ru⟩ := RelO.some_of (v := v) (o := mA n) (l ▸ rel n)
  exact HandSPX.exc_get I1.kIn (⟨ha, rfl, rfl, ho⟩ : PySem.W.InstAt s1.heap a _ C (some od)) T.ga T.gg T.exC (PySem.W.findObj_own T.hdC hno rfl (by rw [hl, hu])) (handed_of ru) ⟨v, H1, I1.tok _, ru, q⟩
end
/-- an exception of the class at C, with fields or without -/
def ExAt (H : Hp) (a C : Addr) : Prop := H a = some (ExO (.ref C) a) ∨ ∃ dx fs, H a = some (exo a C (some dx)) ∧ H dx = some (exd dx fs)
def rIsV (K : PySem.W.Frag) : RC := fun xs H Q => ∃ (a C : Addr) (c : V) (cv : Value) (b : Bool), xs = [.ref a, c] ∧ ExAt H a C ∧ ExcC K C ∧ (∀ u, RelV c u → u = cv) ∧ PySem.W.kitOne K (.ref C) cv = some b ∧ Q (.bl b) H
open PySem.W in
theorem kit_exv {K : Frag} {x D : Addr} {ox : Obj} {od : Option Obj} (c : ExcC K D) : KitX K (.ref x) (.ref D) (fun h => InstAt h x ox D od) := by
  obtain ⟨cd, hcd, _⟩ := any_some c.hd
  have hsome : (clsIn K D).isSome = true := by rw [hcd]; rfl
  refine ⟨fun _ _ _ I => I.type, fun _ _ X _ => ?_, fun h tp dd its n sl X htp => ?_, fun X I k => ?_⟩
  · unfold clsIn at hcd
    split at hcd
    · rename_i ho
      exact fun A' Q' E' s' k q => wpAny_bind (wpAny_loadPart (k _ _ (X _ _ ho)) (wpAny_pure q))
    · cases hcd
  · refine Bool.eq_false_iff.mpr fun q => ?_
    cases Value.ref.inj (beq_iff_eq.mp q)
    unfold clsIn at hcd
    split at hcd
    · rename_i ho
      exact nomatch (X _ _ ho).symm.trans htp
    · cases hcd
  · exact kx_classE X I c.hg c.hk c.hs (findObj_dataE hsome c.ha c.hn c.ht) c.hm k
theorem call_isV {X : Cx} : CallR X (.builtin "isinstance") (rIsV X.K) := by
  intro pins s σ H xs us Q I r h
  obtain ⟨a, C, c, cv, b, rfl, hx, hC, hcv, e, q⟩ := h
  have fin : ∀ {ox : Obj} {od : Option Obj}, PySem.W.InstAt s.heap a ox C od → wpAny (model X.prog X.w) X.A (call (.builtin "isinstance") [.ref a, cv]) (EP X pins σ Q) X.xe s := fun J =>
    PySem.W.kia_one (kit_exv hC) I.kIn J e (fun z => nomatch z) fun tk => ⟨.bl b, H, I.kept (t' := tk) fun _ _ z => z, rfl, q⟩
  cases r with
  | cons rx rr =>
    cases rr with
    | cons rt rr =>
      cases rr
      cases rx
      have ec := hcv _ rt
      subst ec
      rcases hx with hx | ⟨dx, fs, ha, hd⟩
      · obtain ⟨⟨⟨oc, od, oda, osl⟩, vs, ho, hz, hv, _⟩, _, _⟩ := I.hok a _ hx
        obtain ⟨h1, h2⟩ := hz
        dsimp only at h1 h2 hv
        subst h1 h2 hv
        exact fin (od := none) ⟨ho, rfl, rfl, trivial⟩
      · obtain ⟨t1, ho⟩ := exo_at I.hok ha
        obtain ⟨mA, hns, _⟩ := exd_at I.hok hd
        obtain ⟨od, hod, _⟩ := lookIn_ns hns
        exact fin (od := some od) ⟨ho, rfl, rfl, hod⟩
def rRepr (K : PySem.W.Frag) : RC := fun xs H Q => ∃ (a : Addr) (d : PyData), xs = [.ref a] ∧ Dp K H (.ref a) d ∧ d.showable = true ∧ d.hasDict = false ∧ d.depth ≤ 60 ∧ d.shown.length ≤ sizeLine ∧ Q (.str d.shown) H
theorem call_repr {X : Cx} (hg : X.A.guards = some []) (hu : X.A.units + 64 < cLine) : CallR X (.builtin "repr") (rRepr X.K) := by
  intro pins s σ H xs us Q I r h
  obtain ⟨a, d, rfl, hd, hs, hn, hp, hz, q⟩ := h
  obtain ⟨u, rfl, r1⟩ := vals1 r
  cases r1
  obtain ⟨as, rd⟩ := Dp.reads I d _ _ hd rfl
  exact repr_of_reads' rd hs (fun z => absurd (hn.symm.trans z) Bool.false_ne_true) hg (by omega) (fun _ _ e => e) (fun h' u tk k => ⟨.str _, H, I.kept (t' := tk) k, ⟨_, rfl⟩, q⟩) hz
end MB
set_option maxHeartbeats 4000000
namespace MB
open PySem PySem.Spec PyProof.Rows L2
structure FnG (P : Program) (w : World) (K : PySem.W.Frag) (mg : Str → Option Value) (base : Heap) (CX : CXT) (k : Nat) (f : Addr) (fd : FuncData) (ps : List Str) (sp : Sp) : Prop where
  len : ∀ vs H Q E, sp vs H Q E → vs.length = ps.length
  go : ∀ (A : Around) (outer : List Env) (s : Shared) (H : Hp) (args : Args) (us : List Value) (vs : List V) (Q : VK) (E : XK), A.guards = some [] → Room k A → Env0 P w K mg base A outer s H → BindsTo s fd args (ps.zip us) → Vals vs us → sp vs H Q E → codeAny (model P w) A (.call (.ref f) args) (CR CX outer P w H s Q E) s
section
variable {P : Program} {w : World} {K : PySem.W.Frag} {mg : Str → Option Value} {base : Heap} {CX : CXT} {k : Nat} {f : Addr} {x qual : Str} {params : Arguments} {body : List Stmt} {scope : Scope} {dvs : List V} {kws : List (Str × V)} {fd : FuncData} {N ps : List Str} {sp : Sp}
theorem okG (F : FunD K x qual params body scope dvs kws f fd) (S : FnScope N ps scope) (ln : ∀ vs H Q E, sp vs H Q E → vs.length = ps.length)
    (bd : ∀ (cdv : Value) (A : Around) (outer : List Env) (s : Shared) (H : Hp) (vs : List V) (Q : VK) (E : XK), A.guards = some [] → Room k (A.deeper (envOfC qual scope s.heap.objs.size f cdv)) → sp vs H Q E →
      ∃ t, PSs (cxOf CX P w K mg base N qual scope f cdv A outer s H E) body t ∧ t { nx := fun _ H' => Q .non H', rt := Q } (start N vs) H) : FnG P w K mg base CX (k + 1) f fd ps sp := by
  obtain ⟨oc, od, dV, kV, doc, pm, an, cdv, ct, osl, rfl, lk, hcd, _, _⟩ := F.ex
  refine ⟨ln, ?_⟩
  intro A outer s H args us vs Q E hg hr e0 hb r hsp
  have hl := ln _ _ _ _ hsp; have old := fun b o e => (e0.bs b o e).1
  have KX : K.In s.heap := e0.mod.kin.keeps old; have lim : s.heap.NoLimit := e0.mod.nolimit.keeps old
  refine codeAny_call_function hr.depth (KX _ _ lk) rfl S.co S.gen rfl (PySem.W.codeRec_of KX hcd) (hb _ _ _ _ (wpAny_newFunctionEnv_cells S.kind (fun y hy => ?_) fun env he s1 z => ?_))
  · exact (S.par y.1 (List.of_mem_zip hy).1).imp id fun q => ⟨q, PySem.W.cellsFrom_some _ _ _ (.inl q)⟩
  · subst he
    refine ⟨lim.keeps z.toInCall.keep, codeAny_func ?_⟩
    obtain ⟨t, ht, hq⟩ := bd cdv A outer s H vs Q E hg (hr.deeper _) hsp
    have I := inv_start (CX := CX) (E := E) S hr.hd e0 hl r z
    refine wpAny_mono (ht.run [] s1 (start N vs) H _ I hq) (fun fl s' hs => ?_) fun _ _ hs => hs
    match fl, hs with
    | .ret u, hs =>
      obtain ⟨v, _, H', J, rv, q⟩ := hs
      exact ⟨v, H', J.os, J.bare, J.base, J.hok, rv, q⟩
    | .next, hs =>
      obtain ⟨_, H', J, q⟩ := hs
      exact ⟨.non, H', J.os, J.bare, J.base, J.hok, rfl, q⟩
    | .brk, hs => exact hs.choose_spec.choose_spec.2.elim
    | .cont, hs => exact hs.choose_spec.choose_spec.2.elim
end
/-- a def of the text, called by its name, where no guard is up -/
def CalG (P : Program) (w : World) (K : PySem.W.Frag) (mg : Str → Option Value) (base : Heap) (CX : CXT) (k : Nat) (x : Str) (ps : List Str) (sp : Sp) : Prop :=
  ∃ (f : Addr) (fd : FuncData), FnG P w K mg base CX k f fd ps sp ∧ mg x = some (.ref f) ∧ PySem.W.keepIn K (.ref f) = true ∧ Binds K fd ps []
section
variable {X : Cx} {CX : CXT} {k : Nat} {x : Str} {ps : List Str} {sp : Sp} {E : XK} {e : Expr} {es : List Expr} {t : TA} {p pos : Pos}
theorem pe_calG (h : CalG X.prog X.w X.K X.mg X.base CX k x ps sp) (gd : X.A.guards = some []) (hr : Room k X.A) (hx : Passes CX X E) (ha : PA X (e :: es) t) (hg : Gl X x := by rfl) (hdb : (x == ("__debug__" : Str)) = false := by decide)
    (he : starEach (e :: es) X.env = (false, eval e X.env) :: starEach es X.env := by rfl) (hpl : (backTo pos (starEach es X.env)).any (·.1) = false := by rfl) : PE X (.Call (.Name x p) (e :: es) [] pos) (tCall sp [] E t) := by
  obtain ⟨f, fd, F, hm, hk, hb⟩ := h
  refine ⟨fun pins s σ H Q I h => wpAny_Call_Name_kw (ld_glob I hg hm ?_ hdb)⟩
  refine PySem.W.callWith_K (h₀ := X.base) I.ok.mod.kin hk (thn (ha.run pos pins s σ H _ I h) fun us s1 ⟨vs, H1, I1, r, q⟩ => ⟨I1.kIn, ?_⟩) he hpl
  have hl : (us ++ []).length = ps.length := by rw [← (r.append .nil).length]; exact F.len _ _ _ _ q
  refine wpAny_call (codeAny_mono (F.go X.A X.stack s1 H1 ⟨us, []⟩ _ (vs ++ []) Q E gd hr I1.env0 (hb s1 us I1.kIn hl) (r.append .nil) q) fun r s' hq => ?_)
  match r, hq with
  | .error er, hq => exact hx pins σ H1 s1 er s' I1 hq
  | .ok (.ret u), hq => exact I1.after hq
  | .ok .next, hq => exact hq.elim
  | .ok .brk, hq => exact hq.elim
  | .ok .cont, hq => exact hq.elim
end
section
variable {P : Program} {w : World} {K : PySem.W.Frag} {mg mb : Str → Option Value} {CX : CXT} {k : Nat} {fa a : Addr} {fd : FuncData} {x : Str} {sp : Sp} {s₁ : Shared} {vs : List Value} {ns : List Int} {H : Hp}
/-- from an abstract heap that tracks at most the script -/
theorem end_core (KX : K.In s₁.heap) (hns : s₁.heap.Ns mainGlobals mg) (hb : s₁.heap.Ns builtinsNs mb) (hbb : ∀ y : Str, y ≠ "__name__" → mb y = bootBuiltins y) (hlim : s₁.heap.NoLimit) (hg : s₁.gens = #[]) (ha : s₁.heap.get? a = some { cls := .type "list", data := .seq vs.toArray })
    (hr : Room k callerA) (F : ∀ base : Heap, K.In base → base.Ns mainGlobals mg → FnG P w K mg base CX k fa fd [x] sp) (bnd : ∀ (s : Shared) (u : Value), BindsTo s fd ⟨[u], []⟩ [(x, u)]) (hCX : ∀ H e s', CX [] H s₁ (fun _ _ _ => False) e s' → False)
    (hsp : sp [.ref a] H (fun v _ => v = .bl true) fun _ _ _ => False) (hO : Only H) (hok : HOk P w H s₁.heap) (hA : ∀ b, H b ≠ none → b = a) (hK : H a ≠ none → K.lookup a = none) :
    codeAny (model P w) callerA (.call (.ref fa) ⟨[.ref a], []⟩) (fun r s' => r = .ok (.ret (.bool true)) ∧ OldK s₁.heap s'.heap ∧ s'.os = s₁.os ∧ AllBare s'.gens) s₁ := by
  have free : ∀ {b : Addr}, (b = a → False) → H b = none := fun {b} n => Classical.byContradiction fun z => n (hA b z)
  have nsK : ∀ {b : Addr} {m : Str → Option Value}, s₁.heap.Ns b m → (hidT s₁.heap H).Ns b m := fun {b m} ⟨o, es, ep, e, d, r⟩ => ⟨o, es, ep, hidT_get e (free fun z => by subst z; rw [ha] at e; cases e; exact nomatch (show Data.seq vs.toArray _ = Data.dict es ep from d)), d, r⟩
  have hKb : K.In (hidT s₁.heap H) := fun b o e => hidT_get (KX b o e) (Classical.byContradiction fun z => by have y := hA b z; subst y; exact nomatch (hK z).symm.trans e)
  obtain ⟨mc, h1, h2⟩ := hlim
  have e0 : Env0 P w K mg (hidT s₁.heap H) callerA [] s₁ H := ⟨rfl, ⟨hKb, nsK hns, ⟨mb, nsK hb, hbb⟩, mc, nsK h1, h2⟩, fun _ _ e => of_hidT e, Nat.le_of_eq (hidT_size _ _), trivial, (fun _ z => nomatch z), hok, .of_eq hg⟩
  refine codeAny_mono ((F _ hKb (nsK hns)).go callerA [] s₁ H ⟨[.ref a], []⟩ [.ref a] [.ref a] _ _ rfl hr e0 (bnd s₁ (.ref a)) (.cons rfl .nil) hsp) fun r s' h => ?_
  match r, h with
  | .error e, h => exact (hCX H e s' h).elim
  | .ok .next, h => exact h.elim
  | .ok .brk, h => exact h.elim
  | .ok .cont, h => exact h.elim
  | .ok (.ret u), ⟨v, H', os, bare, un, hok', r', q⟩ =>
    obtain rfl : v = V.bl true := q
    obtain rfl : u = Value.bool true := r'
    refine ⟨rfl, OldK.of_keep fun b o e => ?_, os, bare⟩
    rcases hO b with z | ⟨ob, xs, z⟩
    · exact un.keep b o e z (fun y => nomatch y) (fun y => nomatch y)
    · obtain ⟨e1, _⟩ := hok b _ z; obtain ⟨e2, _⟩ := hok' b _ (un.frzs b ob _ z)
      exact (e.symm.trans e1) ▸ e2
theorem end_call (KX : K.In s₁.heap) (hns : s₁.heap.Ns mainGlobals mg) (hb : s₁.heap.Ns builtinsNs mb) (hbb : ∀ y : Str, y ≠ "__name__" → mb y = bootBuiltins y) (hlim : s₁.heap.NoLimit) (hg : s₁.gens = #[]) (ha : s₁.heap.get? a = some { cls := .type "list", data := .seq vs.toArray })
    (hi : IntsAre vs ns) (hl : ns.length ≤ sizeLine) (hr : Room k callerA) (F : ∀ base : Heap, K.In base → base.Ns mainGlobals mg → FnG P w K mg base CX k fa fd [x] sp) (bnd : ∀ (s : Shared) (u : Value), BindsTo s fd ⟨[u], []⟩ [(x, u)])
    (hsp : ∀ H : Hp, Only H → SqL K H a (ns.map V.int) → sp [.ref a] H (fun v _ => v = .bl true) fun _ _ _ => False) (hCX : ∀ H e s', CX [] H s₁ (fun _ _ _ => False) e s' → False) :
    codeAny (model P w) callerA (.call (.ref fa) ⟨[.ref a], []⟩) (fun r s' => r = .ok (.ret (.bool true)) ∧ OldK s₁.heap s'.heap ∧ s'.os = s₁.os ∧ AllBare s'.gens) s₁ := by
  have rv := vals_ints hi; have lenV := hi.length
  cases hk : K.lookup a with
  | some o =>
    cases Option.some.inj (ha.symm.trans (KX a o hk))
    exact end_core KX hns hb hbb hlim hg ha hr F bnd hCX (hsp (fun _ => none) (fun _ => .inl rfl) (.inr ⟨_, vs.toArray, _, hk, rfl, rfl, rfl, by rw [List.size_toArray, lenV]; exact hl, by simpa using rv⟩)) (fun _ => .inl rfl) (fun b u z => nomatch (show (none : Option HO) = some u from z)) (fun _ z => (z rfl).elim) fun z => (z rfl).elim
  | none =>
    have ne : ∀ {b : Addr}, b ≠ a → upd (fun _ => none) a (.frz { cls := .type "list", data := .seq vs.toArray } (.lst (ns.map V.int))) b = none := fun h => upd_ne h
    have hO : Only (upd (fun _ => none) a (.frz { cls := .type "list", data := .seq vs.toArray } (.lst (ns.map V.int)))) := fun b => by
      by_cases h : b = a
      · subst h; exact .inr ⟨_, _, upd_same⟩
      · exact .inl (ne h)
    refine end_core KX hns hb hbb hlim hg ha hr F bnd hCX (hsp _ hO (.inl (.inr ⟨_, upd_same⟩))) hO (fun b u z => ?_) (fun b z => Classical.byContradiction fun h => z (ne h)) fun _ => hk
    by_cases h : b = a
    · subst h; rw [upd_same] at z; cases z
      exact ⟨ha, by rw [List.length_map]; exact hl, vs, _, rv, ha⟩
    · exact nomatch (ne h).symm.trans z
end
theorem walk_ofG {l : PySem.W.OpenLaw} {n k : Nat} {q : Program} {loose : List Str} {XP : (Str → Option Value) → Heap → Prop} {YP : World → Heap → Prop} {d : DefRec} {CX : CXT} {x : Str} (hn : l.most = some n) (hn2 : n ≤ sizeLine) (hdf : d.params.defaults = []) (hr : Room k callerA)
    (F : ∀ (w : World) (mg : Str → Option Value) (fa : Addr) (h : Heap), YP w h → h.Ns mainGlobals mg → mg d.name = some (.ref fa) → ∃ (K : PySem.W.Frag) (fd : FuncData) (sp : Sp), K.In h ∧ (∀ (s : Shared) (u : Value), BindsTo s fd ⟨[u], []⟩ [(x, u)]) ∧
      (∀ (H : Hp) (a : Addr) (ns : List Int), ns.length ≤ n → Only H → SqL K H a (ns.map V.int) → sp [.ref a] H (fun v _ => v = .bl true) fun _ _ _ => False) ∧ ∀ base : Heap, K.In base → base.Ns mainGlobals mg → FnG l.prog w K mg base CX k fa fd [x] sp)
    (hCX : ∀ (H : Hp) (s : Shared) (e : Value) (s' : Shared), CX [] H s (fun _ _ _ => False) e s' → False) : PySem.W.WalkO q loose XP YP l.row.toRowW d [] (fun f vs => PySem.call f vs) := by
  refine Att.attach_call hn hdf ?_
  intro w s₀ s₁ mg mb fa o pm cd doc a vs ns G Y ho hd hcd hmg hobj hints hlen hg
  obtain ⟨K, fd, sp, KX, hb, hsp, hF⟩ := F w mg fa _ Y G.T.g hmg
  exact end_call KX G.T.g G.T.b G.T.builtins G.T.nolimit hg hobj hints (Nat.le_trans hlen hn2) hr hF hb (fun H hO hS => hsp H a ns hlen hO hS) (fun H => hCX H s₁)
end MB
set_option maxHeartbeats 2000000
set_option exponentiation.threshold 2000
namespace K00
open PySem PySem.Spec PyProof.Rows L2 MB
def gd (t b : Int) : Int := ((Nat.gcd t.natAbs b.natAbs : Nat) : Int)
def low (t b : Int) : Int × Int := if b < 0 then ((-t).fdiv (gd t b), (-b).fdiv (gd t b)) else (t.fdiv (gd t b), b.fdiv (gd t b))
def plusR (x y : Int × Int) : Int × Int := low (x.1 * y.2 + y.1 * x.2) (x.2 * y.2)
def lessR (x y : Int × Int) : Int × Int := low (x.1 * y.2 - y.1 * x.2) (x.2 * y.2)
def timesR (x y : Int × Int) : Int × Int := low (x.1 * y.1) (x.2 * y.2)
def overR (x y : Int × Int) : Int × Int := low (x.1 * y.2) (x.2 * y.1)
theorem gd_pos {t b : Int} (h : b ≠ 0) : 0 < gd t b := by
  unfold gd
  have : 0 < Nat.gcd t.natAbs b.natAbs := Nat.gcd_pos_of_pos_right _ (by omega)
  omega
theorem gd_nn (t b : Int) : 0 ≤ gd t b := by unfold gd; omega
theorem gd_neg_l (t b : Int) : gd (-t) b = gd t b := by unfold gd; rw [Int.natAbs_neg]
theorem gd_neg_r (t b : Int) : gd t (-b) = gd t b := by unfold gd; rw [Int.natAbs_neg]
theorem low_neg {t b : Int} (h : b < 0) : (t.fdiv (-gd t b), b.fdiv (-gd t b)) = low t b := by
  unfold low
  rw [if_pos h]
  have e1 := Int.neg_fdiv_neg (-t) (gd t b)
  have e2 := Int.neg_fdiv_neg (-b) (gd t b)
  rw [Int.neg_neg] at e1 e2
  rw [e1, e2]
theorem low_pos {t b : Int} (h : ¬ b < 0) : (t.fdiv (gd t b), b.fdiv (gd t b)) = low t b := by
  unfold low
  rw [if_neg h]
/-- in lowest terms, the bottom 1 or more -/
def IsR (x : Int × Int) : Prop := 0 < x.2 ∧ Nat.gcd x.1.natAbs x.2.natAbs = 1
theorem nat_fdiv (a g : Nat) : (a : Int).fdiv (g : Int) = ((a / g : Nat) : Int) := (Int.ofNat_fdiv a g).symm
theorem nn_fdiv {b : Int} (h : 0 ≤ b) (g : Nat) : b.fdiv (g : Int) = ((b.natAbs / g : Nat) : Int) := by
  obtain ⟨n, rfl⟩ := Int.eq_ofNat_of_zero_le h
  exact nat_fdiv n g
theorem abs_fdiv {t : Int} {g : Nat} (hg : 0 < g) (hd : g ∣ t.natAbs) : (t.fdiv (g : Int)).natAbs = t.natAbs / g := by
  by_cases h : 0 ≤ t
  · rw [nn_fdiv h]
    exact Int.natAbs_natCast _
  · have hdv : (g : Int) ∣ t := Int.ofNat_dvd_left.mpr hd
    rw [Int.fdiv_eq_ediv_of_dvd hdv, Int.natAbs_ediv_of_dvd hdv]
    simp
theorem low_isR {t b : Int} (h : b ≠ 0) : IsR (low t b) := by
  have hg : 0 < Nat.gcd t.natAbs b.natAbs := Nat.gcd_pos_of_pos_right _ (by omega)
  have h1 : Nat.gcd t.natAbs b.natAbs ∣ t.natAbs := Nat.gcd_dvd_left _ _
  have h2 : Nat.gcd t.natAbs b.natAbs ∣ b.natAbs := Nat.gcd_dvd_right _ _
  have co : Nat.gcd (t.natAbs / Nat.gcd t.natAbs b.natAbs) (b.natAbs / Nat.gcd t.natAbs b.natAbs) = 1 := Nat.gcd_div_gcd_div_gcd_of_pos_right (by omega)
  have pos : 0 < b.natAbs / Nat.gcd t.natAbs b.natAbs := Nat.div_pos (Nat.le_of_dvd (by omega) h2) hg
  unfold low
  by_cases hb : b < 0
  · rw [if_pos hb]
    refine ⟨?_, ?_⟩
    · show 0 < (-b).fdiv (gd t b)
      unfold gd
      rw [nn_fdiv (by omega), Int.natAbs_neg]
      omega
    · show Nat.gcd ((-t).fdiv (gd t b)).natAbs ((-b).fdiv (gd t b)).natAbs = 1
      unfold gd
      rw [abs_fdiv hg (by rw [Int.natAbs_neg]; exact h1), abs_fdiv hg (by rw [Int.natAbs_neg]; exact h2), Int.natAbs_neg, Int.natAbs_neg]
      exact co
  · rw [if_neg hb]
    refine ⟨?_, ?_⟩
    · show 0 < b.fdiv (gd t b)
      unfold gd
      rw [nn_fdiv (by omega)]
      omega
    · show Nat.gcd (t.fdiv (gd t b)).natAbs (b.fdiv (gd t b)).natAbs = 1
      unfold gd
      rw [abs_fdiv hg h1, abs_fdiv hg h2]
      exact co
theorem low_le {t b : Int} (h : b ≠ 0) : (low t b).1.natAbs ≤ t.natAbs ∧ (low t b).2.natAbs ≤ b.natAbs := by
  have hg : 0 < Nat.gcd t.natAbs b.natAbs := Nat.gcd_pos_of_pos_right _ (by omega)
  have h1 : Nat.gcd t.natAbs b.natAbs ∣ t.natAbs := Nat.gcd_dvd_left _ _
  have h2 : Nat.gcd t.natAbs b.natAbs ∣ b.natAbs := Nat.gcd_dvd_right _ _
  unfold low
  by_cases hb : b < 0
  · rw [if_pos hb]
    unfold gd
    show ((-t).fdiv _).natAbs ≤ _ ∧ ((-b).fdiv _).natAbs ≤ _
    rw [abs_fdiv hg (by rw [Int.natAbs_neg]; exact h1), abs_fdiv hg (by rw [Int.natAbs_neg]; exact h2), Int.natAbs_neg, Int.natAbs_neg]
    exact ⟨Nat.div_le_self _ _, Nat.div_le_self _ _⟩
  · rw [if_neg hb]
    unfold gd
    show (t.fdiv _).natAbs ≤ _ ∧ (b.fdiv _).natAbs ≤ _
    rw [abs_fdiv hg h1, abs_fdiv hg h2]
    exact ⟨Nat.div_le_self _ _, Nat.div_le_self _ _⟩
theorem low_one (a : Int) : low a 1 = (a, 1) := by
  unfold low
  rw [if_neg (by decide)]
  have e : gd a 1 = 1 := by unfold gd; simp
  rw [e, Int.fdiv_one]
  rfl
def Euc (g : Nat) (i a b : Nat) : Prop := Nat.gcd a b = g ∧ ((i = 0 ∧ a < 2 ^ 400 ∧ b < 2 ^ 400) ∨ (0 < i ∧ b < a ∧ a * b * 2 ^ (i - 1) < 2 ^ 800))
theorem euc_step {g i a b : Nat} (hb : b ≠ 0) (h : Euc g i a b) : Euc g (i + 1) b (a % b) := by
  obtain ⟨hg, h⟩ := h
  have hr : a % b < b := Nat.mod_lt _ (by omega)
  refine ⟨?_, .inr ⟨by omega, hr, ?_⟩⟩
  · rw [Nat.gcd_comm b, ← Nat.gcd_rec b a, Nat.gcd_comm]
    exact hg
  · show b * (a % b) * 2 ^ i < 2 ^ 800
    rcases h with ⟨rfl, _, h2⟩ | ⟨hi, hlt, hp⟩
    · rw [Nat.pow_zero, Nat.mul_one]
      have : b * (a % b) < 2 ^ 400 * 2 ^ 400 := Nat.mul_lt_mul'' h2 (by omega)
      rw [← Nat.pow_add] at this
      exact this
    · obtain ⟨j, rfl⟩ : ∃ j, i = j + 1 := ⟨i - 1, by omega⟩
      have h2 : 2 * (a % b) ≤ a := by
        have e := Nat.div_add_mod a b
        have q : 1 ≤ a / b := Nat.div_pos (by omega) (by omega)
        have : b * 1 ≤ b * (a / b) := Nat.mul_le_mul_left _ q
        omega
      have e1 : b * (a % b) * 2 ^ (j + 1) = b * (2 * (a % b)) * 2 ^ j := by
        rw [Nat.pow_succ, Nat.mul_comm (2 ^ j) 2, ← Nat.mul_assoc, Nat.mul_assoc b, Nat.mul_comm (a % b) 2]
      rw [e1]
      have e2 : b * (2 * (a % b)) * 2 ^ j ≤ b * a * 2 ^ j := Nat.mul_le_mul_right _ (Nat.mul_le_mul_left _ h2)
      rw [Nat.mul_comm b a] at e2
      exact Nat.lt_of_le_of_lt e2 hp
theorem euc_end {g a b : Nat} (h : Euc g 900 a b) : b = 0 := by
  obtain ⟨_, h | ⟨_, hlt, hp⟩⟩ := h
  · exact absurd h.1 (by decide)
  · cases hz : b with
    | zero => rfl
    | succ k =>
      exfalso
      rw [hz] at hp hlt
      have h1 : 1 ≤ a * (k + 1) := Nat.mul_pos (by omega) (by omega)
      have h2 : 1 * 2 ^ (900 - 1) ≤ a * (k + 1) * 2 ^ (900 - 1) := Nat.mul_le_mul_right _ h1
      have h3 : 2 ^ 800 ≤ 1 * 2 ^ (900 - 1) := by rw [Nat.one_mul]; exact Nat.pow_le_pow_right (by decide) (by decide)
      omega
theorem euc_done {g i a : Nat} (h : Euc g i a 0) : a = g := by
  have := h.1
  rw [Nat.gcd_zero_right] at this
  exact this
def Sz (n : Nat) (i : Int) : Prop := i.natAbs < 2 ^ n
theorem Sz.mono {n m : Nat} {i : Int} (h : Sz n i) (le : n ≤ m) : Sz m i := Nat.lt_of_lt_of_le h (Nat.pow_le_pow_right (by decide) le)
theorem Sz.mul {n m : Nat} {i j : Int} (h : Sz n i) (k : Sz m j) : Sz (n + m) (i * j) := by
  unfold Sz
  rw [Int.natAbs_mul, Nat.pow_add]
  exact Nat.mul_lt_mul'' h k
theorem Sz.add {n : Nat} {i j : Int} (h : Sz n i) (k : Sz n j) : Sz (n + 1) (i + j) := by
  unfold Sz at *
  have := Int.natAbs_add_le i j
  rw [Nat.pow_succ]
  omega
theorem Sz.neg {n : Nat} {i : Int} (h : Sz n i) : Sz n (-i) := by unfold Sz; rw [Int.natAbs_neg]; exact h
theorem Sz.sub {n : Nat} {i j : Int} (h : Sz n i) (k : Sz n j) : Sz (n + 1) (i - j) := by
  rw [Int.sub_eq_add_neg]
  exact h.add k.neg
theorem Sz.le {n : Nat} {i j : Int} (h : Sz n j) (k : i.natAbs ≤ j.natAbs) : Sz n i := Nat.lt_of_le_of_lt k h
theorem Sz.low {n m : Nat} {t b : Int} (h : b ≠ 0) (ht : Sz n t) (hb : Sz m b) : Sz n (low t b).1 ∧ Sz m (low t b).2 := ⟨ht.le (low_le h).1, hb.le (low_le h).2⟩
theorem Sz.mulR {i j : Int} (h : Sz 62 j) : CMul i j := by
  unfold Sz at h
  have : (2 : Nat) ^ 62 < 2 ^ 64 := by decide
  refine Or.inr ⟨?_, ?_⟩ <;> omega
theorem Sz.mulL {i j : Int} (h : Sz 62 i) : CMul i j := by
  unfold Sz at h
  have : (2 : Nat) ^ 62 < 2 ^ 64 := by decide
  refine Or.inl ⟨?_, ?_⟩ <;> omega
theorem gd_log {t b : Int} {n : Nat} (h : b ≠ 0) (k : Sz n b) (hn : 0 < n) (h9 : n ≤ 9000) : (gd t b).natAbs.log2 < 9000 := by
  have h2 : Nat.gcd t.natAbs b.natAbs ≤ b.natAbs := Nat.le_of_dvd (by omega) (Nat.gcd_dvd_right _ _)
  have e : (gd t b).natAbs = Nat.gcd t.natAbs b.natAbs := by unfold gd; omega
  rw [e]
  exact Nat.lt_of_lt_of_le (PySem.Flt.log2_lt_of hn (Nat.lt_of_le_of_lt h2 k)) h9
/-- a good ratio of such sizes -/
structure Rt (n m : Nat) (x : Int × Int) : Prop where
  top : Sz n x.1
  bot : Sz m x.2
  pos : 0 < x.2
  one : Nat.gcd x.1.natAbs x.2.natAbs = 1
theorem rt_low {n m : Nat} {t b : Int} (h : b ≠ 0) (ht : Sz n t) (hb : Sz m b) : Rt n m (low t b) := ⟨(Sz.low h ht hb).1, (Sz.low h ht hb).2, (low_isR h).1, (low_isR h).2⟩
theorem rt_plus {n m p q : Nat} {x y : Int × Int} (hx : Rt n m x) (hy : Rt p q y) (k : Nat) (h1 : n + q ≤ k) (h2 : p + m ≤ k) : Rt (k + 1) (m + q) (plusR x y) :=
  rt_low (Int.mul_ne_zero (by have := hx.pos; omega) (by have := hy.pos; omega)) (((hx.top.mul hy.bot).mono h1).add ((hy.top.mul hx.bot).mono h2)) (hx.bot.mul hy.bot)
def CDivZ (_ j : Int) : Prop := j ≠ 0 ∧ j.natAbs.log2 < 9000
theorem op_fdivZ {X : Cx} : OpR X (binaryOp .FloorDiv) (rI CDivZ fun i j => .int (i.fdiv j)) := opI fun _ _ _ _ _ _ _ hc q => floordiv_int hc.1 q (.inl (PyProof.noPylong_of_log2 hc.2))
theorem kit_ii : kitB "int" "int" = some true := by decide +kernel
theorem kit_bi : kitB "bool" "int" = some true := by decide +kernel
theorem kit_si : kitB "str" "int" = some false := by decide +kernel
theorem kit_ni : kitB "NoneType" "int" = some false := by decide +kernel
theorem kit_li : kitB "list" "int" = some false := by decide +kernel
theorem kit_ti : kitB "tuple" "int" = some false := by decide +kernel
theorem kit_ib : kitB "int" "bool" = some false := by decide +kernel
theorem kit_bb : kitB "bool" "bool" = some true := by decide +kernel
theorem kit_sb : kitB "str" "bool" = some false := by decide +kernel
theorem kit_nb : kitB "NoneType" "bool" = some false := by decide +kernel
theorem kit_lb : kitB "list" "bool" = some false := by decide +kernel
theorem kit_tb : kitB "tuple" "bool" = some false := by decide +kernel
theorem kit_it : kitB "int" "tuple" = some false := by decide +kernel
theorem kit_bt : kitB "bool" "tuple" = some false := by decide +kernel
theorem kit_st : kitB "str" "tuple" = some false := by decide +kernel
theorem kit_nt : kitB "NoneType" "tuple" = some false := by decide +kernel
theorem kit_lt : kitB "list" "tuple" = some false := by decide +kernel
theorem kit_tt : kitB "tuple" "tuple" = some true := by decide +kernel
theorem kit_il : kitB "int" "list" = some false := by decide +kernel
theorem kit_bl : kitB "bool" "list" = some false := by decide +kernel
theorem kit_sl : kitB "str" "list" = some false := by decide +kernel
theorem kit_nl : kitB "NoneType" "list" = some false := by decide +kernel
theorem kit_ll : kitB "list" "list" = some true := by decide +kernel
theorem kit_tl : kitB "tuple" "list" = some false := by decide +kernel
theorem ty_tup {K : PySem.W.Frag} {H : Hp} {a : Addr} {xs : List V} (s : SqT K H a xs) : TyX K H (.ref a) (.type "tuple") := by
  rcases s with (h | ⟨o, h⟩) | ⟨o, its, n, hk, hc, _⟩
  · exact .base (.tup h)
  · exact .fTuple h
  · exact .kTuple hk hc
theorem ty_lst {K : PySem.W.Frag} {H : Hp} {a : Addr} {xs : List V} (h : H a = some (.lst xs)) : TyX K H (.ref a) (.type "list") := .base (.lst h)
theorem r_isi {K : PySem.W.Frag} {H : Hp} {Q : VK} {x : V} {m n : String} {b : Bool} (ty : TyX K H x (.type m)) (k : kitB m n = some b) (q : Q (.bl b) H) : rIsi K [x, .ty n] H Q :=
  ⟨x, .ty n, .type m, .type n, b, rfl, .ty n, ty, kit_ty k, q⟩
end K00
set_option maxHeartbeats 2000000
namespace VL
open PySem PySem.Spec PyProof.Rows L2 MB
abbrev Fr := PySem.W.Frag
/-- data; ref: an object that is owned (it may change), or not looked into -/
inductive D where
  | non | bl (b : Bool) | int (i : Int) | str (x : Str) | ref (a : Addr) | lst (xs : List D) | tup (xs : List D) | ins (C : Addr) (fs : List (Str × D)) | ty (n : String) | scr (ns : List Int)
  | exc (a : Addr) (dx : Option Addr) (C : Addr) (fs : List (Str × D))
mutual
inductive RepD (K : Fr) (F : Hp) : V → D → Prop
  | non : RepD K F .non .non
  | bl (b : Bool) : RepD K F (.bl b) (.bl b)
  | int (i : Int) : RepD K F (.int i) (.int i)
  | str (x : Str) : RepD K F (.str x) (.str x)
  | ref (a : Addr) : RepD K F (.ref a) (.ref a)
  | ty (n : String) : RepD K F (.ty n) (.ty n)
  | scr {a : Addr} {ns : List Int} : SqL K F a (ns.map V.int) → RepD K F (.ref a) (.scr ns)
  | lst {a : Addr} {vs : List V} {ds : List D} : F a = some (.lst vs) → RepsD K F vs ds → RepD K F (.ref a) (.lst ds)
  | tup {a : Addr} {vs : List V} {ds : List D} : SqT K F a vs → RepsD K F vs ds → RepD K F (.ref a) (.tup ds)
  | ins {a C dx : Addr} {fs : List (Str × V)} {gs : List (Str × D)} : F a = some (.ins C dx fs) → RepF K F fs gs → RepD K F (.ref a) (.ins C gs)
  | excN (a C : Addr) : RepD K F (.ref a) (.exc a none C [])
  | excS {a d : Addr} (C : Addr) {fs : List (Str × V)} {gs : List (Str × D)} : F d = some (.xd fs) → RepF K F fs gs → RepD K F (.ref a) (.exc a (some d) C gs)
inductive RepsD (K : Fr) (F : Hp) : List V → List D → Prop
  | nil : RepsD K F [] []
  | cons {v : V} {d : D} {vs : List V} {ds : List D} : RepD K F v d → RepsD K F vs ds → RepsD K F (v :: vs) (d :: ds)
inductive RepF (K : Fr) (F : Hp) : List (Str × V) → List (Str × D) → Prop
  | nil : RepF K F [] []
  | cons {x : Str} {v : V} {d : D} {vs : List (Str × V)} {ds : List (Str × D)} : RepD K F v d → RepF K F vs ds → RepF K F ((x, v) :: vs) ((x, d) :: ds)
end
theorem sqT_same {K : Fr} {F F' : Hp} {a : Addr} {xs : List V} (e : Same F F') (h : SqT K F a xs) : SqT K F' a xs := by
  rcases h with (h | ⟨o, h⟩) | h
  · exact .inl (.inl (e _ _ h))
  · exact .inl (.inr ⟨o, e _ _ h⟩)
  · exact .inr h
section
variable {K : Fr} {F F' : Hp}
theorem RepD.mono (s : Same F F') {v : V} {d : D} (h : RepD K F v d) : RepD K F' v d :=
  RepD.rec (motive_1 := fun v d _ => RepD K F' v d) (motive_2 := fun vs ds _ => RepsD K F' vs ds) (motive_3 := fun vs ds _ => RepF K F' vs ds)
    .non (fun b => .bl b) (fun i => .int i) (fun x => .str x) (fun a => .ref a) (fun n => .ty n) (fun h => .scr (s.seq h)) (fun h _ r => .lst (s _ _ h) r) (fun h _ r => .tup (sqT_same s h) r) (fun h _ r => .ins (s _ _ h) r) (fun a C => .excN a C) (fun C _ _ h _ r => .excS C (s _ _ h) r) .nil (fun _ _ a b => .cons a b) .nil (fun _ _ a b => .cons a b) h
theorem RepsD.mono (s : Same F F') {v : List V} {d : List D} (h : RepsD K F v d) : RepsD K F' v d :=
  RepsD.rec (motive_1 := fun v d _ => RepD K F' v d) (motive_2 := fun vs ds _ => RepsD K F' vs ds) (motive_3 := fun vs ds _ => RepF K F' vs ds)
    .non (fun b => .bl b) (fun i => .int i) (fun x => .str x) (fun a => .ref a) (fun n => .ty n) (fun h => .scr (s.seq h)) (fun h _ r => .lst (s _ _ h) r) (fun h _ r => .tup (sqT_same s h) r) (fun h _ r => .ins (s _ _ h) r) (fun a C => .excN a C) (fun C _ _ h _ r => .excS C (s _ _ h) r) .nil (fun _ _ a b => .cons a b) .nil (fun _ _ a b => .cons a b) h
theorem RepF.mono (s : Same F F') {v : List (Str × V)} {d : List (Str × D)} (h : RepF K F v d) : RepF K F' v d :=
  RepF.rec (motive_1 := fun v d _ => RepD K F' v d) (motive_2 := fun vs ds _ => RepsD K F' vs ds) (motive_3 := fun vs ds _ => RepF K F' vs ds)
    .non (fun b => .bl b) (fun i => .int i) (fun x => .str x) (fun a => .ref a) (fun n => .ty n) (fun h => .scr (s.seq h)) (fun h _ r => .lst (s _ _ h) r) (fun h _ r => .tup (sqT_same s h) r) (fun h _ r => .ins (s _ _ h) r) (fun a C => .excN a C) (fun C _ _ h _ r => .excS C (s _ _ h) r) .nil (fun _ _ a b => .cons a b) .nil (fun _ _ a b => .cons a b) h
theorem RepsD.len : ∀ {vs : List V} {ds : List D}, RepsD K F vs ds → vs.length = ds.length
  | _, _, .nil => rfl
  | _, _, .cons _ t => by rw [List.length_cons, List.length_cons, RepsD.len t]
theorem RepsD.at : ∀ {vs : List V} {ds : List D} {i : Nat} {v : V}, RepsD K F vs ds → vs[i]? = some v → ∃ d, ds[i]? = some d ∧ RepD K F v d
  | _, _, i, v, .nil, h => by simp at h
  | _, _, 0, v, .cons a _, h => by simp at h; subst h; exact ⟨_, rfl, a⟩
  | _, _, i + 1, v, .cons _ t, h => by
    obtain ⟨d, e, r⟩ := RepsD.at (i := i) t (by simpa using h)
    exact ⟨d, by simpa using e, r⟩
theorem RepsD.at' : ∀ {vs : List V} {ds : List D} {i : Nat} {d : D}, RepsD K F vs ds → ds[i]? = some d → ∃ v, vs[i]? = some v ∧ RepD K F v d
  | _, _, i, v, .nil, h => by simp at h
  | _, _, 0, v, .cons a _, h => by simp at h; subst h; exact ⟨_, rfl, a⟩
  | _, _, i + 1, v, .cons _ t, h => by
    obtain ⟨d, e, r⟩ := RepsD.at' (i := i) t (by simpa using h)
    exact ⟨d, by simpa using e, r⟩
theorem RepsD.append : ∀ {vs ws : List V} {ds es : List D}, RepsD K F vs ds → RepsD K F ws es → RepsD K F (vs ++ ws) (ds ++ es)
  | _, _, _, _, .nil, s => s
  | _, _, _, _, .cons a t, s => .cons a (RepsD.append t s)
theorem RepsD.set {v : V} {d : D} (r : RepD K F v d) : ∀ {vs : List V} {ds : List D} (i : Nat), RepsD K F vs ds → RepsD K F (vs.set i v) (ds.set i d)
  | _, _, _, .nil => .nil
  | _, _, 0, .cons _ t => .cons r t
  | _, _, i + 1, .cons a t => .cons a (RepsD.set r i t)
theorem RepsD.drop : ∀ {vs : List V} {ds : List D} (n : Nat), RepsD K F vs ds → RepsD K F (vs.drop n) (ds.drop n)
  | _, _, 0, r => r
  | _, _, _ + 1, .nil => .nil
  | _, _, n + 1, .cons _ t => RepsD.drop n t
theorem RepsD.take : ∀ {vs : List V} {ds : List D} (n : Nat), RepsD K F vs ds → RepsD K F (vs.take n) (ds.take n)
  | _, _, 0, r => .nil
  | _, _, _ + 1, .nil => .nil
  | _, _, n + 1, .cons a t => .cons a (RepsD.take n t)
theorem RepsD.eraseIdx : ∀ {vs : List V} {ds : List D} (n : Nat), RepsD K F vs ds → RepsD K F (vs.eraseIdx n) (ds.eraseIdx n)
  | _, _, _, .nil => .nil
  | _, _, 0, .cons a t => t
  | _, _, n + 1, .cons a t => .cons a (RepsD.eraseIdx n t)
theorem RepsD.reverse : ∀ {vs : List V} {ds : List D}, RepsD K F vs ds → RepsD K F vs.reverse ds.reverse
  | _, _, .nil => .nil
  | _, _, .cons a t => by
    rw [List.reverse_cons, List.reverse_cons]
    exact RepsD.append (RepsD.reverse t) (.cons a .nil)
theorem RepF.lookup {f : Str} : ∀ {fs : List (Str × V)} {gs : List (Str × D)} {d : D}, RepF K F fs gs → gs.lookup f = some d → ∃ v, fs.lookup f = some v ∧ RepD K F v d
  | _, _, d, .nil, h => by cases h
  | _, _, d, .cons (x := x) a t, h => by
    rw [List.lookup_cons] at h ⊢
    split at h
    · cases h; exact ⟨_, rfl, a⟩
    · exact RepF.lookup t h
theorem repsD_ints : ∀ {vs : List V} {ns : List Int}, RepsD K F vs (ns.map D.int) → vs = ns.map V.int
  | _, [], h => by cases h; rfl
  | _, n :: ns, h => by
    cases h with
    | cons a t => cases a; rw [repsD_ints t]; rfl
theorem repsD_int' : ∀ {ns : List Int}, RepsD K F (ns.map V.int) (ns.map D.int)
  | [] => .nil
  | n :: ns => .cons (.int n) repsD_int'
theorem repsD_bls : ∀ {vs : List V} {ns : List Bool}, RepsD K F vs (ns.map D.bl) → vs = ns.map V.bl
  | _, [], h => by cases h; rfl
  | _, n :: ns, h => by
    cases h with
    | cons a t => cases a; rw [repsD_bls t]; rfl
end
inductive OD where
  | lst (xs : List D) | dk (kvs : List (Key × D)) | set (S : Int → Bool) (n : Nat) | hand | ins (C : Addr) (fs : List (Str × D))
  /-- a dict while a loop walks it -/
  | fdk (od : Obj) (vs : List (Key × V)) (kvs : List (Key × D))
  /-- a def's table of the code objects of its lambdas, all of them of the name q -/
  | tbl (q : Str)
abbrev Oh := Addr → Option OD
def updO (O : Oh) (a : Addr) (o : OD) : Oh := fun b => if b = a then some o else O b
def delO (O : Oh) (a : Addr) : Oh := fun b => if b = a then none else O b
theorem updO_same {O : Oh} {a : Addr} {o : OD} : updO O a o a = some o := by unfold updO; rw [if_pos rfl]
theorem updO_ne {O : Oh} {a b : Addr} {o : OD} (h : b ≠ a) : updO O a o b = O b := by unfold updO; rw [if_neg h]
theorem delO_same {O : Oh} {a : Addr} : delO O a a = none := by unfold delO; rw [if_pos rfl]
theorem delO_ne {O : Oh} {a b : Addr} (h : b ≠ a) : delO O a b = O b := by unfold delO; rw [if_neg h]
theorem updO_updO {O : Oh} {a : Addr} {o u : OD} : updO (updO O a o) a u = updO O a u := by
  funext b; unfold updO; split <;> rfl
theorem delO_updO {O : Oh} {a : Addr} {o : OD} (h : O a = none) : delO (updO O a o) a = O := by
  funext b; unfold delO updO; split
  · rename_i e; rw [e, h]
  · rfl
inductive RepK (K : Fr) (F : Hp) : List (Key × V) → List (Key × D) → Prop
  | nil : RepK K F [] []
  | cons {x : Key} {v : V} {d : D} {vs : List (Key × V)} {ds : List (Key × D)} : RepD K F v d → RepK K F vs ds → RepK K F ((x, v) :: vs) ((x, d) :: ds)
theorem RepK.mono {K : Fr} {F F' : Hp} (s : Same F F') : ∀ {vs : List (Key × V)} {ds : List (Key × D)}, RepK K F vs ds → RepK K F' vs ds
  | _, _, .nil => .nil
  | _, _, .cons a t => .cons (a.mono s) (RepK.mono s t)
/-- the hand at p, its cells at l in the part that stays -/
def HandO (F H : Hp) (p : Addr) : Prop := ∃ (l : Addr) (ns : List Int) (i rest st : Int), H p = some (.lst [.ref l, .int i, .int rest, .int st]) ∧ F l = some (.lst (ns.map V.int)) ∧ 0 ≤ i ∧ 0 ≤ rest ∧ (∀ n ∈ ns, 0 ≤ n) ∧ ns.length ≤ 63
def RepO (K : Fr) (F H : Hp) (a : Addr) : OD → Prop
  | .lst ds => ∃ vs, H a = some (.lst vs) ∧ RepsD K F vs ds
  | .dk kvs => ∃ vs, H a = some (.dK vs) ∧ RepK K F vs kvs
  | .set S n => H a = some (.set S n)
  | .hand => HandO F H a
  | .ins C gs => ∃ dx fs, H a = some (.ins C dx fs) ∧ RepF K F fs gs
  | .fdk od vs kvs => H a = some (.frz od (.dK vs)) ∧ RepK K F vs kvs
  | .tbl q => ∃ ps : Array Value, H a = some (.tbl ps) ∧ TriplesOk ps.toList ∧ ∀ (pos : Pos) (cv : Value), codeAmong pos ps.toList = some cv → ∃ c, cv = .ref c ∧ F c = some (LamX.CodeO c q)
structure StO (K : Fr) (F : Hp) (O : Oh) (H : Hp) : Prop where
  same : Same F H
  own : ∀ a o, O a = some o → F a = none ∧ RepO K F H a o
section
variable {K : Fr} {F F' H H' : Hp} {O : Oh} {a p : Addr} {o : OD}
theorem RepO.move (s : Same F F') (e : H' a = H a) (h : RepO K F H a o) : RepO K F' H' a o := by
  cases o with
  | lst ds => obtain ⟨vs, h1, h2⟩ := h; exact ⟨vs, e.trans h1, h2.mono s⟩
  | dk kvs => obtain ⟨vs, h1, h2⟩ := h; exact ⟨vs, e.trans h1, h2.mono s⟩
  | set S n => exact e.trans h
  | hand => obtain ⟨l, ns, i, rest, st, h1, h2, h3⟩ := h; exact ⟨l, ns, i, rest, st, e.trans h1, s _ _ h2, h3⟩
  | ins C gs => obtain ⟨dx, fs, h1, h2⟩ := h; exact ⟨dx, fs, e.trans h1, h2.mono s⟩
  | fdk od vs kvs => exact ⟨e.trans h.1, h.2.mono s⟩
  | tbl q => obtain ⟨ps, h1, h2, h3⟩ := h; exact ⟨ps, e.trans h1, h2, fun pos cv hc => let ⟨c, e1, e2⟩ := h3 pos cv hc; ⟨c, e1, s _ _ e2⟩⟩
theorem RepO.some (h : RepO K F H a o) : ∃ u, H a = some u := by
  cases o with
  | lst ds => obtain ⟨vs, h1, h2⟩ := h; exact ⟨_, h1⟩
  | dk kvs => obtain ⟨vs, h1, h2⟩ := h; exact ⟨_, h1⟩
  | set S n => exact ⟨_, h⟩
  | hand => obtain ⟨l, ns, i, rest, st, h1, h2, h3⟩ := h; exact ⟨_, h1⟩
  | ins C gs => obtain ⟨dx, fs, h1, h2⟩ := h; exact ⟨_, h1⟩
  | fdk od vs kvs => exact ⟨_, h.1⟩
  | tbl q => obtain ⟨ps, h1, _⟩ := h; exact ⟨_, h1⟩
theorem StO.fresh (s : StO K F O H) (h : H p = none) : O p = none ∧ F p = none := by
  refine ⟨?_, s.same.free h⟩
  cases e : O p with
  | none => rfl
  | some o =>
    obtain ⟨u, q⟩ := (s.own p o e).2.some
    rw [h] at q; cases q
theorem Same.both {u : HO} (s : Same F H) (h : F p = none) : Same (upd F p u) (upd H p u) := fun b o e => by
  by_cases hb : b = p
  · subst hb; rw [upd_same] at e ⊢; exact e
  · rw [upd_ne hb] at e ⊢; exact s b o e
/-- a new object that stays -/
theorem StO.newF {u : HO} (s : StO K F O H) (h : H p = none) : StO K (upd F p u) O (upd H p u) := by
  have f := s.fresh h
  refine ⟨Same.both s.same f.2, fun a o e => ?_⟩
  have ne : a ≠ p := fun z => by subst z; rw [f.1] at e; cases e
  obtain ⟨q1, q2⟩ := s.own a o e
  exact ⟨(upd_ne ne).trans q1, q2.move (MB.Same.upd f.2) (upd_ne ne)⟩
/-- a new object that may change -/
theorem StO.newO {u : HO} (s : StO K F O H) (h : H p = none) (r : RepO K F (upd H p u) p o) : StO K F (updO O p o) (upd H p u) := by
  have f := s.fresh h
  refine ⟨s.same.trans (MB.Same.upd h), fun a o' e => ?_⟩
  by_cases ne : a = p
  · subst ne; rw [updO_same] at e; cases e; exact ⟨f.2, r⟩
  · rw [updO_ne ne] at e
    obtain ⟨q1, q2⟩ := s.own a o' e
    exact ⟨q1, q2.move (Same.refl F) (upd_ne ne)⟩
theorem StO.write {u : HO} {o' : OD} (s : StO K F O H) (h : O p = some o) (r : RepO K F (upd H p u) p o') : StO K F (updO O p o') (upd H p u) := by
  have f := s.own p o h
  refine ⟨fun b x e => ?_, fun a o'' e => ?_⟩
  · rw [upd_ne (ne_of_none e f.1)]; exact s.same b x e
  · by_cases ne : a = p
    · subst ne; rw [updO_same] at e; cases e; exact ⟨f.1, r⟩
    · rw [updO_ne ne] at e
      obtain ⟨q1, q2⟩ := s.own a o'' e
      exact ⟨q1, q2.move (Same.refl F) (upd_ne ne)⟩
theorem StO.del (s : StO K F O H) : StO K F (delO O p) H := ⟨s.same, fun a o e => by
  by_cases ne : a = p
  · subst ne; rw [delO_same] at e; cases e
  · rw [delO_ne ne] at e; exact s.own a o e⟩
/-- an owned list stays from now on -/
theorem StO.freeze {ds : List D} (s : StO K F O H) (h : O p = some (.lst ds)) : ∃ F', Same F F' ∧ StO K F' (delO O p) H ∧ RepD K F' (.ref p) (.lst ds) := by
  obtain ⟨f, vs, h1, h2⟩ := s.own p _ h
  have sm : Same F (upd F p (.lst vs)) := MB.Same.upd f
  refine ⟨upd F p (.lst vs), sm, ⟨fun b o e => ?_, fun a o e => ?_⟩, .lst upd_same (h2.mono sm)⟩
  · by_cases hb : b = p
    · subst hb; rw [upd_same] at e; cases e; exact h1
    · rw [upd_ne hb] at e; exact s.same b o e
  · by_cases ne : a = p
    · subst ne; rw [delO_same] at e; cases e
    · rw [delO_ne ne] at e
      obtain ⟨q1, q2⟩ := s.own a o e
      exact ⟨(upd_ne ne).trans q1, q2.move sm rfl⟩
end
abbrev En := List (Option D)
def RepS (K : Fr) (F : Hp) (σ : L2.St) (ρ : En) : Prop := σ.length = ρ.length ∧ ∀ (i : Nat) (d : D), ρ[i]? = some (some d) → ∃ v, σ[i]? = some (some v) ∧ RepD K F v d
section
variable {K : Fr} {F F' : Hp} {σ : L2.St} {ρ : En}
theorem RepS.mono (s : Same F F') (h : RepS K F σ ρ) : RepS K F' σ ρ := ⟨h.1, fun i d e => by
  obtain ⟨v, a, b⟩ := h.2 i d e
  exact ⟨v, a, b.mono s⟩⟩
theorem RepS.set (h : RepS K F σ ρ) (i : Nat) {v : V} {d : D} (r : RepD K F v d) : RepS K F (σ.set i (some v)) (ρ.set i (some d)) := by
  refine ⟨by rw [List.length_set, List.length_set, h.1], fun j e q => ?_⟩
  by_cases hj : i = j
  · subst hj
    rw [List.getElem?_set] at q ⊢
    rw [if_pos rfl] at q ⊢
    split at q
    · rename_i hl
      rw [if_pos (by rw [h.1]; exact hl)]
      cases q; exact ⟨v, rfl, r⟩
    · cases q
  · rw [List.getElem?_set_ne hj] at q ⊢
    exact h.2 j e q
theorem RepS.forget (h : RepS K F σ ρ) (i : Nat) (x : Option V) : RepS K F (σ.set i x) (ρ.set i none) := by
  refine ⟨by rw [List.length_set, List.length_set, h.1], fun j e q => ?_⟩
  by_cases hj : i = j
  · subst hj
    rw [List.getElem?_set] at q
    rw [if_pos rfl] at q
    split at q
    · cases q
    · cases q
  · rw [List.getElem?_set_ne hj] at q ⊢
    exact h.2 j e q
theorem repS_start {N : List Str} {vs : List V} {ds : List D} {ρ : En} (r : RepsD K F vs ds) (e : ρ = ds.map some ++ List.replicate (N.length - ds.length) none) (hs : start N vs = vs.map some ++ List.replicate (N.length - vs.length) none) : RepS K F (start N vs) ρ := by
  subst e
  rw [hs]
  have el := r.len
  refine ⟨by simp [el], fun i d q => ?_⟩
  by_cases hi : i < ds.length
  · rw [List.getElem?_append_left (by simpa using hi)] at q
    rw [List.getElem?_append_left (by simp [el, hi])]
    rw [List.getElem?_map] at q ⊢
    cases e1 : ds[i]? with
    | none => rw [e1] at q; cases q
    | some d' =>
      rw [e1] at q; cases q
      obtain ⟨v, a, b⟩ := r.at' e1
      exact ⟨v, by rw [a]; rfl, b⟩
  · rw [List.getElem?_append_right (by simpa using Nat.le_of_not_lt hi)] at q
    rw [List.getElem?_replicate] at q
    split at q <;> cases q
end
end VL
set_option maxHeartbeats 2000000
namespace VL
open PySem PySem.Spec PyProof.Rows L2 MB
/-- where one stands: the written part, the wish for an exception, what is known of one -/
structure Cz where
  K : Fr
  E0 : L2.St → XK
  Ex : Addr → List (Str × D) → En → Oh → Prop
def RepX (K : Fr) (F H : Hp) (dx : Option Addr) (fs : List (Str × D)) : Prop := match dx with
  | none => fs = []
  | some d => ∃ vs, H d = some (.xd vs) ∧ RepF K F vs fs ∧ fs ≠ []
def XL (c : Cz) (F : Hp) : Prop := ∀ (F' H' : Hp) (O' : Oh) (σ' : L2.St) (ρ' : En) (C : Addr) (dx : Option Addr) (fs : List (Str × D)), Same F F' → RepS c.K F' σ' ρ' → StO c.K F' O' H' → RepX c.K F' H' dx fs → c.Ex C fs ρ' O' → c.E0 σ' (.ref C) dx H'
theorem XL.mono {c : Cz} {F F' : Hp} (x : XL c F) (s : Same F F') : XL c F' := fun F2 H2 O2 σ2 ρ2 C dx fs s2 => x F2 H2 O2 σ2 ρ2 C dx fs (s.trans s2)
def KQ (K : Fr) (F : Hp) (Q : D → Oh → Prop) (Q' : VK) : Prop := ∀ (F' H' : Hp) (O' : Oh) (v : V) (d : D), Same F F' → StO K F' O' H' → RepD K F' v d → Q d O' → Q' v H'
theorem KQ.mono {K : Fr} {F F' : Hp} {Q : D → Oh → Prop} {Q' : VK} (k : KQ K F Q Q') (s : Same F F') : KQ K F' Q Q' := fun F2 H2 O2 v d s2 => k F2 H2 O2 v d (s.trans s2)
def KT (K : Fr) (F : Hp) (Q : Bool → Oh → Prop) (Q' : Bool → Hp → Prop) : Prop := ∀ (F' H' : Hp) (O' : Oh) (b : Bool), Same F F' → StO K F' O' H' → Q b O' → Q' b H'
theorem KT.mono {K : Fr} {F F' : Hp} {Q : Bool → Oh → Prop} {Q' : Bool → Hp → Prop} (k : KT K F Q Q') (s : Same F F') : KT K F' Q Q' := fun F2 H2 O2 v s2 => k F2 H2 O2 v (s.trans s2)
def KA (K : Fr) (F : Hp) (Q : List D → Oh → Prop) (Q' : List V → Hp → Prop) : Prop := ∀ (F' H' : Hp) (O' : Oh) (vs : List V) (ds : List D), Same F F' → StO K F' O' H' → RepsD K F' vs ds → Q ds O' → Q' vs H'
theorem KA.mono {K : Fr} {F F' : Hp} {Q : List D → Oh → Prop} {Q' : List V → Hp → Prop} (k : KA K F Q Q') (s : Same F F') : KA K F' Q Q' := fun F2 H2 O2 vs ds s2 => k F2 H2 O2 vs ds (s.trans s2)
/-- a new list -/
def KN (K : Fr) (F : Hp) (Q : List D → Oh → Prop) (Q' : VK) : Prop := ∀ (F' H' : Hp) (O' : Oh) (p : Addr) (vs : List V) (ds : List D), Same F F' → StO K F' O' H' → H' p = none → RepsD K F' vs ds → Q ds O' → Q' (.ref p) (upd H' p (.lst vs))
theorem KN.mono {K : Fr} {F F' : Hp} {Q : List D → Oh → Prop} {Q' : VK} (k : KN K F Q Q') (s : Same F F') : KN K F' Q Q' := fun F2 H2 O2 p vs ds s2 => k F2 H2 O2 p vs ds (s.trans s2)
def LE (c : Cz) (te : TE) (ρ : En) (O : Oh) (Q : D → Oh → Prop) : Prop := ∀ (F H : Hp) (σ : L2.St), RepS c.K F σ ρ → StO c.K F O H → XL c F → ∀ Q' : VK, KQ c.K F Q Q' → te σ H Q'
def LT (c : Cz) (te : TT) (ρ : En) (O : Oh) (Q : Bool → Oh → Prop) : Prop := ∀ (F H : Hp) (σ : L2.St), RepS c.K F σ ρ → StO c.K F O H → XL c F → ∀ Q' : Bool → Hp → Prop, KT c.K F Q Q' → te σ H Q'
def LA (c : Cz) (te : TA) (ρ : En) (O : Oh) (Q : List D → Oh → Prop) : Prop := ∀ (F H : Hp) (σ : L2.St), RepS c.K F σ ρ → StO c.K F O H → XL c F → ∀ Q' : List V → Hp → Prop, KA c.K F Q Q' → te σ H Q'
def LN (c : Cz) (te : TE) (ρ : En) (O : Oh) (Q : List D → Oh → Prop) : Prop := ∀ (F H : Hp) (σ : L2.St), RepS c.K F σ ρ → StO c.K F O H → XL c F → ∀ Q' : VK, KN c.K F Q Q' → te σ H Q'
/-- an operator by values; a call; a one-place one -/
def O2R (c : Cz) (r : R2) (x y : D) (O : Oh) (Q : D → Oh → Prop) : Prop := ∀ (F H : Hp) (v w : V), StO c.K F O H → RepD c.K F v x → RepD c.K F w y → XL c F → ∀ Q' : VK, KQ c.K F Q Q' → r v w H Q'
def O2N (c : Cz) (r : R2) (x y : D) (O : Oh) (Q : List D → Oh → Prop) : Prop := ∀ (F H : Hp) (v w : V), StO c.K F O H → RepD c.K F v x → RepD c.K F w y → XL c F → ∀ Q' : VK, KN c.K F Q Q' → r v w H Q'
def O1R (c : Cz) (r : V → Hp → VK → Prop) (x : D) (O : Oh) (Q : D → Oh → Prop) : Prop := ∀ (F H : Hp) (v : V), StO c.K F O H → RepD c.K F v x → XL c F → ∀ Q' : VK, KQ c.K F Q Q' → r v H Q'
def CAR (c : Cz) (r : List V → Hp → VK → Prop) (xs : List D) (O : Oh) (Q : D → Oh → Prop) : Prop := ∀ (F H : Hp) (vs : List V), StO c.K F O H → RepsD c.K F vs xs → XL c F → ∀ Q' : VK, KQ c.K F Q Q' → r vs H Q'
def CAN (c : Cz) (r : List V → Hp → VK → Prop) (xs : List D) (O : Oh) (Q : List D → Oh → Prop) : Prop := ∀ (F H : Hp) (vs : List V), StO c.K F O H → RepsD c.K F vs xs → XL c F → ∀ Q' : VK, KN c.K F Q Q' → r vs H Q'
/-- a method of x -/
def MTR (c : Cz) (r : V → List V → Hp → VK → Prop) (x : D) (xs : List D) (O : Oh) (Q : D → Oh → Prop) : Prop := ∀ (F H : Hp) (v : V) (vs : List V), StO c.K F O H → RepD c.K F v x → RepsD c.K F vs xs → XL c F → ∀ Q' : VK, KQ c.K F Q Q' → r v vs H Q'
def dOf : V → Option D
  | .non => some .non | .bl b => some (.bl b) | .int i => some (.int i) | .str x => some (.str x) | .ref a => some (.ref a) | .ty n => some (.ty n) | _ => none
theorem dOf_rep {K : Fr} {F : Hp} {v : V} {d : D} (h : dOf v = some d) : RepD K F v d := by
  cases v <;> simp only [dOf, Option.some.injEq, reduceCtorEq] at h <;> subst h <;> constructor
/-- the items of a list that may change or not -/
def asL (O : Oh) : D → Option (List D)
  | .lst xs => some xs
  | .ref p => match O p with
    | some (.lst xs) => some xs
    | _ => none
  | _ => none
def asT : D → Option (List D)
  | .tup xs => some xs
  | _ => none
def asS (O : Oh) : D → Option (List D)
  | .tup xs => some xs
  | x => asL O x
theorem asL_own {O : Oh} {p : Addr} {xs : List D} (h : O p = some (.lst xs)) : asL O (.ref p) = some xs := by
  show (match O p with | some (.lst xs) => some xs | _ => none) = some xs
  rw [h]
theorem asS_own {O : Oh} {p : Addr} {xs : List D} (h : O p = some (.lst xs)) : asS O (.ref p) = some xs := asL_own h
theorem asL_sq {K : Fr} {F H : Hp} {O : Oh} {x : D} {xs : List D} {v : V} (s : StO K F O H) (r : RepD K F v x) (h : asL O x = some xs) : ∃ p vs, v = .ref p ∧ H p = some (.lst vs) ∧ RepsD K F vs xs := by
  cases x with
  | lst ys =>
    cases h
    cases r with
    | lst a b => exact ⟨_, _, rfl, s.same _ _ a, b⟩
  | ref p =>
    have h : (match O p with | some (.lst xs) => some xs | _ => none) = some xs := h
    cases r
    cases e : O p with
    | none => rw [e] at h; cases h
    | some o =>
      rw [e] at h
      cases o <;> cases h
      obtain ⟨_, vs, a, b⟩ := s.own p _ e
      exact ⟨p, vs, rfl, a, b⟩
  | _ => cases h
theorem asS_sq {K : Fr} {F H : Hp} {O : Oh} {x : D} {xs : List D} {v : V} (s : StO K F O H) (r : RepD K F v x) (h : asS O x = some xs) : ∃ p vs, v = .ref p ∧ (SqL K H p vs ∨ SqT K H p vs) ∧ RepsD K F vs xs := by
  cases x with
  | tup ys =>
    cases h
    cases r with
    | tup a b => exact ⟨_, _, rfl, .inr (sqT_same s.same a), b⟩
  | lst ys =>
    obtain ⟨p, vs, a, b, d⟩ := asL_sq s r (x := .lst ys) h
    exact ⟨p, vs, a, .inl (.of b), d⟩
  | ref p =>
    obtain ⟨p, vs, a, b, d⟩ := asL_sq s r (x := .ref p) h
    exact ⟨p, vs, a, .inl (.of b), d⟩
  | _ => cases h
section
variable {c : Cz} {ρ : En} {O : Oh} {Q : D → Oh → Prop}
theorem l_var {i : Nat} {d : D} (h : ρ[i]? = some (some d)) (q : Q d O) : LE c (tVar i) ρ O Q := fun F H σ r s x Q' k => by
  obtain ⟨v, e, rd⟩ := r.2 i d h
  exact ⟨v, e, k F H O v d (Same.refl F) s rd q⟩
theorem l_c {v : V} {d : D} (h : dOf v = some d) (q : Q d O) : LE c (tC v) ρ O Q := fun F H σ r s x Q' k => k F H O v d (Same.refl F) s (dOf_rep h) q
/-- a written tuple -/
theorem l_ctup {a : Addr} {vs : List V} {ds : List D} (h : ∀ H, SqT c.K H a vs) (e : ∀ F, RepsD c.K F vs ds) (q : Q (.tup ds) O) : LE c (tC (.ref a)) ρ O Q := fun F H σ r s x Q' k => k F H O _ _ (Same.refl F) s (.tup (h F) (e F)) q
theorem l_op {r : R2} {ta tb : TE} (q : LE c ta ρ O fun x O1 => LE c tb ρ O1 fun y O2 => O2R c r x y O2 Q) : LE c (tOp r ta tb) ρ O Q := fun F H σ rs s x Q' k =>
  q F H σ rs s x _ fun F1 H1 O1 v d s1 st1 rd1 q1 => q1 F1 H1 σ (rs.mono s1) st1 (x.mono s1) _ fun F2 H2 O2 w e s2 st2 rd2 q2 => q2 F2 H2 v w st2 (rd1.mono s2) rd2 (x.mono (s1.trans s2)) Q' (k.mono (s1.trans s2))
theorem ln_op {r : R2} {ta tb : TE} {Q : List D → Oh → Prop} (q : LE c ta ρ O fun x O1 => LE c tb ρ O1 fun y O2 => O2N c r x y O2 Q) : LN c (tOp r ta tb) ρ O Q := fun F H σ rs s x Q' k =>
  q F H σ rs s x _ fun F1 H1 O1 v d s1 st1 rd1 q1 => q1 F1 H1 σ (rs.mono s1) st1 (x.mono s1) _ fun F2 H2 O2 w e s2 st2 rd2 q2 => q2 F2 H2 v w st2 (rd1.mono s2) rd2 (x.mono (s1.trans s2)) Q' (k.mono (s1.trans s2))
theorem l_un {r : V → Hp → VK → Prop} {ta : TE} (q : LE c ta ρ O fun x O1 => O1R c r x O1 Q) : LE c (tUn r ta) ρ O Q := fun F H σ rs s x Q' k =>
  q F H σ rs s x _ fun F1 H1 O1 v d s1 st1 rd1 q1 => q1 F1 H1 v st1 rd1 (x.mono s1) Q' (k.mono s1)
theorem l_cb {r : List V → Hp → VK → Prop} {ta : TA} (q : LA c ta ρ O fun xs O1 => CAR c r xs O1 Q) : LE c (tCB r ta) ρ O Q := fun F H σ rs s x Q' k =>
  q F H σ rs s x _ fun F1 H1 O1 vs ds s1 st1 rd1 q1 => q1 F1 H1 vs st1 rd1 (x.mono s1) Q' (k.mono s1)
theorem ln_cb {r : List V → Hp → VK → Prop} {ta : TA} {Q : List D → Oh → Prop} (q : LA c ta ρ O fun xs O1 => CAN c r xs O1 Q) : LN c (tCB r ta) ρ O Q := fun F H σ rs s x Q' k =>
  q F H σ rs s x _ fun F1 H1 O1 vs ds s1 st1 rd1 q1 => q1 F1 H1 vs st1 rd1 (x.mono s1) Q' (k.mono s1)
theorem la_nil {Q : List D → Oh → Prop} (q : Q [] O) : LA c tNil ρ O Q := fun F H σ rs s x Q' k => k F H O _ _ (Same.refl F) s .nil q
theorem la_cons {ta : TE} {tr : TA} {Q : List D → Oh → Prop} (q : LE c ta ρ O fun x O1 => LA c tr ρ O1 fun xs O2 => Q (x :: xs) O2) : LA c (tCons ta tr) ρ O Q := fun F H σ rs s x Q' k =>
  q F H σ rs s x _ fun F1 H1 O1 v d s1 st1 rd1 q1 => q1 F1 H1 σ (rs.mono s1) st1 (x.mono s1) _ fun F2 H2 O2 vs ds s2 st2 rd2 q2 => k F2 H2 O2 _ _ (s1.trans s2) st2 (.cons (rd1.mono s2) rd2) q2
theorem l_tup {ta : TA} (q : LA c ta ρ O fun xs O1 => xs.length ≤ sizeLine ∧ Q (.tup xs) O1) : LE c (tTup ta) ρ O Q := fun F H σ rs s x Q' k =>
  q F H σ rs s x _ fun F1 H1 O1 vs ds s1 st1 rd1 q1 => ⟨by rw [rd1.len]; exact q1.1, fun p hp => by
    have sm : Same F1 (upd F1 p (.tup vs)) := MB.Same.upd (st1.fresh hp).2
    exact k _ _ O1 _ _ (s1.trans sm) (st1.newF hp) (.tup (.of upd_same) (rd1.mono sm)) q1.2⟩
theorem ln_lst {ta : TA} {Q : List D → Oh → Prop} (q : LA c ta ρ O fun xs O1 => xs.length ≤ sizeLine ∧ Q xs O1) : LN c (tLst ta) ρ O Q := fun F H σ rs s x Q' k =>
  q F H σ rs s x _ fun F1 H1 O1 vs ds s1 st1 rd1 q1 => ⟨by rw [rd1.len]; exact q1.1, fun p hp => k F1 H1 O1 p vs ds s1 st1 hp rd1 q1.2⟩
/-- a new list that stays as it is -/
theorem l_frz {te : TE} (q : LN c te ρ O fun xs O1 => Q (.lst xs) O1) : LE c te ρ O Q := fun F H σ rs s x Q' k =>
  q F H σ rs s x _ fun F1 H1 O1 p vs ds s1 st1 hp rd1 q1 => by
    have sm : Same F1 (upd F1 p (.lst vs)) := MB.Same.upd (st1.fresh hp).2
    exact k _ _ O1 _ _ (s1.trans sm) (st1.newF hp) (.lst upd_same (rd1.mono sm)) q1
/-- one that may change -/
def tOwn (t : TE) : TE := t
theorem l_own {te : TE} (q : LN c te ρ O fun xs O1 => ∀ p, O1 p = none → Q (.ref p) (updO O1 p (.lst xs))) : LE c (tOwn te) ρ O Q := fun F H σ rs s x Q' k =>
  q F H σ rs s x _ fun F1 H1 O1 p vs ds s1 st1 hp rd1 q1 =>
    k F1 _ _ _ _ s1 (st1.newO (o := .lst ds) hp ⟨vs, upd_same, rd1⟩) (.ref p) (q1 p (st1.fresh hp).1)
theorem pe_own {X : Cx} {e : Expr} {t : TE} (h : PE X e t) : PE X e (tOwn t) := h
theorem l_test {t : TE} {Q : Bool → Oh → Prop} (q : LE c t ρ O fun x O1 => ∃ b, x = .bl b ∧ Q b O1) : LT c (tTest t) ρ O Q := fun F H σ rs s x Q' k =>
  q F H σ rs s x _ fun F1 H1 O1 v d s1 st1 rd1 ⟨b, e, q1⟩ => by
    subst e; cases rd1; exact ⟨b, rfl, k F1 H1 O1 b s1 st1 q1⟩
theorem l_tB {t : TE} {Q : Bool → Oh → Prop} (q : LE c t ρ O fun x O1 => ∃ b, x = .bl b ∧ Q b O1) : LT c (tB t) ρ O Q := fun F H σ rs s x Q' k =>
  q F H σ rs s x _ fun F1 H1 O1 v d s1 st1 rd1 ⟨b, e, q1⟩ => by
    subst e; cases rd1; exact ⟨b, rfl, k F1 H1 O1 b s1 st1 q1⟩
theorem l_and {t u : TT} {Q : Bool → Oh → Prop} (q : LT c t ρ O fun b O1 => if b = true then LT c u ρ O1 Q else Q false O1) : LT c (tAnd t u) ρ O Q := fun F H σ rs s x Q' k =>
  q F H σ rs s x _ fun F1 H1 O1 b s1 st1 q1 => by
    cases b with
    | true => exact iteT ((iteTo q1) F1 H1 σ (rs.mono s1) st1 (x.mono s1) _ (k.mono s1))
    | false => exact iteF (k F1 H1 O1 _ s1 st1 (iteFo q1))
where
  iteTo {A B : Prop} (h : if true = true then A else B) : A := by rwa [if_pos rfl] at h
  iteFo {A B : Prop} (h : if false = true then A else B) : B := by rwa [if_neg Bool.false_ne_true] at h
theorem ifT {A B : Prop} (h : if true = true then A else B) : A := by rwa [if_pos rfl] at h
theorem ifF {A B : Prop} (h : if false = true then A else B) : B := by rwa [if_neg Bool.false_ne_true] at h
theorem l_or {t u : TT} {Q : Bool → Oh → Prop} (q : LT c t ρ O fun b O1 => if b = true then Q true O1 else LT c u ρ O1 Q) : LT c (tOr t u) ρ O Q := fun F H σ rs s x Q' k =>
  q F H σ rs s x _ fun F1 H1 O1 b s1 st1 q1 => by
    cases b with
    | false => exact iteF ((ifF q1) F1 H1 σ (rs.mono s1) st1 (x.mono s1) _ (k.mono s1))
    | true => exact iteT (k F1 H1 O1 _ s1 st1 (ifT q1))
theorem l_not {t : TT} {Q : Bool → Oh → Prop} (q : LT c t ρ O fun b O1 => Q (!b) O1) : LT c (tNot t) ρ O Q := fun F H σ rs s x Q' k =>
  q F H σ rs s x _ fun F1 H1 O1 b s1 st1 q1 => k F1 H1 O1 _ s1 st1 q1
theorem l_andV {ta tb : TE} (q : LE c ta ρ O fun x O1 => ∃ b, x = .bl b ∧ if b = true then LE c tb ρ O1 Q else Q (.bl false) O1) : LE c (tAndV ta tb) ρ O Q := fun F H σ rs s x Q' k =>
  q F H σ rs s x _ fun F1 H1 O1 v d s1 st1 rd1 ⟨b, e, q1⟩ => by
    subst e; cases rd1
    refine ⟨b, rfl, ?_⟩
    cases b with
    | true => exact iteT ((ifT q1) F1 H1 σ (rs.mono s1) st1 (x.mono s1) _ (k.mono s1))
    | false => exact iteF (k F1 H1 O1 _ _ s1 st1 (.bl false) (ifF q1))
theorem l_orV {ta tb : TE} (q : LE c ta ρ O fun x O1 => ∃ b, x = .bl b ∧ if b = true then Q (.bl true) O1 else LE c tb ρ O1 Q) : LE c (tOrV ta tb) ρ O Q := fun F H σ rs s x Q' k =>
  q F H σ rs s x _ fun F1 H1 O1 v d s1 st1 rd1 ⟨b, e, q1⟩ => by
    subst e; cases rd1
    refine ⟨b, rfl, ?_⟩
    cases b with
    | false => exact iteF ((ifF q1) F1 H1 σ (rs.mono s1) st1 (x.mono s1) _ (k.mono s1))
    | true => exact iteT (k F1 H1 O1 _ _ s1 st1 (.bl true) (ifT q1))
theorem l_notV {ta : TE} (q : LE c ta ρ O fun x O1 => ∃ b, x = .bl b ∧ Q (.bl (!b)) O1) : LE c (tNotV ta) ρ O Q := fun F H σ rs s x Q' k =>
  q F H σ rs s x _ fun F1 H1 O1 v d s1 st1 rd1 ⟨b, e, q1⟩ => by
    subst e; cases rd1
    exact ⟨b, rfl, k F1 H1 O1 _ _ s1 st1 (.bl _) q1⟩
theorem l_if {t : TT} {ta tb : TE} (q : LT c t ρ O fun b O1 => if b = true then LE c ta ρ O1 Q else LE c tb ρ O1 Q) : LE c (tIf t ta tb) ρ O Q := fun F H σ rs s x Q' k =>
  q F H σ rs s x _ fun F1 H1 O1 b s1 st1 q1 => by
    cases b with
    | true => exact iteT ((ifT q1) F1 H1 σ (rs.mono s1) st1 (x.mono s1) _ (k.mono s1))
    | false => exact iteF ((ifF q1) F1 H1 σ (rs.mono s1) st1 (x.mono s1) _ (k.mono s1))
theorem l_chain {r r' : R2} {ta tb tc : TE} (q : LE c ta ρ O fun x O1 => LE c tb ρ O1 fun y O2 => O2R c r x y O2 fun z O3 => ∃ b, z = .bl b ∧ if b = true then LE c tc ρ O3 fun w O4 => O2R c r' y w O4 Q else Q (.bl false) O3) : LE c (tChain r r' ta tb tc) ρ O Q := fun F H σ rs s x Q' k =>
  q F H σ rs s x _ fun F1 H1 O1 v d s1 st1 rd1 q1 => q1 F1 H1 σ (rs.mono s1) st1 (x.mono s1) _ fun F2 H2 O2 w e s2 st2 rd2 q2 => q2 F2 H2 v w st2 (rd1.mono s2) rd2 (x.mono (s1.trans s2)) _ fun F3 H3 O3 z f s3 st3 rd3 ⟨b, e3, q3⟩ => by
    subst e3; cases rd3
    refine ⟨b, rfl, ?_⟩
    have s13 := (s1.trans s2).trans s3
    cases b with
    | true => exact iteT ((ifT q3) F3 H3 σ (rs.mono s13) st3 (x.mono s13) _ fun F4 H4 O4 u g s4 st4 rd4 q4 => q4 F4 H4 w u st4 (rd2.mono (s3.trans s4)) rd4 (x.mono (s13.trans s4)) Q' (k.mono (s13.trans s4)))
    | false => exact iteF (k F3 H3 O3 _ _ s13 st3 (.bl false) (ifF q3))
theorem o_I0 {g : Int → Int → V} {i j : Int} {d : D} (h : dOf (g i j) = some d) (q : Q d O) : O2R c (rI0 g) (.int i) (.int j) O Q := fun F H v w s rv rw x Q' k => by
  cases rv; cases rw; exact ⟨i, j, rfl, rfl, k F H O _ _ (Same.refl F) s (dOf_rep h) q⟩
theorem o_I {C : Int → Int → Prop} {g : Int → Int → V} {i j : Int} {d : D} (hc : C i j) (h : dOf (g i j) = some d) (q : Q d O) : O2R c (rI C g) (.int i) (.int j) O Q := fun F H v w s rv rw x Q' k => by
  cases rv; cases rw; exact ⟨i, j, rfl, rfl, hc, k F H O _ _ (Same.refl F) s (dOf_rep h) q⟩
theorem o_U {g : Int → V} {i : Int} {d : D} (h : dOf (g i) = some d) (q : Q d O) : O1R c (rU g) (.int i) O Q := fun F H v s rv x Q' k => by
  cases rv; exact ⟨i, rfl, k F H O _ _ (Same.refl F) s (dOf_rep h) q⟩
def vOf : D → Option V
  | .non => some .non | .bl b => some (.bl b) | .int i => some (.int i) | .str x => some (.str x) | _ => none
theorem vOf_rep {K : Fr} {F : Hp} {v w : V} {d : D} (h : vOf d = some w) (r : RepD K F v d) : v = w := by
  cases d <;> cases h <;> cases r <;> rfl
theorem o_eq {x y : D} {v w : V} (h1 : vOf x = some v) (h2 : vOf y = some w) (hs : scal v w = true) (q : Q (.bl (decide (v = w))) O) : O2R c rEq x y O Q := fun F H v' w' s rv rw x Q' k => by
  cases vOf_rep h1 rv; cases vOf_rep h2 rw
  exact ⟨hs, k F H O _ _ (Same.refl F) s (.bl _) q⟩
theorem o_ne {x y : D} {v w : V} (h1 : vOf x = some v) (h2 : vOf y = some w) (hs : scal v w = true) (q : Q (.bl (!decide (v = w))) O) : O2R c rNe x y O Q := fun F H v' w' s rv rw x Q' k => by
  cases vOf_rep h1 rv; cases vOf_rep h2 rw
  exact ⟨hs, k F H O _ _ (Same.refl F) s (.bl _) q⟩
def isNon : D → Bool
  | .non => true
  | _ => false
theorem isNon_rep {K : Fr} {F : Hp} {v : V} {d : D} (r : RepD K F v d) : decide (v = .non) = isNon d := by
  cases r <;> first | rfl | exact decide_eq_false (fun z => by cases z)
theorem o_isN {x : D} (q : Q (.bl (isNon x)) O) : O2R c rIsNo x .non O Q := fun F H v w s rv rw x Q' k => by
  cases rw
  refine ⟨rfl, ?_⟩
  rw [isNon_rep rv]
  exact k F H O _ _ (Same.refl F) s (.bl _) q
theorem o_notN {x : D} (q : Q (.bl (!isNon x)) O) : O2R c rNotNo x .non O Q := fun F H v w s rv rw x Q' k => by
  cases rw
  refine ⟨rfl, ?_⟩
  rw [isNon_rep rv]
  exact k F H O _ _ (Same.refl F) s (.bl _) q
theorem reps_atI {K : Fr} {F : Hp} {vs : List V} {xs : List D} {i : Int} {d : D} (r : RepsD K F vs xs) (a : atI xs i = some d) : ∃ v, atI vs i = some v ∧ RepD K F v d := by
  unfold atI at a ⊢
  rw [r.len]
  cases e : ixN xs.length i with
  | none => rw [e] at a; cases a
  | some j =>
    rw [e] at a
    exact r.at' a
theorem o_ixL {K' : Fr} (hK : K' = c.K) {x d : D} {xs : List D} {i : Int} (h : asL O x = some xs) (a : atI xs i = some d) (q : Q d O) : O2R c (rIxL K') x (.int i) O Q := by
  subst hK
  intro F H v w s rv rw x Q' k
  cases rw
  obtain ⟨p, vs, rfl, hp, r⟩ := asL_sq s rv h
  obtain ⟨v, e, rd⟩ := reps_atI r a
  exact ⟨p, vs, i, v, rfl, rfl, .of hp, e, k F H O _ _ (Same.refl F) s rd q⟩
theorem o_ixT {K' : Fr} (hK : K' = c.K) {d : D} {xs : List D} {i : Int} (a : atI xs i = some d) (q : Q d O) : O2R c (rIxT K') (.tup xs) (.int i) O Q := by
  subst hK
  intro F H v w s rv rw x Q' k
  cases rw
  cases rv with
  | tup h r =>
    obtain ⟨v, e, rd⟩ := reps_atI r a
    exact ⟨_, _, i, v, rfl, rfl, sqT_same s.same h, e, k F H O _ _ (Same.refl F) s rd q⟩
theorem r_ixS {K : Fr} {H : Hp} {Q : VK} {x y : V} (h : rIxL K x y H Q ∨ rIxT K x y H Q) : rIx K x y H Q := h.elim .inl fun z => .inr (.inl z)
/-- a list or a tuple -/
theorem o_ixQ {K' : Fr} (hK : K' = c.K) {x d : D} {xs : List D} {i : Int} (h : asS O x = some xs) (a : atI xs i = some d) (q : Q d O) : O2R c (rIx K') x (.int i) O Q := by
  subst hK
  intro F H v w s rv rw x Q' k
  cases rw
  obtain ⟨p, vs, rfl, hp, r⟩ := asS_sq s rv h
  obtain ⟨v, e, rd⟩ := reps_atI r a
  exact r_ixS (hp.elim (fun hp => .inl ⟨p, vs, i, v, rfl, rfl, hp, e, k F H O _ _ (Same.refl F) s rd q⟩) fun hp => .inr ⟨p, vs, i, v, rfl, rfl, hp, e, k F H O _ _ (Same.refl F) s rd q⟩)
def vsOf (xs : List D) : Option (List V) := xs.mapM vOf
theorem vsOf_rep {K : Fr} {F : Hp} : ∀ {xs : List D} {ws vs : List V}, vsOf xs = some ws → RepsD K F vs xs → vs = ws
  | [], ws, vs, h, r => by
    cases r
    have : ws = [] := by simpa [vsOf] using h.symm
    rw [this]
  | x :: xs, ws, vs, h, r => by
    cases r with
    | cons a t =>
      simp only [vsOf, List.mapM_cons, Option.bind_eq_bind, Option.bind_eq_some_iff, Option.pure_def, Option.some.injEq] at h
      obtain ⟨w, h1, ws', h2, h3⟩ := h
      rw [vOf_rep h1 a, vsOf_rep h2 t, h3]
theorem vsOf_ints (ns : List Int) : vsOf (ns.map D.int) = some (ns.map V.int) := by
  induction ns with
  | nil => rfl
  | cons n ns ih =>
    simp only [vsOf, List.map_cons, List.mapM_cons, Option.bind_eq_bind, Option.pure_def] at ih ⊢
    rw [ih]; rfl
theorem o_in {K' : Fr} (hK : K' = c.K) {neg : Bool} {x y : D} {xs : List D} {v : V} {ws : List V} (h : asS O y = some xs) (h1 : vOf x = some v) (h2 : vsOf xs = some ws) (f1 : flatV v = true) (f2 : ws.all flatV = true) (q : Q (.bl (if neg then !inV v ws else inV v ws)) O) : O2R c (rIn K' neg) x y O Q := by
  subst hK
  intro F H v' w' s rv rw x Q' k
  cases vOf_rep h1 rv
  obtain ⟨p, vs, rfl, hp, r⟩ := asS_sq s rw h
  cases vsOf_rep h2 r
  exact ⟨p, _, rfl, hp, f1, f2, k F H O _ _ (Same.refl F) s (.bl _) q⟩
theorem inV_ints {i : Int} (ns : List Int) : inV (.int i) (ns.map V.int) = decide (i ∈ ns) := by
  unfold inV
  rw [List.any_map]
  induction ns with
  | nil => rfl
  | cons n ns ih =>
    rw [List.any_cons, ih]
    show ((n == i) || _) = _
    by_cases e : n = i
    · subst e; simp
    · have : ¬ i = n := fun z => e z.symm
      simp [e, this]
theorem flat_ints (ns : List Int) : (ns.map V.int).all flatV = true := by
  rw [List.all_map]; exact List.all_eq_true.mpr fun _ _ => rfl
theorem o_inI {K' : Fr} (hK : K' = c.K) {x : Int} {y : D} {ns : List Int} (h : asS O y = some (ns.map D.int)) (q : Q (.bl (decide (x ∈ ns))) O) : O2R c (rIn K' false) (.int x) y O Q := by
  subst hK
  exact o_in rfl h rfl (vsOf_ints ns) rfl (flat_ints ns) (by rw [inV_ints]; exact q)
theorem o_niI {K' : Fr} (hK : K' = c.K) {x : Int} {y : D} {ns : List Int} (h : asS O y = some (ns.map D.int)) (q : Q (.bl (!decide (x ∈ ns))) O) : O2R c (rIn K' true) (.int x) y O Q := by
  subst hK
  exact o_in rfl h rfl (vsOf_ints ns) rfl (flat_ints ns) (by rw [inV_ints]; exact q)
theorem o_cat {x y : D} {xs ys : List D} {Q : List D → Oh → Prop} (h1 : asL O x = some xs) (h2 : asL O y = some ys) (hl : xs.length + ys.length ≤ sizeLine) (q : Q (xs ++ ys) O) : O2N c rCat x y O Q := fun F H v w s rv rw x Q' k => by
  obtain ⟨p, vs, rfl, hp, r⟩ := asL_sq s rv h1
  obtain ⟨p', vs', rfl, hp', r'⟩ := asL_sq s rw h2
  exact ⟨p, p', vs, vs', rfl, rfl, hp, hp', by rw [r.len, r'.len]; exact hl, fun a ha => k F H O a _ _ (Same.refl F) s ha (r.append r') q⟩
theorem k_len {K' : Fr} (hK : K' = c.K) {x : D} {xs : List D} (h : asS O x = some xs) (q : Q (.int xs.length) O) : CAR c (rLenQ K') [x] O Q := by
  subst hK
  intro F H vs s r x Q' k
  cases r with
  | cons a t =>
    cases t
    obtain ⟨p, ws, rfl, hp, r⟩ := asS_sq s a h
    refine ⟨p, ws, rfl, hp, ?_⟩
    rw [r.len]
    exact k F H O _ _ (Same.refl F) s (.int _) q
theorem k_int1 {i : Int} (q : Q (.int i) O) : CAR c rInt1 [.int i] O Q := fun F H vs s r x Q' k => by
  cases r with
  | cons a t => cases t; cases a; exact .inl ⟨i, rfl, k F H O _ _ (Same.refl F) s (.int _) q⟩
theorem k_abs {i : Int} (q : Q (.int (if i < 0 then -i else i)) O) : CAR c rAbs [.int i] O Q := fun F H vs s r x Q' k => by
  cases r with
  | cons a t => cases t; cases a; exact ⟨i, rfl, k F H O _ _ (Same.refl F) s (.int _) q⟩
theorem k_gcd {i j : Int} (q : Q (.int ((Nat.gcd i.natAbs j.natAbs : Nat) : Int)) O) : CAR c rGcd [.int i, .int j] O Q := fun F H vs s r x Q' k => by
  cases r with
  | cons a t =>
    cases t with
    | cons b t => cases t; cases a; cases b; exact ⟨i, j, rfl, k F H O _ _ (Same.refl F) s (.int _) q⟩
theorem k_listOf {K' : Fr} (hK : K' = c.K) {x : D} {xs : List D} {Q : List D → Oh → Prop} (h : asS O x = some xs) (q : Q xs O) : CAN c (rListOf K') [x] O Q := by
  subst hK
  intro F H vs s r x Q' k
  cases r with
  | cons a t =>
    cases t
    obtain ⟨p, ws, rfl, hp, r⟩ := asS_sq s a h
    exact ⟨p, ws, rfl, hp, fun l hl => k F H O l ws _ (Same.refl F) s hl r q⟩
/-- tuple(list), tuple(tuple) -/
theorem k_tupOf {K' : Fr} (hK : K' = c.K) {x : D} {xs : List D} (h : asS O x = some xs) (q : Q (.tup xs) O) : CAR c (rTupOf K') [x] O Q := by
  subst hK
  intro F H vs s r z Q' k
  cases r with
  | @cons v d vs ds a t =>
    cases t
    by_cases ht : ∃ ys, x = .tup ys
    · obtain ⟨ys, rfl⟩ := ht
      cases h
      have a' := a
      cases a' with
      | tup hp r => exact ⟨_, _, rfl, .inr ⟨sqT_same s.same hp, k F H O _ _ (Same.refl F) s a q⟩⟩
    · have h' : asL O x = some xs := by
        cases x with
        | tup ys => exact absurd ⟨ys, rfl⟩ ht
        | _ => exact h
      obtain ⟨p, ws, rfl, hp, r⟩ := asL_sq s a h'
      refine ⟨p, ws, rfl, .inl ⟨.of hp, fun l hl => ?_⟩⟩
      have sm : Same F (upd F l (.tup ws)) := MB.Same.upd (s.fresh hl).2
      exact k _ _ O _ _ sm (s.newF hl) (.tup (.of upd_same) (r.mono sm)) q
theorem k_sum {K' : Fr} (hK : K' = c.K) {x : D} {ns : List Int} (h : asL O x = some (ns.map D.int)) (q : Q (.int ns.sum) O) : CAR c (rSum K') [x] O Q := by
  subst hK
  intro F H vs s r x Q' k
  cases r with
  | cons a t =>
    cases t
    obtain ⟨p, ws, rfl, hp, r⟩ := asL_sq s a h
    cases repsD_ints r
    exact ⟨p, ns, rfl, .of hp, k F H O _ _ (Same.refl F) s (.int _) q⟩
theorem k_any {K' : Fr} (hK : K' = c.K) {x : D} {bs : List Bool} (h : asL O x = some (bs.map D.bl)) (q : Q (.bl (bs.any id)) O) : CAR c (rAny K') [x] O Q := by
  subst hK
  intro F H vs s r x Q' k
  cases r with
  | cons a t =>
    cases t
    obtain ⟨p, ws, rfl, hp, r⟩ := asL_sq s a h
    cases repsD_bls r
    exact ⟨p, bs, rfl, .of hp, k F H O _ _ (Same.refl F) s (.bl _) q⟩
theorem k_all {K' : Fr} (hK : K' = c.K) {x : D} {bs : List Bool} (h : asL O x = some (bs.map D.bl)) (q : Q (.bl (bs.all id)) O) : CAR c (rAll K') [x] O Q := by
  subst hK
  intro F H vs s r x Q' k
  cases r with
  | cons a t =>
    cases t
    obtain ⟨p, ws, rfl, hp, r⟩ := asL_sq s a h
    cases repsD_bls r
    exact ⟨p, bs, rfl, .of hp, k F H O _ _ (Same.refl F) s (.bl _) q⟩
end
end VL
set_option maxHeartbeats 2000000
namespace VL
open PySem PySem.Spec PyProof.Rows L2 MB
def KS (K : Fr) (F : Hp) (Q : En → Oh → Prop) (Q' : L2.St → Hp → Prop) : Prop := ∀ (F' H' : Hp) (O' : Oh) (σ' : L2.St) (ρ' : En), Same F F' → RepS K F' σ' ρ' → StO K F' O' H' → Q ρ' O' → Q' σ' H'
theorem KS.mono {K : Fr} {F F' : Hp} {Q : En → Oh → Prop} {Q' : L2.St → Hp → Prop} (k : KS K F Q Q') (s : Same F F') : KS K F' Q Q' := fun F2 H2 O2 σ2 ρ2 s2 => k F2 H2 O2 σ2 ρ2 (s.trans s2)
/-- slots that vs does not name are as they were -/
def KSv (K : Fr) (F : Hp) (σ : L2.St) (vs : List Nat) (Q : En → Oh → Prop) (Q' : L2.St → Hp → Prop) : Prop := ∀ (F' H' : Hp) (O' : Oh) (σ' : L2.St) (ρ' : En), Same F F' → RepS K F' σ' ρ' → StO K F' O' H' → wipe σ' vs = wipe σ vs → Q ρ' O' → Q' σ' H'
def LG (c : Cz) (g : TG) (vs : List Nat) (d : D) (ρ : En) (O : Oh) (Q : En → Oh → Prop) : Prop := ∀ (F H : Hp) (σ : L2.St) (v : V), RepS c.K F σ ρ → StO c.K F O H → RepD c.K F v d → XL c F → ∀ Q', KSv c.K F σ vs Q Q' → g v σ H Q'
def LGs (c : Cz) (g : TGs) (vs : List Nat) (ds : List D) (ρ : En) (O : Oh) (Q : En → Oh → Prop) : Prop := ∀ (F H : Hp) (σ : L2.St) (us : List V), RepS c.K F σ ρ → StO c.K F O H → RepsD c.K F us ds → XL c F → ∀ Q', KSv c.K F σ vs Q Q' → g us σ H Q'
/-- a target of an assignment, of a for -/
def LH (c : Cz) (g : TG) (d : D) (ρ : En) (O : Oh) (Q : En → Oh → Prop) : Prop := ∀ (F H : Hp) (σ : L2.St) (v : V), RepS c.K F σ ρ → StO c.K F O H → RepD c.K F v d → XL c F → ∀ Q', KS c.K F Q Q' → g v σ H Q'
def LHs (c : Cz) (g : TGs) (ds : List D) (ρ : En) (O : Oh) (Q : En → Oh → Prop) : Prop := ∀ (F H : Hp) (σ : L2.St) (us : List V), RepS c.K F σ ρ → StO c.K F O H → RepsD c.K F us ds → XL c F → ∀ Q', KS c.K F Q Q' → g us σ H Q'
/-- a store -/
def TSR (c : Cz) (t : TSet) (o i d : D) (O : Oh) (Q : Oh → Prop) : Prop := ∀ (F H : Hp) (u v w : V), StO c.K F O H → RepD c.K F u o → RepD c.K F v i → RepD c.K F w d → XL c F → ∀ Q' : Hp → Prop, (∀ F' H' O', Same F F' → StO c.K F' O' H' → Q O' → Q' H') → t u v w H Q'
/-- what is wanted behind -/
structure EnL where
  nx : En → Oh → Prop
  rt : D → Oh → Prop
  bk : En → Oh → Prop := fun _ _ => False
  ct : En → Oh → Prop := fun _ _ => False
structure Lift (K : Fr) (F : Hp) (E : EnL) (Dd : Ends) : Prop where
  nx : KS K F E.nx Dd.nx
  rt : KQ K F E.rt Dd.rt
  bk : KS K F E.bk Dd.bk
  ct : KS K F E.ct Dd.ct
theorem Lift.mono {K : Fr} {F F' : Hp} {E : EnL} {Dd : Ends} (l : Lift K F E Dd) (s : Same F F') : Lift K F' E Dd := ⟨l.nx.mono s, l.rt.mono s, l.bk.mono s, l.ct.mono s⟩
def LS (c : Cz) (ts : TS) (E : EnL) (ρ : En) (O : Oh) : Prop := ∀ (F H : Hp) (σ : L2.St), RepS c.K F σ ρ → StO c.K F O H → XL c F → ∀ Dd, Lift c.K F E Dd → ts Dd σ H
section
variable {c : Cz} {ρ : En} {O : Oh} {E : EnL} {Q : En → Oh → Prop} {d : D}
theorem wipe_set {σ : L2.St} {i : Nat} {x : Option V} : ∀ {vs : List Nat}, i ∈ vs → wipe (σ.set i x) vs = wipe σ vs
  | [], h => by cases h
  | v :: vs, h => by
    show (wipe (σ.set i x) vs).set v none = (wipe σ vs).set v none
    by_cases hv : i ∈ vs
    · rw [wipe_set hv]
    · have hi : i = v := (List.mem_cons.mp h).elim id fun z => absurd z hv
      subst hi
      exact out hv
where
  out {σ : L2.St} {i : Nat} {x : Option V} : ∀ {vs : List Nat}, i ∉ vs → (wipe (σ.set i x) vs).set i none = (wipe σ vs).set i none
  | [], h => by show (σ.set i x).set i none = σ.set i none; rw [List.set_set]
  | w :: vs, h => by
    have hw : i ≠ w := fun z => h (z ▸ List.mem_cons_self ..)
    have hs : i ∉ vs := fun z => h (List.mem_cons_of_mem _ z)
    show ((wipe (σ.set i x) vs).set w none).set i none = ((wipe σ vs).set w none).set i none
    rw [List.set_comm _ _ (Ne.symm hw), List.set_comm _ _ (Ne.symm hw), out hs]
theorem g_name {i : Nat} {vs : List Nat} (hi : i ∈ vs) (q : Q (ρ.set i (some d)) O) : LG c (gName i) vs d ρ O Q := fun F H σ v rs s rd x Q' k =>
  k F H O _ _ (Same.refl F) (rs.set i rd) s (wipe_set hi) q
theorem g_nil {vs : List Nat} (q : Q ρ O) : LGs c gNil vs [] ρ O Q := fun F H σ us rs s rd x Q' k => by
  cases rd; exact ⟨rfl, k F H O _ _ (Same.refl F) rs s rfl q⟩
theorem g_cons {g : TG} {gs : TGs} {ds : List D} {vs : List Nat} (q : LG c g vs d ρ O fun ρ1 O1 => LGs c gs vs ds ρ1 O1 Q) : LGs c (gCons g gs) vs (d :: ds) ρ O Q := fun F H σ us rs s rd x Q' k => by
  cases rd with
  | cons a t => exact ⟨_, _, rfl, q F H σ _ rs s a x _ fun F1 H1 O1 σ1 ρ1 s1 rs1 st1 w1 q1 => q1 F1 H1 σ1 _ rs1 st1 (t.mono s1) (x.mono s1) Q' fun F2 H2 O2 σ2 ρ2 s2 rs2 st2 w2 => k F2 H2 O2 σ2 ρ2 (s1.trans s2) rs2 st2 (w2.trans w1)⟩
theorem g_tup {K' : Fr} (hK : K' = c.K) {n : Nat} {gs : TGs} {ds : List D} {vs : List Nat} (hl : ds.length = n) (q : LGs c gs vs ds ρ O Q) : LG c (gTup K' n gs) vs (.tup ds) ρ O Q := by
  subst hK
  intro F H σ v rs s rd x Q' k
  cases rd with
  | tup h r => exact ⟨_, _, rfl, sqT_same s.same h, r.len.trans hl, q F H σ _ rs s r x Q' k⟩
theorem h_name {i : Nat} (q : Q (ρ.set i (some d)) O) : LH c (gName i) d ρ O Q := fun F H σ v rs s rd x Q' k =>
  k F H O _ _ (Same.refl F) (rs.set i rd) s q
theorem h_nil (q : Q ρ O) : LHs c gNil [] ρ O Q := fun F H σ us rs s rd x Q' k => by
  cases rd; exact ⟨rfl, k F H O _ _ (Same.refl F) rs s q⟩
theorem h_cons {g : TG} {gs : TGs} {ds : List D} (q : LH c g d ρ O fun ρ1 O1 => LHs c gs ds ρ1 O1 Q) : LHs c (gCons g gs) (d :: ds) ρ O Q := fun F H σ us rs s rd x Q' k => by
  cases rd with
  | cons a t => exact ⟨_, _, rfl, q F H σ _ rs s a x _ fun F1 H1 O1 σ1 ρ1 s1 rs1 st1 q1 => q1 F1 H1 σ1 _ rs1 st1 (t.mono s1) (x.mono s1) Q' (k.mono s1)⟩
theorem h_tup {K' : Fr} (hK : K' = c.K) {n : Nat} {gs : TGs} {ds : List D} (hl : ds.length = n) (q : LHs c gs ds ρ O Q) : LH c (gTup K' n gs) (.tup ds) ρ O Q := by
  subst hK
  intro F H σ v rs s rd x Q' k
  cases rd with
  | tup h r => exact ⟨_, _, rfl, sqT_same s.same h, r.len.trans hl, q F H σ _ rs s r x Q' k⟩
theorem h_sub {to ti : TE} {t : TSet} (q : LE c to ρ O fun o O1 => LE c ti ρ O1 fun i O2 => TSR c t o i d O2 fun O3 => Q ρ O3) : LH c (gSub to ti t) d ρ O Q := fun F H σ v rs s rd x Q' k =>
  q F H σ rs s x _ fun F1 H1 O1 u o s1 st1 rd1 q1 => q1 F1 H1 σ (rs.mono s1) st1 (x.mono s1) _ fun F2 H2 O2 w i s2 st2 rd2 q2 =>
    q2 F2 H2 u w v st2 (rd1.mono s2) rd2 (rd.mono (s1.trans s2)) (x.mono (s1.trans s2)) _ fun F3 H3 O3 s3 st3 q3 => k F3 H3 O3 σ ρ ((s1.trans s2).trans s3) (rs.mono ((s1.trans s2).trans s3)) st3 q3
theorem t_setL {p : Addr} {xs : List D} {i : Int} {j : Nat} {Q : Oh → Prop} (h : O p = some (.lst xs)) (e : ixN xs.length i = some j) (q : Q (updO O p (.lst (xs.set j d)))) : TSR c rSetL (.ref p) (.int i) d O Q := fun F H u v w s ru rv rw x Q' k => by
  cases ru; cases rv
  obtain ⟨_, vs, h1, h2⟩ := s.own p _ h
  exact ⟨p, vs, i, j, rfl, rfl, h1, by rw [h2.len]; exact e, k F _ _ (Same.refl F) (s.write (o' := .lst (xs.set j d)) h ⟨_, upd_same, RepsD.set rw j h2⟩) q⟩
theorem LS.imp {ts : TS} {E' : EnL} (h : LS c ts E ρ O) (nx : ∀ ρ O, E.nx ρ O → E'.nx ρ O) (rt : ∀ v O, E.rt v O → E'.rt v O) (bk : ∀ ρ O, E.bk ρ O → E'.bk ρ O) (ct : ∀ ρ O, E.ct ρ O → E'.ct ρ O) : LS c ts E' ρ O := fun F H σ rs s x Dd l =>
  h F H σ rs s x Dd ⟨fun F' H' O' σ' ρ' a b d e => l.nx F' H' O' σ' ρ' a b d (nx _ _ e), fun F' H' O' v y a b d e => l.rt F' H' O' v y a b d (rt _ _ e), fun F' H' O' σ' ρ' a b d e => l.bk F' H' O' σ' ρ' a b d (bk _ _ e), fun F' H' O' σ' ρ' a b d e => l.ct F' H' O' σ' ρ' a b d (ct _ _ e)⟩
theorem s_seq {t u : TS} (q : LS c t { E with nx := fun ρ1 O1 => LS c u E ρ1 O1 } ρ O) : LS c (tSeq t u) E ρ O := fun F H σ rs s x Dd l =>
  q F H σ rs s x _ ⟨fun F1 H1 O1 σ1 ρ1 s1 rs1 st1 q1 => q1 F1 H1 σ1 rs1 st1 (x.mono s1) Dd (l.mono s1), l.rt, l.bk, l.ct⟩
/-- what follows is shown once, from P -/
theorem s_cut {t u : TS} (P : En → Oh → Prop) (q : LS c t { E with nx := P } ρ O) (k : ∀ ρ O, P ρ O → LS c u E ρ O) : LS c (tSeq t u) E ρ O :=
  s_seq (LS.imp q k (fun _ _ z => z) (fun _ _ z => z) (fun _ _ z => z))
theorem s_next (q : E.nx ρ O) : LS c tNext E ρ O := fun F H σ rs s x Dd l => l.nx F H O σ ρ (Same.refl F) rs s q
theorem s_break (q : E.bk ρ O) : LS c tBreak E ρ O := fun F H σ rs s x Dd l => l.bk F H O σ ρ (Same.refl F) rs s q
theorem s_cont (q : E.ct ρ O) : LS c tCont E ρ O := fun F H σ rs s x Dd l => l.ct F H O σ ρ (Same.refl F) rs s q
theorem s_asg {te : TE} {g : TG} (q : LE c te ρ O fun d O1 => LH c g d ρ O1 E.nx) : LS c (tAsg te g) E ρ O := fun F H σ rs s x Dd l =>
  q F H σ rs s x _ fun F1 H1 O1 v d s1 st1 rd1 q1 => q1 F1 H1 σ v (rs.mono s1) st1 rd1 (x.mono s1) _ (l.nx.mono s1)
theorem s_ret {te : TE} (q : LE c te ρ O E.rt) : LS c (tRet te) E ρ O := fun F H σ rs s x Dd l => q F H σ rs s x _ l.rt
theorem s_retN (q : E.rt .non O) : LS c tRetN E ρ O := fun F H σ rs s x Dd l => l.rt F H O .non .non (Same.refl F) s .non q
theorem s_drop {te : TE} (q : LE c te ρ O fun _ O1 => E.nx ρ O1) : LS c (tDrop te) E ρ O := fun F H σ rs s x Dd l =>
  q F H σ rs s x _ fun F1 H1 O1 v d s1 st1 rd1 q1 => l.nx F1 H1 O1 σ ρ s1 (rs.mono s1) st1 q1
theorem s_if {t : TT} {u w : TS} (q : LT c t ρ O fun b O1 => if b = true then LS c u E ρ O1 else LS c w E ρ O1) : LS c (tIfS t u w) E ρ O := fun F H σ rs s x Dd l =>
  q F H σ rs s x _ fun F1 H1 O1 b s1 st1 q1 => by
    cases b with
    | true => exact iteT ((ifT q1) F1 H1 σ (rs.mono s1) st1 (x.mono s1) _ (l.mono s1))
    | false => exact iteF ((ifF q1) F1 H1 σ (rs.mono s1) st1 (x.mono s1) _ (l.mono s1))
theorem s_par {i j : Nat} {ta : TA} (q : LA c ta ρ O fun ds O1 => ∃ a b, ds = [a, b] ∧ E.nx ((ρ.set i (some a)).set j (some b)) O1) : LS c (tPar i j ta) E ρ O := fun F H σ rs s x Dd l =>
  q F H σ rs s x _ fun F1 H1 O1 vs ds s1 st1 rd1 ⟨a, b, e, q1⟩ => by
    subst e
    cases rd1 with
    | cons ra t =>
      cases t with
      | cons rb t =>
        cases t
        exact ⟨_, _, rfl, l.nx F1 H1 O1 _ _ s1 (((rs.mono s1).set i ra).set j rb) st1 q1⟩
def IPR (c : Cz) (t : TIp) (x y : D) (O : Oh) (Q : D → Oh → Prop) : Prop := ∀ (F H : Hp) (v w : V), StO c.K F O H → RepD c.K F v x → RepD c.K F w y → XL c F → ∀ Q' : VK, KQ c.K F Q Q' → t v w H Q'
theorem s_aug {i : Nat} {te : TE} {ti : TIp} (h : ρ[i]? = some (some d)) (q : LE c te ρ O fun y O1 => IPR c ti d y O1 fun z O2 => E.nx (ρ.set i (some z)) O2) : LS c (tAug i te ti) E ρ O := fun F H σ rs s x Dd l => by
  obtain ⟨v, e, rd⟩ := rs.2 i d h
  exact ⟨v, e, q F H σ rs s x _ fun F1 H1 O1 w y s1 st1 rd1 q1 => q1 F1 H1 v w st1 (rd.mono s1) rd1 (x.mono s1) _ fun F2 H2 O2 u z s2 st2 rd2 q2 => l.nx F2 H2 O2 _ _ (s1.trans s2) ((rs.mono (s1.trans s2)).set i rd2) st2 q2⟩
/-- an owned list stays from here on, by the slot that holds it -/
theorem s_freeze {ts : TS} {i : Nat} {p : Addr} {xs : List D} (h : ρ[i]? = some (some (.ref p))) (ho : O p = some (.lst xs)) (q : LS c ts E (ρ.set i (some (.lst xs))) (delO O p)) : LS c ts E ρ O := fun F H σ rs s x Dd l => by
  obtain ⟨F', sm, st, rd⟩ := s.freeze ho
  refine q F' H σ ?_ st (x.mono sm) Dd (l.mono sm)
  have r2 := (rs.mono sm).set i rd
  obtain ⟨v, e, rv⟩ := rs.2 i _ h
  cases rv
  rwa [show σ.set i (some (.ref p)) = σ from ?_] at r2
  exact List.set_getElem?_self e
where
  List.set_getElem?_self {σ : L2.St} {i : Nat} {x : Option V} (e : σ[i]? = some x) : σ.set i x = σ := by
    obtain ⟨hl, e⟩ := List.getElem?_eq_some_iff.mp e
    subst e
    exact List.set_getElem_self hl
theorem l_freeze {te : TE} {Q : D → Oh → Prop} (q : LE c te ρ O fun d O1 => ∃ p xs, d = .ref p ∧ O1 p = some (.lst xs) ∧ Q (.lst xs) (delO O1 p)) : LE c te ρ O Q := fun F H σ rs s x Q' k =>
  q F H σ rs s x _ fun F1 H1 O1 v d s1 st1 rd1 ⟨p, xs, e, ho, q1⟩ => by
    subst e; cases rd1
    obtain ⟨F', sm, st, rd⟩ := st1.freeze ho
    exact k F' H1 _ _ _ (s1.trans sm) st rd q1
end
structure DW (K : Fr) (F : Hp) (J : It) (ds : List D) (G : Oh → Prop) : Prop where
  ex : ∃ (Gh : Hp → Prop) (Yh : Nat → Hp → V → Hp → Prop), Walk J ds.length Gh Yh ∧ (∀ (F' H' : Hp) (O' : Oh), Same F F' → StO K F' O' H' → G O' → Gh H') ∧
    ∀ (i : Nat) (F' H' : Hp) (O' : Oh) (x : V) (H2 : Hp), Same F F' → StO K F' O' H' → G O' → i < ds.length → Yh i H' x H2 → ∃ F2 d, Same F' F2 ∧ StO K F2 O' H2 ∧ RepD K F2 x d ∧ ds[i]? = some d
def LI (c : Cz) (ti : TI) (ρ : En) (O : Oh) (Q : List D → (Oh → Prop) → Oh → Prop) : Prop := ∀ (F H : Hp) (σ : L2.St), RepS c.K F σ ρ → StO c.K F O H → XL c F → ∀ Q' : It → Hp → Prop,
  (∀ (F' H' : Hp) (O' : Oh) (J : It) (ds : List D) (G : Oh → Prop), Same F F' → StO c.K F' O' H' → DW c.K F' J ds G → Q ds G O' → Q' J H') → ti σ H Q'
section
variable {c : Cz} {ρ : En} {O : Oh} {Q : List D → (Oh → Prop) → Oh → Prop}
theorem dw_list {K : Fr} {F H : Hp} {x : D} {xs : List D} {vs : List V} {p : Addr} {O : Oh} (s : StO K F O H) (rv : RepD K F (.ref p) x) (h : asL O x = some xs) : DW K F (Itl K p) xs (fun O' => asL O' x = some xs) := by
  obtain ⟨p', vs, e, hp, r⟩ := asL_sq s rv h
  cases e
  refine ⟨fun H' => ∃ vs', H' p = some (.lst vs') ∧ vs'.length = xs.length, fun i H' y H2 => H2 = H' ∧ ∀ vs', H' p = some (.lst vs') → vs'[i]? = some y, ?_, ?_⟩
  · exact ⟨fun i H' hi ⟨vs', a, b⟩ => ⟨vs', vs'[i]'(by omega), .of a, by simp [show i < vs'.length by omega]⟩, fun H' ⟨vs', a, b⟩ => ⟨vs', .of a, by omega⟩, fun i H' y H2 hi q y' => ⟨y'.1, fun vs' a => y'.2 vs' (.of a)⟩⟩
  · refine ⟨fun F' H' O' s1 st1 g => ?_, fun i F' H' O' y H2 s1 st1 g hi yy => ?_⟩
    · obtain ⟨p', vs', e, hp', r'⟩ := asL_sq st1 (rv.mono s1) g
      cases e
      exact ⟨vs', hp', r'.len⟩
    · obtain ⟨p', vs', e, hp', r'⟩ := asL_sq st1 (rv.mono s1) g
      cases e
      obtain ⟨rfl, yy⟩ := yy
      obtain ⟨d, e1, e2⟩ := r'.at (yy vs' hp')
      exact ⟨F', d, Same.refl _, st1, e2, e1⟩
theorem i_list {K' : Fr} (hK : K' = c.K) {tl : TE} (q : LE c tl ρ O fun x O1 => ∃ xs, asL O1 x = some xs ∧ Q xs (fun O2 => asL O2 x = some xs) O1) : LI c (iList K' tl) ρ O Q := by
  subst hK
  intro F H σ rs s z Q' k
  exact
    q F H σ rs s z _ fun F1 H1 O1 v x s1 st1 rd1 ⟨xs, h, q1⟩ => by
      obtain ⟨p, vs, e, hp, r⟩ := asL_sq st1 rd1 h
      subst e
      exact ⟨p, rfl, ⟨vs, .of hp⟩, k F1 H1 O1 _ xs _ s1 st1 (dw_list (vs := vs) st1 rd1 h) q1⟩
theorem i_tup {K' : Fr} (hK : K' = c.K) {tl : TE} (q : LE c tl ρ O fun x O1 => ∃ xs, x = .tup xs ∧ Q xs (fun _ => True) O1) : LI c (iTup K' tl) ρ O Q := by
  subst hK
  intro F H σ rs s z Q' k
  exact
    q F H σ rs s z _ fun F1 H1 O1 v x s1 st1 rd1 ⟨xs, e, q1⟩ => by
      subst e
      cases rd1 with
      | @tup p vs _ h r =>
        refine ⟨p, rfl, ⟨vs, sqT_same st1.same h⟩, k F1 H1 O1 _ xs _ s1 st1 ⟨fun H' => SqT c.K H' p vs, YAt vs, ?_, ?_⟩ q1⟩
        · rw [← r.len]; exact walk_tup
        · refine ⟨fun F' H' O' s2 st2 _ => sqT_same st2.same (sqT_same s2 h), fun i F' H' O' y H2 s2 st2 _ hi ⟨e1, e2⟩ => ?_⟩
          subst e1
          obtain ⟨d, e3, e4⟩ := (r.mono s2).at e2
          exact ⟨F', d, Same.refl _, st2, e4, e3⟩
def rngD (lo : Int) (n : Nat) : List D := (List.range n).map fun (k : Nat) => D.int (lo + k)
theorem rngD_len (lo : Int) (n : Nat) : (rngD lo n).length = n := by unfold rngD; simp
theorem rngD_at {lo : Int} {n i : Nat} {d : D} (h : (rngD lo n)[i]? = some d) : i < n ∧ d = .int (lo + i) := by
  unfold rngD at h
  rw [List.getElem?_map] at h
  by_cases hi : i < n
  · rw [List.getElem?_range hi] at h
    cases h; exact ⟨hi, rfl⟩
  · rw [List.getElem?_eq_none (by simpa using Nat.le_of_not_lt hi)] at h
    cases h
theorem dw_range {K : Fr} {F : Hp} (lo : Int) (n : Nat) : DW K F (Itr lo n) (rngD lo n) (fun _ => True) := by
  refine ⟨fun _ => True, YFn fun i => .int (lo + i), by rw [rngD_len]; exact walk_range, fun _ _ _ _ _ _ => trivial, fun i F' H' O' y H2 s2 st2 _ hi ⟨e1, e2⟩ => ?_⟩
  subst e1 e2
  rw [rngD_len] at hi
  exact ⟨F', .int (lo + i), Same.refl _, st2, .int _, by unfold rngD; rw [List.getElem?_map, List.getElem?_range hi]; rfl⟩
theorem i_rng1 {ta : TA} (q : LA c ta ρ O fun ds O1 => ∃ j : Int, ds = [.int j] ∧ (-(2 ^ 62) ≤ j ∧ j < 2 ^ 62) ∧ Q (rngD 0 j.toNat) (fun _ => True) O1) : LI c (iRng1 ta) ρ O Q := fun F H σ rs s z Q' k =>
  q F H σ rs s z _ fun F1 H1 O1 vs ds s1 st1 rd1 ⟨j, e, b, q1⟩ => by
    subst e
    cases rd1 with
    | cons a t => cases t; cases a; exact ⟨j, rfl, b.1, b.2, k F1 H1 O1 _ _ _ s1 st1 (dw_range 0 j.toNat) q1⟩
theorem i_rng2 {ta : TA} (q : LA c ta ρ O fun ds O1 => ∃ i j : Int, ds = [.int i, .int j] ∧ (-(2 ^ 62) ≤ i ∧ i < 2 ^ 62 ∧ -(2 ^ 62) ≤ j ∧ j < 2 ^ 62) ∧ Q (rngD i (j - i).toNat) (fun _ => True) O1) : LI c (iRng2 ta) ρ O Q := fun F H σ rs s z Q' k =>
  q F H σ rs s z _ fun F1 H1 O1 vs ds s1 st1 rd1 ⟨i, j, e, b, q1⟩ => by
    subst e
    cases rd1 with
    | cons a t =>
      cases t with
      | cons a' t => cases t; cases a; cases a'; exact ⟨i, j, rfl, b, k F1 H1 O1 _ _ _ s1 st1 (dw_range i (j - i).toNat) q1⟩
theorem s_for {E : EnL} {wi : TI} {g : TG} {tb : TS} (q : LI c wi ρ O fun ds G O1 => ∃ P : Nat → En → Oh → Prop, P 0 ρ O1 ∧ (∀ i ρ O, P i ρ O → G O) ∧
      (∀ i d ρ O, ds[i]? = some d → P i ρ O → LH c g d ρ O fun ρ2 O2 => LS c tb { nx := P (i + 1), rt := E.rt, bk := E.nx, ct := P (i + 1) } ρ2 O2) ∧ ∀ ρ O, P ds.length ρ O → E.nx ρ O) : LS c (tFor wi g tb) E ρ O := fun F H σ rs s z Dd l =>
  q F H σ rs s z _ fun F1 H1 O1 J ds G s1 st1 dw ⟨P, p0, pG, ps, pd⟩ => by
    obtain ⟨Gh, Yh, w, hG, hY⟩ := dw.ex
    refine for_it w (fun i σ' H' => ∃ F' O' ρ', Same F1 F' ∧ RepS c.K F' σ' ρ' ∧ StO c.K F' O' H' ∧ P i ρ' O') ⟨F1, O1, ρ, Same.refl _, rs.mono s1, st1, p0⟩ ?_ ?_ ?_
    · rintro i σ' H' _ ⟨F', O', ρ', a, b, d, e⟩
      exact hG F' H' O' a d (pG _ _ _ e)
    · rintro i x σ' H' H2 hi ⟨F', O', ρ', a, b, d, e⟩ y
      obtain ⟨F2, x', s2, st2, rx, ex⟩ := hY i F' H' O' x H2 a d (pG _ _ _ e) hi y
      have s12 := (s1.trans a).trans s2
      refine ps i x' ρ' O' ex e F2 H2 σ' x (b.mono s2) st2 rx (z.mono s12) _ fun F3 H3 O3 σ3 ρ3 s3 rs3 st3 q3 => ?_
      have s13 := s12.trans s3
      refine q3 F3 H3 σ3 rs3 st3 (z.mono s13) _ ⟨?_, l.rt.mono s13, l.nx.mono s13, ?_⟩
      · exact fun F4 H4 O4 σ4 ρ4 s4 rs4 st4 q4 => ⟨F4, O4, ρ4, ((a.trans s2).trans s3).trans s4, rs4, st4, q4⟩
      · exact fun F4 H4 O4 σ4 ρ4 s4 rs4 st4 q4 => ⟨F4, O4, ρ4, ((a.trans s2).trans s3).trans s4, rs4, st4, q4⟩
    · rintro σ' H' ⟨F', O', ρ', a, b, d, e⟩
      exact l.nx F' H' O' σ' ρ' (s1.trans a) b d (pd _ _ e)
theorem s_while {E : EnL} {t : TT} {tb : TS} (P : Nat → En → Oh → Prop) (h0 : ∃ m, P m ρ O) (hs : ∀ m ρ O, P m ρ O → LT c t ρ O fun b O1 => if b = true then LS c tb { nx := fun ρ2 O2 => ∃ m', m' < m ∧ P m' ρ2 O2, rt := E.rt, bk := E.nx, ct := fun ρ2 O2 => ∃ m', m' < m ∧ P m' ρ2 O2 } ρ O1 else E.nx ρ O1) :
    LS c (tWhile t tb) E ρ O := fun F H σ rs s z Dd l => by
  obtain ⟨m0, p0⟩ := h0
  refine ⟨fun m σ' H' => ∃ F' O' ρ', Same F F' ∧ RepS c.K F' σ' ρ' ∧ StO c.K F' O' H' ∧ P m ρ' O', ⟨m0, F, O, ρ, Same.refl _, rs, s, p0⟩, ?_⟩
  rintro m σ' H' ⟨F', O', ρ', a, b, d, e⟩
  refine hs m ρ' O' e F' H' σ' b d (z.mono a) _ fun F1 H1 O1 k s1 st1 q1 => ?_
  have s2 := a.trans s1
  cases k with
  | false => exact iteF (l.nx F1 H1 O1 σ' ρ' s2 (b.mono s1) st1 (ifF q1))
  | true =>
    refine iteT ⟨fun σ4 H4 => ∃ m', m' < m ∧ ∃ F4 O4 ρ4, Same F F4 ∧ RepS c.K F4 σ4 ρ4 ∧ StO c.K F4 O4 H4 ∧ P m' ρ4 O4, fun _ _ h => h, ?_⟩
    refine (ifT q1) F1 H1 σ' (b.mono s1) st1 (z.mono s2) _ ⟨?_, l.rt.mono s2, l.nx.mono s2, ?_⟩
    · exact fun F4 H4 O4 σ4 ρ4 s4 rs4 st4 ⟨m', h1, h2⟩ => ⟨m', h1, F4, O4, ρ4, s2.trans s4, rs4, st4, h2⟩
    · exact fun F4 H4 O4 σ4 ρ4 s4 rs4 st4 ⟨m', h1, h2⟩ => ⟨m', h1, F4, O4, ρ4, s2.trans s4, rs4, st4, h2⟩
def wipeE (ρ : En) : List Nat → En
  | [] => ρ
  | v :: vs => (wipeE ρ vs).set v none
theorem repS_wipe {K : Fr} {F : Hp} {σ : L2.St} {ρ : En} (h : RepS K F σ ρ) : ∀ vs : List Nat, RepS K F (wipe σ vs) (wipeE ρ vs)
  | [] => h
  | v :: vs => (repS_wipe h vs).forget v none
theorem wipe_wipe (σ : L2.St) (vs : List Nat) : wipe (wipe σ vs) vs = wipe σ vs := by
  have : ∀ us : List Nat, (∀ u ∈ us, u ∈ vs) → wipe (wipe σ us) vs = wipe σ vs := by
    intro us
    induction us with
    | nil => intro _; rfl
    | cons u us ih =>
      intro h
      show wipe ((wipe σ us).set u none) vs = wipe σ vs
      rw [wipe_set (h u (List.mem_cons_self ..)), ih fun w hw => h w (List.mem_cons_of_mem _ hw)]
  exact this vs fun _ h => h
theorem StO.cut {K : Fr} {F H : Hp} {L : Addr} {xs : List D} (s : StO K F O H) (h : O L = some (.lst xs)) : ∃ us, RepsD K F us xs ∧ StO K F (delO O L) (L2.del H L) ∧ L2.del H L L = none ∧ H = upd (L2.del H L) L (.lst us) := by
  obtain ⟨f, us, h1, h2⟩ := s.own L _ h
  refine ⟨us, h2, ⟨fun b o e => ?_, fun a o e => ?_⟩, ?_, ?_⟩
  · rw [del_ne (ne_of_none e f)]; exact s.same b o e
  · have ne : a ≠ L := fun y => by subst y; rw [delO_same] at e; cases e
    rw [delO_ne ne] at e
    exact ⟨(s.own a o e).1, (s.own a o e).2.move (Same.refl _) (del_ne ne)⟩
  · unfold L2.del; rw [if_pos rfl]
  · funext b
    by_cases hb : b = L
    · subst hb; rw [upd_same, h1]
    · rw [upd_ne hb, del_ne hb]
theorem ln_lc {wi : TI} {g : TG} {tt : TT} {te : TE} {vs : List Nat} {Q : List D → Oh → Prop}
    (q : LI c wi ρ O fun ds G O1 => ∀ L, O1 L = none → ∃ P : Nat → List D → Oh → Prop, P 0 [] (updO O1 L (.lst [])) ∧ (∀ i acc O, P i acc O → G O ∧ O L = some (.lst acc)) ∧
      (∀ i d acc O, ds[i]? = some d → P i acc O → LG c g vs d (wipeE ρ vs) O fun ρ2 O2 => LT c tt ρ2 O2 fun b O3 => if b = true then LE c te ρ2 O3 fun y O4 => acc.length < sizeLine ∧ O4 L = some (.lst acc) ∧ P (i + 1) (acc ++ [y]) (updO O4 L (.lst (acc ++ [y]))) else P (i + 1) acc O3) ∧
      ∀ acc O, P ds.length acc O → Q acc (delO O L)) : LN c (tLc wi g tt te vs) ρ O Q := fun F H σ rs s z Q' k =>
  q F H σ rs s z _ fun F1 H1 O1 J ds G s1 st1 dw q1 => by
    intro L hL
    obtain ⟨P, p0, pG, ps, pd⟩ := q1 L (st1.fresh hL).1
    obtain ⟨Gh, Yh, w, hG, hY⟩ := dw.ex
    refine lc_it w (fun i H' => ∃ F' O' acc, Same F1 F' ∧ StO c.K F' O' H' ∧ P i acc O') ⟨F1, _, [], Same.refl _, st1.newO (o := .lst []) hL ⟨[], upd_same, .nil⟩, p0⟩ ?_ ?_ ?_
    · rintro i H' _ ⟨F', O', acc, a, b, p⟩
      exact hG F' H' O' a b (pG _ _ _ p).1
    · rintro i x H' H2 hi ⟨F', O', acc, a, b, p⟩ y
      obtain ⟨F2, x', s2, st2, rx, ex⟩ := hY i F' H' O' x H2 a b (pG _ _ _ p).1 hi y
      have s12 := (s1.trans a).trans s2
      refine ps i x' acc O' ex p F2 H2 _ x (repS_wipe (rs.mono s12) vs) st2 rx (z.mono s12) _ fun F3 H3 O3 σ3 ρ3 s3 rs3 st3 w3 q3 => ⟨w3.trans (wipe_wipe σ vs), ?_⟩
      refine q3 F3 H3 σ3 rs3 st3 (z.mono (s12.trans s3)) _ fun F4 H4 O4 b4 s4 st4 q4 => ?_
      cases b4 with
      | false => exact iteF ⟨F4, O4, acc, ((a.trans s2).trans s3).trans s4, st4, ifF q4⟩
      | true =>
        refine iteT ((ifT q4) F4 H4 σ3 (rs3.mono s4) st4 (z.mono ((s12.trans s3).trans s4)) _ fun F5 H5 O5 v5 y5 s5 st5 rd5 ⟨hz, ho, q5⟩ => ?_)
        obtain ⟨_, us, h1, h2⟩ := st5.own L _ ho
        exact ⟨us, h1, by rw [h2.len]; exact hz, F5, _, _, (((a.trans s2).trans s3).trans s4).trans s5, st5.write (o' := .lst (acc ++ [y5])) ho ⟨_, upd_same, h2.append (.cons rd5 .nil)⟩, q5⟩
    · rintro H' ⟨F', O', acc, a, b, p⟩
      obtain ⟨us, r, st, hn, e⟩ := b.cut (pG _ _ _ p).2
      rw [e]
      exact k F' _ _ L us acc (s1.trans a) st hn r (pd _ _ p)
/-- a comprehension that leaves what is owned as it is -/
theorem ln_lcP {wi : TI} {g : TG} {tt : TT} {te : TE} {vs : List Nat} {Q : List D → Oh → Prop} (keep : D → Bool) (f : D → D)
    (q : LI c wi ρ O fun ds G O1 => ds.length ≤ sizeLine ∧ (∀ L acc, O1 L = none → G (updO O1 L (.lst acc))) ∧
      (∀ (i : Nat) (d : D) (L : Addr) (acc : List D), ds[i]? = some d → O1 L = none → LG c g vs d (wipeE ρ vs) (updO O1 L (.lst acc)) fun ρ2 O2 => LT c tt ρ2 O2 fun b O3 => (b = keep d ∧ O3 = updO O1 L (.lst acc)) ∧ (keep d = true → LE c te ρ2 O3 fun y O4 => y = f d ∧ O4 = updO O1 L (.lst acc))) ∧
      Q ((ds.filter keep).map f) O1) : LN c (tLc wi g tt te vs) ρ O Q := ln_lc fun F H σ rs s z Q' k => q F H σ rs s z Q' fun F1 H1 O1 J ds G s1 st1 dw ⟨hl, hG, hs, hd⟩ => k F1 H1 O1 J ds G s1 st1 dw fun L hL => by
    refine ⟨fun i acc O2 => acc = ((ds.take i).filter keep).map f ∧ O2 = updO O1 L (.lst acc), ⟨rfl, rfl⟩, ?_, ?_, ?_⟩
    · rintro i acc O2 ⟨_, rfl⟩
      exact ⟨hG L acc hL, updO_same⟩
    · rintro i d acc O2 e ⟨ea, rfl⟩
      have hi : i < ds.length := (List.getElem?_eq_some_iff.mp e).1
      have et : ds.take (i + 1) = ds.take i ++ [d] := by rw [List.take_add_one, e]; rfl
      have hal : acc.length < sizeLine := by
        rw [ea, List.length_map]
        have h1 := List.length_filter_le keep (ds.take i)
        have h2 : (ds.take i).length = i := by rw [List.length_take]; omega
        omega
      intro F3 H3 σ3 v3 rs3 st3 rv3 z3 Q3 k3
      refine hs i d L acc e hL F3 H3 σ3 v3 rs3 st3 rv3 z3 Q3 fun F4 H4 O4 σ4 ρ4 s4 rs4 st4 w4 q4 => k3 F4 H4 O4 σ4 ρ4 s4 rs4 st4 w4 ?_
      intro F5 H5 σ5 rs5 st5 z5 Q5 k5
      refine q4 F5 H5 σ5 rs5 st5 z5 Q5 fun F6 H6 O6 b6 s6 st6 ⟨⟨e6, e7⟩, q6⟩ => k5 F6 H6 O6 b6 s6 st6 ?_
      subst e6 e7
      cases hk : keep d with
      | false =>
        refine iteF ⟨?_, rfl⟩
        rw [et, List.filter_append, List.filter_cons_of_neg (by rw [hk]; exact Bool.false_ne_true), List.filter_nil, List.append_nil]
        exact ea
      | true =>
        refine iteT ?_
        intro F7 H7 σ7 rs7 st7 z7 Q7 k7
        refine q6 hk F7 H7 σ7 rs7 st7 z7 Q7 fun F8 H8 O8 v8 y8 s8 st8 rd8 ⟨e8, e9⟩ => k7 F8 H8 O8 v8 y8 s8 st8 rd8 ?_
        subst e8 e9
        refine ⟨hal, updO_same, ?_, by rw [updO_updO]⟩
        rw [et, List.filter_append, List.filter_cons_of_pos hk, List.filter_nil, List.map_append, ← ea]
        rfl
    · rintro acc O2 ⟨ea, rfl⟩
      rw [List.take_length] at ea
      rw [delO_updO hL, ea]
      exact hd
end
end VL
set_option maxHeartbeats 2000000
namespace VL
open PySem PySem.Spec PyProof.Rows L2 MB
abbrev KXd := Addr → List (Str × D) → Oh → Prop
def KX (K : Fr) (F : Hp) (Ed : KXd) (E : XK) : Prop := ∀ (F' H' : Hp) (O' : Oh) (C : Addr) (dx : Option Addr) (fs : List (Str × D)), Same F F' → StO K F' O' H' → RepX K F' H' dx fs → Ed C fs O' → E (.ref C) dx H'
abbrev WL := List D → Oh → (D → Oh → Prop) → KXd → Prop
def SpL (K : Fr) (W : WL) : Sp := fun vs H Q E => ∃ (F : Hp) (O : Oh) (ds : List D) (Qd : D → Oh → Prop) (Ed : KXd), RepsD K F vs ds ∧ StO K F O H ∧ W ds O Qd Ed ∧ KQ K F Qd Q ∧ KX K F Ed E
abbrev cD (K : Fr) (E : XK) (Ed : KXd) : Cz := ⟨K, fun _ => E, fun C fs _ O' => Ed C fs O'⟩
def noX : KXd := fun _ _ _ => False
def en0 (n : Nat) (ds : List D) : En := ds.map some ++ List.replicate (n - ds.length) none
def enD (Qd : D → Oh → Prop) : EnL := ⟨fun _ O' => Qd .non O', Qd, fun _ _ => False, fun _ _ => False⟩
theorem body_L {K : Fr} {N : List Str} {vs : List V} {ds : List D} {F H : Hp} {O : Oh} {Q : VK} {E : XK} {Qd : D → Oh → Prop} {Ed : KXd} {t : TS} (rd : RepsD K F vs ds) (st : StO K F O H) (kq : KQ K F Qd Q) (kx : KX K F Ed E)
    (h : LS (cD K E Ed) t (enD Qd) (en0 N.length ds) O) : t { nx := fun _ H' => Q .non H', rt := Q } (start N vs) H := by
  refine h F H _ (repS_start rd rfl rfl) st (fun F' H' O' σ' ρ' C dx fs s _ so rx ex => kx F' H' O' C dx fs s so rx ex) _ ⟨?_, kq, ?_, ?_⟩
  · exact fun F' H' O' σ' ρ' s _ so q => kq F' H' O' .non .non s so .non q
  · exact fun F' H' O' σ' ρ' s _ so q => q.elim
  · exact fun F' H' O' σ' ρ' s _ so q => q.elim
section
variable {P : Program} {w : World} {K : Fr} {mg : Str → Option Value} {base : Heap} {CX : CXT} {x qual : Str} {params : Arguments} {body : List Stmt} {scope : Scope} {dv : List V} {kws : List (Str × V)} {f : Addr} {fd : FuncData} {N ps : List Str} {k : Nat} {W : WL}
theorem fnL' (F : FunD K x qual params body scope dv kws f fd) (S : FnScope N ps scope) (hl : ∀ ds O Q E, W ds O Q E → ds.length = ps.length)
    (hbody : ∀ (cdv : Value) (A : Around) (outer : List Env) (s : Shared) (H : Hp) (E : XK), Room k (A.deeper (envOfC qual scope s.heap.objs.size f cdv)) → ∃ t, PSs (cxOf CX P w K mg base N qual scope f cdv A outer s H E) body t ∧
      ∀ ds O Qd Ed, W ds O Qd Ed → LS (cD K E Ed) t (enD Qd) (en0 N.length ds) O) : FnOk P w K mg base CX (k + 1) f fd ps (SpL K W) :=
  FunD.ok (CX := CX) F S (fun vs H Q E ⟨F, O, ds, Qd, Ed, rd, st, hw, kq, kx⟩ => rd.len.trans (hl _ _ _ _ hw)) fun cdv A outer s H vs Q E hr ⟨F, O, ds, Qd, Ed, rd, st, hw, kq, kx⟩ => by
    obtain ⟨t, h1, h2⟩ := hbody cdv A outer s H E hr
    exact ⟨t, h1, body_L rd st kq kx (h2 ds O Qd Ed hw)⟩
end
theorem Cal.spImp {P : Program} {w : World} {K : Fr} {mg : Str → Option Value} {base : Heap} {CX : CXT} {k : Nat} {x : Str} {ps : List Str} {dvs : List V} {sp sp' : Sp} (h : Cal P w K mg base CX k x ps dvs sp) (i : ∀ vs H Q E, sp' vs H Q E → sp vs H Q E) : Cal P w K mg base CX k x ps dvs sp' := by
  obtain ⟨f, fd, ds, F, hm, hk, hb, hd⟩ := h
  exact ⟨f, fd, ds, F.imp i, hm, hk, hb, hd⟩
section
variable {c : Cz} {ρ : En} {O : Oh} {Q : D → Oh → Prop} {E : EnL}
theorem RepX.mono {K : Fr} {F F' H : Hp} {dx : Option Addr} {fs : List (Str × D)} (s : Same F F') (h : RepX K F H dx fs) : RepX K F' H dx fs := by
  cases dx with
  | none => exact h
  | some d => obtain ⟨vs, a, b, c⟩ := h; exact ⟨vs, a, b.mono s, c⟩
/-- a call that lets nothing out -/
theorem l_call {W : WL} {dvs : List V} {dds : List D} {XE : XK} {ta : TA} (hd : ∀ F, RepsD c.K F dvs dds) (q : LA c ta ρ O fun ds O1 => W (ds ++ dds) O1 Q noX) : LE c (tCall (SpL c.K W) dvs XE ta) ρ O Q := fun F H σ rs s x Q' k =>
  q F H σ rs s x _ fun F1 H1 O1 vs ds s1 st1 rd1 q1 => ⟨F1, O1, ds ++ dds, Q, noX, rd1.append (hd F1), st1, q1, k.mono s1, fun _ _ _ _ _ _ _ _ _ z => z.elim⟩
theorem l_callN {W : WL} {XE : XK} {ta : TA} (q : LA c ta ρ O fun ds O1 => W ds O1 Q noX) : LE c (tCall (SpL c.K W) [] XE ta) ρ O Q :=
  l_call (dds := []) (fun _ => .nil) (fun F H σ rs s x Q' k => q F H σ rs s x Q' fun F1 H1 O1 vs ds s1 st1 rd1 q1 => k F1 H1 O1 vs ds s1 st1 rd1 (by show W (ds ++ []) O1 Q noX; rw [List.append_nil]; exact q1))
/-- in a def that may raise: what the callee raises leaves this def, too -/
theorem l_callX {W : WL} {dvs : List V} {dds : List D} {XE : XK} {ta : TA} (hE : ∀ σ, c.E0 σ = XE) (hd : ∀ F, RepsD c.K F dvs dds) (q : LA c ta ρ O fun ds O1 => W (ds ++ dds) O1 Q fun C fs O2 => c.Ex C fs ρ O2) : LE c (tCall (SpL c.K W) dvs XE ta) ρ O Q := fun F H σ rs s x Q' k =>
  q F H σ rs s x _ fun F1 H1 O1 vs ds s1 st1 rd1 q1 => ⟨F1, O1, ds ++ dds, Q, _, rd1.append (hd F1), st1, q1, k.mono s1, fun F2 H2 O2 C dx fs s2 st2 rx ex => by
    rw [← hE σ]
    exact x F2 H2 O2 σ ρ C dx fs (s1.trans s2) (rs.mono (s1.trans s2)) st2 rx ex⟩
/-- in a try -/
theorem l_callS {W : WL} {ta : TA} (q : LA c ta ρ O fun ds O1 => W ds O1 Q fun C fs O2 => c.Ex C fs ρ O2) : LE c (tCallS (SpL c.K W) c.E0 ta) ρ O Q := fun F H σ rs s x Q' k =>
  q F H σ rs s x _ fun F1 H1 O1 vs ds s1 st1 rd1 q1 => ⟨F1, O1, ds, Q, _, rd1, st1, q1, k.mono s1, fun F2 H2 O2 C dx fs s2 st2 rx ex =>
    x F2 H2 O2 σ ρ C dx fs (s1.trans s2) (rs.mono (s1.trans s2)) st2 rx ex⟩
theorem s_raise0 {C : Addr} {W : Value → Option Addr → L2.St → Hp → Prop} (hW : ∀ cls d σ H, c.E0 σ cls d H → W cls d σ H) (q : c.Ex C [] ρ O) : LS c (fun _ σ H => W (.ref C) none σ H) E ρ O := fun F H σ rs s x Dd l =>
  hW _ _ _ _ (x F H O σ ρ C none [] (Same.refl F) rs s rfl q)
theorem s_raise1 {C : Addr} {f : Str} {ta : TA} {W : Value → Option Addr → L2.St → Hp → Prop} (hW : ∀ cls d σ H, c.E0 σ cls d H → W cls d σ H) (q : LA c ta ρ O fun ds O1 => ∃ d, ds = [d] ∧ c.Ex C [(f, d)] ρ O1) :
    LS c (fun _ σ H => tMkO C (spInit1 C f) [] ta σ H fun cls dx H' => W cls dx σ H') E ρ O := fun F H σ rs s x Dd l =>
  q F H σ rs s x _ fun F1 H1 O1 vs ds s1 st1 rd1 ⟨d, e, q1⟩ => by
    subst e
    cases rd1 with
    | cons ra t =>
      cases t
      refine mk1 (Q := fun cls dx H' => W cls dx σ H') fun dd H2 sm hd => hW _ _ _ _ (x F1 H2 O1 σ ρ C (some dd) _ s1 (rs.mono s1) ⟨st1.same.trans sm, fun a o e => ⟨(st1.own a o e).1, (st1.own a o e).2.move (Same.refl _) ?_⟩⟩ ⟨_, hd, .cons ra .nil, by simp⟩ q1)
      obtain ⟨u, hu⟩ := (st1.own a o e).2.some
      rw [hu]; exact sm _ _ hu
theorem s_raise2 {C : Addr} {f g : Str} {ta : TA} {W : Value → Option Addr → L2.St → Hp → Prop} (hW : ∀ cls d σ H, c.E0 σ cls d H → W cls d σ H) (q : LA c ta ρ O fun ds O1 => ∃ d e, ds = [d, e] ∧ c.Ex C [(g, e), (f, d)] ρ O1) :
    LS c (fun _ σ H => tMkO C (spInit2 C f g) [] ta σ H fun cls dx H' => W cls dx σ H') E ρ O := fun F H σ rs s x Dd l =>
  q F H σ rs s x _ fun F1 H1 O1 vs ds s1 st1 rd1 ⟨d, d', e, q1⟩ => by
    subst e
    cases rd1 with
    | cons ra t =>
      cases t with
      | cons rb t =>
        cases t
        refine mk2 (Q := fun cls dx H' => W cls dx σ H') fun dd H2 sm hd => hW _ _ _ _ (x F1 H2 O1 σ ρ C (some dd) _ s1 (rs.mono s1) ⟨st1.same.trans sm, fun a o e => ⟨(st1.own a o e).1, (st1.own a o e).2.move (Same.refl _) ?_⟩⟩ ⟨_, hd, .cons rb (.cons ra .nil), by simp⟩ q1)
        obtain ⟨u, hu⟩ := (st1.own a o e).2.some
        rw [hu]; exact sm _ _ hu
theorem catch_frz {K : Fr} {F H : Hp} {dx : Option Addr} {fs : List (Str × D)} {a C : Addr} (s : StO K F O H) (rx : RepX K F H dx fs) : ∃ F', Same F F' ∧ StO K F' O H ∧ RepD K F' (.ref a) (.exc a dx C fs) := by
  cases dx with
  | none =>
    cases (show fs = [] from rx)
    exact ⟨F, Same.refl _, s, .excN a C⟩
  | some d =>
    obtain ⟨vs, hd, rf, _⟩ := rx
    have sm : Same F (upd F d (.xd vs)) := fun b o e => by
      by_cases hb : b = d
      · subst hb
        rw [upd_same, ← hd, s.same _ _ e]
      · rw [upd_ne hb]; exact e
    refine ⟨_, sm, ⟨fun b o e => ?_, fun b o e => ?_⟩, .excS C upd_same (rf.mono sm)⟩
    · by_cases hb : b = d
      · subst hb; rw [upd_same] at e; rw [hd]; exact e
      · rw [upd_ne hb] at e; exact s.same b o e
    · obtain ⟨h1, h2⟩ := s.own b o e
      have nb : b ≠ d := fun z => by
        subst z
        cases o with
        | lst ds => obtain ⟨_, q, _⟩ := h2; rw [hd] at q; cases q
        | dk kvs => obtain ⟨_, q, _⟩ := h2; rw [hd] at q; cases q
        | set S n => have q : H b = some (.set S n) := h2; rw [hd] at q; cases q
        | hand => obtain ⟨_, _, _, _, _, q, _⟩ := h2; rw [hd] at q; cases q
        | ins C gs => obtain ⟨_, _, q, _⟩ := h2; rw [hd] at q; cases q
        | fdk od vs kvs => have q := h2.1; rw [hd] at q; cases q
        | tbl nm => obtain ⟨ps, q, _⟩ := h2; rw [hd] at q; cases q
      exact ⟨(upd_ne nb).trans h1, h2.move sm rfl⟩
def xAs (c : Cz) (E : EnL) (cv : Value) (i : Nat) (ts : Addr → Value → Option Addr → TS) (XW : Addr → List (Str × D) → En → Oh → Prop) : Addr → List (Str × D) → En → Oh → Prop := fun C fs ρ' O' =>
  ∃ b, PySem.W.exmOne c.K (.ref C) cv = some b ∧ (b = true → ∀ a dx, (fs = [] → dx = none) → LS c (ts a (.ref C) dx) ⟨fun ρ2 O2 => E.nx (ρ2.set i none) O2, E.rt, fun ρ2 O2 => E.bk (ρ2.set i none) O2, fun ρ2 O2 => E.ct (ρ2.set i none) O2⟩ (ρ'.set i (some (.exc a dx C fs))) O') ∧ (b = false → XW C fs ρ' O')
theorem s_try {cv : Value} {i : Nat} {ts : Addr → Value → Option Addr → TS} {tb : WX → TS} {Wout : WX} {XW : Addr → List (Str × D) → En → Oh → Prop} (hW : ∀ (F : Hp) (O : Oh) (H : Hp) (σ : L2.St) (ρ : En) (C : Addr) (dx : Option Addr) (fs : List (Str × D)), XL c F → RepS c.K F σ ρ → StO c.K F O H → RepX c.K F H dx fs → XW C fs ρ O → Wout (.ref C) dx σ H)
    (q : ∀ W : WX, LS ⟨c.K, fun σ cls d H => W cls d σ H, xAs c E cv i ts XW⟩ (tb W) E ρ O) : LS c (fun Dd σ H => tb (wAs c.K cv i ts Wout Dd) Dd σ H) E ρ O := fun F H σ rs s x Dd l => by
  refine q _ F H σ rs s ?_ Dd l
  rintro F' H' O' σ' ρ' C dx fs s1 rs1 st1 rx ⟨b, hb, hy, hn⟩
  refine ⟨b, hb, fun e a ha => ?_, fun e => hW F' O' H' σ' ρ' C dx fs (x.mono s1) rs1 st1 rx (hn e)⟩
  obtain ⟨F2, s2, st2, rd2⟩ := catch_frz (a := a) (C := C) st1 rx
  have s12 := s1.trans s2
  refine hy e a dx (fun z => by
    cases dx with
    | none => rfl
    | some d => obtain ⟨_, _, _, h⟩ := rx; exact absurd z h) F2 H' _ ((rs1.mono s2).set i rd2) st2 (x.mono s12) _ ⟨?_, l.rt.mono s12, ?_, ?_⟩
  · exact fun F3 H3 O3 σ3 ρ3 s3 rs3 st3 q3 => l.nx F3 H3 O3 _ _ (s12.trans s3) (rs3.forget i none) st3 q3
  · exact fun F3 H3 O3 σ3 ρ3 s3 rs3 st3 q3 => l.bk F3 H3 O3 _ _ (s12.trans s3) (rs3.forget i none) st3 q3
  · exact fun F3 H3 O3 σ3 ρ3 s3 rs3 st3 q3 => l.ct F3 H3 O3 _ _ (s12.trans s3) (rs3.forget i none) st3 q3
/-- e.f in the suite -/
theorem l_xf {a C : Addr} {dx : Option Addr} {n : Str} {te : TE} {fs : List (Str × D)} (q : LE c te ρ O fun x O1 => ∃ d, x = .exc a dx C fs ∧ fs.lookup n = some d ∧ Q d O1) : LE c (tXf a (.ref C) dx C n te) ρ O Q := fun F H σ rs s x Q' k =>
  q F H σ rs s x _ fun F1 H1 O1 v y s1 st1 rd1 ⟨d, e, hl, q1⟩ => by
    subst e
    cases rd1 with
    | excN => cases hl
    | excS _ h r =>
      obtain ⟨v, h1, h2⟩ := r.lookup hl
      exact ⟨rfl, rfl, _, _, v, rfl, st1.same _ _ h, h1, k F1 H1 O1 v d s1 st1 h2 q1⟩
theorem l_fld {K' : Fr} (hK : K' = c.K) {te : TE} {f : Str} (q : LE c te ρ O fun x O1 => ∃ C gs d, x = .ins C gs ∧ Cls c.K C ∧ NoAttr c.K C f ∧ gs.lookup f = some d ∧ Q d O1) : LE c (tFld K' te f) ρ O Q := by
  subst hK
  intro F H σ rs s x Q' k
  exact
    q F H σ rs s x _ fun F1 H1 O1 v y s1 st1 rd1 ⟨C, gs, d, e, hc, hn, hl, q1⟩ => by
      subst e
      cases rd1 with
      | ins h r =>
        obtain ⟨u, h1, h2⟩ := r.lookup hl
        exact ⟨_, C, _, _, u, rfl, st1.same _ _ h, hc, hn, h1, k F1 H1 O1 u d s1 st1 h2 q1⟩
def putD (f : Str) (v : D) : List (Str × D) → List (Str × D)
  | [] => [(f, v)]
  | (g, x) :: r => if g = f then (g, v) :: r else (g, x) :: putD f v r
theorem repF_put {K : Fr} {F : Hp} {f : Str} {v : V} {d : D} (r : RepD K F v d) : ∀ {fs : List (Str × V)} {gs : List (Str × D)}, RepF K F fs gs → RepF K F (putF f v fs) (putD f d gs)
  | _, _, .nil => .cons r .nil
  | _, _, .cons (x := x) a t => by
    show RepF K F (if x = f then _ else _) (if x = f then _ else _)
    by_cases h : x = f
    · rw [if_pos h, if_pos h]; exact .cons r t
    · rw [if_neg h, if_neg h]; exact .cons a (repF_put r t)
theorem RepF.len {K : Fr} {F : Hp} : ∀ {fs : List (Str × V)} {gs : List (Str × D)}, RepF K F fs gs → fs.length = gs.length
  | _, _, .nil => rfl
  | _, _, .cons _ t => by rw [List.length_cons, List.length_cons, RepF.len t]
/-- an object's attribute is set -/
theorem s_fld {K' : Fr} (hK : K' = c.K) {ta tv : TE} {f : Str} (q : LE c tv ρ O fun y O1 => LE c ta ρ O1 fun x O2 => ∃ p C gs, x = .ref p ∧ O2 p = some (.ins C gs) ∧ Cls c.K C ∧ NoAttr c.K C f ∧ gs.length < 1000 ∧ E.nx ρ (updO O2 p (.ins C (putD f y gs)))) : LS c (sFld K' ta tv f) E ρ O := by
  subst hK
  intro F H σ rs s x Dd l
  exact
    q F H σ rs s x _ fun F1 H1 O1 v y s1 st1 rd1 q1 => q1 F1 H1 σ (rs.mono s1) st1 (x.mono s1) _ fun F2 H2 O2 u z s2 st2 rd2 ⟨p, C, gs, e, ho, hc, hn, hl, q2⟩ => by
      subst e
      cases rd2
      obtain ⟨h0, dx, fs, h1, h2⟩ := st2.own p _ ho
      exact ⟨p, C, dx, fs, rfl, h1, hc, hn, by rw [h2.len]; exact hl, l.nx F2 _ _ σ ρ (s1.trans s2) (rs.mono (s1.trans s2)) (st2.write (o' := .ins C (putD f y gs)) ho ⟨dx, _, upd_same, repF_put (rd1.mono s2) h2⟩) q2⟩
/-- a new object of a class of the text, by its __init__; it stays as it is behind it -/
theorem l_make {W : WL} {C : Addr} {dvs : List V} {dds : List D} {XE : XK} {ta : TA} (hE : ∀ σ, c.E0 σ = XE) (hd : ∀ F, RepsD c.K F dvs dds) (q : LA c ta ρ O fun ds O1 => ∀ p, O1 p = none → W (.ref p :: (ds ++ dds)) (updO O1 p (.ins C [])) (fun r O2 => r = .non ∧ ∃ gs, O2 p = some (.ins C gs) ∧ Q (.ins C gs) (delO O2 p)) fun C' fs O2 => c.Ex C' fs ρ O2) :
    LE c (tMake C (SpL c.K W) dvs XE ta) ρ O Q := fun F H σ rs s x Q' k =>
  q F H σ rs s x _ fun F1 H1 O1 vs ds s1 st1 rd1 q1 a dx ha hdx ne => by
    have f := st1.fresh ha
    have st2 : StO c.K F1 O1 (upd H1 dx (.own a)) := ⟨st1.same.trans (MB.Same.upd hdx), fun b o e => ⟨(st1.own b o e).1, (st1.own b o e).2.move (Same.refl _) (upd_ne fun z => by subst z; rw [(st1.fresh hdx).1] at e; cases e)⟩⟩
    have ha2 : upd H1 dx (.own a) a = none := (upd_ne (Ne.symm ne)).trans ha
    refine ⟨F1, _, _, _, _, .cons (.ref a) (rd1.append (hd F1)), st2.newO (o := .ins C []) ha2 ⟨dx, [], upd_same, .nil⟩, q1 a f.1, ?_, ?_⟩
    · rintro F2 H2 O2 v r s2 st3 rd3 ⟨rfl, gs, ho, q3⟩
      cases rd3
      obtain ⟨h0, dx', fs, h1, h2⟩ := st3.own a _ ho
      have sm : Same F2 (upd F2 a (.ins C dx' fs)) := MB.Same.upd h0
      refine ⟨rfl, k (upd F2 a (.ins C dx' fs)) H2 (delO O2 a) _ _ ((s1.trans s2).trans sm) ⟨fun b o e => ?_, fun b o e => ?_⟩ (.ins upd_same (h2.mono sm)) q3⟩
      · by_cases hb : b = a
        · subst hb; rw [upd_same] at e; cases e; exact h1
        · rw [upd_ne hb] at e; exact st3.same b o e
      · by_cases nb : b = a
        · subst nb; rw [delO_same] at e; cases e
        · rw [delO_ne nb] at e
          exact ⟨(upd_ne nb).trans (st3.own b o e).1, (st3.own b o e).2.move sm rfl⟩
    · intro F2 H2 O2 C' dx2 fs s2 st3 rx ex
      rw [← hE σ]
      exact x F2 H2 O2 σ ρ C' dx2 fs (s1.trans s2) (rs.mono (s1.trans s2)) st3 rx ex
def tyD (O : Oh) : D → Option String
  | .non => some "NoneType" | .bl _ => some "bool" | .int _ => some "int" | .str _ => some "str" | .lst _ => some "list" | .tup _ => some "tuple"
  | .ref p => match O p with
    | some (.lst _) => some "list"
    | some (.dk _) => some "dict"
    | _ => none
  | _ => none
theorem tyD_own {O : Oh} {p : Addr} {xs : List D} (h : O p = some (.lst xs)) : tyD O (.ref p) = some "list" := by
  show (match O p with | some (.lst _) => some "list" | some (.dk _) => some "dict" | _ => none) = _
  rw [h]
theorem tyD_ok {K : Fr} {F H : Hp} {O : Oh} {v : V} {d : D} {n : String} (s : StO K F O H) (r : RepD K F v d) (h : tyD O d = some n) : TyX K H v (.type n) := by
  cases d with
  | non => cases h; cases r; exact .base .non
  | bl b => cases h; cases r; exact .base (.bl _)
  | int b => cases h; cases r; exact .base (.int _)
  | str b => cases h; cases r; exact .base (.str _)
  | lst xs => cases h; cases r with | lst a b => exact .base (.lst (s.same _ _ a))
  | tup xs => cases h; cases r with | tup a b => exact K00.ty_tup (sqT_same s.same a)
  | ref p =>
    have h : (match O p with | some (.lst _) => some "list" | some (.dk _) => some "dict" | _ => none) = some n := h
    cases r
    cases e : O p with
    | none => rw [e] at h; cases h
    | some o =>
      rw [e] at h
      cases o with
      | lst xs => cases h; obtain ⟨_, vs, a, _⟩ := s.own p _ e; exact .base (.lst a)
      | dk xs => cases h; obtain ⟨_, vs, a, _⟩ := s.own p _ e; exact .base (.dK a)
      | _ => cases h
  | _ => cases h
theorem k_isi {K' : Fr} (hK : K' = c.K) {x : D} {m n : String} {b : Bool} (ty : tyD O x = some m) (h : kitB m n = some b) (q : Q (.bl b) O) : CAR c (rIsi K') [x, .ty n] O Q := by
  subst hK
  intro F H vs s r z Q' k
  cases r with
  | cons ra t =>
    cases t with
    | cons rb t =>
      cases t; cases rb
      exact ⟨_, .ty n, .type m, .type n, b, rfl, .ty n, tyD_ok s ra ty, kit_ty h, k F H O _ _ (Same.refl F) s (.bl b) q⟩
/-- isinstance(x, (S, T)) -/
theorem l_isiT {K' : Fr} (hK : K' = c.K) {te : TE} {m n : String} (q : LE c te ρ O fun x O1 => ∃ l b1 b2, tyD O1 x = some l ∧ kitB l m = some b1 ∧ kitB l n = some b2 ∧ Q (.bl (b1 || b2)) O1) : LE c (tCB (rIsiT K') (tCons te (tCons (tTup (tCons (tC (.ty m)) (tCons (tC (.ty n)) tNil))) tNil))) ρ O Q := by
  subst hK
  intro F H σ rs s x Q' k
  exact
    q F H σ rs s x _ fun F1 H1 O1 v d s1 st1 rd1 ⟨l, b1, b2, ty, h1, h2, q1⟩ => by
      refine ⟨by show 2 ≤ sizeLine; decide, fun p hp => ⟨v, p, [.ty m, .ty n], .type l, [.type m, .type n], b1 || b2, rfl, upd_same, .cons (.ty m) (.cons (.ty n) .nil), ?_, ?_, ?_⟩⟩
      · have st2 : StO c.K (upd F1 p (.tup [.ty m, .ty n])) O1 (upd H1 p (.tup [.ty m, .ty n])) := st1.newF hp
        exact tyD_ok st2 (rd1.mono (MB.Same.upd (st1.fresh hp).2)) ty
      · have k1 := kit_ty (K := c.K) h1
        have k2 := kit_ty (K := c.K) h2
        unfold PySem.W.kitAny PySem.W.kitAny PySem.W.kitAny
        rw [k1, k2]
        cases b1 <;> cases b2 <;> rfl
      · exact k _ _ O1 _ _ (s1.trans (MB.Same.upd (st1.fresh hp).2)) (st1.newF hp) (.bl _) q1
theorem o_catT {K' : Fr} (hK : K' = c.K) {xs ys : List D} (hl : xs.length + ys.length ≤ sizeLine) (q : Q (.tup (xs ++ ys)) O) : O2R c (rCatA K') (.tup xs) (.tup ys) O Q := by
  subst hK
  intro F H v w s rv rw z Q' k
  have rv' := rv
  have rw' := rw
  cases rv' with
  | @tup _ us _ h r =>
    cases rw' with
    | @tup _ us' _ h' r' =>
      refine ⟨_, _, us, us', rfl, rfl, sqT_same s.same h, sqT_same s.same h', by rw [r.len, r'.len]; exact hl, fun e => ?_, fun _ e => ?_, fun _ _ p hp => ?_⟩
      · subst e
        cases r
        exact k F H O _ _ (Same.refl F) s rw q
      · subst e
        cases r'
        rw [List.append_nil] at q
        exact k F H O _ _ (Same.refl F) s rv q
      · have sm : Same F (upd F p (.tup (us ++ us'))) := MB.Same.upd (s.fresh hp).2
        exact k _ _ O _ _ sm (s.newF hp) (.tup (.of upd_same) ((r.append r').mono sm)) q
def cutD (xs : List D) (lo hi : Option Int) : List D := (xs.drop (HT.sIx xs.length 0 lo)).take (HT.sIx xs.length xs.length hi - HT.sIx xs.length 0 lo)
theorem reps_cut {K : Fr} {F : Hp} {vs : List V} {xs : List D} (r : RepsD K F vs xs) (lo hi : Option Int) : RepsD K F (cutV vs lo hi) (cutD xs lo hi) := by
  unfold cutV cutD
  rw [r.len]
  exact (r.drop _).take _
/-- slices: the parts -/
def LO (c : Cz) (to : TO) (ρ : En) (O : Oh) (Q : Option Int → Oh → Prop) : Prop := ∀ (F H : Hp) (σ : L2.St), RepS c.K F σ ρ → StO c.K F O H → XL c F → ∀ Q' : Option Int → Hp → Prop, (∀ F' H' O' i, Same F F' → StO c.K F' O' H' → Q i O' → Q' i H') → to σ H Q'
theorem lo_none {Q : Option Int → Oh → Prop} (q : Q none O) : LO c tNoPart ρ O Q := fun F H σ rs s x Q' k => k F H O none (Same.refl F) s q
theorem lo_some {te : TE} {Q : Option Int → Oh → Prop} (q : LE c te ρ O fun x O1 => ∃ i, x = .int i ∧ Q (some i) O1) : LO c (tPart te) ρ O Q := fun F H σ rs s x Q' k =>
  q F H σ rs s x _ fun F1 H1 O1 v d s1 st1 rd1 ⟨i, e, q1⟩ => by
    subst e; cases rd1
    exact ⟨i, rfl, k F1 H1 O1 _ s1 st1 q1⟩
def SLR (c : Cz) (r : V → Option Int → Option Int → Hp → VK → Prop) (x : D) (lo hi : Option Int) (O : Oh) (Q : D → Oh → Prop) : Prop := ∀ (F H : Hp) (v : V), StO c.K F O H → RepD c.K F v x → XL c F → ∀ Q' : VK, KQ c.K F Q Q' → r v lo hi H Q'
def SLN (c : Cz) (r : V → Option Int → Option Int → Hp → VK → Prop) (x : D) (lo hi : Option Int) (O : Oh) (Q : List D → Oh → Prop) : Prop := ∀ (F H : Hp) (v : V), StO c.K F O H → RepD c.K F v x → XL c F → ∀ Q' : VK, KN c.K F Q Q' → r v lo hi H Q'
theorem l_sl {r : V → Option Int → Option Int → Hp → VK → Prop} {te : TE} {tl th : TO} (q : LE c te ρ O fun x O1 => LO c tl ρ O1 fun lo O2 => LO c th ρ O2 fun hi O3 => SLR c r x lo hi O3 Q) : LE c (tSl r te tl th) ρ O Q := fun F H σ rs s x Q' k =>
  q F H σ rs s x _ fun F1 H1 O1 v d s1 st1 rd1 q1 => q1 F1 H1 σ (rs.mono s1) st1 (x.mono s1) _ fun F2 H2 O2 lo s2 st2 q2 => q2 F2 H2 σ (rs.mono (s1.trans s2)) st2 (x.mono (s1.trans s2)) _ fun F3 H3 O3 hi s3 st3 q3 =>
    q3 F3 H3 v st3 (rd1.mono (s2.trans s3)) (x.mono ((s1.trans s2).trans s3)) Q' (k.mono ((s1.trans s2).trans s3))
theorem ln_sl {r : V → Option Int → Option Int → Hp → VK → Prop} {te : TE} {tl th : TO} {Q : List D → Oh → Prop} (q : LE c te ρ O fun x O1 => LO c tl ρ O1 fun lo O2 => LO c th ρ O2 fun hi O3 => SLN c r x lo hi O3 Q) : LN c (tSl r te tl th) ρ O Q := fun F H σ rs s x Q' k =>
  q F H σ rs s x _ fun F1 H1 O1 v d s1 st1 rd1 q1 => q1 F1 H1 σ (rs.mono s1) st1 (x.mono s1) _ fun F2 H2 O2 lo s2 st2 q2 => q2 F2 H2 σ (rs.mono (s1.trans s2)) st2 (x.mono (s1.trans s2)) _ fun F3 H3 O3 hi s3 st3 q3 =>
    q3 F3 H3 v st3 (rd1.mono (s2.trans s3)) (x.mono ((s1.trans s2).trans s3)) Q' (k.mono ((s1.trans s2).trans s3))
theorem sl_L {K' : Fr} (hK : K' = c.K) {x : D} {xs : List D} {lo hi : Option Int} {Q : List D → Oh → Prop} (h : asL O x = some xs) (q : Q (cutD xs lo hi) O) : SLN c (rSlL K') x lo hi O Q := by
  subst hK
  intro F H v s rv z Q' k
  obtain ⟨p, vs, rfl, hp, r⟩ := asL_sq s rv h
  exact ⟨p, vs, rfl, .of hp, fun a ha => k F H O a _ _ (Same.refl F) s ha (reps_cut r lo hi) q⟩
theorem sl_T {K' : Fr} (hK : K' = c.K) {xs : List D} {lo hi : Option Int} (q : Q (.tup (cutD xs lo hi)) O) : SLR c (rSlA K') (.tup xs) lo hi O Q := by
  subst hK
  intro F H v s rv z Q' k
  have rv' := rv
  cases rv' with
  | @tup _ us _ h r =>
    refine ⟨_, us, rfl, sqT_same s.same h, fun e => ?_, fun _ p hp => ?_⟩
    · have e2 : cutD xs lo hi = xs := by
        rw [r.len] at e
        unfold cutD
        rw [e.1, e.2]
        simp
      rw [e2] at q
      exact k F H O _ _ (Same.refl F) s rv q
    · have sm : Same F (upd F p (.tup (cutV us lo hi))) := MB.Same.upd (s.fresh hp).2
      exact k _ _ O _ _ sm (s.newF hp) (.tup (.of upd_same) ((reps_cut r lo hi).mono sm)) q
/-- the ints in order -/
theorem k_sortedI {K' : Fr} (hK : K' = c.K) {x : D} {ns : List Int} {Q : List D → Oh → Prop} (h : asL O x = some (ns.map D.int)) (q : ∀ ms : List Int, ms.Perm ns → ms.Pairwise (· ≤ ·) → Q (ms.map D.int) O) : CAN c (rSortedI K') [x] O Q := by
  subst hK
  intro F H vs s r z Q' k
  cases r with
  | cons a t =>
    cases t
    obtain ⟨p, ws, rfl, hp, r⟩ := asL_sq s a h
    cases repsD_ints r
    exact ⟨p, ns, rfl, .of hp, fun ms l hm hs hl => k F H O l _ _ (Same.refl F) s hl repsD_int' (q ms hm hs)⟩
theorem l_bm {K' : Fr} (hK : K' = c.K) {r : V → List V → Hp → VK → Prop} {te : TE} {ta : TA} (q : LE c te ρ O fun x O1 => (∃ xs, asL O1 x = some xs) ∧ LA c ta ρ O1 fun ds O2 => MTR c r x ds O2 Q) : LE c (tBM K' "list" r te ta) ρ O Q := by
  subst hK
  intro F H σ rs s x Q' k
  exact
    q F H σ rs s x _ fun F1 H1 O1 v d s1 st1 rd1 ⟨⟨xs, h⟩, q1⟩ => by
      obtain ⟨p, vs, rfl, hp, r⟩ := asL_sq st1 rd1 h
      exact ⟨Or.inl ⟨rfl, _, .of hp⟩, q1 F1 H1 σ (rs.mono s1) st1 (x.mono s1) _ fun F2 H2 O2 us ds s2 st2 rd2 q2 => q2 F2 H2 _ us st2 (rd1.mono s2) rd2 (x.mono (s1.trans s2)) Q' (k.mono (s1.trans s2))⟩
theorem l_bm0 {K' : Fr} (hK : K' = c.K) {r : V → List V → Hp → VK → Prop} {te : TE} (q : LE c te ρ O fun x O1 => (∃ xs, asL O1 x = some xs) ∧ MTR c r x [] O1 Q) : LE c (tBM0 K' "list" r te) ρ O Q := by
  subst hK
  intro F H σ rs s x Q' k
  exact
    q F H σ rs s x _ fun F1 H1 O1 v d s1 st1 rd1 ⟨⟨xs, h⟩, q1⟩ => by
      obtain ⟨p, vs, rfl, hp, r⟩ := asL_sq st1 rd1 h
      exact ⟨Or.inl ⟨rfl, _, .of hp⟩, q1 F1 H1 _ [] st1 rd1 .nil (x.mono s1) Q' (k.mono s1)⟩
theorem m_append {p : Addr} {xs : List D} {d : D} (h : O p = some (.lst xs)) (hl : xs.length < sizeLine) (q : Q .non (updO O p (.lst (xs ++ [d])))) : MTR c rAppend (.ref p) [d] O Q := fun F H v vs s rv rs z Q' k => by
  cases rv
  cases rs with
  | cons a t =>
    cases t
    obtain ⟨_, us, h1, h2⟩ := s.own p _ h
    exact ⟨p, us, _, rfl, rfl, h1, by rw [h2.len]; exact hl, k F _ _ _ _ (Same.refl F) (s.write (o' := .lst (xs ++ [d])) h ⟨_, upd_same, h2.append (.cons a .nil)⟩) .non q⟩
theorem m_popAt {p : Addr} {xs : List D} {d : D} {i : Int} {j : Nat} (h : O p = some (.lst xs)) (hi : -(2 ^ 63) ≤ i ∧ i < 2 ^ 63) (hj : seqIndex? i xs.length = some j) (hd : xs[j]? = some d) (q : Q d (updO O p (.lst (xs.eraseIdx j)))) : MTR c rPopAt (.ref p) [.int i] O Q := fun F H v vs s rv rs z Q' k => by
  cases rv
  cases rs with
  | cons a t =>
    cases t; cases a
    obtain ⟨_, us, h1, h2⟩ := s.own p _ h
    obtain ⟨y, h3, h4⟩ := h2.at' hd
    exact ⟨p, us, i, j, y, rfl, rfl, h1, hi.1, hi.2, by rw [h2.len]; exact hj, h3, k F _ _ _ _ (Same.refl F) (s.write (o' := .lst (xs.eraseIdx j)) h ⟨_, upd_same, h2.eraseIdx j⟩) h4 q⟩
def rMM (g : Int → Int → Int) : RC := fun xs H Q => ∃ i j, xs = [.int i, .int j] ∧ Q (.int (g i j)) H
theorem k_max2 {X : Cx} (hc : X.calm = true) : CallR X (.builtin "max") (rMM fun i j => if j > i then j else i) := call_max2 hc
theorem k_min2 {X : Cx} (hc : X.calm = true) : CallR X (.builtin "min") (rMM fun i j => if j < i then j else i) := call_min2 hc
theorem k_MM {g : Int → Int → Int} {i j : Int} (q : Q (.int (g i j)) O) : CAR c (rMM g) [.int i, .int j] O Q := fun F H vs s r z Q' k => by
  cases r with
  | cons ra t =>
    cases t with
    | cons rb t => cases t; cases ra; cases rb; exact ⟨i, j, rfl, k F H O _ _ (Same.refl F) s (.int _) q⟩
end
end VL
set_option maxHeartbeats 2000000
namespace VL
open PySem PySem.Spec PyProof.Rows L2 MB
theorem ps_own {X : Cx} {st : Stmt} {t : TE} {g : TG} (h : PS X st (tAsg t g)) : PS X st (tAsg (tOwn t) g) := h
theorem pe_gref {X : Cx} {x : Str} {pos : Pos} {a : Addr} (hg : Gl X x) (hm : X.mg x = some (.ref a)) (hd : (x == ("__debug__" : Str)) = false := by decide) : PE X (.Name x pos) (tC (.ref a)) := pe_glob hg hm rfl hd
theorem pe_gint {X : Cx} {x : Str} {pos : Pos} {i : Int} (hg : Gl X x) (hm : ∃ t, X.mg x = some (.int i t)) (hd : (x == ("__debug__" : Str)) = false := by decide) : PE X (.Name x pos) (tC (.int i)) := by
  obtain ⟨t, hm⟩ := hm
  exact pe_glob hg hm ⟨t, rfl⟩ hd
/-- an own error class with its attributes -/
def errB (K : Fr) (p : Str × List Str) : Bool := MB.excCB K (He.ga K p.1) && (match p.2 with
  | [] => (He.Fa.exc p.1).ok K
  | fs => MB.oexB K (He.ga K p.1) && (decide (PySem.W.findIn K (.ref (He.ga K p.1)) "__init__" = some (some (.ref (He.ma K (He.ga K p.1) "__init__")))) && (decide (PySem.W.typeIn K (.ref (He.ma K (He.ga K p.1) "__init__")) = some (.type "function")) &&
      (xfB K (He.ga K p.1) && fs.all fun f => decide (PySem.W.findIn K (.ref (He.ga K p.1)) f = some none)))))
structure TxtV (fa : List He.Fa) (fn : List He.DefD) (cs : List (Str × List Str)) (ex : Fr → Bool) (K : Fr) (mg : Str → Option Value) : Prop where
  h : ∃ h : Heap, K.In h ∧ h.Ns mainGlobals mg
  c : He.SaysD fa fn K
  e : (cs.all (errB K) && ex K) = true
section
variable {fa : List He.Fa} {fn : List He.DefD} {cs : List (Str × List Str)} {ex : Fr → Bool} {K : Fr} {mg : Str → Option Value} {x f : Str} {fs : List Str}
theorem TxtV.free (T : TxtV fa fn cs ex K mg) (i : Nat) (h : fa[i]? = some (.free x) := by rfl) : mg x = none := by
  obtain ⟨h', X, G⟩ := T.h
  exact He.free_ok X G (T.c.fact i h)
theorem TxtV.glo (T : TxtV fa fn cs ex K mg) (i : Nat) (h : fa[i]? = some (.glo x) := by rfl) : mg x = some (.ref (He.ga K x)) := by
  obtain ⟨h', X, G⟩ := T.h
  exact He.glo_ok X G (T.c.fact i h)
theorem TxtV.int (T : TxtV fa fn cs ex K mg) (i : Nat) {n : Int} (h : fa[i]? = some (.int x n) := by rfl) : ∃ t, mg x = some (.int n t) := by
  obtain ⟨h', X, G⟩ := T.h
  exact He.int_ok X G (T.c.fact i h)
theorem TxtV.cls (T : TxtV fa fn cs ex K mg) (i : Nat) (h : fa[i]? = some (.cls x) := by rfl) : Cls K (He.ga K x) := He.cls_ok (T.c.fact i h)
theorem TxtV.noat (T : TxtV fa fn cs ex K mg) (i : Nat) (h : fa[i]? = some (.noat x f) := by rfl) : NoAttr K (He.ga K x) f := He.noat_ok (T.c.fact i h)
theorem TxtV.mkr (T : TxtV fa fn cs ex K mg) (i : Nat) (h : fa[i]? = some (.mkr x) := by rfl) : Mk K (He.ga K x) (He.ma K (He.ga K x) "__init__") := He.mkr_ok (T.c.fact i h)
theorem TxtV.exm (T : TxtV fa fn cs ex K mg) (i : Nat) {y : Str} {b : Bool} (h : fa[i]? = some (.exm x y b) := by rfl) : PySem.W.exmOne K (.ref (He.ga K x)) (.ref (He.ga K y)) = some b := He.exm_ok (T.c.fact i h)
theorem TxtV.er (T : TxtV fa fn cs ex K mg) (i : Nat) (h : cs[i]? = some (x, fs)) : errB K (x, fs) = true := List.all_eq_true.mp (He.ba T.e).1 _ (List.mem_of_getElem? h)
theorem TxtV.ec (T : TxtV fa fn cs ex K mg) (i : Nat) (h : cs[i]? = some (x, fs) := by rfl) : ExcC K (He.ga K x) := MB.excCB_ok (He.ba (T.er i h)).1
theorem TxtV.de (T : TxtV fa fn cs ex K mg) (i : Nat) (h : cs[i]? = some (x, []) := by rfl) : PySem.W.excIn K (He.ga K x) He.veBase "ValueError.__new__" = true ∧ PySem.W.keepIn K (.ref (He.ga K x)) = true ∧ PySem.W.subIn K (.ref (He.ga K x)) (.type "BaseException") = some true ∧
    PySem.W.typeIn K (.ref (He.ga K x)) = some (.type "type") := He.exc_ok (He.ba (T.er i h)).2
theorem TxtV.fb (T : TxtV fa fn cs ex K mg) (i : Nat) {g : Str} (h : cs[i]? = some (x, g :: fs)) : MB.oexB K (He.ga K x) = true ∧ PySem.W.findIn K (.ref (He.ga K x)) "__init__" = some (some (.ref (He.ma K (He.ga K x) "__init__"))) ∧
    PySem.W.typeIn K (.ref (He.ma K (He.ga K x) "__init__")) = some (.type "function") ∧ xfB K (He.ga K x) = true ∧ ∀ f ∈ g :: fs, PySem.W.findIn K (.ref (He.ga K x)) f = some none := by
  obtain ⟨q1, q⟩ := He.ba (He.ba (T.er i h)).2
  obtain ⟨q2, q⟩ := He.ba q
  obtain ⟨q3, q⟩ := He.ba q
  obtain ⟨q4, q⟩ := He.ba q
  exact ⟨q1, of_decide_eq_true q2, of_decide_eq_true q3, q4, fun f hf => of_decide_eq_true (List.all_eq_true.mp q f hf)⟩
theorem TxtV.bo (T : TxtV fa fn cs ex K mg) (i : Nat) {g : Str} (h : cs[i]? = some (x, g :: fs) := by rfl) : OexC K (He.ga K x) := MB.oexB_ok (T.fb i h).1
theorem TxtV.bi (T : TxtV fa fn cs ex K mg) (i : Nat) {g : Str} (h : cs[i]? = some (x, g :: fs) := by rfl) : PySem.W.findIn K (.ref (He.ga K x)) "__init__" = some (some (.ref (He.ma K (He.ga K x) "__init__"))) := (T.fb i h).2.1
theorem TxtV.bt (T : TxtV fa fn cs ex K mg) (i : Nat) {g : Str} (h : cs[i]? = some (x, g :: fs) := by rfl) : PySem.W.typeIn K (.ref (He.ma K (He.ga K x) "__init__")) = some (.type "function") := (T.fb i h).2.2.1
theorem TxtV.bx (T : TxtV fa fn cs ex K mg) (i : Nat) {g : Str} (h : cs[i]? = some (x, g :: fs) := by rfl) : XfC K (He.ga K x) := xfB_ok (T.fb i h).2.2.2.1
theorem TxtV.bn (T : TxtV fa fn cs ex K mg) (i j : Nat) {g : Str} (h : cs[i]? = some (x, g :: fs) := by rfl) (hf : (g :: fs)[j]? = some f := by rfl) : PySem.W.findIn K (.ref (He.ga K x)) f = some none := (T.fb i h).2.2.2.2 f (List.mem_of_getElem? hf)
section
variable {P : Program} {w : World} {base : Heap} {qual : Str} {params : Arguments} {body : List Stmt} {scope : Scope} {fd : FuncData} {C fI : Addr}
end
end
end VL
set_option maxHeartbeats 2000000
namespace VL
open PySem PySem.Spec PyProof.Rows L2 MB
section
variable {A B : Prop}
theorem nn0 (h : A) : if isNon .non = true then A else B := iteT h
theorem nn1 {i : Int} (h : B) : if isNon (.int i) = true then A else B := iteF h
theorem nn2 {i : Bool} (h : B) : if isNon (.bl i) = true then A else B := iteF h
theorem nn3 {i : Str} (h : B) : if isNon (.str i) = true then A else B := iteF h
theorem nn4 {i : List D} (h : B) : if isNon (.lst i) = true then A else B := iteF h
theorem nn5 {i : List D} (h : B) : if isNon (.tup i) = true then A else B := iteF h
theorem nn6 {i : Addr} (h : B) : if isNon (.ref i) = true then A else B := iteF h
theorem nn7 {C : Addr} {i : List (Str × D)} (h : B) : if isNon (.ins C i) = true then A else B := iteF h
theorem mm0 (h : B) : if (!isNon .non) = true then A else B := iteF h
theorem mm1 {i : Int} (h : A) : if (!isNon (.int i)) = true then A else B := iteT h
theorem mm2 {i : Bool} (h : A) : if (!isNon (.bl i)) = true then A else B := iteT h
theorem mm3 {i : Str} (h : A) : if (!isNon (.str i)) = true then A else B := iteT h
theorem mm4 {i : List D} (h : A) : if (!isNon (.lst i)) = true then A else B := iteT h
theorem mm5 {i : List D} (h : A) : if (!isNon (.tup i)) = true then A else B := iteT h
theorem mm6 {i : Addr} (h : A) : if (!isNon (.ref i)) = true then A else B := iteT h
theorem mm7 {C : Addr} {i : List (Str × D)} (h : A) : if (!isNon (.ins C i)) = true then A else B := iteT h
theorem and_len {n : Nat} (h : n ≤ 100000) (q : A) : n ≤ sizeLine ∧ A := ⟨Nat.le_trans h (by decide), q⟩
theorem lt_line {n : Nat} (h : n < 100000) : n < sizeLine := Nat.lt_of_lt_of_le h (by decide)
theorem le_line {n : Nat} (h : n ≤ 100000) : n ≤ sizeLine := Nat.le_trans h (by decide)
end
theorem ex_bl {b : Bool} {Q : Bool → Prop} (q : Q b) : ∃ k, D.bl b = .bl k ∧ Q k := ⟨b, rfl, q⟩
theorem ex_int {i : Int} {Q : Int → Prop} (q : Q i) : ∃ k, D.int i = .int k ∧ Q k := ⟨i, rfl, q⟩
theorem ex_tup {xs : List D} {Q : List D → Prop} (q : Q xs) : ∃ k, D.tup xs = .tup k ∧ Q k := ⟨xs, rfl, q⟩
theorem ex_r1 {j : Int} {Q : Int → Prop} (b : -(2 ^ 62) ≤ j ∧ j < 2 ^ 62) (q : Q j) : ∃ k, [D.int j] = [.int k] ∧ (-(2 ^ 62) ≤ k ∧ k < 2 ^ 62) ∧ Q k := ⟨j, rfl, b, q⟩
theorem ex_r2 {i j : Int} {Q : Int → Int → Prop} (b : -(2 ^ 62) ≤ i ∧ i < 2 ^ 62 ∧ -(2 ^ 62) ≤ j ∧ j < 2 ^ 62) (q : Q i j) : ∃ k l, [D.int i, D.int j] = [.int k, .int l] ∧ (-(2 ^ 62) ≤ k ∧ k < 2 ^ 62 ∧ -(2 ^ 62) ≤ l ∧ l < 2 ^ 62) ∧ Q k l := ⟨i, j, rfl, b, q⟩
theorem ex_two {a b : D} {Q : D → D → Prop} (q : Q a b) : ∃ x y, [a, b] = [x, y] ∧ Q x y := ⟨a, b, rfl, q⟩
theorem ex_one {a : D} {Q : D → Prop} (q : Q a) : ∃ x, [a] = [x] ∧ Q x := ⟨a, rfl, q⟩
theorem ex_asL {O : Oh} {x : D} {xs : List D} {Q : List D → Prop} (h : asL O x = some xs) (q : Q xs) : ∃ ys, asL O x = some ys ∧ Q ys := ⟨xs, h, q⟩
theorem ex_asLB {O : Oh} {x : D} {xs : List D} {A : Prop} (h : asL O x = some xs) (q : A) : (∃ ys, asL O x = some ys) ∧ A := ⟨⟨xs, h⟩, q⟩
section
variable {c : Cz} {ρ : En} {O : Oh} {Q : D → Oh → Prop}
theorem f_lst {ta : TA} (q : LA c ta ρ O fun xs O1 => xs.length ≤ sizeLine ∧ Q (.lst xs) O1) : LE c (tLst ta) ρ O Q := l_frz (ln_lst q)
theorem f_list {K' : Fr} (hK : K' = c.K) {ta : TA} (q : LA c ta ρ O fun xs O1 => CAN c (rListOf K') xs O1 fun ys O2 => Q (.lst ys) O2) : LE c (tCB (rListOf K') ta) ρ O Q := by
  subst hK
  exact l_frz (ln_cb q)
theorem f_sorted {K' : Fr} (hK : K' = c.K) {ta : TA} (q : LA c ta ρ O fun xs O1 => CAN c (rSortedI K') xs O1 fun ys O2 => Q (.lst ys) O2) : LE c (tCB (rSortedI K') ta) ρ O Q := by
  subst hK
  exact l_frz (ln_cb q)
theorem f_cat {ta tb : TE} (q : LE c ta ρ O fun x O1 => LE c tb ρ O1 fun y O2 => O2N c rCat x y O2 fun ys O3 => Q (.lst ys) O3) : LE c (tOp rCat ta tb) ρ O Q := l_frz (ln_op q)
theorem f_sl {K' : Fr} (hK : K' = c.K) {te : TE} {tl th : TO} (q : LE c te ρ O fun x O1 => LO c tl ρ O1 fun lo O2 => LO c th ρ O2 fun hi O3 => SLN c (rSlL K') x lo hi O3 fun ys O4 => Q (.lst ys) O4) : LE c (tSl (rSlL K') te tl th) ρ O Q := by
  subst hK
  exact l_frz (ln_sl q)
theorem f_lc {wi : TI} {g : TG} {tt : TT} {te : TE} {vs : List Nat} (q : LN c (tLc wi g tt te vs) ρ O fun ys O1 => Q (.lst ys) O1) : LE c (tLc wi g tt te vs) ρ O Q := l_frz q
theorem l_yes {Q : Bool → Oh → Prop} (q : Q true O) : LT c tYes ρ O Q := fun F H σ rs s x Q' k => k F H O true (Same.refl F) s q
theorem ip_int {g : Int → Int → V} {i j : Int} {d : D} {t : TIp} (ht : t = rI0 g) (h : dOf (g i j) = some d) (q : Q d O) : IPR c t (.int i) (.int j) O Q := ht ▸ o_I0 h q
end
/-- the hand, opened and shut -/
theorem hand_shut {c : Cz} {ts : TS} {E : EnL} {ρ : En} {O : Oh} {p : Addr} {ns : List Int} {i rest st : Int} (h : O p = some (.lst [.lst (ns.map D.int), .int i, .int rest, .int st])) (b : 0 ≤ i ∧ 0 ≤ rest ∧ (∀ n ∈ ns, 0 ≤ n) ∧ ns.length ≤ 63)
    {v : V} {F H : Hp} (s : StO c.K F O H) : StO c.K F (updO O p .hand) H := by
  refine ⟨s.same, fun a o e => ?_⟩
  by_cases ne : a = p
  · subst ne
    rw [updO_same] at e; cases e
    obtain ⟨f, vs, h1, h2⟩ := s.own a _ h
    refine ⟨f, ?_⟩
    cases h2 with
    | cons r1 t =>
      cases t with
      | cons r2 t =>
        cases t with
        | cons r3 t =>
          cases t with
          | cons r4 t =>
            cases t; cases r2; cases r3; cases r4
            cases r1 with
            | lst q r =>
              cases repsD_ints r
              exact ⟨_, ns, i, rest, st, h1, q, b⟩
  · rw [updO_ne ne] at e
    exact s.own a o e
/-- a value is given back, the list behind it becomes the hand -/
theorem q_shut {K : Fr} {F : Hp} {Q : D → Oh → Prop} {Q' : VK} (k : KQ K F Q Q') : KQ K F (fun d O => Q d O ∨ ∃ (p : Addr) (ns : List Int) (i rest st : Int), O p = some (.lst [.lst (ns.map D.int), .int i, .int rest, .int st]) ∧ (0 ≤ i ∧ 0 ≤ rest ∧ (∀ n ∈ ns, 0 ≤ n) ∧ ns.length ≤ 63) ∧ Q d (updO O p .hand)) Q' := by
  rintro F' H' O' v d s st rd (q | ⟨p, ns, i, rest, sst, h, b, q⟩)
  · exact k F' H' O' v d s st rd q
  · exact k F' H' _ v d s (hand_shut (c := ⟨K, fun _ => E0, fun _ _ _ _ => False⟩) (ts := tNext) (E := ⟨fun _ _ => True, fun _ _ => True, fun _ _ => False, fun _ _ => False⟩) (ρ := []) (v := .non) h b st) rd q
/-- open the hand at the beginning of a body; it is shut where a value is given back -/
theorem s_hand {c : Cz} {ts : TS} {E : EnL} {ρ : En} {O : Oh} {p : Addr} (h : O p = some .hand) (q : ∀ (ns : List Int) (i rest st : Int), (0 ≤ i ∧ 0 ≤ rest ∧ (∀ n ∈ ns, 0 ≤ n) ∧ ns.length ≤ 63) →
    LS c ts { E with rt := fun d O' => ∃ (ns : List Int) (i rest st : Int), O' p = some (.lst [.lst (ns.map D.int), .int i, .int rest, .int st]) ∧ (0 ≤ i ∧ 0 ≤ rest ∧ (∀ n ∈ ns, 0 ≤ n) ∧ ns.length ≤ 63) ∧ E.rt d (updO O' p .hand) } ρ (updO O p (.lst [.lst (ns.map D.int), .int i, .int rest, .int st]))) : LS c ts E ρ O := fun F H σ rs s x Dd l => by
  obtain ⟨f, hh⟩ := s.own p _ h
  obtain ⟨lc, ns, i, rest, st, h1, h2, b⟩ := hh
  refine q ns i rest st b F H σ rs ⟨s.same, fun a o e => ?_⟩ x Dd ⟨l.nx, fun F' H' O' v d sm st' rd ⟨ns, i, rest, st, e, b, k⟩ => q_shut l.rt F' H' O' v d sm st' rd (.inr ⟨p, ns, i, rest, st, e, b, k⟩), l.bk, l.ct⟩
  by_cases ne : a = p
  · subst ne
    rw [updO_same] at e; cases e
    exact ⟨f, _, h1, .cons (.lst h2 repsD_int') (.cons (.int i) (.cons (.int rest) (.cons (.int st) .nil)))⟩
  · rw [updO_ne ne] at e
    exact s.own a o e
/-- a new hand is shut where it is given back -/
theorem s_newHand {c : Cz} {te : TE} {E : EnL} {ρ : En} {O : Oh} (q : LE c te ρ O fun d O => ∃ (p : Addr) (ns : List Int) (i rest st : Int), d = .ref p ∧ O p = some (.lst [.lst (ns.map D.int), .int i, .int rest, .int st]) ∧ (0 ≤ i ∧ 0 ≤ rest ∧ (∀ n ∈ ns, 0 ≤ n) ∧ ns.length ≤ 63) ∧ E.rt d (updO O p .hand)) : LS c (tRet te) E ρ O := fun F H σ rs s x Dd l =>
  q F H σ rs s x _ fun F' H' O' v d sm st rd ⟨p, ns, i, rest, sst, _, e, b, k⟩ => q_shut l.rt F' H' O' v d sm st rd (.inr ⟨p, ns, i, rest, sst, e, b, k⟩)
theorem updO_id {O : Oh} {p : Addr} {o u : OD} (h : O p = some o) : updO (updO O p u) p o = O := by
  rw [updO_updO]
  funext b; unfold updO; split
  · rename_i e; rw [e, h]
  · rfl
end VL
set_option maxHeartbeats 4000000
namespace VL
open PySem PySem.Spec PyProof.Rows L2 MB
open AutoSeq1 (wpAny_loadPart')
def IteT (K : Fr) (a : Addr) : It :=
  ⟨fun i H => ∃ (ys : List V) (y : V), SqT K H a ys ∧ ys[i]? = some y, fun i H v H' => ∃ T y, v = .ref T ∧ H T = none ∧ H' = upd H T (.tup [.int (i : Nat), y]) ∧ ∀ ys, SqT K H a ys → ys[i]? = some y, fun i H => ∃ ys : List V, SqT K H a ys ∧ ys.length = i⟩
/-- the state of the walk, as the library tells it -/
abbrev enSt (e it : Addr) (i : Nat) (h : Heap) : Prop := (∃ old, IsEnum h e it ((0 : Int) + ((i : Nat) : Int)) old)
theorem turn_enumT {P : Program} {w : World} {K : Fr} {elts : List Expr} {kk : Nat} {tpos : Pos} (a e it : Addr) :
    Turn P w K (.Tuple elts kk tpos) (IteT K a) [e, it] e (fun i h => enSt e it i h ∧ h.IsTupleIter it a i ∧ e ≠ it ∧ a ≠ it ∧ a ≠ e) where
  mem := List.mem_cons_self ..
  obj := fun i h st b hb => by
    obtain ⟨⟨old, he⟩, ⟨o, ho, hc, hd⟩, _⟩ := st
    rcases List.mem_cons.mp hb with z | z
    · subst z; exact ⟨_, he, fun v q => nomatch q⟩
    · cases List.mem_singleton.mp z; exact ⟨o, ho, fun v q => by rw [hd] at q; cases q⟩
  keep := fun i h h' st k => by
    obtain ⟨⟨old, he⟩, hi, ne⟩ := st
    exact ⟨⟨old, k e (by simp) _ he⟩, hi.at fun o q => k it (by simp) o q, ne⟩
  item := by
    intro X hP hw hK hc i pins s σ H E I hf st hg
    subst hP hw hK
    obtain ⟨he, hit, ne, n1, n2⟩ := st
    obtain ⟨ys, y, hq, hy⟩ := hg
    obtain ⟨its, rv, p, hz⟩ := I.tuple hq
    obtain ⟨u, hu, ru⟩ := rv.get hy
    have D := Draws.tuple (prog := X.prog) (w := X.w) (A := X.A.in1) (show X.A.in1.handled = none from I.ok.hd hc) it a n1 its.toArray
    have G := GoesN.enumFrom (elts := elts) (x1 := kk) (pos := tpos) 0 D e ne (by simp [ne, Ne.symm n2]) (by simp)
    have hi : i < its.toArray.size := by
      have := (List.getElem?_eq_some_iff.mp hu).1
      simpa using this
    refine G.goes i s (fun v s2 => ∃ x H', Inv X pins σ H' s2 ∧ RelV x v ∧ (IteT X.K a).yld i H x H' ∧ (enSt e it (i + 1) s2.heap ∧ s2.heap.IsTupleIter it a (i + 1) ∧ e ≠ it ∧ a ≠ it ∧ a ≠ e) ∧ ∀ b ∈ [e, it], H' b = none) E hi ⟨he, hit, p⟩ fun v h' tk hY st' hk htk => ?_
    obtain ⟨T, t, x, rfl, hT, hx, hTt⟩ := hY
    have ex : x = u := by
      have q : its.toArray[i]? = some u := by simpa using hu
      exact Option.some.inj (hx.symm.trans q)
    subst ex
    obtain ⟨oT, hoT, hcT, nT, hdT⟩ := hTt
    have hel : e < s.heap.objs.size := by obtain ⟨old, q⟩ := he; exact Heap.lt_size q
    have hil : it < s.heap.objs.size := by obtain ⟨_, q, _⟩ := hit; exact Heap.lt_size q
    have nw : ObjOk X.prog X.w (upd H T (.tup [.int (i : Nat), y])) h' T (.tup [.int (i : Nat), y]) := by
      refine ⟨show 2 ≤ sizeLine by decide, [.int (0 + (i : Int)) t, x], .cons ⟨t, by rw [Int.zero_add]⟩ (.cons ru .nil), ⟨oT, hoT, hcT, nT, hdT⟩⟩
    have hTn : H T = none := I.hok.fresh hT
    refine ⟨.ref T, upd H T (.tup [.int (i : Nat), y]), I.turnedNew (ch := [e, it]) (fun b ob hb q => hk b ob hb q) hf hT nw, rfl, ⟨T, y, rfl, hTn, rfl, fun zs hzs => by rw [I.tuple_inj hzs hq]; exact hy⟩, ⟨st'.1, st'.2.1, ne, n1, n2⟩, fun b hb => ?_⟩
    have hb' : b < s.heap.objs.size := by
      rcases List.mem_cons.mp hb with z | z
      · rw [z]; exact hel
      · rw [List.mem_singleton.mp z]; exact hil
    rw [upd_ne (Nat.ne_of_lt (Nat.lt_of_lt_of_le hb' hT))]
    exact (hf b hb).1
  done := by
    intro X hP hw hK hc i pins s σ H E I hf st hg
    subst hP hw hK
    obtain ⟨he, hit, ne, n1, n2⟩ := st
    obtain ⟨ys, hq, hy⟩ := hg
    obtain ⟨its, rv, p, hz⟩ := I.tuple hq
    have hl := rv.length
    obtain ⟨old, he⟩ := he
    obtain ⟨f0, f1, f2, f3, f4, f5⟩ := hf it (by simp)
    have D := Draws.tuple (prog := X.prog) (w := X.w) (A := X.A.in1) (show X.A.in1.handled = none from I.ok.hd hc) it a n1 its.toArray
    have ei : its.toArray.size = i := by rw [List.size_toArray, ← hl]; exact hy
    exact wpAny_pyNext_enum_endD D he (by rw [ei]; exact ⟨hit, p⟩) fun h' hx => ⟨rfl, I.turned (t' := s.toks) (fun b o hb q => hx b o hb q) f0 f1 f3 f4 f5⟩
  self := fun A i s Q E st h => by
    obtain ⟨⟨old, he⟩, _⟩ := st
    exact wpAny_pyIter_enum he h
theorem meets_en1 {v : Value} {ob : Obj} {HH : Heap → Prop} (B : Begins v ob HH) : Meets (Builtin.«enumerate.__new__» ⟨[.type "enumerate", v], []⟩) (fun _ R s => HH s.heap ∧ R (.ok (.ret (.ref (s.heap.push ob).objs.size)))
    { s with heap := (s.heap.push ob).push { cls := .type "enumerate", data := .fields #[.none, .bool false, .ref s.heap.objs.size, rawInt 0, .none, .none] } }) := Meets.of_wp fun prog w A R s h => by
  obtain ⟨hh, gg, dd, tt, oo⟩ := s
  obtain ⟨hv, h⟩ := h
  have sb := sub_enumerate
  have qi : ∀ {A' : Around} {E : Value → Shared → Prop} {Q : Value → Shared → Prop}, Q (.ref hh.objs.size) ⟨hh.push ob, gg, dd, tt, oo⟩ → wpAny (model prog w) A' (pyIter v) Q E ⟨hh, gg, dd, tt, oo⟩ := fun q => B.iter prog w _ _ ⟨hh, gg, dd, tt, oo⟩ _ hv q
  wp_walk using qi
  refine wpAny_stack_any fun sk => wpAny_pure ?_
  split
  · rename_i cc _ _ _ _ _
    cases (cc == Value.type "enumerate") <;> (wp_walk using qi; exact ⟨_, rfl, h⟩)
  · wp_walk using qi; exact ⟨_, rfl, h⟩
section
variable {X : Cx}
def iEnumT (K : Fr) (ta : TA) : TI := fun σ H R => ta σ H fun vs H1 => ∃ a ys, vs = [.ref a] ∧ SqT K H1 a ys ∧ R (IteT K a) H1
theorem pi_enumT {e : Expr} {ta : TA} {p pos tpos : Pos} {elts : List Expr} {kk : Nat} (hg : Gl X "enumerate") (hm : X.mg "enumerate" = none) (ha : PA X [e] ta) (hs : starEach [e] X.env = [(false, eval e X.env)] := by rfl) : PI X (.Tuple elts kk tpos) (.Call (.Name "enumerate" p) [e] [] pos) (iEnumT X.K ta) := by
  refine ⟨fun pins s σ H R I h => ?_⟩
  refine Call_ (ld_blt I hg hm PyProof.Rows.boot_enumerate (PyProof.Rows.callWith_type1 (thn (ha.run pos pins s σ H _ I h) fun us s1 ⟨vs, H1, I1, r1, q1⟩ => ?_) hs rfl))
  obtain ⟨a, ys, rfl, hq, q⟩ := q1
  cases r1 with
  | cons r rr =>
    cases rr
    cases r
    obtain ⟨its, rv, pt, hz⟩ := I1.tuple hq
    have B := begins_tuple a its.toArray
    have al : a < s1.heap.objs.size := by obtain ⟨o, ho, _⟩ := pt; exact Heap.lt_size ho
    refine callType_new F.called_enumerate (by decide) (F.typeCall_enumerate_1 _) (F.newCall_enumerate_1 _) (fun obj => F.args_object_init_2 obj _) F.entry_enumerate_new (meets_en1 B) ⟨pt, ?_⟩
    have z1 : (s1.heap.push { cls := .type "tuple_iterator", data := .fields #[.ref a, .int 0 0] }).objs.size = s1.heap.objs.size + 1 := Heap.size_push ..
    show _ ∧ _
    rw [z1]
    have he : IsEnum ((s1.heap.push { cls := .type "tuple_iterator", data := .fields #[.ref a, .int 0 0] }).push { cls := .type "enumerate", data := .fields #[.none, .bool false, .ref s1.heap.objs.size, rawInt 0, .none, .none] }) (s1.heap.objs.size + 1) s1.heap.objs.size 0 .none := by
      have g := Heap.get?_push_size (s1.heap.push { cls := .type "tuple_iterator", data := .fields #[.ref a, .int 0 0] }) (o := { cls := .type "enumerate", data := .fields #[.none, .bool false, .ref s1.heap.objs.size, rawInt 0, .none, .none] }) rfl
      rw [z1] at g; exact g
    refine ⟨⟨_, he, rfl⟩, wpAny_pyIter_enum he ?_⟩
    have I2 := I1.kept (t' := s1.toks) (h' := (s1.heap.push { cls := .type "tuple_iterator", data := .fields #[.ref a, .int 0 0] }).push { cls := .type "enumerate", data := .fields #[.none, .bool false, .ref s1.heap.objs.size, rawInt 0, .none, .none] }) fun b o x => Heap.get?_push_of_some _ (Heap.get?_push_of_some _ x)
    refine ⟨s1.heap.objs.size + 1, [s1.heap.objs.size + 1, s1.heap.objs.size], _, _, H1, rfl, I2, turn_enumT a (s1.heap.objs.size + 1) s1.heap.objs.size, ⟨⟨.none, he⟩, ⟨_, Heap.get?_push_of_some _ (Heap.get?_push_size _ rfl), rfl, rfl⟩, Nat.succ_ne_self _, Nat.ne_of_lt al, Nat.ne_of_lt (Nat.lt_succ_of_lt al)⟩, fun b hb => ?_, q⟩
    have hle : s1.heap.objs.size ≤ b := by
      rcases List.mem_cons.mp hb with z | z
      · rw [z]; exact Nat.le_succ _
      · rw [List.mem_singleton.mp z]; exact Nat.le_refl _
    exact I1.fpOk hle (I1.hok.fresh hle)
theorem walk_enumT {K : Fr} {a : Addr} {xs : List V} : Walk (IteT K a) xs.length (fun H => SqT K H a xs) (YPair (fun i => some (.int (i : Nat))) (fun i => xs[i]?)) := by
  refine ⟨fun i _ hi q => ⟨xs, xs[i], q, by simp [hi]⟩, fun _ q => ⟨xs, q, rfl⟩, fun i H v H' _ q y => ?_⟩
  obtain ⟨T, x, h1, h2, h3, h4⟩ := y
  exact ⟨T, .int (i : Nat), x, h1, h2, h3, rfl, h4 xs q⟩
end
def enumD (xs : List D) : List D := xs.zipIdx.map fun q => .tup [.int (q.2 : Nat), q.1]
theorem enumD_len (xs : List D) : (enumD xs).length = xs.length := by unfold enumD; rw [List.length_map, List.length_zipIdx]
theorem enumD_at {xs : List D} {i : Nat} {d : D} (h : (enumD xs)[i]? = some d) : ∃ x, xs[i]? = some x ∧ d = .tup [.int (i : Nat), x] := by
  unfold enumD at h
  rw [List.getElem?_map, List.getElem?_zipIdx] at h
  cases e : xs[i]? with
  | none => rw [e] at h; cases h
  | some x => rw [e] at h; simp at h; exact ⟨x, rfl, h.symm⟩
theorem enumD_of {xs : List D} {i : Nat} {x : D} (h : xs[i]? = some x) : (enumD xs)[i]? = some (.tup [.int (i : Nat), x]) := by
  unfold enumD
  rw [List.getElem?_map, List.getElem?_zipIdx, h]
  simp
section
variable {c : Cz} {ρ : En} {O : Oh} {Q : List D → (Oh → Prop) → Oh → Prop}
/-- a new pair at each turn -/
theorem pair_new {K : Fr} {F H : Hp} {T : Addr} {v u : V} {d e : D} (s : StO K F O H) (hT : H T = none) (r1 : RepD K F v d) (r2 : RepD K F u e) : ∃ F2, Same F F2 ∧ StO K F2 O (upd H T (.tup [v, u])) ∧ RepD K F2 (.ref T) (.tup [d, e]) := by
  have sm : Same F (upd F T (.tup [v, u])) := MB.Same.upd (s.fresh hT).2
  exact ⟨_, sm, s.newF hT, .tup (.of upd_same) (.cons (r1.mono sm) (.cons (r2.mono sm) .nil))⟩
theorem i_enumT {K' : Fr} (hK : K' = c.K) {ta : TA} (q : LA c ta ρ O fun ds O1 => ∃ xs, ds = [.tup xs] ∧ Q (enumD xs) (fun _ => True) O1) : LI c (iEnumT K' ta) ρ O Q := by
  subst hK
  intro F H σ rs s z Q' k
  refine q F H σ rs s z _ fun F1 H1 O1 vs ds s1 st1 rd1 ⟨xs, e, q1⟩ => ?_
  subst e
  cases rd1 with
  | cons ra t =>
    cases t
    cases ra with
    | @tup p us _ h r =>
      refine ⟨p, us, rfl, sqT_same st1.same h, k F1 H1 O1 _ _ _ s1 st1 ⟨fun H' => SqT c.K H' p us, _, by rw [enumD_len, ← r.len]; exact walk_enumT, ?_, ?_⟩ q1⟩
      · exact fun F' H' O' s2 st2 _ => sqT_same st2.same (sqT_same s2 h)
      · rintro i F' H' O' y H2 s2 st2 _ hi ⟨T, x, x', e1, e2, e3, e4, e5⟩
        subst e1 e3
        cases e4
        obtain ⟨d, e6, e7⟩ := (r.mono s2).at e5
        obtain ⟨F2, a1, a2, a3⟩ := pair_new st2 e2 (.int (i : Nat)) e7
        exact ⟨F2, _, a1, a2, a3, enumD_of e6⟩
theorem i_enumL {K' : Fr} (hK : K' = c.K) {ta : TA} (q : LA c ta ρ O fun ds O1 => ∃ x xs, ds = [x] ∧ asL O1 x = some xs ∧ Q (enumD xs) (fun O2 => asL O2 x = some xs) O1) : LI c (iEnum K' ta) ρ O Q := by
  subst hK
  intro F H σ rs s z Q' k
  refine q F H σ rs s z _ fun F1 H1 O1 vs ds s1 st1 rd1 ⟨x, xs, e, hx, q1⟩ => ?_
  subst e
  cases rd1 with
  | cons ra t =>
    cases t
    obtain ⟨p, us, rfl, hp, r⟩ := asL_sq st1 ra hx
    refine ⟨p, us, rfl, .of hp, k F1 H1 O1 _ _ _ s1 st1 ⟨fun H' => ∃ vs', H' p = some (.lst vs') ∧ vs'.length = xs.length, fun i H' v H2 => ∃ T y, v = .ref T ∧ H' T = none ∧ H2 = upd H' T (.tup [.int (i : Nat), y]) ∧ ∀ ys, SqL c.K H' p ys → ys[i]? = some y, ?_, ?_, ?_⟩ q1⟩
    · rw [enumD_len]
      exact ⟨fun i H' hi ⟨vs', a, b⟩ => ⟨vs', vs'[i]'(by omega), .of a, by simp [show i < vs'.length by omega]⟩, fun H' ⟨vs', a, b⟩ => ⟨vs', .of a, by omega⟩, fun i H' y H2 hi q y' => y'⟩
    · intro F' H' O' s2 st2 g
      obtain ⟨p', vs', e, hp', r'⟩ := asL_sq st2 (ra.mono s2) g
      cases e
      exact ⟨vs', hp', r'.len⟩
    · rintro i F' H' O' y H2 s2 st2 g hi ⟨T, y', e1, e2, e3, e4⟩
      subst e1 e3
      obtain ⟨p', vs', e, hp', r'⟩ := asL_sq st2 (ra.mono s2) g
      cases e
      obtain ⟨d, e6, e7⟩ := r'.at (e4 vs' (.of hp'))
      obtain ⟨F2, a1, a2, a3⟩ := pair_new st2 e2 (.int (i : Nat)) e7
      exact ⟨F2, _, a1, a2, a3, enumD_of e6⟩
/-- a text list that the machine froze: the script -/
theorem i_enumS {K' : Fr} (hK : K' = c.K) {ta : TA} (q : LA c ta ρ O fun ds O1 => ∃ ns, ds = [.scr ns] ∧ Q (enumD (ns.map D.int)) (fun _ => True) O1) : LI c (iEnum K' ta) ρ O Q := by
  subst hK
  intro F H σ rs s z Q' k
  refine q F H σ rs s z _ fun F1 H1 O1 vs ds s1 st1 rd1 ⟨ns, e, q1⟩ => ?_
  subst e
  cases rd1 with
  | cons ra t =>
    cases t
    cases ra with
    | @scr p _ h =>
      refine ⟨p, _, rfl, st1.same.seq h, k F1 H1 O1 _ _ _ s1 st1 ⟨fun H' => SqL c.K H' p (ns.map V.int), _, by rw [enumD_len, List.length_map, ← List.length_map (f := V.int)]; exact walk_enum, ?_, ?_⟩ q1⟩
      · exact fun F' H' O' s2 st2 _ => st2.same.seq (s2.seq h)
      · rintro i F' H' O' y H2 s2 st2 _ hi ⟨T, x, x', e1, e2, e3, e4, e5⟩
        subst e1 e3
        cases e4
        obtain ⟨d, e6, e7⟩ := (repsD_int' (K := c.K) (F := F') (ns := ns)).at e5
        obtain ⟨F2, a1, a2, a3⟩ := pair_new st2 e2 (.int (i : Nat)) e7
        exact ⟨F2, _, a1, a2, a3, enumD_of e6⟩
theorem i_scr {K' : Fr} (hK : K' = c.K) {tl : TE} (q : LE c tl ρ O fun x O1 => ∃ ns, x = .scr ns ∧ Q (ns.map D.int) (fun _ => True) O1) : LI c (iList K' tl) ρ O Q := by
  subst hK
  intro F H σ rs s z Q' k
  refine q F H σ rs s z _ fun F1 H1 O1 v x s1 st1 rd1 ⟨ns, e, q1⟩ => ?_
  subst e
  cases rd1 with
  | @scr p _ h =>
    refine ⟨p, rfl, ⟨_, st1.same.seq h⟩, k F1 H1 O1 _ _ _ s1 st1 ⟨fun H' => SqL c.K H' p (ns.map V.int), _, by rw [List.length_map, ← List.length_map (f := V.int)]; exact walk_list, ?_, ?_⟩ q1⟩
    · exact fun F' H' O' s2 st2 _ => st2.same.seq (s2.seq h)
    · rintro i F' H' O' y H2 s2 st2 _ hi ⟨e1, e2⟩
      subst e1
      obtain ⟨d, e6, e7⟩ := (repsD_int' (K := c.K) (F := F') (ns := ns)).at e2
      exact ⟨F', d, Same.refl _, st2, e7, e6⟩
end
end VL
set_option maxHeartbeats 4000000
namespace VL
open PySem PySem.Spec PyProof.Rows L2 MB
section
variable {P : Program} {w : World} {A : Around} {E : Value → Shared → Prop} {s : Shared} {K : Fr} {x C f : Addr} {ox : Obj} {od : Option Obj}
theorem len_K {Q : Value → Shared → Prop} (X : K.In s.heap) (I : PySem.W.InstAt s.heap x ox C od) (hs : PySem.W.findIn K (.ref C) "__len__" = some (some (.ref f))) (hf : PySem.W.isFn K (.ref f) = true)
    (hc : wpAny (model P w) A.in1 (call (.ref f) [.ref x]) (fun r s' => ∃ n u, r = .int n u ∧ 0 ≤ n ∧ n < 2 ^ 63 ∧ Q (.int n s'.toks) { s' with toks := s'.toks + 1 }) E s) : wpAny (model P w) A (call (.builtin "len") [.ref x]) Q E s := by
  refine PySem.Calls.call_function_entry kind_len plain_len entry_len (args_len1 _) ?_
  unfold Builtin.«len»
  refine wpAny_bind (m := oneArg "len" _) (wpAny_pure ?_)
  have sp : ∀ M : Model, PySem.W.Looks M s.heap (specialOf (.ref x) (Str.ofString "__len__")) (some (.ref f)) := fun M => I.type.andThen (PySem.W.looks_findIn X hs)
  refine wpAny_bind (m := callSpecial? (.ref x) (Str.ofString "__len__")) ?_
  unfold callSpecial?
  refine wpAny_bind ((sp _).here ?_)
  refine wpAny_holding (wpAny_bind ((PySem.W.bind_fn X _ (beq_iff_eq.mp hf)).here ?_))
  refine wpAny_bind (wpAny_mono hc (fun r s' hr => wpAny_pure ?_) fun _ _ y => y)
  obtain ⟨n, u, rfl, h0, h1, hq⟩ := hr
  refine wpAny_bind (wpAny_holding (wpAny_pure ?_))
  refine wpAny_bind (wpAny_letGo ?_)
  show wpAny _ _ (if n < 0 then _ else _) _ _ _
  rw [if_neg (by omega)]
  show wpAny _ _ (if n ≥ 2 ^ 63 then _ else _) _ _ _
  rw [if_neg (by omega)]
  exact wpAny_bind (wpAny_mkInt (wpAny_pure ⟨_, rfl, hq⟩))
end
/-- y's class as the machine sees it -/
def LookV (K : Fr) (H : Hp) (y : V) (t : Value) : Prop := TyX K H y t ∨ ∃ b C dx fs, y = .ref b ∧ H b = some (.ins C dx fs) ∧ t = .ref C
section
variable {X : Cx} {pins : List (Addr × Obj)} {σ : L2.St} {H : Hp} {s : Shared}
theorem look_of {y : V} {u t : Value} (I : Inv X pins σ H s) (r : RelV y u) (h : LookV X.K H y t) (M : Model) : PySem.W.Looks M s.heap (typeOf u) t := by
  rcases h with h | ⟨b, C, dx, fs, rfl, hb, rfl⟩
  · obtain ⟨Pp, k, hp, _⟩ := kit_of I r h
    exact k.ty M s.heap I.kIn hp
  · cases r
    obtain ⟨mB, J, _⟩ := ins_get I.hok hb
    obtain ⟨od, J, _⟩ := J.look
    exact J.type
/-- a def's run at a call that the machine makes -/
theorem run_at {CX : CXT} {n : Nat} {f : Addr} {fd : FuncData} {ps : List Str} {sp : Sp} {A : Around} {E : XK} {vs : List V} {us : List Value} {Q : VK} (F : FnOk X.prog X.w X.K X.mg X.base CX n f fd ps sp) (hb : Binds X.K fd ps []) (hx : Passes CX X E) (hr : Room n A) (fr : A.frames = X.A.frames) (I : Inv X pins σ H s) (r : Vals vs us) (hsp : sp vs H Q E) :
    wpAny (model X.prog X.w) A (call (.ref f) us) (EP X pins σ Q) X.xe s := by
  have e0 : Env0 X.prog X.w X.K X.mg X.base A X.stack s H := by
    have e := I.env0
    exact ⟨by rw [fr]; exact e.frames, e.mod, e.bs, e.bsz, e.funs, e.frf, e.hok, e.bare⟩
  have hl := F.len _ _ _ _ hsp
  refine wpAny_call (codeAny_mono (F.run A X.stack s H ⟨us, []⟩ us vs Q E hr e0 (by
    have := hb s us I.kIn (by rw [List.append_nil, ← r.length]; exact hl)
    simpa using this) r hsp) fun res s' hq => ?_)
  cases res with
  | error e => exact hx pins σ H s e s' I hq
  | ok fl =>
    cases fl with
    | ret w => exact I.after hq
    | next => exact hq.elim
    | brk => exact hq.elim
    | cont => exact hq.elim
end
section
variable {X : Cx} {CX : CXT} {n : Nat} {C f : Addr} {fd : FuncData} {ps : List Str} {sp : Sp} {E : XK}
def rLenO (C : Addr) (sp : Sp) (E : XK) : RC := fun xs H Q => ∃ a dx fs, xs = [.ref a] ∧ H a = some (.ins C dx fs) ∧ sp [.ref a] H (fun v H' => ∃ n : Int, v = .int n ∧ 0 ≤ n ∧ n < 2 ^ 63 ∧ Q (.int n) H') E
theorem call_lenO (F : FnOk X.prog X.w X.K X.mg X.base CX n f fd ps sp) (hm : Meth X.K C "__len__" f) (hb : Binds X.K fd ps []) (hx : Passes CX X E) (hr : Room (n + 1) X.A) : CallR X (.builtin "len") (rLenO C sp E) := by
  intro pins s σ H xs us Q I r h
  obtain ⟨a, dx, fs, rfl, ha, hsp⟩ := h
  obtain ⟨u, rfl, r1⟩ := vals1 r
  cases r1
  obtain ⟨mA, J, _⟩ := ins_get I.hok ha
  obtain ⟨od, J, _⟩ := J.look
  refine len_K I.kIn J hm.at_ hm.fn ?_
  refine thn (run_at F hb hx hr.in1 rfl I (vs := [V.ref a]) (.cons (show L2.RelV (.ref a) (.ref a) from rfl) .nil) hsp) fun v s1 ⟨y, H1, I1, ry, k, e, h0, h1, q⟩ => ?_
  subst e
  obtain ⟨t, rfl⟩ := ry
  exact ⟨k, t, rfl, h0, h1, .int k, H1, I1.tok _, ⟨_, rfl⟩, q⟩
def rEqO (K : Fr) (C : Addr) (sp : Sp) (E : XK) : R2 := fun x y H Q => ∃ a dx fs t, x = .ref a ∧ H a = some (.ins C dx fs) ∧ LookV K H y t ∧ PySem.W.notFirst K C t = true ∧ sp [x, y] H (fun v H' => ∃ b, v = .bl b ∧ Q (.bl b) H') E
theorem op_eqO (F : FnOk X.prog X.w X.K X.mg X.base CX n f fd ps sp) (hm : Meth X.K C "__eq__" f) (hb : Binds X.K fd ps []) (hx : Passes CX X E) (hr : Room n X.A) : OpR X (compareOp .Eq) (rEqO X.K C sp E) := by
  intro pins s σ H x y v u Q I rx ry h
  obtain ⟨a, dx, fs, t, rfl, ha, hl, hn, hsp⟩ := h
  cases rx
  obtain ⟨mA, J, _⟩ := ins_get I.hok ha
  obtain ⟨od, J, _⟩ := J.look
  obtain ⟨m, hF⟩ := I.fr
  show wpAny (model X.prog X.w) X.A (richCompare .Eq (.ref a) u) (EP X pins σ Q) X.xe s
  refine PySem.W.cmp_K (op := .Eq) (tb := t) hr.units0 hF I.ok.mod.kin J (look_of I ry hl _) hn hm.at_ hm.fn ?_
  refine thn (run_at F hb hx hr rfl I (vs := [V.ref a, y]) (.cons (show L2.RelV (.ref a) (.ref a) from rfl) (.cons ry .nil)) hsp) fun v s1 ⟨z, H1, I1, rz, b, e, q⟩ => ?_
  subst e
  cases rz
  exact ⟨.bl b, H1, I1, rfl, q⟩
def rNeO (K : Fr) (C : Addr) (sp : Sp) (E : XK) : R2 := fun x y H Q => ∃ a dx fs t, x = .ref a ∧ H a = some (.ins C dx fs) ∧ LookV K H y t ∧ PySem.W.notFirst K C t = true ∧ sp [x, y] H (fun v H' => ∃ b, v = .bl b ∧ Q (.bl (!b)) H') E
theorem op_neO (FF : FnOk X.prog X.w X.K X.mg X.base CX n f fd ps sp) (hm : Meth X.K C "__eq__" f) (hne : PySem.W.findIn X.K (.ref C) "__ne__" = some (some (.builtin "object.__ne__"))) (hob : PySem.W.mroIn X.K C (.type "object") = some true) (hb : Binds X.K fd ps []) (hx : Passes CX X E) (hr : Room (n + 2) X.A) : OpR X (compareOp .NotEq) (rNeO X.K C sp E) := by
  intro pins s σ H x y v u Q I rx ry h
  obtain ⟨a, dx, fs, t, rfl, ha, hl, hn, hsp⟩ := h
  cases rx
  obtain ⟨mA, J, _⟩ := ins_get I.hok ha
  obtain ⟨od, J, _⟩ := J.look
  have hy := look_of I ry hl (model X.prog X.w)
  have XK := I.kIn
  show wpAny (model X.prog X.w) X.A (richCompare .NotEq (.ref a) u) (EP X pins σ Q) X.xe s
  have u0 := hr.units0
  have u1 : X.A.in1.units < cLine := (Room.in1 (k := n + 1) hr).units0
  -- object.__ne__, called
  have body : wpAny (model X.prog X.w) X.A (call (.builtin "object.__ne__") ([.ref a] ++ [u])) (fun v s1 => EP X pins σ Q v s1 ∧ ∃ b, v = .bool b) X.xe s := by
    refine wpAny_call (codeAny_call_builtin (by decide +kernel) PySem.F.cmpEntry_ne (@PySem.W.check_slot (model X.prog X.w) _ _ _ "object.__ne__" "object" "__ne__" (.ref a) [u] [] _ PySem.F.cmpKind_ne PySem.F.cmpSplit_ne ?_ (PySem.F.cmpArgs_ne _ _) ?_))
    · exact J.type.andThen (PySem.W.looks_mroIn XK hob)
    · unfold Builtin.«object.__ne__»
      repeat (first
        | with_reducible refine wpAny_cRoomFor u1 ?_
        | (refine wpAny_bind (m := callSpecialIfBound? (.ref a) (Str.ofString "__eq__") [u]) (PySem.W.ifBound_K XK J hm.at_ hm.fn
            (thn (run_at FF hb hx ((Room.in1 (k := n + 1) hr).mono (Nat.le_succ n)) rfl I (vs := [V.ref a, y]) (.cons (show L2.RelV (.ref a) (.ref a) from rfl) (.cons ry .nil)) hsp) (fun r s' hr2 => by
              obtain ⟨z, H1, I1, rz, b, e, q⟩ := hr2
              subst e
              cases rz
              have fin : EP X pins σ Q (.bool (!b)) s' ∧ ∃ k, Value.bool (!b) = .bool k := ⟨⟨.bl (!b), H1, I1, rfl, q⟩, _, rfl⟩
              repeat (first | exact ⟨_, rfl, fin⟩ | exact fin | exact wpAny_pure fin | exact wpAny_pure ⟨_, rfl, fin⟩ | exact wpAny_truthy_bool fin | (refine wpAny_bind (m := truthy (.bool _)) (wpAny_truthy_bool ?_)) | wp_step)))))
        | wp_step)
  have one : wpAny (model X.prog X.w) X.A (tryCompare (.ref a) "__ne__" u) (fun r s' => ∃ v, r = some v ∧ EP X pins σ Q v s') X.xe s := by
    simp only [tryCompare]
    refine wpAny_bind (NtL.csib (M := model X.prog X.w) (J.type.andThen (PySem.W.looks_findIn XK hne)) (by first | rfl | kernel_rfl) (thn body fun v s1 ⟨q, b, e⟩ => ?_))
    subst e
    exact wpAny_pure ⟨_, rfl, q⟩
  unfold richCompare
  simp only [oneThing_ref]
  refine wpAny_holding (wpAny_bind (wpAny_cRoomFor u0 ?_))
  refine wpAny_bind (J.type.here (wpAny_bind (hy.here ?_)))
  split
  · rename_i q
    have e : PySem.W.subIn X.K t (.ref C) = some false := by
      rcases Bool.or_eq_true_iff.mp hn with e | e
      · rw [beq_iff_eq.mp e] at q; simp at q
      · exact beq_iff_eq.mp e
    refine wpAny_bind ((PySem.W.looks_subIn XK e).here ?_)
    simp only [Bool.false_eq_true, if_false]
    refine wpAny_bind (wpAny_mono one (fun r s' z => ?_) fun _ _ e => e)
    obtain ⟨v, rfl, hq⟩ := z
    exact wpAny_pure hq
  · refine wpAny_bind (wpAny_pure ?_)
    simp only [Bool.false_eq_true, if_false]
    refine wpAny_bind (wpAny_mono one (fun r s' z => ?_) fun _ _ e => e)
    obtain ⟨v, rfl, hq⟩ := z
    exact wpAny_pure hq
end
end VL
set_option maxHeartbeats 4000000
namespace VL
open PySem PySem.Spec PyProof.Rows L2 MB
def reprV : V → Option Str
  | .int i => if i.natAbs.log2 < 1920 then some (toString i : String) else none
  | .bl b => some (if b then "True" else "False" : String)
  | .non => some ("None" : String)
  | .str x => if (reprText x).length ≤ sizeLine then some (reprText x) else none
  | _ => none
def rRepr0 : RC := fun xs H Q => ∃ x r, xs = [x] ∧ reprV x = some r ∧ Q (.str r) H
theorem call_repr0 {X : Cx} : CallR X (.builtin "repr") rRepr0 := by
  intro pins s σ H xs us Q I r h
  obtain ⟨x, t, rfl, e, q⟩ := h
  obtain ⟨u, rfl, r1⟩ := vals1 r
  cases x with
  | non => cases e; cases r1; exact PySem.P.repr_of_none ⟨.str _, H, I.tok _, ⟨_, rfl⟩, q⟩
  | bl b => cases e; cases r1; exact PySem.P.repr_of_bool ⟨.str _, H, I.tok _, ⟨_, by cases b <;> rfl⟩, q⟩
  | int i =>
    obtain ⟨tk, rfl⟩ := r1
    have e : (if i.natAbs.log2 < 1920 then some ((toString i : String) : Str) else none) = some t := e
    split at e
    · cases e; rename_i hz; exact PySem.P.repr_of_int hz ⟨.str _, H, I.tok _, ⟨_, rfl⟩, q⟩
    · cases e
  | str x =>
    obtain ⟨tk, rfl⟩ := r1
    have e : (if (reprText x).length ≤ sizeLine then some (reprText x) else none) = some t := e
    split at e
    · cases e; rename_i hz; exact PySem.P.repr_of_str (hsz := hz) ⟨.str _, H, I.tok _, ⟨_, rfl⟩, q⟩
    · cases e
  | _ => cases e
def ddI (ns : List Int) : List Int := ns.foldl PyProof.Rows.step_dedup []
theorem dd_step (acc : List Int) (n : Int) : PyProof.Rows.step_dedup acc n = if n ∈ acc then acc else acc ++ [n] := by
  unfold PyProof.Rows.step_dedup
  by_cases h : n ∈ acc
  · rw [show (acc.any fun x => x == n) = true from List.any_eq_true.mpr ⟨n, h, beq_self_eq_true n⟩, if_pos rfl, if_pos h]
  · rw [if_neg (show ¬ (acc.any fun x => x == n) = true from fun z => by
      obtain ⟨y, hy, e⟩ := List.any_eq_true.mp z
      rw [eq_of_beq e] at hy
      exact h hy), if_neg h]
theorem dd_fold : ∀ (ns acc : List Int), acc.Nodup → (ns.foldl PyProof.Rows.step_dedup acc).Nodup ∧ (∀ k, k ∈ ns.foldl PyProof.Rows.step_dedup acc ↔ k ∈ acc ∨ k ∈ ns) ∧ (ns.foldl PyProof.Rows.step_dedup acc).length ≤ acc.length + ns.length ∧
    ((ns.foldl PyProof.Rows.step_dedup acc).length = acc.length + ns.length ↔ ns.Nodup ∧ ∀ k ∈ ns, k ∉ acc)
  | [], acc, h => ⟨h, by simp, by simp, by simp⟩
  | n :: ns, acc, h => by
    show (List.foldl _ (PyProof.Rows.step_dedup acc n) ns).Nodup ∧ _
    rw [List.foldl_cons, dd_step]
    by_cases hn : n ∈ acc
    · rw [if_pos hn]
      obtain ⟨a, b, c, d⟩ := dd_fold ns acc h
      refine ⟨a, fun k => ?_, by rw [List.length_cons]; omega, ?_⟩
      · rw [b, List.mem_cons]
        constructor
        · rintro (z | z)
          · exact .inl z
          · exact .inr (.inr z)
        · rintro (z | z | z)
          · exact .inl z
          · subst z; exact .inl hn
          · exact .inr z
      · constructor
        · intro z; rw [List.length_cons] at z; omega
        · rintro ⟨_, z⟩; exact absurd hn (z n (List.mem_cons_self ..))
    · rw [if_neg hn]
      have h2 : (acc ++ [n]).Nodup := by
        rw [List.nodup_append]
        exact ⟨h, List.nodup_cons.mpr ⟨by simp, List.nodup_nil⟩, fun x hx y hy e => by
          rw [List.mem_singleton] at hy; subst hy; subst e; exact hn hx⟩
      obtain ⟨a, b, c, d⟩ := dd_fold ns (acc ++ [n]) h2
      rw [List.length_append, List.length_singleton] at c d
      refine ⟨a, fun k => ?_, by rw [List.length_cons]; omega, ?_⟩
      · rw [b, List.mem_append, List.mem_singleton, List.mem_cons]
        constructor
        · rintro ((z | z) | z)
          · exact .inl z
          · exact .inr (.inl z)
          · exact .inr (.inr z)
        · rintro (z | z | z)
          · exact .inl (.inl z)
          · exact .inl (.inr z)
          · exact .inr z
      · rw [List.length_cons, show acc.length + (ns.length + 1) = acc.length + 1 + ns.length by omega, d, List.nodup_cons]
        constructor
        · rintro ⟨z1, z2⟩
          exact ⟨⟨fun m => z2 n m (List.mem_append_right _ (List.mem_singleton.mpr rfl)), z1⟩, fun k hk => by
            rcases List.mem_cons.mp hk with e | e
            · subst e; exact hn
            · exact fun m => z2 k e (List.mem_append_left _ m)⟩
        · rintro ⟨⟨z1, z2⟩, z3⟩
          exact ⟨z2, fun k hk m => by
            rcases List.mem_append.mp m with e | e
            · exact z3 k (List.mem_cons_of_mem _ hk) e
            · rw [List.mem_singleton] at e; subst e; exact z1 hk⟩
theorem ddI_nodup (ns : List Int) : (ddI ns).Nodup := (dd_fold ns [] List.nodup_nil).1
theorem ddI_mem (ns : List Int) (k : Int) : k ∈ ddI ns ↔ k ∈ ns := by
  rw [show (k ∈ ddI ns) = _ from propext ((dd_fold ns [] List.nodup_nil).2.1 k)]
  simp
theorem ddI_len (ns : List Int) : (ddI ns).length = ns.length ↔ ns.Nodup := by
  have h := (dd_fold ns [] List.nodup_nil).2.2.2
  simp only [List.length_nil, Nat.zero_add] at h
  rw [show ((ddI ns).length = ns.length) = _ from propext h]
  simp
theorem ddI_le (ns : List Int) : (ddI ns).length ≤ ns.length := by
  have h := (dd_fold ns [] List.nodup_nil).2.2.1
  rw [List.length_nil, Nat.zero_add] at h
  exact h
theorem firstMet_dd (ns : List Int) : PyProof.Rows.firstMet (fun i => ns.getD i 0) ns.length = ddI ns := by
  unfold PyProof.Rows.firstMet ddI
  congr 1
  refine List.ext_getElem? fun i => ?_
  rw [List.getElem?_map]
  by_cases hi : i < ns.length
  · rw [List.getElem?_range hi, List.getElem?_eq_getElem hi]
    show some (ns.getD i 0) = _
    rw [List.getD_eq_getElem?_getD, List.getElem?_eq_getElem hi]
    rfl
  · rw [List.getElem?_eq_none (by simpa using Nat.le_of_not_lt hi), List.getElem?_eq_none (by simpa using Nat.le_of_not_lt hi)]
    rfl
def tLenSet2 (K : Fr) (ta : TE) : TE := fun σ H Q => ta σ H fun x H1 => ∃ (l : Addr) (ns : List Int), x = .ref l ∧ (SqL K H1 l (ns.map V.int) ∨ SqT K H1 l (ns.map V.int)) ∧ ns.length ≤ 4000 ∧ Q (.int ((ddI ns).length : Nat)) H1
theorem pe_lenSet2 {X : Cx} {a : Expr} {ta : TE} {p p2 q pos : Pos} (hg : Gl X "len") (hm : X.mg "len" = none) (hg2 : Gl X "set") (hm2 : X.mg "set" = none) (ha : PE X a ta) (hc : X.calm = true := by rfl)
    (na : starEach [a] X.env = (false, eval a X.env) :: starEach [] X.env := by rfl) : PE X (.Call (.Name "len" p) [.Call (.Name "set" p2) [a] [] q] [] pos) (tLenSet2 X.K ta) := by
  refine ⟨fun pins s σ H Q I h => Call_ (ld_blt I hg hm boot_len ?_)⟩
  refine PyProof.Rows.callWith_builtin1 (PyProof.Rows.args_cons (Call_ (ld_blt I hg2 hm2 boot_set ?_)) rfl) rfl rfl
  refine PyProof.Rows.callWith_type1 (PyProof.Rows.args_cons (thn (ha.run pins s σ H _ I h) fun v s1 ⟨x, H1, I1, r1, q1⟩ => PyProof.Rows.args_nil ?_) na) na rfl
  obtain ⟨l, ns, rfl, hq, hl, q1⟩ := q1
  cases r1
  rcases hq with hq | hq
  · obtain ⟨its, r, pl, hz⟩ := I1.list hq
    have hn : its.toArray.size = ns.length := by rw [List.size_toArray, ← r.length, List.length_map]
    refine call_set_list (I1.ok.hd hc) pl.isList (by simpa using RZ.intsAre_vals r) (by rw [hn]; unfold scanBound; omega) fun h' tk hS hk => PyProof.Rows.args_nil ?_
    rw [hn, firstMet_dd] at hS
    obtain ⟨o, es, ep, t, ho, hex, hd, _, _, _, hf, he⟩ := hS
    have I2 : Inv X pins σ H1 { s1 with heap := h', toks := tk } := I1.kept fun b o e => hk b o (Heap.lt_size e) e
    have le : (ddI ns).length ≤ ns.length := ddI_le ns
    exact call_len_set ho hex hd hf (by rw [he] <;> omega) ⟨.int ((ddI ns).length : Nat), H1, I2.tok _, ⟨_, by rw [he]⟩, q1⟩
  · obtain ⟨its, r, pt, hz⟩ := I1.tuple hq
    refine call_set_tupI ns (I1.ok.hd hc) pt (by simpa using RZ.intsAre_vals r) (by unfold scanBound; omega) fun h' tk c hS hc' hk => PyProof.Rows.args_nil ?_
    obtain ⟨o, es, ep, t, ho, hex, hd, hgd, hnd, hmem, hsc, hf, he, _⟩ := hS
    have I2 : Inv X pins σ H1 { s1 with heap := h', toks := tk } := I1.kept hk
    have el : es.size = (ddI ns).length := by
      have pm : (es.toList.map keyOf).Perm (ddI ns) := by
        refine List.perm_iff_count.mpr fun k => ?_
        have m : k ∈ es.toList.map keyOf ↔ k ∈ ddI ns := by
          rw [ddI_mem, ← hmem k]
          exact ⟨fun z => of_decide_eq_true z, fun z => decide_eq_true z⟩
        rw [List.Nodup.count hnd, List.Nodup.count (ddI_nodup ns)]
        by_cases hk2 : k ∈ ddI ns
        · rw [if_pos (m.mpr hk2), if_pos hk2]
        · rw [if_neg (fun z => hk2 (m.mp z)), if_neg hk2]
      have := pm.length_eq
      simpa using this
    have le : (ddI ns).length ≤ ns.length := ddI_le ns
    exact call_len_set ho hex hd hf (by rw [el]; omega) ⟨.int ((ddI ns).length : Nat), H1, I2.tok _, ⟨_, by rw [el]⟩, q1⟩
theorem RepF.lookup' {K : Fr} {F : Hp} {f : Str} : ∀ {fs : List (Str × V)} {gs : List (Str × D)}, RepF K F fs gs → gs.lookup f = none → fs.lookup f = none
  | _, _, .nil, h => rfl
  | _, _, .cons (x := x) a t, h => by
    rw [List.lookup_cons] at h ⊢
    split at h
    · cases h
    · exact RepF.lookup' t h
section
variable {c : Cz} {ρ : En} {O : Oh} {Q : D → Oh → Prop} {E : EnL}
theorem l_lenSet2 {K' : Fr} (hK : K' = c.K) {ta : TE} (q : LE c ta ρ O fun x O1 => ∃ ns : List Int, asS O1 x = some (ns.map D.int) ∧ ns.length ≤ 4000 ∧ Q (.int ((ddI ns).length : Nat)) O1) : LE c (tLenSet2 K' ta) ρ O Q := by
  subst hK
  intro F H σ rs s x Q' k
  refine q F H σ rs s x _ fun F1 H1 O1 v d s1 st1 rd1 ⟨ns, h, hl, q1⟩ => ?_
  obtain ⟨p, vs, rfl, hp, r⟩ := asS_sq st1 rd1 h
  cases repsD_ints r
  exact ⟨p, ns, rfl, hp, hl, k F1 H1 O1 _ _ s1 st1 (.int _) q1⟩
def reprD : D → Option Str
  | .int i => reprV (.int i) | .bl b => reprV (.bl b) | .non => reprV .non | .str x => reprV (.str x) | _ => none
theorem k_repr0 {x : D} {r : Str} (h : reprD x = some r) (q : Q (.str r) O) : CAR c rRepr0 [x] O Q := fun F H vs s rs z Q' k => by
  cases rs with
  | cons a t =>
    cases t
    cases x with
    | int i => cases a; exact ⟨_, r, rfl, h, k F H O _ _ (Same.refl F) s (.str _) q⟩
    | bl i => cases a; exact ⟨_, r, rfl, h, k F H O _ _ (Same.refl F) s (.str _) q⟩
    | non => cases a; exact ⟨_, r, rfl, h, k F H O _ _ (Same.refl F) s (.str _) q⟩
    | str i => cases a; exact ⟨_, r, rfl, h, k F H O _ _ (Same.refl F) s (.str _) q⟩
    | _ => cases h
/-- what __eq__'s other side is, as the machine sees it -/
def lookD (O : Oh) (y : D) (t : Value) : Prop := (∃ n, tyD O y = some n ∧ t = .type n) ∨ ∃ C gs, y = .ins C gs ∧ t = .ref C
theorem look_ok {K : Fr} {F H : Hp} {O : Oh} {y : D} {w : V} {t : Value} (s : StO K F O H) (r : RepD K F w y) (h : lookD O y t) : LookV K H w t := by
  rcases h with ⟨n, h, rfl⟩ | ⟨C, gs, rfl, rfl⟩
  · exact .inl (tyD_ok s r h)
  · cases r with
    | ins h _ => exact .inr ⟨_, C, _, _, rfl, s.same _ _ h, rfl⟩
theorem k_lenO {W : WL} {C : Addr} {gs : List (Str × D)} {XE : XK} (q : W [.ins C gs] O (fun v O1 => ∃ n : Int, v = .int n ∧ 0 ≤ n ∧ n < 2 ^ 63 ∧ Q (.int n) O1) noX) : CAR c (rLenO C (SpL c.K W) XE) [.ins C gs] O Q := fun F H vs s rs z Q' k => by
  cases rs with
  | cons a t =>
    cases t
    have a' := a
    cases a' with
    | ins h r =>
      refine ⟨_, _, _, rfl, s.same _ _ h, F, O, [.ins C gs], _, noX, .cons a .nil, s, q, ?_, fun _ _ _ _ _ _ _ _ _ y => y.elim⟩
      rintro F1 H1 O1 v d s1 st1 rd1 ⟨n, rfl, h0, h1, q1⟩
      cases rd1
      exact ⟨n, rfl, h0, h1, k F1 H1 O1 _ _ s1 st1 (.int n) q1⟩
theorem o_eqO {W : WL} {C : Addr} {gs : List (Str × D)} {y : D} {t : Value} {XE : XK} {K' : Fr} (hK : K' = c.K) (hl : lookD O y t) (hn : PySem.W.notFirst c.K C t = true) (q : W [.ins C gs, y] O (fun v O1 => ∃ b, v = .bl b ∧ Q (.bl b) O1) noX) : O2R c (rEqO K' C (SpL c.K W) XE) (.ins C gs) y O Q := by
  subst hK
  intro F H v w s rv rw z Q' k
  have rv' := rv
  cases rv' with
  | ins h r =>
    refine ⟨_, _, _, t, rfl, s.same _ _ h, look_ok s rw hl, hn, F, O, [.ins C gs, y], _, noX, .cons rv (.cons rw .nil), s, q, ?_, fun _ _ _ _ _ _ _ _ _ y => y.elim⟩
    rintro F1 H1 O1 v d s1 st1 rd1 ⟨b, rfl, q1⟩
    cases rd1
    exact ⟨b, rfl, k F1 H1 O1 _ _ s1 st1 (.bl b) q1⟩
theorem o_neO {W : WL} {C : Addr} {gs : List (Str × D)} {y : D} {t : Value} {XE : XK} {K' : Fr} (hK : K' = c.K) (hl : lookD O y t) (hn : PySem.W.notFirst c.K C t = true) (q : W [.ins C gs, y] O (fun v O1 => ∃ b, v = .bl b ∧ Q (.bl (!b)) O1) noX) : O2R c (rNeO K' C (SpL c.K W) XE) (.ins C gs) y O Q := by
  subst hK
  intro F H v w s rv rw z Q' k
  have rv' := rv
  cases rv' with
  | ins h r =>
    refine ⟨_, _, _, t, rfl, s.same _ _ h, look_ok s rw hl, hn, F, O, [.ins C gs, y], _, noX, .cons rv (.cons rw .nil), s, q, ?_, fun _ _ _ _ _ _ _ _ _ y => y.elim⟩
    rintro F1 H1 O1 v d s1 st1 rd1 ⟨b, rfl, q1⟩
    cases rd1
    exact ⟨b, rfl, k F1 H1 O1 _ _ s1 st1 (.bl _) q1⟩
def rInsert : V → List V → Hp → VK → Prop := fun x vs H Q => ∃ (l : Addr) (xs : List V) (i : Int) (y : V), x = .ref l ∧ vs = [.int i, y] ∧ H l = some (.lst xs) ∧ xs.length < sizeLine ∧ 0 ≤ i ∧ i < 2 ^ 63 ∧ Q .non (upd H l (.lst (xs.take i.toNat ++ [y] ++ xs.drop i.toNat)))
theorem mt_insert' {X : Cx} : MtR X "list.insert" rInsert := mt_insert
theorem m_insert {p : Addr} {xs : List D} {d : D} {i : Int} (h : O p = some (.lst xs)) (hl : xs.length < sizeLine) (hi : 0 ≤ i ∧ i < 2 ^ 63) (q : Q .non (updO O p (.lst (xs.take i.toNat ++ [d] ++ xs.drop i.toNat)))) : MTR c rInsert (.ref p) [.int i, d] O Q := fun F H v vs s rv rs z Q' k => by
  cases rv
  cases rs with
  | cons a t =>
    cases t with
    | cons b t =>
      cases t; cases a
      obtain ⟨_, us, h1, h2⟩ := s.own p _ h
      exact ⟨p, us, i, _, rfl, rfl, h1, by rw [h2.len]; exact hl, hi.1, hi.2, k F _ _ _ _ (Same.refl F) (s.write (o' := .lst (xs.take i.toNat ++ [d] ++ xs.drop i.toNat)) h ⟨_, upd_same, ((h2.take _).append (.cons b .nil)).append (h2.drop _)⟩) .non q⟩
end
end VL
set_option maxHeartbeats 4000000
namespace VL
open PySem PySem.Spec PyProof.Rows L2 MB
def SqB (K : Fr) (b : Bool) (H : Hp) (a : Addr) (xs : List V) : Prop := match b with
  | true => SqT K H a xs
  | false => SqL K H a xs
def itB (b : Bool) (h : Heap) (it a : Addr) (i : Nat) : Prop := match b with
  | true => h.IsTupleIter it a i
  | false => h.IsListIter it a i
def sqIs (b : Bool) (h : Heap) (a : Addr) (its : Array Value) : Prop := match b with
  | true => h.IsTuple a its
  | false => h.IsList a its
def obB (b : Bool) (a : Addr) : Obj := match b with
  | true => { cls := .type "tuple_iterator", data := .fields #[.ref a, .int 0 0] }
  | false => { cls := .type "list_iterator", data := .fields #[.ref a, .int 0 0] }
theorem drawsB {P : Program} {w : World} {A : Around} (b : Bool) (hh : A.handled = none) (it a : Addr) (ne : a ≠ it) (its : Array Value) : Draws P w A it [it, a] its.size (fun i v => its[i]? = some v) (fun i h => itB b h it a i ∧ sqIs b h a its) := by
  cases b with
  | true => exact Draws.tuple hh it a ne its
  | false => exact Draws.list hh it a ne its
theorem beginsB (b : Bool) (a : Addr) (its : Array Value) : Begins (.ref a) (obB b a) fun h => sqIs b h a its := by
  cases b with
  | true => exact begins_tuple a its
  | false => exact begins_list a its
theorem sqB_items {X : Cx} {pins : List (Addr × Obj)} {σ : L2.St} {H : Hp} {s : Shared} {b : Bool} {a : Addr} {xs : List V} (I : Inv X pins σ H s) (h : SqB X.K b H a xs) : ∃ its : List Value, Vals xs its ∧ sqIs b s.heap a its.toArray ∧ a < s.heap.objs.size := by
  cases b with
  | true =>
    obtain ⟨its, r, p, _⟩ := I.tuple h
    exact ⟨its, r, p, by obtain ⟨o, e, _⟩ := p; exact Heap.lt_size e⟩
  | false =>
    obtain ⟨its, r, p, _⟩ := I.list h
    exact ⟨its, r, p.isList, p.lt⟩
theorem sqB_inj {X : Cx} {pins : List (Addr × Obj)} {σ : L2.St} {H : Hp} {s : Shared} {b : Bool} {a : Addr} {xs ys : List V} (I : Inv X pins σ H s) (h : SqB X.K b H a xs) (h' : SqB X.K b H a ys) : xs = ys := by
  cases b with
  | true => exact I.tuple_inj h h'
  | false => exact I.list_inj h h'
theorem itB_at {b : Bool} {h h' : Heap} {it a : Addr} {i : Nat} (x : itB b h it a i) (k : ∀ o, h.get? it = some o → h'.get? it = some o) : itB b h' it a i := by
  cases b with
  | true => exact (show h.IsTupleIter it a i from x).at k
  | false => exact (show h.IsListIter it a i from x).at k
theorem itB_ob {b : Bool} {h : Heap} {it a : Addr} {i : Nat} (x : itB b h it a i) : ∃ o, h.get? it = some o ∧ ∀ v, o.data ≠ .cell v := by
  cases b with
  | true => obtain ⟨o, e, _, d⟩ := (show h.IsTupleIter it a i from x); exact ⟨o, e, fun v q => by rw [d] at q; cases q⟩
  | false => obtain ⟨o, e, _, d⟩ := (show h.IsListIter it a i from x); exact ⟨o, e, fun v q => by rw [d] at q; cases q⟩
def ItzB (K : Fr) (p q : Bool) (a b : Addr) : It :=
  ⟨fun i H => ∃ (xs ys : List V) (x y : V), SqB K p H a xs ∧ SqB K q H b ys ∧ xs[i]? = some x ∧ ys[i]? = some y,
   fun i H v H' => ∃ T x y, v = .ref T ∧ H T = none ∧ H' = upd H T (.tup [x, y]) ∧ (∀ xs, SqB K p H a xs → xs[i]? = some x) ∧ ∀ ys, SqB K q H b ys → ys[i]? = some y,
   fun i H => ∃ xs ys : List V, SqB K p H a xs ∧ SqB K q H b ys ∧ i = min xs.length ys.length⟩
abbrev znSt (p q : Bool) (z TI TO i1 i2 a b : Addr) (i : Nat) (h : Heap) : Prop := IsZip h z TI TO .none ∧ IsTupOf2 h TI (.ref i1) (.ref i2) ∧ (∃ a1 a2, IsTupOf2 h TO a1 a2) ∧ itB p h i1 a i ∧ itB q h i2 b i
theorem turn_zipB {P : Program} {w : World} {K : Fr} {elts : List Expr} {kk : Nat} {tpos : Pos} {p q : Bool} {a b z TI TO i1 i2 : Addr} (S : ZipSep2 z TI TO i1 i2 [i1, a] [i2, b]) (n1 : a ≠ i1) (n2 : b ≠ i2) :
    Turn P w K (.Tuple elts kk tpos) (ItzB K p q a b) [z, TI, TO, i1, i2] z (fun i h => znSt p q z TI TO i1 i2 a b i h) where
  mem := List.mem_cons_self ..
  obj := fun i h st c hc => by
    obtain ⟨hz, hT, ⟨x, y, hO⟩, h1, h2⟩ := st
    simp only [List.mem_cons, List.not_mem_nil, or_false] at hc
    rcases hc with e | e | e | e | e
    · subst e; exact ⟨_, hz, fun v q => nomatch q⟩
    · subst e; exact ⟨_, hT, fun v q => nomatch q⟩
    · subst e; exact ⟨_, hO, fun v q => nomatch q⟩
    · subst e; exact itB_ob h1
    · subst e; exact itB_ob h2
  keep := fun i h h' st k => by
    obtain ⟨hz, hT, ⟨x, y, hO⟩, h1, h2⟩ := st
    exact ⟨k z (by simp) _ hz, k TI (by simp) _ hT, ⟨x, y, k TO (by simp) _ hO⟩, itB_at h1 fun o e => k i1 (by simp) o e, itB_at h2 fun o e => k i2 (by simp) o e⟩
  item := by
    intro X hP hw hK hc i pins s σ H E I hf st hg
    subst hP hw hK
    have st0 := st
    obtain ⟨hz, hT, hO, h1, h2⟩ := st
    obtain ⟨xs, ys, x, y, hx, hy, ex, ey⟩ := hg
    obtain ⟨its, r1, p1, _⟩ := sqB_items I hx
    obtain ⟨jts, r2, p2, _⟩ := sqB_items I hy
    obtain ⟨u, eu, ru⟩ := r1.get ex
    obtain ⟨v, ev, rv⟩ := r2.get ey
    have hh : X.A.in1.handled = none := I.ok.hd hc
    have G := GoesN.zip2 (elts := elts) (x1 := kk) (pos := tpos) S (drawsB (P := X.prog) (w := X.w) p hh i1 a n1 its.toArray) (drawsB (P := X.prog) (w := X.w) q hh i2 b n2 jts.toArray)
    have l1 : i < its.length := (List.getElem?_eq_some_iff.mp eu).1
    have l2 : i < jts.length := (List.getElem?_eq_some_iff.mp ev).1
    refine G.goes i s (fun t s2 => ∃ x' H', Inv X pins σ H' s2 ∧ RelV x' t ∧ (ItzB X.K p q a b).yld i H x' H' ∧ znSt p q z TI TO i1 i2 a b (i + 1) s2.heap ∧ ∀ c ∈ [z, TI, TO, i1, i2], H' c = none) E (by rw [List.size_toArray, List.size_toArray]; omega) ⟨hz, hT, hO, ⟨h1, p1⟩, ⟨h2, p2⟩⟩ fun t h' tk hY st' hk htk => ?_
    obtain ⟨T, x2, y2, rfl, hTs, e1, e2, hTt⟩ := hY
    cases (Option.some.inj (e1.symm.trans (by simpa using eu)))
    cases (Option.some.inj (e2.symm.trans (by simpa using ev)))
    obtain ⟨oT, hoT, hcT, nT, hdT⟩ := hTt
    have nw : ObjOk X.prog X.w (upd H T (.tup [x, y])) h' T (.tup [x, y]) := ⟨show 2 ≤ sizeLine by decide, [u, v], .cons ru (.cons rv .nil), ⟨oT, hoT, hcT, nT, hdT⟩⟩
    have hTn : H T = none := I.hok.fresh hTs
    refine ⟨.ref T, upd H T (.tup [x, y]), I.turnedNew (ch := [z, TI, TO, i1, i2]) (fun c ob hb e => hk c ob (fun m => hb (by
      simp only [List.mem_cons, List.not_mem_nil, or_false] at m ⊢
      rcases m with e | e | e | e
      · exact .inl e
      · exact .inr (.inr (.inl e))
      · exact .inr (.inr (.inr (.inl e)))
      · exact .inr (.inr (.inr (.inr e))))) e) hf hTs nw, rfl, ⟨T, x, y, rfl, hTn, rfl, fun zs hzs => by rw [sqB_inj I hzs hx]; exact ex, fun zs hzs => by rw [sqB_inj I hzs hy]; exact ey⟩, ⟨st'.1, st'.2.1, st'.2.2.1, st'.2.2.2.1.1, st'.2.2.2.2.1⟩, fun c hcm => ?_⟩
    have lt : c < s.heap.objs.size := by
      simp only [List.mem_cons, List.not_mem_nil, or_false] at hcm
      obtain ⟨x0, y0, hO⟩ := hO
      rcases hcm with e | e | e | e | e
      · rw [e]; exact Heap.lt_size hz
      · rw [e]; exact Heap.lt_size hT
      · rw [e]; exact Heap.lt_size hO
      · rw [e]; obtain ⟨o, g, _⟩ := itB_ob h1; exact Heap.lt_size g
      · rw [e]; obtain ⟨o, g, _⟩ := itB_ob h2; exact Heap.lt_size g
    rw [upd_ne (Nat.ne_of_lt (Nat.lt_of_lt_of_le lt hTs))]
    exact (hf c hcm).1
  done := by
    intro X hP hw hK hc i pins s σ H E I hf st hg
    subst hP hw hK
    obtain ⟨hz, hT, ⟨x0, y0, hO⟩, h1, h2⟩ := st
    obtain ⟨xs, ys, hx, hy, ei⟩ := hg
    obtain ⟨its, r1, p1, _⟩ := sqB_items I hx
    obtain ⟨jts, r2, p2, _⟩ := sqB_items I hy
    have l1 := r1.length
    have l2 := r2.length
    have hh : X.A.in1.handled = none := I.ok.hd hc
    refine wpAny_pyNext_zipD2_end S (drawsB (P := X.prog) (w := X.w) p hh i1 a n1 its.toArray) (drawsB (P := X.prog) (w := X.w) q hh i2 b n2 jts.toArray) hz hT hO ⟨h1, p1⟩ ⟨h2, p2⟩ (by rw [List.size_toArray]; omega) (by rw [List.size_toArray]; omega) (by rw [List.size_toArray, List.size_toArray]; omega) fun h' tk hk => ⟨rfl, I.turnedL (t' := tk) (ch := [z, TI, TO, i1, i2]) (fun c o hb e => ?_) hf⟩
    exact hk c o (fun m => hb (by simp [m])) (fun m => hb (by simp [m])) (fun m => hb (by simp [m])) (fun m => hb (by simp [m])) e
  self := fun A i s Q E st h => wpAny_pyIter_zip st.1 h
def iZipB (K : Fr) (ta : TA) : TI := fun σ H R => ta σ H fun vs H1 => ∃ a b p q xs ys, vs = [.ref a, .ref b] ∧ SqB K p H1 a xs ∧ SqB K q H1 b ys ∧ R (ItzB K p q a b) H1
theorem pi_zipB {X : Cx} {e e2 : Expr} {ta : TA} {p pos tpos : Pos} {elts : List Expr} {kk : Nat} (hg : Gl X "zip") (hm : X.mg "zip" = none) (ha : PA X [e, e2] ta)
    (hs : starEach [e, e2] X.env = (false, eval e X.env) :: starEach [e2] X.env := by rfl) (hpl : (backTo pos (starEach [e2] X.env)).any (·.1) = false := by rfl) : PI X (.Tuple elts kk tpos) (.Call (.Name "zip" p) [e, e2] [] pos) (iZipB X.K ta) := by
  refine ⟨fun pins s σ H R I h => ?_⟩
  refine Call_ (ld_blt I hg hm PyProof.Rows.boot_zip (PyProof.Rows.callWith_type1 (thn (ha.run pos pins s σ H _ I h) fun us s1 ⟨vs, H1, I1, r1, q1⟩ => ?_) hs hpl))
  obtain ⟨a, b, pa, pb, xs, ys, rfl, hx, hy, q⟩ := q1
  obtain ⟨u1, u2, rfl, ra, rb⟩ := vals2 r1
  cases ra
  cases rb
  obtain ⟨its, _, p1, la⟩ := sqB_items I1 hx
  obtain ⟨jts, _, p2, lb⟩ := sqB_items I1 hy
  refine zip_begins2 (beginsB pa a its.toArray) (beginsB pb b jts.toArray) p1 p2 fun h' hz hTI hTO g1 g2 hsz hk => wpAny_pyIter_zip hz ?_
  have I2 : Inv X pins σ H1 { s1 with heap := h' } := I1.kept (t' := s1.toks) hk
  refine ⟨s1.heap.objs.size + 4, [s1.heap.objs.size + 4, s1.heap.objs.size + 2, s1.heap.objs.size + 3, s1.heap.objs.size, s1.heap.objs.size + 1], _, _, H1, rfl, I2, turn_zipB (p := pa) (q := pb) (zip_sep2 (N := s1.heap.objs.size) (fp1 := [a]) (fp2 := [b]) (by simpa using la) (by simpa using lb)) (Nat.ne_of_lt la) (Nat.ne_of_lt (Nat.lt_succ_of_lt lb)), ⟨hz, hTI, ⟨_, _, hTO⟩, ?_, ?_⟩, fun c hcm => ?_, q⟩
  · cases pa <;> exact ⟨_, g1, rfl, rfl⟩
  · cases pb <;> exact ⟨_, g2, rfl, rfl⟩
  · have hle : s1.heap.objs.size ≤ c := by
      simp only [List.mem_cons, List.not_mem_nil, or_false] at hcm
      rcases hcm with e | e | e | e | e <;> rw [e]
      · exact Nat.le_add_right _ _
      · exact Nat.le_add_right _ _
      · exact Nat.le_add_right _ _
      · exact Nat.le_refl _
      · exact Nat.le_add_right _ _
    exact I1.fpOk hle (I1.hok.fresh hle)
def zipD (xs ys : List D) : List D := (xs.zip ys).map fun q => .tup [q.1, q.2]
theorem zipD_len (xs ys : List D) : (zipD xs ys).length = min xs.length ys.length := by unfold zipD; rw [List.length_map, List.length_zip]
theorem zipD_of {xs ys : List D} {i : Nat} {x y : D} (h : xs[i]? = some x) (g : ys[i]? = some y) : (zipD xs ys)[i]? = some (.tup [x, y]) := by
  unfold zipD
  have e : (xs.zip ys)[i]? = some (x, y) := List.getElem?_zip_eq_some.mpr ⟨h, g⟩
  rw [List.getElem?_map, e]
  rfl
theorem zipD_at {xs ys : List D} {i : Nat} {d : D} (h : (zipD xs ys)[i]? = some d) : ∃ x y, xs[i]? = some x ∧ ys[i]? = some y ∧ d = .tup [x, y] := by
  unfold zipD at h
  rw [List.getElem?_map] at h
  cases e : (xs.zip ys)[i]? with
  | none => rw [e] at h; cases h
  | some q =>
    rw [e] at h
    obtain ⟨h1, h2⟩ := List.getElem?_zip_eq_some.mp (show (xs.zip ys)[i]? = some (q.1, q.2) from e)
    cases h
    exact ⟨_, _, h1, h2, rfl⟩
/-- a sequence that stays readable as long as what is owned says so -/
theorem asS_B {K : Fr} {F H : Hp} {O : Oh} {x : D} {xs : List D} {v : V} (s : StO K F O H) (r : RepD K F v x) (h : asS O x = some xs) : ∃ p b, v = .ref p ∧ ∀ (F' H' : Hp) (O' : Oh), Same F F' → StO K F' O' H' → asS O' x = some xs → ∃ vs, SqB K b H' p vs ∧ RepsD K F' vs xs := by
  cases x with
  | tup ys =>
    cases h
    cases r with
    | tup a t => exact ⟨_, true, rfl, fun F' H' O' s1 st _ => ⟨_, sqT_same st.same (sqT_same s1 a), t.mono s1⟩⟩
  | lst ys =>
    obtain ⟨p, vs, rfl, _, _⟩ := asL_sq s r (x := .lst ys) h
    refine ⟨p, false, rfl, fun F' H' O' s1 st g => ?_⟩
    obtain ⟨p', vs', e, g1, g2⟩ := asL_sq st (r.mono s1) (x := .lst ys) g
    cases e
    exact ⟨vs', .of g1, g2⟩
  | ref q =>
    obtain ⟨p, vs, rfl, _, _⟩ := asL_sq s r (x := .ref q) h
    refine ⟨p, false, rfl, fun F' H' O' s1 st g => ?_⟩
    obtain ⟨p', vs', e, g1, g2⟩ := asL_sq st (r.mono s1) (x := .ref q) g
    cases e
    exact ⟨vs', .of g1, g2⟩
  | _ => cases h
theorem i_zipB {c : Cz} {ρ : En} {O : Oh} {Q : List D → (Oh → Prop) → Oh → Prop} {K' : Fr} (hK : K' = c.K) {ta : TA} (q : LA c ta ρ O fun ds O1 => ∃ x y xs ys, ds = [x, y] ∧ asS O1 x = some xs ∧ asS O1 y = some ys ∧ Q (zipD xs ys) (fun O2 => asS O2 x = some xs ∧ asS O2 y = some ys) O1) : LI c (iZipB K' ta) ρ O Q := by
  subst hK
  intro F H σ rs s z Q' k
  refine q F H σ rs s z _ fun F1 H1 O1 vs ds s1 st1 rd1 ⟨x, y, xs, ys, e, hx, hy, q1⟩ => ?_
  subst e
  cases rd1 with
  | cons ra t =>
    cases t with
    | cons rb t =>
      cases t
      obtain ⟨a, p, rfl, ha⟩ := asS_B st1 ra hx
      obtain ⟨b, p', rfl, hb⟩ := asS_B st1 rb hy
      obtain ⟨us, h1, r1⟩ := ha F1 H1 O1 (Same.refl _) st1 hx
      obtain ⟨ws, h2, r2⟩ := hb F1 H1 O1 (Same.refl _) st1 hy
      refine ⟨a, b, p, p', us, ws, rfl, h1, h2, k F1 H1 O1 _ _ _ s1 st1 ⟨fun H' => ∃ us ws, SqB c.K p H' a us ∧ us.length = xs.length ∧ SqB c.K p' H' b ws ∧ ws.length = ys.length, fun i H' v H2 => (ItzB c.K p p' a b).yld i H' v H2, ?_, ?_, ?_⟩ q1⟩
      · refine ⟨fun i H' hi ⟨us, ws, g1, g2, g3, g4⟩ => ?_, fun H' ⟨us, ws, g1, g2, g3, g4⟩ => ?_, fun i H' v H2 _ _ yy => yy⟩
        · rw [zipD_len] at hi
          exact ⟨us, ws, us[i]'(by omega), ws[i]'(by omega), g1, g3, by simp [show i < us.length by omega], by simp [show i < ws.length by omega]⟩
        · exact ⟨us, ws, g1, g3, by rw [zipD_len, g2, g4]⟩
      · rintro F' H' O' s2 st2 ⟨g1, g2⟩
        obtain ⟨us, e1, e2⟩ := ha F' H' O' s2 st2 g1
        obtain ⟨ws, e3, e4⟩ := hb F' H' O' s2 st2 g2
        exact ⟨us, ws, e1, e2.len, e3, e4.len⟩
      · rintro i F' H' O' v H2 s2 st2 ⟨g1, g2⟩ hi ⟨T, x', y', e1, e2, e3, e4, e5⟩
        subst e1 e3
        obtain ⟨us, k1, k2⟩ := ha F' H' O' s2 st2 g1
        obtain ⟨ws, k3, k4⟩ := hb F' H' O' s2 st2 g2
        obtain ⟨d, f1, f2⟩ := k2.at (e4 us k1)
        obtain ⟨d', f3, f4⟩ := k4.at (e5 ws k3)
        obtain ⟨F2, b1, b2, b3⟩ := pair_new st2 e2 f2 f4
        exact ⟨F2, _, b1, b2, b3, zipD_of f1 f3⟩
end VL
set_option maxHeartbeats 4000000
namespace VL
open PySem PySem.Spec PyProof.Rows L2 MB
section
variable {X : Cx} {tg : Expr}
def iSeq (K : Fr) (tl : TE) : TI := fun σ H R => tl σ H fun x H1 => ∃ a, x = .ref a ∧ ((∃ xs, SqL K H1 a xs) ∧ R (Itl K a) H1 ∨ (∃ xs, SqT K H1 a xs) ∧ R (Itt K a) H1)
theorem pi_seq {l : Expr} {tl : TE} (hl : PE X l tl) : PI X tg l (iSeq X.K tl) := by
  refine ⟨fun pins s σ H R I h => thn (hl.run pins s σ H _ I h) fun v s1 ⟨x, H1, I1, r1, a, e, q1⟩ => ?_⟩
  subst e
  cases r1
  have nf : ∀ b ∈ [s1.heap.objs.size], FpOk X pins H1 b := fun b hb => by
    cases List.mem_singleton.mp hb
    exact I1.fpOk (Nat.le_refl _) (I1.hok.fresh (Nat.le_refl _))
  rcases q1 with ⟨⟨xs, hq⟩, q⟩ | ⟨⟨xs, hq⟩, q⟩
  · obtain ⟨its, rv, p, hz⟩ := I1.list hq
    exact wpAny_pyIter_list p.isList ⟨s1.heap.objs.size, [s1.heap.objs.size], _, _, H1, rfl, I1.kept (t' := s1.toks) fun b o e => Heap.get?_push_of_some _ e, turn_list a _, ⟨_, Heap.get?_push_size _ rfl, rfl, rfl⟩, nf, q⟩
  · obtain ⟨its, rv, p, hz⟩ := I1.tuple hq
    exact wpAny_pyIter_tuple (show s1.heap.IsTuple a its.toArray from p) ⟨s1.heap.objs.size, [s1.heap.objs.size], _, _, H1, rfl, I1.kept (t' := s1.toks) fun b o e => Heap.get?_push_of_some _ e, turn_tuple a _, ⟨_, Heap.get?_push_size _ rfl, rfl, rfl⟩, nf, q⟩
def iEnumA (K : Fr) (ta : TA) : TI := fun σ H R => ta σ H fun vs H1 => ∃ a, vs = [.ref a] ∧ ((∃ xs, SqL K H1 a xs) ∧ R (Ite K a) H1 ∨ (∃ xs, SqT K H1 a xs) ∧ R (IteT K a) H1)
theorem pi_enumA {e : Expr} {ta : TA} {p pos tpos : Pos} {elts : List Expr} {kk : Nat} (hg : Gl X "enumerate") (hm : X.mg "enumerate" = none) (ha : PA X [e] ta) (hs : starEach [e] X.env = [(false, eval e X.env)] := by rfl) : PI X (.Tuple elts kk tpos) (.Call (.Name "enumerate" p) [e] [] pos) (iEnumA X.K ta) := by
  refine ⟨fun pins s σ H R I h => Call_ (ld_blt I hg hm PyProof.Rows.boot_enumerate (PyProof.Rows.callWith_type1 (thn (ha.run pos pins s σ H _ I h) fun us s1 ⟨vs, H1, I1, r1, q1⟩ => ?_) hs rfl))⟩
  obtain ⟨a, rfl, q1⟩ := q1
  obtain ⟨u, rfl, ru⟩ := vals1 r1
  cases ru
  -- one cell for the walk, one for the pairs
  have go : ∀ (ob : Obj) (HH : Heap → Prop) (J : It) (tn : Nat → Heap → Prop), Begins (.ref a) ob HH → HH s1.heap → R J H1 → Turn X.prog X.w X.K (.Tuple elts kk tpos) J [s1.heap.objs.size + 1, s1.heap.objs.size] (s1.heap.objs.size + 1) tn →
      (∀ h' : Heap, IsEnum h' (s1.heap.objs.size + 1) s1.heap.objs.size 0 .none → h'.get? s1.heap.objs.size = some ob → tn 0 h') → wpAny (model X.prog X.w) X.A (call (.type "enumerate") [.ref a]) (fun v s2 => wpAny (model X.prog X.w) X.A (pyIter v) (PIE X pins σ (.Tuple elts kk tpos) R) X.xe s2) X.xe s1 := by
    intro ob HH J tn B hh q T ht
    refine callType_new F.called_enumerate (by decide) (F.typeCall_enumerate_1 _) (F.newCall_enumerate_1 _) (fun obj => F.args_object_init_2 obj _) F.entry_enumerate_new (meets_en1 B) ⟨hh, ?_⟩
    have z1 : (s1.heap.push ob).objs.size = s1.heap.objs.size + 1 := Heap.size_push ..
    show _ ∧ _
    rw [z1]
    have he : IsEnum ((s1.heap.push ob).push { cls := .type "enumerate", data := .fields #[.none, .bool false, .ref s1.heap.objs.size, rawInt 0, .none, .none] }) (s1.heap.objs.size + 1) s1.heap.objs.size 0 .none := by
      have g := Heap.get?_push_size (s1.heap.push ob) (o := { cls := .type "enumerate", data := .fields #[.none, .bool false, .ref s1.heap.objs.size, rawInt 0, .none, .none] }) rfl
      rw [z1] at g; exact g
    refine ⟨⟨_, he, rfl⟩, wpAny_pyIter_enum he ?_⟩
    have I2 := I1.kept (t' := s1.toks) (h' := (s1.heap.push ob).push { cls := .type "enumerate", data := .fields #[.none, .bool false, .ref s1.heap.objs.size, rawInt 0, .none, .none] }) fun b o x => Heap.get?_push_of_some _ (Heap.get?_push_of_some _ x)
    refine ⟨s1.heap.objs.size + 1, [s1.heap.objs.size + 1, s1.heap.objs.size], _, _, H1, rfl, I2, T, ht _ he (Heap.get?_push_of_some _ (Heap.get?_push_size _ B.free)), fun b hb => ?_, q⟩
    have hle : s1.heap.objs.size ≤ b := by
      rcases List.mem_cons.mp hb with z | z
      · rw [z]; exact Nat.le_succ _
      · rw [List.mem_singleton.mp z]; exact Nat.le_refl _
    exact I1.fpOk hle (I1.hok.fresh hle)
  rcases q1 with ⟨⟨xs, hq⟩, q⟩ | ⟨⟨xs, hq⟩, q⟩
  · obtain ⟨its, rv, p, hz⟩ := I1.list hq
    exact go _ _ _ _ (begins_list a its.toArray) p.isList q (turn_enum a _ _) fun h' he g => ⟨⟨.none, he⟩, ⟨_, g, rfl, rfl⟩, Nat.succ_ne_self _⟩
  · obtain ⟨its, rv, pt, hz⟩ := I1.tuple hq
    have al : a < s1.heap.objs.size := by obtain ⟨o, ho, _⟩ := pt; exact Heap.lt_size ho
    exact go _ _ _ _ (begins_tuple a its.toArray) pt q (turn_enumT a _ _) fun h' he g => ⟨⟨.none, he⟩, ⟨_, g, rfl, rfl⟩, Nat.succ_ne_self _, Nat.ne_of_lt al, Nat.ne_of_lt (Nat.lt_succ_of_lt al)⟩
end
section
variable {prog : Program} {w : World} {A : Around} {E : Value → Shared → Prop} {s : Shared}
theorem collect_tup {l : Addr} {vs : List Value} {Q : List Value → Shared → Prop} (hl : s.heap.IsTuple l vs.toArray) (hz : vs.length ≤ sizeLine)
    (h : Q vs { s with heap := (s.heap.push (seqObj "list" #[] 0)).update s.heap.objs.size (Obj.mapSeq (· ++ vs.toArray)) }) : wpAny (model prog w) A (collect (.ref l)) Q E s := by
  obtain ⟨o, ho, hc, n, hd⟩ := id hl
  unfold collect
  refine wpAny_bind (wpAny_runValue (codeAny_builtin entry_proto_collect' ?_))
  show wpAny _ _ (do again (.builtin "list.__iadd__" ⟨[← newList [], .ref l], []⟩)) _ _ s
  refine wpAny_bind (wpAny_newList (wpAny_pure ⟨Code.quiet_builtin _ (by decide +kernel), codeAny_builtin entry_list_iadd' ?_⟩))
  show wpAny _ _ (Builtin.List.listExtendWith (.ref s.heap.objs.size) (.ref l) (.ref s.heap.objs.size)) _ _ { s with heap := s.heap.push (seqObj "list" #[] 0) }
  unfold Builtin.List.listExtendWith
  have ho2 : (s.heap.push (seqObj "list" #[] 0)).get? l = some o := Heap.get?_push_of_some _ ho
  refine wpAny_bind (wpAny_typeOf (T := "tuple") ⟨o, ho2, hc⟩ ?_)
  rw [if_pos (by rw [show (Value.type "tuple" == Value.type "tuple") = true from rfl]; simp)]
  refine wpAny_bind (listItems_at ho2 hd ?_)
  refine wpAny_bind (listItems_at (xs := #[]) (n := 0) (Heap.get?_push_size _ rfl) rfl ?_)
  rw [if_neg (by simp)]
  refine wpAny_bind (listUpdate_at (xs := #[]) (n := 0) (Heap.get?_push_size _ rfl) rfl ?_ (Nat.zero_le _) (by show (#[] ++ vs.toArray).size ≤ sizeLine + 1; simp only [Array.size_append, List.size_toArray, List.length_nil]; omega))
  refine wpAny_pure ?_
  show wpAny (model prog w) A (do
      let o ← load s.heap.objs.size
      match o.data with
      | .seq xs _ => pure xs.toList
      | _ => unsupported "internal:collect") Q E { s with heap := (s.heap.push (seqObj "list" #[] 0)).update s.heap.objs.size (Obj.mapSeq (· ++ vs.toArray)) }
  refine wpAny_bind (wpAny_load (get?_update_seq (Heap.get?_push_size _ rfl) _) ?_)
  show wpAny _ _ (pure ((#[] : Array Value) ++ vs.toArray).toList) Q E _
  rw [show ((#[] : Array Value) ++ vs.toArray).toList = vs by simp]
  exact wpAny_pure h
open SrtO in
theorem sorted_tup {l : Addr} {vs : List Value} {ltv : Value → Value → Bool} {Q : Value → Shared → Prop} (O : Swo ltv) (hl : s.heap.IsTuple l vs.toArray) (hz : vs.length ≤ sizeLine)
    (hS : 2 ≤ vs.length → ∀ (h₁ : Heap) (a : Addr), h₁.get? a = some (seqObj "list" vs.toArray 0) → (∀ b o, s.heap.get? b = some o → b ≠ a ∧ h₁.get? b = some o) → SortableO prog w A.in1.in1 { s with heap := h₁ } a vs ltv)
    (h : ∀ out : List Value, Srtd ltv out → Stb ltv out vs → Q (.ref (s.heap.objs.size + 1)) { s with heap := sortedAll s.heap vs out.toArray }) : wpAny (model prog w) A (call (.builtin "sorted") [.ref l]) Q E s := by
  refine PySem.Calls.call_function_entry kind_sorted plain_sorted entry_sorted (args_sorted1 _) ?_
  unfold Builtin.«sorted»
  refine wpAny_bind (m := checkCount "sorted" 1 1 _) (wpAny_pure ?_)
  refine wpAny_bind (collect_tup hl hz ?_)
  refine wpAny_bind (wpAny_newList ?_ hz)
  have z1 : ((s.heap.push (seqObj "list" #[] 0)).update s.heap.objs.size (Obj.mapSeq (· ++ vs.toArray))).objs.size = s.heap.objs.size + 1 := by rw [Heap.size_update, size_push']
  have g1 : (((s.heap.push (seqObj "list" #[] 0)).update s.heap.objs.size (Obj.mapSeq (· ++ vs.toArray))).push (seqObj "list" vs.toArray 0)).get? (s.heap.objs.size + 1) = some (seqObj "list" vs.toArray 0) := by rw [← z1]; exact Heap.get?_push_size _ rfl
  have kp : ∀ b o, s.heap.get? b = some o → b ≠ s.heap.objs.size + 1 ∧ (((s.heap.push (seqObj "list" #[] 0)).update s.heap.objs.size (Obj.mapSeq (· ++ vs.toArray))).push (seqObj "list" vs.toArray 0)).get? b = some o := fun b o q => by
    have lt : b < s.heap.objs.size := Heap.lt_size q
    refine ⟨Nat.ne_of_lt (Nat.lt_succ_of_lt lt), Heap.get?_push_of_some _ ?_⟩
    rw [Heap.get?_update_ne _ _ _ _ (Nat.ne_of_lt lt)]
    exact Heap.get?_push_of_some _ q
  show wpAny _ _ _ _ _ { s with heap := ((s.heap.push (seqObj "list" #[] 0)).update s.heap.objs.size (Obj.mapSeq (· ++ vs.toArray))).push (seqObj "list" vs.toArray 0) }
  rw [z1]
  refine wpAny_bind (wpAny_holding (wpAny_call_entry slot_list_sort ⟨_, g1, rfl⟩ entry_list_sort (list_sort_ord O g1 hz (fun h2 => hS h2 _ _ g1 kp) fun out hs hb => ⟨_, rfl, ?_⟩) (args_list_sort _)))
  exact wpAny_pure ⟨_, rfl, h out hs hb⟩
end
def rSortedA (K : Fr) : RC := fun vs H Q => ∃ (a : Addr) (ns : List Int), vs = [V.ref a] ∧ (SqL K H a (ns.map V.int) ∨ SqT K H a (ns.map V.int)) ∧ ∀ (ms : List Int) (p : Addr), ms.Perm ns → ms.Pairwise (· ≤ ·) → H p = none → Q (.ref p) (upd H p (.lst (ms.map V.int)))
theorem cr_sortedA {X : Cx} : CallR X (.builtin "sorted") (rSortedA X.K) := by
  intro pins s σ H vs us Q I r h
  obtain ⟨a, ns, rfl, hs, q⟩ := h
  rcases hs with hs | hs
  · exact cr_sortedI pins s σ H _ us Q I r ⟨a, ns, rfl, hs, q⟩
  · obtain ⟨its, rv, hl, hz⟩ := I.tuple hs
    rw [Vals.ref1 r]
    have hi := rv.ints
    refine sorted_tup SrtO.swo_int hl (by rw [← rv.length]; exact hz) (fun h2 h₁ a' _ _ => SrtO.ints_sortable hi h2) fun out h1 h2 => ?_
    obtain ⟨k1, k2, k3⟩ := SrtO.ints_out hi h1 h2
    obtain ⟨ep, he'⟩ := PyProof.Rows.sortedAll_at s.heap its out.toArray
    have hlen : ((out.map SrtO.iv).map V.int).length ≤ sizeLine := by
      rw [List.length_map, k2.length_eq, ← List.length_map (f := V.int)]
      exact hz
    exact ⟨.ref _, upd H (s.heap.objs.size + 1) (.lst ((out.map SrtO.iv).map V.int)), I.laid (t' := s.toks) (fun _ _ => PyProof.Rows.sortedAll_old) (Nat.le_succ _) ⟨hlen, out, ep, vals_of_ints k1, he'⟩, rfl, q _ _ k2 k3 (I.hok.fresh (Nat.le_succ _))⟩
section
variable {c : Cz} {ρ : En} {O : Oh} {Q : List D → (Oh → Prop) → Oh → Prop}
theorem dw_seqT {K : Fr} {F : Hp} {p : Addr} {vs : List V} {xs : List D} (h : SqT K F p vs) (r : RepsD K F vs xs) : DW K F (Itt K p) xs (fun _ => True) := by
  refine ⟨fun H' => SqT K H' p vs, YAt vs, by rw [← r.len]; exact walk_tup, fun F' H' O' s2 st2 _ => sqT_same st2.same (sqT_same s2 h), fun i F' H' O' y H2 s2 st2 _ hi ⟨e1, e2⟩ => ?_⟩
  subst e1
  obtain ⟨d, e3, e4⟩ := (r.mono s2).at e2
  exact ⟨F', d, Same.refl _, st2, e4, e3⟩
theorem DW.imp {K : Fr} {F : Hp} {J : It} {ds : List D} {G G' : Oh → Prop} (h : DW K F J ds G) (g : ∀ O, G' O → G O) : DW K F J ds G' := by
  obtain ⟨Gh, Yh, a, b, d⟩ := h.ex
  exact ⟨Gh, Yh, a, fun F' H' O' s st q => b F' H' O' s st (g O' q), fun i F' H' O' x H2 s st q => d i F' H' O' x H2 s st (g O' q)⟩
theorem i_seq {K' : Fr} (hK : K' = c.K) {tl : TE} (q : LE c tl ρ O fun x O1 => ∃ xs, asS O1 x = some xs ∧ Q xs (fun O2 => asS O2 x = some xs) O1) : LI c (iSeq K' tl) ρ O Q := by
  subst hK
  intro F H σ rs s z Q' k
  refine q F H σ rs s z _ fun F1 H1 O1 v x s1 st1 rd1 ⟨xs, h, q1⟩ => ?_
  by_cases ht : ∃ ys, x = .tup ys
  · obtain ⟨ys, rfl⟩ := ht
    cases h
    cases rd1 with
    | @tup p vs _ h r => exact ⟨p, rfl, .inr ⟨⟨vs, sqT_same st1.same h⟩, k F1 H1 O1 _ _ _ s1 st1 ((dw_seqT h r).imp fun _ _ => trivial) q1⟩⟩
  · have e : ∀ O, asS O x = asL O x := fun O => by
      cases x with
      | tup ys => exact absurd ⟨ys, rfl⟩ ht
      | _ => rfl
    rw [e] at h
    obtain ⟨p, vs, rfl, hp, r⟩ := asL_sq st1 rd1 h
    exact ⟨p, rfl, .inl ⟨⟨vs, .of hp⟩, k F1 H1 O1 _ _ _ s1 st1 ((dw_list (vs := vs) st1 rd1 h).imp fun O2 z => by rw [← e]; exact z) q1⟩⟩
theorem i_enumA {K' : Fr} (hK : K' = c.K) {ta : TA} (q : LA c ta ρ O fun ds O1 => ∃ x xs, ds = [x] ∧ asS O1 x = some xs ∧ Q (enumD xs) (fun O2 => asS O2 x = some xs) O1) : LI c (iEnumA K' ta) ρ O Q := by
  subst hK
  intro F H σ rs s z Q' k
  refine q F H σ rs s z _ fun F1 H1 O1 vs ds s1 st1 rd1 ⟨x, xs, e, h, q1⟩ => ?_
  subst e
  cases rd1 with
  | cons ra t =>
    cases t
    by_cases ht : ∃ ys, x = .tup ys
    · obtain ⟨ys, rfl⟩ := ht
      cases h
      cases ra with
      | @tup p us _ h r =>
        refine ⟨p, rfl, .inr ⟨⟨us, sqT_same st1.same h⟩, k F1 H1 O1 _ _ _ s1 st1 ⟨fun H' => SqT c.K H' p us, _, by rw [enumD_len, ← r.len]; exact walk_enumT, fun F' H' O' s2 st2 _ => sqT_same st2.same (sqT_same s2 h), ?_⟩ q1⟩⟩
        rintro i F' H' O' y H2 s2 st2 _ hi ⟨T, x, x', e1, e2, e3, e4, e5⟩
        subst e1 e3
        cases e4
        obtain ⟨d, e6, e7⟩ := (r.mono s2).at e5
        obtain ⟨F2, a1, a2, a3⟩ := pair_new st2 e2 (.int (i : Nat)) e7
        exact ⟨F2, _, a1, a2, a3, enumD_of e6⟩
    · have e : ∀ O, asS O x = asL O x := fun O => by
        cases x with
        | tup ys => exact absurd ⟨ys, rfl⟩ ht
        | _ => rfl
      rw [e] at h
      obtain ⟨p, us, rfl, hp, r⟩ := asL_sq st1 ra h
      refine ⟨p, rfl, .inl ⟨⟨us, .of hp⟩, k F1 H1 O1 _ _ _ s1 st1 ⟨fun H' => ∃ vs', H' p = some (.lst vs') ∧ vs'.length = xs.length, fun i H' v H2 => ∃ T y, v = .ref T ∧ H' T = none ∧ H2 = upd H' T (.tup [.int (i : Nat), y]) ∧ ∀ ys, SqL c.K H' p ys → ys[i]? = some y, ?_, ?_, ?_⟩ q1⟩⟩
      · rw [enumD_len]
        exact ⟨fun i H' hi ⟨vs', a, b⟩ => ⟨vs', vs'[i]'(by omega), .of a, by simp [show i < vs'.length by omega]⟩, fun H' ⟨vs', a, b⟩ => ⟨vs', .of a, by omega⟩, fun i H' y H2 hi q y' => y'⟩
      · intro F' H' O' s2 st2 g
        rw [e] at g
        obtain ⟨p', vs', e, hp', r'⟩ := asL_sq st2 (ra.mono s2) g
        cases e
        exact ⟨vs', hp', r'.len⟩
      · rintro i F' H' O' y H2 s2 st2 g hi ⟨T, y', e1, e2, e3, e4⟩
        subst e1 e3
        rw [e] at g
        obtain ⟨p', vs', e, hp', r'⟩ := asL_sq st2 (ra.mono s2) g
        cases e
        obtain ⟨d, e6, e7⟩ := r'.at (e4 vs' (.of hp'))
        obtain ⟨F2, a1, a2, a3⟩ := pair_new st2 e2 (.int (i : Nat)) e7
        exact ⟨F2, _, a1, a2, a3, enumD_of e6⟩
theorem k_sortedA {K' : Fr} (hK : K' = c.K) {x : D} {ns : List Int} {Q : List D → Oh → Prop} (h : asS O x = some (ns.map D.int)) (q : ∀ ms : List Int, ms.Perm ns → ms.Pairwise (· ≤ ·) → Q (ms.map D.int) O) : CAN c (rSortedA K') [x] O Q := by
  subst hK
  intro F H vs s r z Q' k
  cases r with
  | cons a t =>
    cases t
    obtain ⟨p, ws, rfl, hp, r⟩ := asS_sq s a h
    cases repsD_ints r
    exact ⟨p, ns, rfl, hp, fun ms l hm hs hl => k F H O l _ _ (Same.refl F) s hl repsD_int' (q ms hm hs)⟩
theorem f_sortedA {K' : Fr} (hK : K' = c.K) {ta : TA} {Q : D → Oh → Prop} (q : LA c ta ρ O fun xs O1 => CAN c (rSortedA K') xs O1 fun ys O2 => Q (.lst ys) O2) : LE c (tCB (rSortedA K') ta) ρ O Q := l_frz (ln_cb q)
end
end VL
set_option maxHeartbeats 2000000
namespace VL
open PySem PySem.Spec PyProof.Rows L2 MB
def six : List String := ["NoneType", "bool", "int", "str", "list", "tuple"]
def Kn (O : Oh) (t : D) : Prop := ∃ n, tyD O t = some n ∧ n ∈ six
theorem kit_six_int {n : String} (h : n ∈ six) : kitB n "int" = some (n == "int" || n == "bool") := by
  simp only [six, List.mem_cons, List.not_mem_nil, or_false] at h
  rcases h with rfl | rfl | rfl | rfl | rfl | rfl
  · exact K00.kit_ni
  · exact K00.kit_bi
  · exact K00.kit_ii
  · exact K00.kit_si
  · exact K00.kit_li
  · exact K00.kit_ti
theorem kit_six_bool {n : String} (h : n ∈ six) : kitB n "bool" = some (n == "bool") := by
  simp only [six, List.mem_cons, List.not_mem_nil, or_false] at h
  rcases h with rfl | rfl | rfl | rfl | rfl | rfl
  · exact K00.kit_nb
  · exact K00.kit_bb
  · exact K00.kit_ib
  · exact K00.kit_sb
  · exact K00.kit_lb
  · exact K00.kit_tb
theorem kit_six_tup {n : String} (h : n ∈ six) : kitB n "tuple" = some (n == "tuple") := by
  simp only [six, List.mem_cons, List.not_mem_nil, or_false] at h
  rcases h with rfl | rfl | rfl | rfl | rfl | rfl
  · exact K00.kit_nt
  · exact K00.kit_bt
  · exact K00.kit_it
  · exact K00.kit_st
  · exact K00.kit_lt
  · exact K00.kit_tt
theorem kit_six_lst {n : String} (h : n ∈ six) : kitB n "list" = some (n == "list") := by
  simp only [six, List.mem_cons, List.not_mem_nil, or_false] at h
  rcases h with rfl | rfl | rfl | rfl | rfl | rfl
  · exact K00.kit_nl
  · exact K00.kit_bl
  · exact K00.kit_il
  · exact K00.kit_sl
  · exact K00.kit_ll
  · exact K00.kit_tl
theorem kn_non {O : Oh} : Kn O .non := ⟨_, rfl, by decide⟩
theorem kn_bl {O : Oh} {b : Bool} : Kn O (.bl b) := ⟨_, rfl, by decide⟩
theorem kn_int {O : Oh} {i : Int} : Kn O (.int i) := ⟨_, rfl, by decide⟩
theorem kn_str {O : Oh} {x : Str} : Kn O (.str x) := ⟨_, rfl, by decide⟩
theorem kn_lst {O : Oh} {xs : List D} : Kn O (.lst xs) := ⟨_, rfl, by decide⟩
theorem kn_tup {O : Oh} {xs : List D} : Kn O (.tup xs) := ⟨_, rfl, by decide⟩
theorem kn_own {O : Oh} {p : Addr} {xs : List D} (h : O p = some (.lst xs)) : Kn O (.ref p) := ⟨_, tyD_own h, by decide⟩
theorem ty_int {O : Oh} {t : D} (h : tyD O t = some "int") : ∃ i, t = .int i := by
  cases t with
  | int i => exact ⟨i, rfl⟩
  | ref p =>
    have h : (match O p with | some (.lst _) => some "list" | some (.dk _) => some "dict" | _ => none) = some "int" := h
    split at h <;> simp at h
  | _ => simp [tyD] at h
theorem ty_seq {O : Oh} {t : D} {n : String} (h : tyD O t = some n) : (n == "list" || n == "tuple") = (asS O t).isSome := by
  cases t with
  | ref p =>
    have h : (match O p with | some (.lst _) => some "list" | some (.dk _) => some "dict" | _ => none) = some n := h
    show _ = (match O p with | some (.lst xs) => some xs | _ => none).isSome
    split at h
    · rename_i e; cases h; rw [e]; rfl
    · rename_i e; cases h; rw [e]; rfl
    · cases h
  | non => cases h; rfl
  | bl => cases h; rfl
  | int => cases h; rfl
  | str => cases h; rfl
  | lst => cases h; rfl
  | tup => cases h; rfl
  | _ => simp [tyD] at h
theorem ty_tup {O : Oh} {t : D} (h : tyD O t = some "tuple") : ∃ xs, t = .tup xs := by
  cases t with
  | tup xs => exact ⟨xs, rfl⟩
  | ref p =>
    have h : (match O p with | some (.lst _) => some "list" | some (.dk _) => some "dict" | _ => none) = some "tuple" := h
    split at h <;> simp at h
  | _ => simp [tyD] at h
def isInt : D → Bool
  | .int _ => true
  | _ => false
def geB : D → Int → Bool
  | .int l, i => decide (i ≥ l)
  | _, _ => true
def leB : D → Int → Bool
  | .int l, i => decide (i ≤ l)
  | _, _ => true
def isWhole (t lo hi : D) : Bool := match t with
  | .int i => geB lo i && leB hi i
  | _ => false
def Bd (d : D) : Prop := d = .non ∨ ∃ i, d = .int i
def isTup : D → Bool
  | .tup _ => true
  | _ => false
def isStr : D → Bool
  | .str _ => true
  | _ => false
def toI : D → Int
  | .int i => i
  | _ => 0
/-- a ratio in lowest terms -/
def isRatio : D → Bool
  | .tup [a, b] => isWhole a .non .non && (isWhole b (.int 1) .non && decide (Nat.gcd (toI a).natAbs (toI b).natAbs = 1))
  | _ => false
def isShare : D → Bool
  | .tup [a, b] => isRatio (.tup [a, b]) && (decide (0 ≤ toI a) && decide (toI a ≤ toI b))
  | _ => false
theorem whole_int {t lo hi : D} (h : isWhole t lo hi = true) : ∃ i, t = .int i := by
  cases t with
  | int i => exact ⟨i, rfl⟩
  | _ => simp [isWhole] at h
theorem isRatio_2 {a b : D} : isRatio (.tup [a, b]) = (isWhole a .non .non && (isWhole b (.int 1) .non && decide (Nat.gcd (toI a).natAbs (toI b).natAbs = 1))) := rfl
theorem isShare_2 {a b : D} : isShare (.tup [a, b]) = (isRatio (.tup [a, b]) && (decide (0 ≤ toI a) && decide (toI a ≤ toI b))) := rfl
theorem isShare_no {t : D} (h : isRatio t = false) : isShare t = false := by
  unfold isShare
  split
  · rw [h]; rfl
  · rfl
theorem isRatio_ii {t b : Int} : isRatio (.tup [.int t, .int b]) = (decide (b ≥ 1) && decide (Nat.gcd t.natAbs b.natAbs = 1)) := by
  rw [Bool.eq_iff_iff]; simp [isRatio, isWhole, geB, leB, toI]
  intro _
  exact ⟨fun h => of_decide_eq_true h, fun h => decide_eq_true h⟩
theorem isShare_ii {t b : Int} : isShare (.tup [.int t, .int b]) = ((decide (b ≥ 1) && decide (Nat.gcd t.natAbs b.natAbs = 1)) && (decide (0 ≤ t) && decide (t ≤ b))) := by
  show (isRatio _ && _) = _
  rw [isRatio_ii]; rfl
theorem ratio_ii {t : D} (h : isRatio t = true) : ∃ a b : Int, t = .tup [.int a, .int b] ∧ b ≥ 1 ∧ Nat.gcd a.natAbs b.natAbs = 1 := by
  unfold isRatio at h
  split at h
  · simp only [Bool.and_eq_true] at h
    obtain ⟨h1, h2, h3⟩ := h
    obtain ⟨i, rfl⟩ := whole_int h1
    obtain ⟨j, rfl⟩ := whole_int h2
    refine ⟨i, j, rfl, ?_, of_decide_eq_true h3⟩
    simpa [isWhole, geB, leB] using h2
  · cases h
/-- the ints of a sequence of ints -/
def intsOf (xs : List D) : Option (List Int) := xs.mapM fun
  | .int i => some i
  | _ => none
theorem intsOf_ints (ns : List Int) : intsOf (ns.map D.int) = some ns := by
  induction ns with
  | nil => rfl
  | cons n ns ih =>
    unfold intsOf at ih ⊢
    rw [List.map_cons, List.mapM_cons, ih]; rfl
theorem ints_of_all {xs : List D} {lo hi : D} (h : xs.all (fun x => isWhole x lo hi) = true) : ∃ ns : List Int, xs = ns.map D.int ∧ ∀ n ∈ ns, isWhole (.int n) lo hi = true := by
  induction xs with
  | nil => exact ⟨[], rfl, by simp⟩
  | cons x xs ih =>
    rw [List.all_cons, Bool.and_eq_true] at h
    obtain ⟨ns, e, hn⟩ := ih h.2
    cases x with
    | int i =>
      refine ⟨i :: ns, by rw [e]; rfl, fun n hm => ?_⟩
      rcases List.mem_cons.mp hm with z | z
      · subst z; exact h.1
      · exact hn n z
    | _ => simp [isWhole] at h
def lotB (xs : List D) (m : Int) : Bool := xs.all (fun x => isWhole x (.int 0) (.int (m - 1))) && (match intsOf xs with
  | some ns => decide ns.Nodup
  | none => false)
theorem lotB_ints {ns : List Int} {m : Int} : lotB (ns.map D.int) m = decide ((∀ n ∈ ns, 0 ≤ n ∧ n < m) ∧ ns.Nodup) := by
  unfold lotB
  rw [intsOf_ints, Bool.eq_iff_iff, Bool.and_eq_true, List.all_map, List.all_eq_true, decide_eq_true_eq, decide_eq_true_eq]
  constructor
  · rintro ⟨h1, h2⟩
    refine ⟨fun n hn => ?_, h2⟩
    have := h1 n hn
    simp only [Function.comp, isWhole, geB, leB, Bool.and_eq_true, decide_eq_true_eq] at this
    omega
  · rintro ⟨h1, h2⟩
    refine ⟨fun n hn => ?_, h2⟩
    have := h1 n hn
    simp only [Function.comp, isWhole, geB, leB, Bool.and_eq_true, decide_eq_true_eq]
    omega
def isLot (O : Oh) (t : D) (m : Int) : Bool := match asS O t with
  | some xs => lotB xs m
  | none => false
def longA (a : D → Option (List D)) (t : D) (n : Int) : Bool := match a t with
  | some xs => decide ((xs.length : Int) = n)
  | none => false
def digitsA (a : D → Option (List D)) (t : D) (n : Int) : Bool := match a t with
  | some xs => decide ((xs.length : Int) = n) && xs.all (fun x => isWhole x (.int 0) (.int 1))
  | none => false
theorem nb1 {b : Bool} (h : (!b) = true) : b = false := by simpa using h
theorem nb0 {b : Bool} (h : (!b) = false) : b = true := by simpa using h
theorem longA_some {a : D → Option (List D)} {t : D} {n : Int} {xs : List D} (h : a t = some xs) : longA a t n = decide ((xs.length : Int) = n) := by unfold longA; rw [h]
theorem longA_none {a : D → Option (List D)} {t : D} {n : Int} (h : a t = none) : longA a t n = false := by unfold longA; rw [h]
theorem digitsA_some {a : D → Option (List D)} {t : D} {n : Int} {xs : List D} (h : a t = some xs) : digitsA a t n = (decide ((xs.length : Int) = n) && xs.all (fun x => isWhole x (.int 0) (.int 1))) := by unfold digitsA; rw [h]
theorem digitsA_none {a : D → Option (List D)} {t : D} {n : Int} (h : a t = none) : digitsA a t n = false := by unfold digitsA; rw [h]
def srt (ns : List Int) : List Int := ns.mergeSort (fun a b => decide (a ≤ b))
theorem srt_perm (ns : List Int) : (srt ns).Perm ns := List.mergeSort_perm _ _
theorem srt_le (ns : List Int) : (srt ns).Pairwise (· ≤ ·) := (List.pairwise_mergeSort (le := fun a b : Int => decide (a ≤ b)) (fun a b c h1 h2 => by simp only [decide_eq_true_eq] at *; omega) (fun a b => by simp only [Bool.or_eq_true, decide_eq_true_eq]; omega) ns).imp fun h => of_decide_eq_true h
theorem srt_uniq {ms ns : List Int} (h1 : ms.Perm ns) (h2 : ms.Pairwise (· ≤ ·)) : ms = srt ns := List.Perm.eq_of_pairwise (le := fun a b : Int => a ≤ b) (fun a b _ _ h h' => Int.le_antisymm h h') h2 (srt_le ns) (h1.trans (srt_perm ns).symm)
theorem srt_congr {ms ns : List Int} (h : ms.Perm ns) : srt ms = srt ns := srt_uniq ((srt_perm ms).trans h) (srt_le ms)
theorem srt_sorted {ms : List Int} (h : ms.Pairwise (· ≤ ·)) : srt ms = ms := (srt_uniq (List.Perm.refl _) h).symm
theorem srt_srt (ns : List Int) : srt (srt ns) = srt ns := srt_sorted (srt_le ns)
theorem srt_len (ns : List Int) : (srt ns).length = ns.length := (srt_perm ns).length_eq
/-- a code: its bits and its checks -/
def codeD (C : Addr) (n : Int) (cs : List (List Int)) : D := .ins C [("bits", .int n), ("checks", .tup (cs.map fun c => .tup (c.map D.int)))]
end VL
set_option maxHeartbeats 2000000
namespace VL
open PySem PySem.Spec PyProof.Rows L2 MB
/-- O' holds all that O holds -/
def Ext (O O' : Oh) : Prop := ∀ a o, O a = some o → O' a = some o
theorem Ext.refl (O : Oh) : Ext O O := fun _ _ h => h
theorem Ext.trans {O O1 O2 : Oh} (a : Ext O O1) (b : Ext O1 O2) : Ext O O2 := fun x o h => b x o (a x o h)
theorem ext_new {O : Oh} {L : Addr} {o : OD} (h : O L = none) : Ext O (updO O L o) := fun a u e => by
  rw [updO_ne (fun z => by subst z; rw [h] at e; cases e)]; exact e
theorem asL_ext {O O' : Oh} {x : D} {xs : List D} (e : Ext O O') (h : asL O x = some xs) : asL O' x = some xs := by
  cases x with
  | lst ys => exact h
  | ref p =>
    have h : (match O p with | some (.lst xs) => some xs | _ => none) = some xs := h
    show (match O' p with | some (.lst xs) => some xs | _ => none) = some xs
    cases q : O p with
    | none => rw [q] at h; cases h
    | some o => rw [q] at h; rw [e p o q]; exact h
  | _ => cases h
theorem asS_ext {O O' : Oh} {x : D} {xs : List D} (e : Ext O O') (h : asS O x = some xs) : asS O' x = some xs := by
  cases x with
  | tup ys => exact h
  | lst ys => exact h
  | ref p => exact asL_ext (x := .ref p) e h
  | _ => cases h
theorem tyD_ext {O O' : Oh} {x : D} {n : String} (e : Ext O O') (h : tyD O x = some n) : tyD O' x = some n := by
  cases x with
  | ref p =>
    have h : (match O p with | some (.lst _) => some "list" | some (.dk _) => some "dict" | _ => none) = some n := h
    show (match O' p with | some (.lst _) => some "list" | some (.dk _) => some "dict" | _ => none) = some n
    cases q : O p with
    | none => rw [q] at h; cases h
    | some o => rw [q] at h; rw [e p o q]; exact h
  | _ => exact h
theorem Kn.ext {O O' : Oh} {x : D} (e : Ext O O') (h : Kn O x) : Kn O' x := by
  obtain ⟨n, h1, h2⟩ := h
  exact ⟨n, tyD_ext e h1, h2⟩
section
variable {c : Cz} {ρ : En} {O : Oh}
/-- [.. for x in xs]: each item is told by R, what is owned stays -/
theorem ln_rel {wi : TI} {g : TG} {te : TE} {vs : List Nat} {Q : List D → Oh → Prop} (R : Nat → D → D → Prop)
    (q : LI c wi ρ O fun ds G O1 => ds.length ≤ 100000 ∧ (∀ O2, Ext O1 O2 → G O2) ∧
      (∀ (i : Nat) (d : D) (O2 : Oh), ds[i]? = some d → Ext O1 O2 → LG c g vs d (wipeE ρ vs) O2 fun ρ2 O3 => LE c te ρ2 O3 fun y O4 => R i d y ∧ O4 = O2) ∧
      ∀ ys : List D, ys.length = ds.length → (∀ i d y, ds[i]? = some d → ys[i]? = some y → R i d y) → Q ys O1) : LN c (tLc wi g tYes te vs) ρ O Q := ln_lc fun F H σ rs s z Q' k => q F H σ rs s z Q' fun F1 H1 O1 J ds G s1 st1 dw ⟨hl, hG, hs, hd⟩ => k F1 H1 O1 J ds G s1 st1 dw fun L hL => by
    refine ⟨fun i acc O2 => i ≤ ds.length ∧ acc.length = i ∧ (∀ j d y, ds[j]? = some d → acc[j]? = some y → R j d y) ∧ O2 = updO O1 L (.lst acc), ⟨Nat.zero_le _, rfl, fun j d y _ e => by simp at e, rfl⟩, ?_, ?_, ?_⟩
    · rintro i acc O2 ⟨_, _, _, rfl⟩
      exact ⟨hG _ (ext_new hL), updO_same⟩
    · rintro i d acc O2 e ⟨hi0, ea, er, rfl⟩
      have hi : i < ds.length := (List.getElem?_eq_some_iff.mp e).1
      intro F3 H3 σ3 v3 rs3 st3 rv3 z3 Q3 k3
      refine hs i d _ e (ext_new hL) F3 H3 σ3 v3 rs3 st3 rv3 z3 Q3 fun F4 H4 O4 σ4 ρ4 s4 rs4 st4 w4 q4 => k3 F4 H4 O4 σ4 ρ4 s4 rs4 st4 w4 ?_
      refine l_yes (iteT ?_)
      intro F7 H7 σ7 rs7 st7 z7 Q7 k7
      refine q4 F7 H7 σ7 rs7 st7 z7 Q7 fun F8 H8 O8 v8 y8 s8 st8 rd8 ⟨e8, e9⟩ => k7 F8 H8 O8 v8 y8 s8 st8 rd8 ?_
      subst e9
      refine ⟨Nat.lt_of_lt_of_le (by omega) (le_line hl), updO_same, hi, by rw [List.length_append, ea]; rfl, fun j d' y e1 e2 => ?_, by rw [updO_updO]⟩
      by_cases hj : j < i
      · rw [List.getElem?_append_left (by omega)] at e2
        exact er j d' y e1 e2
      · rw [List.getElem?_append_right (by omega)] at e2
        have : j - acc.length = 0 := by
          by_cases h0 : j - acc.length = 0
          · exact h0
          · rw [List.getElem?_eq_none (by simp; omega)] at e2; cases e2
        rw [this] at e2
        simp at e2
        subst e2
        have : j = i := by omega
        subst this
        rw [e] at e1; cases e1
        exact e8
    · rintro acc O2 ⟨_, ea, er, rfl⟩
      rw [delO_updO hL]
      exact hd acc ea er
/-- [f(x) for x in xs], what is owned stays -/
theorem ln_map {wi : TI} {g : TG} {te : TE} {vs : List Nat} {Q : List D → Oh → Prop} (f : D → D)
    (q : LI c wi ρ O fun ds G O1 => ds.length ≤ 100000 ∧ (∀ O2, Ext O1 O2 → G O2) ∧
      (∀ (i : Nat) (d : D) (O2 : Oh), ds[i]? = some d → Ext O1 O2 → LG c g vs d (wipeE ρ vs) O2 fun ρ2 O3 => LE c te ρ2 O3 fun y O4 => y = f d ∧ O4 = O2) ∧
      Q (ds.map f) O1) : LN c (tLc wi g tYes te vs) ρ O Q := ln_rel (fun _ d y => y = f d) fun F H σ rs s z Q' k => q F H σ rs s z Q' fun F1 H1 O1 J ds G s1 st1 dw ⟨hl, hG, hs, hd⟩ => k F1 H1 O1 J ds G s1 st1 dw ⟨hl, hG, hs, fun ys e er => by
        have : ys = ds.map f := List.ext_getElem? fun i => by
          rw [List.getElem?_map]
          cases h : ds[i]? with
          | none =>
            rw [List.getElem?_eq_none (by rw [e]; exact List.getElem?_eq_none_iff.mp h)]; rfl
          | some d =>
            have hi : i < ys.length := by rw [e]; exact (List.getElem?_eq_some_iff.mp h).1
            rw [List.getElem?_eq_getElem hi]
            exact congrArg some (er i d _ h (List.getElem?_eq_getElem hi))
        rw [this]; exact hd⟩
end
end VL
set_option maxHeartbeats 2000000
namespace VL
open PySem PySem.Spec PyProof.Rows L2 MB
def gcdB (K : Fr) : Bool := match PySem.W.nsIn K mainGlobals "gcd" with
  | some (some (.builtin n)) => decide (n = "math.gcd")
  | _ => false
/-- a class with its own __eq__ -/
def neB (K : Fr) (C : Str) : Bool := decide (PySem.W.findIn K (.ref (He.ga K C)) "__ne__" = some (some (.builtin "object.__ne__"))) && (decide (PySem.W.mroIn K (He.ga K C) (.type "object") = some true) && (PySem.W.notFirst K (He.ga K C) (.ref (He.ga K C)) && six.all fun n => PySem.W.notFirst K (He.ga K C) (.type n)))
theorem neB_1 {K : Fr} {C : Str} (h : neB K C = true) : PySem.W.findIn K (.ref (He.ga K C)) "__ne__" = some (some (.builtin "object.__ne__")) := of_decide_eq_true (He.ba h).1
theorem neB_2 {K : Fr} {C : Str} (h : neB K C = true) : PySem.W.mroIn K (He.ga K C) (.type "object") = some true := of_decide_eq_true (He.ba (He.ba h).2).1
theorem neB_3 {K : Fr} {C : Str} (h : neB K C = true) : PySem.W.notFirst K (He.ga K C) (.ref (He.ga K C)) = true := (He.ba (He.ba (He.ba h).2).2).1
theorem neB_4 {K : Fr} {C : Str} {n : String} (h : neB K C = true) (hn : n ∈ six) : PySem.W.notFirst K (He.ga K C) (.type n) = true := List.all_eq_true.mp (He.ba (He.ba (He.ba h).2).2).2 n hn
section
variable {fa : List He.Fa} {fn : List He.DefD} {cs : List (Str × List Str)} {ex : Fr → Bool} {K : Fr} {mg : Str → Option Value}
theorem TxtV.ex_ (T : TxtV fa fn cs ex K mg) : ex K = true := (He.ba T.e).2
theorem TxtV.gcd (T : TxtV fa fn cs ex K mg) (c2 : gcdB K = true) : mg "gcd" = some (.builtin "math.gcd") := by
  obtain ⟨h', X, G⟩ := T.h
  unfold gcdB at c2
  split at c2
  · rename_i n q
    rw [of_decide_eq_true c2] at q
    exact PySem.W.mg_of X G q
  · cases c2
end
section
variable {c : Cz} {ρ : En} {O : Oh} {Q : D → Oh → Prop}
theorem l_calln1 {W : WL} {XE : XK} {ta : TA} (q : LA c ta ρ O fun ds O1 => W (ds ++ [.non]) O1 Q noX) : LE c (tCall (SpL c.K W) [.non] XE ta) ρ O Q := l_call (dds := [.non]) (fun _ => .cons .non .nil) q
theorem l_calln2 {W : WL} {XE : XK} {ta : TA} (q : LA c ta ρ O fun ds O1 => W (ds ++ [.non, .non]) O1 Q noX) : LE c (tCall (SpL c.K W) [.non, .non] XE ta) ρ O Q := l_call (dds := [.non, .non]) (fun _ => .cons .non (.cons .non .nil)) q
theorem k_allM {K' : Fr} (hK : K' = c.K) {x : D} {xs : List D} {p : D → Bool} (h : asL O x = some (xs.map fun d => D.bl (p d))) (q : Q (.bl (xs.all p)) O) : CAR c (rAll K') [x] O Q :=
  k_all hK (bs := xs.map p) (h.trans (by rw [List.map_map]; rfl)) (by rw [List.all_map]; exact q)
theorem k_anyM {K' : Fr} (hK : K' = c.K) {x : D} {xs : List D} {p : D → Bool} (h : asL O x = some (xs.map fun d => D.bl (p d))) (q : Q (.bl (xs.any p)) O) : CAR c (rAny K') [x] O Q :=
  k_any hK (bs := xs.map p) (h.trans (by rw [List.map_map]; rfl)) (by rw [List.any_map]; exact q)
theorem k_sumM {K' : Fr} (hK : K' = c.K) {x : D} {xs : List D} {p : D → Int} (h : asL O x = some (xs.map fun d => D.int (p d))) (q : Q (.int (xs.map p).sum) O) : CAR c (rSum K') [x] O Q :=
  k_sum hK (ns := xs.map p) (h.trans (by rw [List.map_map]; rfl)) q
end
end VL
set_option maxHeartbeats 2000000
namespace VL
open PySem PySem.Spec PyProof.Rows L2 MB
def Mth (P : Program) (w : World) (K : Fr) (mg : Str → Option Value) (base : Heap) (CX : CXT) (k : Nat) (C : Addr) (m : Str) (ps : List Str) (sp : Sp) : Prop := ∃ (f : Addr) (fd : FuncData), FnOk P w K mg base CX k f fd ps sp ∧ Meth K C m f ∧ Binds K fd ps []
def Mkr (P : Program) (w : World) (K : Fr) (mg : Str → Option Value) (base : Heap) (CX : CXT) (k : Nat) (x : Str) (C : Addr) (ps : List Str) (sp : Sp) : Prop := ∃ (f : Addr) (fd : FuncData), FnOk P w K mg base CX k f fd ps sp ∧ Mk K C f ∧ mg x = some (.ref C) ∧ Binds K fd ps []
theorem TxtV.meth {fa : List He.Fa} {fn : List He.DefD} {cs : List (Str × List Str)} {ex : Fr → Bool} {K : Fr} {mg : Str → Option Value} {x m : Str} (T : TxtV fa fn cs ex K mg) (i : Nat) (h : fa[i]? = some (.meth x m) := by rfl) : Meth K (He.ga K x) m (He.ma K (He.ga K x) m) := He.meth_ok (T.c.fact i h)
section
variable {X : Cx} {CX : CXT} {k : Nat} {C : Addr} {ps : List Str} {sp : Sp} {E : XK} {x : Str} {p pos : Pos} {e : Expr} {es : List Expr} {t : TA}
theorem cr_lenM (h : Mth X.prog X.w X.K X.mg X.base CX k C "__len__" ps sp) (hr : Room (k + 1) X.A) (hx : Passes CX X E) : CallR X (.builtin "len") (rLenO C sp E) := by
  obtain ⟨f, fd, F, M, hb⟩ := h
  exact call_lenO F M hb hx hr
theorem op_eqM (h : Mth X.prog X.w X.K X.mg X.base CX k C "__eq__" ps sp) (hr : Room k X.A) (hx : Passes CX X E) : OpR X (compareOp .Eq) (rEqO X.K C sp E) := by
  obtain ⟨f, fd, F, M, hb⟩ := h
  exact op_eqO F M hb hx hr
theorem op_neM (h : Mth X.prog X.w X.K X.mg X.base CX k C "__eq__" ps sp) (h1 : PySem.W.findIn X.K (.ref C) "__ne__" = some (some (.builtin "object.__ne__"))) (h2 : PySem.W.mroIn X.K C (.type "object") = some true) (hr : Room (k + 2) X.A) (hx : Passes CX X E) : OpR X (compareOp .NotEq) (rNeO X.K C sp E) := by
  obtain ⟨f, fd, F, M, hb⟩ := h
  exact op_neO F M h1 h2 hb hx hr
theorem pe_mkr (h : Mkr X.prog X.w X.K X.mg X.base CX k x C ps sp) (hr : Room (k + 1) X.A) (hx : Passes CX X E) (ha : PA X (e :: es) t) (hg : Gl X x := by rfl) (hdb : (x == ("__debug__" : Str)) = false := by decide)
    (he : starEach (e :: es) X.env = (false, eval e X.env) :: starEach es X.env := by rfl) (hpl : (backTo pos (starEach es X.env)).any (·.1) = false := by rfl) : PE X (.Call (.Name x p) (e :: es) [] pos) (tMake C sp [] E t) := by
  obtain ⟨f, fd, F, M, hm, hb⟩ := h
  exact pe_make M F hr hg hm hb .nil hx ha hdb he hpl
/-- C(e, ..) in a try -/
def tMakeS (C : Addr) (sp : Sp) (E : L2.St → XK) (t : TA) : TE := fun σ H Q => t σ H fun vs H1 => ∀ x dx, H1 x = none → H1 dx = none → dx ≠ x → sp (.ref x :: vs) (upd (upd H1 dx (.own x)) x (.ins C dx [])) (fun v H2 => v = .non ∧ Q (.ref x) H2) (E σ)
theorem pe_mkrS {Es : L2.St → XK} (h : Mkr X.prog X.w X.K X.mg X.base CX k x C ps sp) (hr : Room (k + 1) X.A) (hx : ∀ σ, PassesAt CX X σ (Es σ)) (ha : PA X (e :: es) t) (hg : Gl X x := by rfl) (hdb : (x == ("__debug__" : Str)) = false := by decide)
    (he : starEach (e :: es) X.env = (false, eval e X.env) :: starEach es X.env := by rfl) (hpl : (backTo pos (starEach es X.env)).any (·.1) = false := by rfl) : PE X (.Call (.Name x p) (e :: es) [] pos) (tMakeS C sp Es t) := by
  obtain ⟨f, fd, F, M, hm, hb⟩ := h
  refine ⟨fun pins s σ H Q I h => ?_⟩
  refine wpAny_Call_Name_kw (ld_glob I hg hm ?_ hdb)
  refine PySem.W.callWith_K (h₀ := X.base) I.ok.mod.kin M.kp (thn (ha.run pos pins s σ H _ I h) fun us s1 ⟨vs, H1, I1, r, q⟩ => ⟨I1.kIn, ?_⟩) he hpl
  have hq := q (s1.heap.objs.size + 1) s1.heap.objs.size (I1.hok.fresh (Nat.le_succ _)) (I1.hok.fresh (Nat.le_refl _)) (Nat.ne_of_lt (Nat.lt_succ_self _))
  have I2 := Inv.made (C := C) I1
  have r2 : Vals (V.ref (s1.heap.objs.size + 1) :: vs) (Value.ref (s1.heap.objs.size + 1) :: us) := .cons rfl r
  have hl : (Value.ref (s1.heap.objs.size + 1) :: us).length = ps.length := r2.length.symm.trans (F.len _ _ _ _ hq)
  refine wpAny_call (make_map (f := f) I1.kIn M.makes M.init (beq_iff_eq.mp M.fn) (codeAny_mono (F.run _ X.stack _ _ ⟨Value.ref (s1.heap.objs.size + 1) :: us, []⟩ (Value.ref (s1.heap.objs.size + 1) :: us) _ _ (Es σ) (hr.make C us [])
    (I2.env0.make C us []) (by
      have := hb _ (Value.ref (s1.heap.objs.size + 1) :: us) I2.kIn (by rw [List.append_nil]; exact hl)
      simpa using this) r2 hq) fun res s2 hres => ?_))
  cases res with
  | error e => exact hx σ pins _ _ e s2 I2 hres
  | ok fl =>
    cases fl with
    | ret u =>
      obtain ⟨v, H', I3, rv, ev, q3⟩ := I2.after hres
      subst ev
      exact ⟨rv, ⟨V.ref (s1.heap.objs.size + 1), H', I3, rfl, q3⟩⟩
    | next => exact hres.elim
    | brk => exact hres.elim
    | cont => exact hres.elim
end
section
variable {c : Cz} {ρ : En} {O : Oh} {Q : D → Oh → Prop} {E : EnL}
/-- a new object; it stays as it is behind its __init__ -/
theorem made {F H : Hp} {C a dx : Addr} {W : WL} {ds : List D} {vs : List V} {X : Addr → KXd} {Q' : VK} {E' : XK} (st1 : StO c.K F O H) (rd : RepsD c.K F vs ds) (ha : H a = none) (hdx : H dx = none) (ne : dx ≠ a)
    (q : ∀ p, O p = none → W (.ref p :: ds) (updO O p (.ins C [])) (fun r O2 => r = .non ∧ ∃ gs, O2 p = some (.ins C gs) ∧ Q (.ins C gs) (delO O2 p)) (X p)) (k : KQ c.K F Q Q') (kx : KX c.K F (X a) E') :
    SpL c.K W (.ref a :: vs) (upd (upd H dx (.own a)) a (.ins C dx [])) (fun v H2 => v = .non ∧ Q' (.ref a) H2) E' := by
  have f := st1.fresh ha
  have st2 : StO c.K F O (upd H dx (.own a)) := ⟨st1.same.trans (MB.Same.upd hdx), fun b o e => ⟨(st1.own b o e).1, (st1.own b o e).2.move (Same.refl _) (upd_ne fun z => by subst z; rw [(st1.fresh hdx).1] at e; cases e)⟩⟩
  have ha2 : upd H dx (.own a) a = none := (upd_ne (Ne.symm ne)).trans ha
  refine ⟨F, _, _, _, X a, .cons (.ref a) rd, st2.newO (o := .ins C []) ha2 ⟨dx, [], upd_same, .nil⟩, q a f.1, ?_, kx⟩
  rintro F2 H2 O2 v r s2 st3 rd3 ⟨rfl, gs, ho, q3⟩
  cases rd3
  obtain ⟨h0, dx', fs, h1, h2⟩ := st3.own a _ ho
  have sm : Same F2 (upd F2 a (.ins C dx' fs)) := MB.Same.upd h0
  refine ⟨rfl, k (upd F2 a (.ins C dx' fs)) H2 (delO O2 a) _ _ (s2.trans sm) ⟨fun b o e => ?_, fun b o e => ?_⟩ (.ins upd_same (h2.mono sm)) q3⟩
  · by_cases hb : b = a
    · subst hb; rw [upd_same] at e; cases e; exact h1
    · rw [upd_ne hb] at e; exact st3.same b o e
  · by_cases nb : b = a
    · subst nb; rw [delO_same] at e; cases e
    · rw [delO_ne nb] at e
      exact ⟨(upd_ne nb).trans (st3.own b o e).1, (st3.own b o e).2.move sm rfl⟩
def newW (W : WL) (C : Addr) (ds : List D) (O : Oh) (Q : D → Oh → Prop) (X : Addr → KXd) : Prop := ∀ p, O p = none → W (.ref p :: ds) (updO O p (.ins C [])) (fun r O2 => r = .non ∧ ∃ gs, O2 p = some (.ins C gs) ∧ Q (.ins C gs) (delO O2 p)) (X p)
theorem l_makeN {W : WL} {C : Addr} {XE : XK} {ta : TA} (q : LA c ta ρ O fun ds O1 => newW W C ds O1 Q fun _ => noX) : LE c (tMake C (SpL c.K W) [] XE ta) ρ O Q := fun F H σ rs s x Q' k =>
  q F H σ rs s x _ fun F1 H1 O1 vs ds s1 st1 rd1 q1 a dx ha hdx ne => by
    rw [List.append_nil]
    exact made (X := fun _ => noX) st1 rd1 ha hdx ne q1 (k.mono s1) fun _ _ _ _ _ _ _ _ _ z => z.elim
theorem l_makeS {W : WL} {C : Addr} {ta : TA} (q : LA c ta ρ O fun ds O1 => newW W C ds O1 Q fun p C' fs O2 => c.Ex C' fs ρ (delO O2 p)) : LE c (tMakeS C (SpL c.K W) c.E0 ta) ρ O Q := fun F H σ rs s x Q' k =>
  q F H σ rs s x _ fun F1 H1 O1 vs ds s1 st1 rd1 q1 a dx ha hdx ne => by
    exact made (X := fun p C' fs O2 => c.Ex C' fs ρ (delO O2 p)) st1 rd1 ha hdx ne q1 (k.mono s1) fun F2 H2 O2 C' dx' fs s2 st2 rx ex => x F2 H2 _ σ ρ C' dx' fs (s1.trans s2) (rs.mono (s1.trans s2)) st2.del rx ex
end
end VL
set_option maxHeartbeats 2000000
namespace VL
open PySem PySem.Spec PyProof.Rows L2 MB
abbrev AS := D → Option (List D)
theorem asS_new {O : Oh} {p C : Addr} {gs : List (Str × D)} (h : O p = none) : asS (updO O p (.ins C gs)) = asS O := by
  funext x
  cases x with
  | ref q =>
    show (match updO O p (.ins C gs) q with | some (.lst xs) => some xs | _ => none) = (match O q with | some (.lst xs) => some xs | _ => none)
    by_cases e : q = p
    · subst e; rw [updO_same, h]
    · rw [updO_ne e]
  | _ => rfl
theorem asS_ins {O : Oh} {p C : Addr} {gs : List (Str × D)} {C' : Addr} {gs' : List (Str × D)} (h : O p = some (.ins C' gs')) : asS (updO O p (.ins C gs)) = asS O := by
  funext x
  cases x with
  | ref q =>
    show (match updO O p (.ins C gs) q with | some (.lst xs) => some xs | _ => none) = (match O q with | some (.lst xs) => some xs | _ => none)
    by_cases e : q = p
    · subst e; rw [updO_same, h]
    · rw [updO_ne e]
  | _ => rfl
theorem tyD_new {O : Oh} {p C : Addr} {gs : List (Str × D)} (h : O p = none) : tyD (updO O p (.ins C gs)) = tyD O := by
  funext x
  cases x with
  | ref q =>
    show (match updO O p (.ins C gs) q with | some (.lst _) => some "list" | some (.dk _) => some "dict" | _ => none) = (match O q with | some (.lst _) => some "list" | some (.dk _) => some "dict" | _ => none)
    by_cases e : q = p
    · subst e; rw [updO_same, h]
    · rw [updO_ne e]
  | _ => rfl
theorem kn_new {O : Oh} {p C : Addr} {gs : List (Str × D)} (h : O p = none) {x : D} : Kn (updO O p (.ins C gs)) x ↔ Kn O x := by
  unfold Kn; rw [tyD_new h]
def lotA (a : AS) (t : D) (m : Int) : Bool := match a t with
  | some xs => lotB xs m
  | none => false
theorem isLot_A {O : Oh} {t : D} {m : Int} : isLot O t m = lotA (asS O) t m := rfl
def intsA (a : AS) (t : D) : List Int := match a t with
  | some xs => (intsOf xs).getD []
  | none => []
def lenA (a : AS) (t : D) : Nat := match a t with
  | some xs => xs.length
  | none => 0
/-- a check of m bits -/
def chkA (a : AS) (m : Int) (t : D) : Bool := lotA a t m && !decide (lenA a t = 0)
def firstNot (p : D → Bool) (xs : List D) : Option Nat := xs.findIdx? fun x => !p x
theorem firstNot_some {p : D → Bool} {xs : List D} {i : Nat} {x : D} (h : xs[i]? = some x) (hp : p x = false) (hb : ∀ (j : Nat) (y : D), j < i → xs[j]? = some y → p y = true) : firstNot p xs = some i := by
  obtain ⟨hi, e⟩ := List.getElem?_eq_some_iff.mp h
  unfold firstNot
  rw [List.findIdx?_eq_some_iff_getElem]
  refine ⟨hi, by rw [e, hp]; rfl, fun j hj => ?_⟩
  rw [hb j _ hj (List.getElem?_eq_getElem (by omega))]
  simp
theorem firstNot_none {p : D → Bool} {xs : List D} (hb : ∀ (j : Nat) (y : D), xs[j]? = some y → p y = true) : firstNot p xs = none := by
  unfold firstNot
  rw [List.findIdx?_eq_none_iff]
  intro x hx
  obtain ⟨j, hj, e⟩ := List.getElem_of_mem hx
  rw [hb j x (by rw [List.getElem?_eq_getElem hj, e])]
  rfl
def codeFault (a : AS) (b t : D) : Option (Str × Int) := if isWhole b (.int 1) (.int 10) = true then (match a t with
  | some xs => if (xs.length : Int) > 63 then some ("many", -1) else (match firstNot (chkA a (toI b)) xs with
    | some i => some ("check", (i : Int))
    | none => none)
  | none => some ("many", -1)) else some ("bits", -1)
section
variable {a : AS} {b t : D} {n : Int} {xs : List D}
theorem cf_bits (h : isWhole b (.int 1) (.int 10) = false) : codeFault a b t = some (("bits" : Str), (-1 : Int)) := by unfold codeFault; rw [h]; rfl
theorem cf_seq (h : isWhole b (.int 1) (.int 10) = true) (h2 : a t = none) : codeFault a b t = some (("many" : Str), (-1 : Int)) := by unfold codeFault; rw [h, h2]; rfl
theorem cf_many (h : isWhole b (.int 1) (.int 10) = true) (h2 : a t = some xs) (h3 : (xs.length : Int) > 63) : codeFault a b t = some (("many" : Str), (-1 : Int)) := by unfold codeFault; rw [h, h2, if_pos rfl]; exact if_pos h3
theorem cf_at {i : Nat} {x : D} (h : isWhole (.int n) (.int 1) (.int 10) = true) (h2 : a t = some xs) (h3 : ¬ (xs.length : Int) > 63) (hx : xs[i]? = some x) (hp : chkA a n x = false) (hb : ∀ (j : Nat) (y : D), j < i → xs[j]? = some y → chkA a n y = true) : codeFault a (.int n) t = some (("check" : Str), (i : Int)) := by
  unfold codeFault; rw [h, h2, if_pos rfl]
  show (if (xs.length : Int) > 63 then some (("many" : Str), (-1 : Int)) else (match firstNot (chkA a n) xs with | some i => some (("check" : Str), (i : Int)) | none => none)) = _
  rw [if_neg h3, firstNot_some hx hp hb]
theorem cf_ok (h : isWhole (.int n) (.int 1) (.int 10) = true) (h2 : a t = some xs) (h3 : ¬ (xs.length : Int) > 63) (hb : ∀ (j : Nat) (y : D), xs[j]? = some y → chkA a n y = true) : codeFault a (.int n) t = none := by
  unfold codeFault; rw [h, h2, if_pos rfl]
  show (if (xs.length : Int) > 63 then some (("many" : Str), (-1 : Int)) else (match firstNot (chkA a n) xs with | some i => some (("check" : Str), (i : Int)) | none => none)) = _
  rw [if_neg h3, firstNot_none hb]
theorem lotA_seq {m : Int} (h : lotA a t m = true) : ∃ ns : List Int, a t = some (ns.map D.int) ∧ (∀ n ∈ ns, 0 ≤ n ∧ n < m) ∧ ns.Nodup := by
  unfold lotA at h
  cases e : a t with
  | none => rw [e] at h; cases h
  | some xs =>
    rw [e] at h
    have h' : lotB xs m = true := h
    have h : lotB xs m = true := h
    unfold lotB at h
    obtain ⟨ns, rfl, hn⟩ := ints_of_all (Bool.and_eq_true_iff.mp h).1
    rw [lotB_ints, decide_eq_true_eq] at h'
    exact ⟨ns, rfl, h'⟩
theorem intsA_of {ns : List Int} (h : a t = some (ns.map D.int)) : intsA a t = ns := by
  unfold intsA; rw [h]
  show (intsOf (ns.map D.int)).getD [] = ns
  rw [intsOf_ints]; rfl
theorem chk_lot {m : Int} {x : D} (h : lotA a x m = false) : chkA a m x = false := by unfold chkA; rw [h]; rfl
theorem chk_len {m : Int} {x : D} {ns : List Int} (h : a x = some (ns.map D.int)) (h2 : lotA a x m = true) : chkA a m x = !decide (((ns.map D.int).length : Int) = 0) := by
  unfold chkA lenA; rw [h2, h]
  show (!decide ((ns.map D.int).length = 0)) = _
  congr 1
  exact decide_eq_decide.mpr (by omega)
end
def chkD (a : AS) (x : D) : D := .tup ((srt (intsA a x)).map D.int)
def itemsA (a : AS) (t : D) : List D := (a t).getD []
/-- things that may stand as a code's checks -/
def Look2 (O : Oh) (t : D) : Prop := Kn O t ∧ ∀ xs, asS O t = some xs → xs.length ≤ 1000 ∧ ∀ x ∈ xs, Kn O x
def Look3 (O : Oh) (t : D) : Prop := Kn O t ∧ ∀ xs, asS O t = some xs → xs.length ≤ 1000 ∧ ∀ x ∈ xs, Look2 O x
end VL
set_option maxHeartbeats 2000000
namespace VL
open PySem PySem.Spec PyProof.Rows L2 MB
def rEqX (K : Fr) : R2 := fun x y H Q => rEq x y H Q ∨ rEqD K x y H Q
def rNeX (K : Fr) : R2 := fun x y H Q => rNe x y H Q ∨ rNeD K x y H Q
theorem op_eqX {X : Cx} (hu : X.A.units + 64 < cLine) : OpR X (compareOp .Eq) (rEqX X.K) := fun pins s σ H x y v u Q I rx ry h => h.elim (fun h => op_eq pins s σ H x y v u Q I rx ry h) fun h => op_eqD hu pins s σ H x y v u Q I rx ry h
theorem op_neX {X : Cx} (hu : X.A.units + 64 < cLine) : OpR X (compareOp .NotEq) (rNeX X.K) := fun pins s σ H x y v u Q I rx ry h => h.elim (fun h => op_ne pins s σ H x y v u Q I rx ry h) fun h => op_neD hu pins s σ H x y v u Q I rx ry h
mutual
inductive PD (O : Oh) : D → PyData → Prop
  | non : PD O .non .none
  | bl (b : Bool) : PD O (.bl b) (.bool b)
  | int (i : Int) : PD O (.int i) (.int i)
  | str (x : Str) : PD O (.str x) (.str x)
  | lst {xs : List D} {ds : List PyData} : PDs O xs ds → PD O (.lst xs) (.list ds)
  | own {p : Addr} {xs : List D} {ds : List PyData} : O p = some (.lst xs) → PDs O xs ds → PD O (.ref p) (.list ds)
  | tup {xs : List D} {ds : List PyData} : PDs O xs ds → PD O (.tup xs) (.tuple ds)
inductive PDs (O : Oh) : List D → List PyData → Prop
  | nil : PDs O [] []
  | cons {x : D} {d : PyData} {xs : List D} {ds : List PyData} : PD O x d → PDs O xs ds → PDs O (x :: xs) (d :: ds)
end
section
variable {K : Fr} {F H : Hp} {O : Oh}
theorem PD.dp (s : StO K F O H) {x : D} {d : PyData} (h : PD O x d) : ∀ v : V, RepD K F v x → Dp K H v d := by
  refine PD.rec (motive_1 := fun x d _ => ∀ v : V, RepD K F v x → Dp K H v d) (motive_2 := fun xs ds _ => ∀ vs : List V, RepsD K F vs xs → DpAll K H vs ds) ?_ ?_ ?_ ?_ ?_ ?_ ?_ ?_ ?_ h
  · intro v r; cases r; exact .non
  · intro b v r; cases r; exact .bl b
  · intro b v r; cases r; exact .int b
  · intro b v r; cases r; exact .str b
  · intro xs ds _ ih v r
    cases r with
    | lst a b => exact .lst (.of (s.same _ _ a)) (ih _ b)
  · intro p xs ds e _ ih v r
    cases r
    obtain ⟨_, vs, a, b⟩ := s.own p _ e
    exact .lst (.of a) (ih _ b)
  · intro xs ds _ ih v r
    cases r with
    | tup a b => exact .tup (sqT_same s.same a) (ih _ b)
  · intro vs r; cases r; exact .nil
  · intro x d xs ds _ _ ih1 ih2 vs r
    cases r with
    | cons a b => exact .cons (ih1 _ a) (ih2 _ b)
theorem pds_map {α : Type} {f : α → D} {g : α → PyData} (h : ∀ x, PD O (f x) (g x)) : ∀ xs : List α, PDs O (xs.map f) (xs.map g)
  | [] => .nil
  | x :: xs => .cons (h x) (pds_map h xs)
end
theorem lay_map {α : Type} {g : α → PyData} (h : ∀ x, (g x).canLay0 = true) : ∀ xs : List α, PyData.canLayAll0 (xs.map g) = true
  | [] => rfl
  | x :: xs => by show ((g x).canLay0 && _) = true; rw [h x, lay_map h xs]; rfl
theorem depth_map {α : Type} {g : α → PyData} {n : Nat} (h : ∀ x, (g x).depth ≤ n) : ∀ xs : List α, PyData.depthAll (xs.map g) ≤ n
  | [] => Nat.zero_le _
  | x :: xs => Nat.max_le.mpr ⟨h x, depth_map h xs⟩
theorem eqv_map {α : Type} [DecidableEq α] {g : α → PyData} (h : ∀ x y, PyData.eqv (g x) (g y) = decide (x = y)) : ∀ xs ys : List α, PyData.eqvAll (xs.map g) (ys.map g) = decide (xs = ys)
  | [], [] => by simp [PyData.eqvAll]
  | [], y :: ys => by simp [PyData.eqvAll]
  | x :: xs, [] => by simp [PyData.eqvAll]
  | x :: xs, y :: ys => by
    show (PyData.eqv (g x) (g y) && PyData.eqvAll (xs.map g) (ys.map g)) = _
    rw [h, eqv_map h xs ys, Bool.eq_iff_iff]
    simp
abbrev pInts (ns : List Int) : List PyData := ns.map PyData.int
theorem eqv_ints (ms ns : List Int) : PyData.eqvAll (pInts ms) (pInts ns) = decide (ms = ns) := eqv_map (fun x y => by
  show (x == y) = _
  rw [Bool.eq_iff_iff]; simp) ms ns
theorem eqv_rows (cs ds : List (List Int)) : PyData.eqvAll (cs.map fun c => .tuple (pInts c)) (ds.map fun c => .tuple (pInts c)) = decide (cs = ds) := eqv_map (g := fun c => .tuple (pInts c)) (fun x y => eqv_ints x y) cs ds
theorem eqv_rowsL (cs ds : List (List Int)) : PyData.eqvAll (cs.map fun c => .list (pInts c)) (ds.map fun c => .list (pInts c)) = decide (cs = ds) := eqv_map (g := fun c => .list (pInts c)) (fun x y => eqv_ints x y) cs ds
theorem lay_ints (ns : List Int) : PyData.canLayAll0 (pInts ns) = true := lay_map (fun _ => rfl) ns
theorem depth_ints (ns : List Int) : PyData.depthAll (pInts ns) ≤ 0 := depth_map (g := PyData.int) (fun _ => Nat.zero_le _) ns
theorem sh_ints (ns : List Int) : SeqAt.shaped (.list (pInts ns)) = true := by
  unfold SeqAt.shaped
  rw [show PyData.canLay0 (.list (pInts ns)) = true from lay_ints ns]
  have := depth_ints ns
  exact decide_eq_true (by show PyData.depthAll (pInts ns) + 1 ≤ 64; omega)
theorem sh_intsT (ns : List Int) : SeqAt.shaped (.tuple (pInts ns)) = true := by
  unfold SeqAt.shaped
  rw [show PyData.canLay0 (.tuple (pInts ns)) = true from lay_ints ns]
  have := depth_ints ns
  exact decide_eq_true (by show PyData.depthAll (pInts ns) + 1 ≤ 64; omega)
theorem sh_rowsT (cs : List (List Int)) : SeqAt.shaped (.tuple (cs.map fun c => .tuple (pInts c))) = true := by
  unfold SeqAt.shaped
  rw [show PyData.canLay0 (.tuple (cs.map fun c => .tuple (pInts c))) = true from lay_map (g := fun c => .tuple (pInts c)) (fun c => lay_ints c) cs]
  have : PyData.depthAll (cs.map fun c => .tuple (pInts c)) ≤ 1 := depth_map (g := fun c => .tuple (pInts c)) (fun c => Nat.succ_le_succ (depth_ints c)) cs
  exact decide_eq_true (by show PyData.depthAll (cs.map fun c => .tuple (pInts c)) + 1 ≤ 64; omega)
theorem sh_rowsL (cs : List (List Int)) : SeqAt.shaped (.list (cs.map fun c => .list (pInts c))) = true := by
  unfold SeqAt.shaped
  rw [show PyData.canLay0 (.list (cs.map fun c => .list (pInts c))) = true from lay_map (g := fun c => .list (pInts c)) (fun c => lay_ints c) cs]
  have : PyData.depthAll (cs.map fun c => .list (pInts c)) ≤ 1 := depth_map (g := fun c => .list (pInts c)) (fun c => Nat.succ_le_succ (depth_ints c)) cs
  exact decide_eq_true (by show PyData.depthAll (cs.map fun c => .list (pInts c)) + 1 ≤ 64; omega)
theorem pd_ints {O : Oh} (ns : List Int) : PDs O (ns.map D.int) (pInts ns) := pds_map (fun x => .int x) ns
theorem pd_rowsT {O : Oh} (cs : List (List Int)) : PDs O (cs.map fun c => D.tup (c.map D.int)) (cs.map fun c => .tuple (pInts c)) := pds_map (fun x => .tup (pd_ints x)) cs
theorem pd_rowsL {O : Oh} (cs : List (List Int)) : PDs O (cs.map fun c => D.lst (c.map D.int)) (cs.map fun c => .list (pInts c)) := pds_map (fun x => .lst (pd_ints x)) cs
section
variable {c : Cz} {ρ : En} {O : Oh} {Q : D → Oh → Prop}
theorem o_eqs {K' : Fr} (hK : K' = c.K) {x y : D} {v w : V} (h1 : vOf x = some v) (h2 : vOf y = some w) (hs : scal v w = true) (q : Q (.bl (decide (v = w))) O) : O2R c (rEqX K') x y O Q := fun F H v' w' s rv rw z Q' k => .inl (o_eq h1 h2 hs q F H v' w' s rv rw z Q' k)
theorem o_nes {K' : Fr} (hK : K' = c.K) {x y : D} {v w : V} (h1 : vOf x = some v) (h2 : vOf y = some w) (hs : scal v w = true) (q : Q (.bl (!decide (v = w))) O) : O2R c (rNeX K') x y O Q := fun F H v' w' s rv rw z Q' k => .inl (o_ne h1 h2 hs q F H v' w' s rv rw z Q' k)
theorem o_eqD {K' : Fr} (hK : K' = c.K) {x y : D} {d e : PyData} (h1 : PD O x d) (h2 : PD O y e) (s1 : SeqAt.shaped d = true) (s2 : SeqAt.shaped e = true) (q : Q (.bl (PyData.eqv d e)) O) : O2R c (rEqX K') x y O Q := by
  subst hK
  intro F H v w s rv rw z Q' k
  exact .inr ⟨d, e, h1.dp s _ rv, h2.dp s _ rw, s1, s2, k F H O _ _ (Same.refl F) s (.bl _) q⟩
theorem o_neD {K' : Fr} (hK : K' = c.K) {x y : D} {d e : PyData} (h1 : PD O x d) (h2 : PD O y e) (s1 : SeqAt.shaped d = true) (s2 : SeqAt.shaped e = true) (q : Q (.bl (!PyData.eqv d e)) O) : O2R c (rNeX K') x y O Q := by
  subst hK
  intro F H v w s rv rw z Q' k
  exact .inr ⟨d, e, h1.dp s _ rv, h2.dp s _ rw, s1, s2, k F H O _ _ (Same.refl F) s (.bl _) q⟩
/-- what check_prices, check_row tell: the first wrong place, -1 for the form -/
def rowFault (p : D → Bool) (a : AS) (t : D) (n : Int) : Option Int := match a t with
  | some xs => if (xs.length : Int) = n then (match firstNot p xs with
    | some i => some (i : Int)
    | none => none) else some (-1)
  | none => some (-1)
section
variable {p : D → Bool} {a : AS} {t : D} {n : Int} {xs : List D}
theorem rf_form (h : longA a t n = false) : rowFault p a t n = some (-1) := by
  unfold rowFault
  unfold longA at h
  cases e : a t with
  | none => rfl
  | some ys => rw [e] at h; exact if_neg (of_decide_eq_false h)
theorem rf_len (h : longA a t n = true) : ∃ xs, a t = some xs ∧ (xs.length : Int) = n := by
  unfold longA at h
  cases e : a t with
  | none => rw [e] at h; cases h
  | some ys => rw [e] at h; exact ⟨ys, rfl, of_decide_eq_true h⟩
theorem rf_at {i : Nat} {x : D} (h : a t = some xs) (hl : (xs.length : Int) = n) (hx : xs[i]? = some x) (hp : p x = false) (hb : ∀ (j : Nat) (y : D), j < i → xs[j]? = some y → p y = true) : rowFault p a t n = some (i : Int) := by
  unfold rowFault; rw [h]
  show (if (xs.length : Int) = n then (match firstNot p xs with | some i => some (i : Int) | none => none) else some (-1)) = _
  rw [if_pos hl, firstNot_some hx hp hb]
theorem rf_ok (h : a t = some xs) (hl : (xs.length : Int) = n) (hb : ∀ (j : Nat) (y : D), xs[j]? = some y → p y = true) : rowFault p a t n = none := by
  unfold rowFault; rw [h]
  show (if (xs.length : Int) = n then (match firstNot p xs with | some i => some (i : Int) | none => none) else some (-1)) = _
  rw [if_pos hl, firstNot_none hb]
end
def isB (K : Fr) (C : Str) : Bool := decide (PySem.W.findIn K (.ref (He.ga K C)) "__class__" = some (some (.builtin "object.__class__"))) && (decide (PySem.W.specialIn K (.builtin "object.__class__") "__get__" = some (some (.builtin "getset_descriptor.__get__"))) && (decide (PySem.W.takesIn K (.builtin "object.__class__") = some true) &&
  (decide (PySem.W.mroIn K (He.ga K C) (.type "object") = some true) && six.all fun n => decide (PySem.W.kitOne K (.type n) (.ref (He.ga K C)) = some false))))
theorem k_isC1 {K' : Fr} (hK : K' = c.K) {C : Str} {gs : List (Str × D)} (b : isB c.K C = true) (cl : Cls c.K (He.ga c.K C)) (q : Q (.bl true) O) : CAR c (rIsi K') [.ins (He.ga c.K C) gs, .ref (He.ga c.K C)] O Q := by
  subst hK
  obtain ⟨b1, b⟩ := He.ba b
  obtain ⟨b2, b⟩ := He.ba b
  obtain ⟨b3, b⟩ := He.ba b
  obtain ⟨b4, b⟩ := He.ba b
  intro F H vs s r z Q' k
  cases r with
  | cons ra t =>
    cases t with
    | cons rb t =>
      cases t; cases rb
      cases ra with
      | ins h rf =>
        refine ⟨_, _, _, _, true, rfl, .own _, .base (.ins (s.same _ _ h) cl (of_decide_eq_true b1) (of_decide_eq_true b2) (of_decide_eq_true b3) (of_decide_eq_true b4)), ?_, k F H O _ _ (Same.refl F) s (.bl _) q⟩
        unfold PySem.W.kitOne
        rw [if_pos (beq_self_eq_true _)]
theorem k_isC0 {K' : Fr} (hK : K' = c.K) {C : Str} {x : D} {n : String} (b : isB c.K C = true) (ty : tyD O x = some n) (hn : n ∈ six) (q : Q (.bl false) O) : CAR c (rIsi K') [x, .ref (He.ga c.K C)] O Q := by
  subst hK
  obtain ⟨b1, b⟩ := He.ba b
  obtain ⟨b2, b⟩ := He.ba b
  obtain ⟨b3, b⟩ := He.ba b
  obtain ⟨b4, b⟩ := He.ba b
  intro F H vs s r z Q' k
  cases r with
  | cons ra t =>
    cases t with
    | cons rb t =>
      cases t; cases rb
      exact ⟨_, _, _, _, false, rfl, .own _, tyD_ok s ra ty, of_decide_eq_true (List.all_eq_true.mp b n hn), k F H O _ _ (Same.refl F) s (.bl _) q⟩
end
end VL
set_option maxHeartbeats 2000000
namespace VL
open PySem PySem.Spec PyProof.Rows L2 MB
theorem fi_some {α : Type} {p : α → Bool} {xs : List α} {i : Nat} {x : α} (h : xs[i]? = some x) (hp : p x = true) (hb : ∀ (j : Nat) (y : α), j < i → xs[j]? = some y → p y = false) : xs.findIdx? p = some i := by
  obtain ⟨hi, e⟩ := List.getElem?_eq_some_iff.mp h
  rw [List.findIdx?_eq_some_iff_getElem]
  refine ⟨hi, by rw [e]; exact hp, fun j hj => ?_⟩
  rw [hb j _ hj (List.getElem?_eq_getElem (by omega))]
  simp
theorem fi_none {α : Type} {p : α → Bool} {xs : List α} (hb : ∀ (j : Nat) (y : α), xs[j]? = some y → p y = false) : xs.findIdx? p = none := by
  rw [List.findIdx?_eq_none_iff]
  intro x hx
  obtain ⟨j, hj, e⟩ := List.getElem_of_mem hx
  exact hb j x (by rw [List.getElem?_eq_getElem hj, e])
def dig (ds : List Int) (b : Int) : Int := ds.getD b.toNat 0
def sumOn (ds : List Int) (c : List Int) : Int := (c.map (dig ds)).sum
def oddOn (ds : List Int) (c : List Int) : Bool := decide (sumOn ds c % 2 = 1)
def firstOdd (ds : List Int) (cs : List (List Int)) : Option Nat := cs.findIdx? (oddOn ds)
theorem dig_at {ds : List Int} {b : Int} (h0 : 0 ≤ b) (h1 : b < ds.length) : atI (ds.map D.int) b = some (.int (dig ds b)) := by
  have e : b = ((b.toNat : Nat) : Int) := by omega
  have hl : b.toNat < ds.length := by omega
  rw [e]
  refine atI_nat ?_
  rw [List.getElem?_map, List.getElem?_eq_getElem hl]
  unfold dig
  rw [List.getD_eq_getElem?_getD, show (((b.toNat : Nat) : Int)).toNat = b.toNat from rfl, List.getElem?_eq_getElem hl]
  rfl
theorem map_int_at {c : List Int} {i : Nat} {d : D} (h : (c.map D.int)[i]? = some d) : ∃ b, c[i]? = some b ∧ d = .int b := by
  rw [List.getElem?_map] at h
  cases e : c[i]? with
  | none => rw [e] at h; cases h
  | some b => rw [e] at h; exact ⟨b, rfl, (Option.some.inj h).symm⟩
theorem rows_at {cs : List (List Int)} {i : Nat} {d : D} (h : (cs.map fun c => D.tup (c.map D.int))[i]? = some d) : ∃ c, cs[i]? = some c ∧ d = .tup (c.map D.int) := by
  rw [List.getElem?_map] at h
  cases e : cs[i]? with
  | none => rw [e] at h; cases h
  | some b => rw [e] at h; exact ⟨b, rfl, (Option.some.inj h).symm⟩
theorem sum_rows (ds c : List Int) : ((c.map D.int).map fun d => dig ds (toI d)).sum = sumOn ds c := by
  rw [List.map_map]; rfl
/-- the checks of a code of n bits -/
def Chk (n : Int) (cs : List (List Int)) : Prop := cs.length ≤ 63 ∧ ∀ c ∈ cs, c.length ≤ 10 ∧ ∀ b ∈ c, 0 ≤ b ∧ b < n
theorem digitsA_ints {a : AS} {t : D} {n : Int} (h : digitsA a t n = true) : ∃ ds : List Int, a t = some (ds.map D.int) ∧ (ds.length : Int) = n ∧ ∀ d ∈ ds, 0 ≤ d ∧ d ≤ 1 := by
  unfold digitsA at h
  cases e : a t with
  | none => rw [e] at h; cases h
  | some xs =>
    rw [e] at h
    have h : (decide ((xs.length : Int) = n) && xs.all (fun x => isWhole x (.int 0) (.int 1))) = true := h
    rw [Bool.and_eq_true, decide_eq_true_eq] at h
    obtain ⟨ds, rfl, hd⟩ := ints_of_all h.2
    refine ⟨ds, rfl, by simpa using h.1, fun d hm => ?_⟩
    have := hd d hm
    simp only [isWhole, geB, leB, Bool.and_eq_true, decide_eq_true_eq] at this
    omega
end VL
set_option maxHeartbeats 2000000
namespace VL
open PySem PySem.Spec PyProof.Rows L2 MB
section
variable {c : Cz} {ρ : En} {O : Oh}
theorem rg_reps {K : Fr} {F : Hp} {i j : Int} : RepsD K F (rgV i j) (rngD i (j - i).toNat) := by
  unfold rgV rngD
  induction List.range (j - i).toNat with
  | nil => exact .nil
  | cons a l ih => exact .cons (.int _) ih
theorem ln_rg1 {ta : TE} {Q : List D → Oh → Prop} (q : LE c ta ρ O fun x O1 => ∃ n, x = .int n ∧ (0 ≤ n ∧ n ≤ 100000) ∧ Q (rngD 0 n.toNat) O1) : LN c (tLstRg (tRg1 ta)) ρ O Q := fun F H σ rs s z Q' k =>
  q F H σ rs s z _ fun F1 H1 O1 v x s1 st1 rd1 ⟨n, e, hn, q1⟩ => by
    subst e; cases rd1
    refine ⟨n, rfl, ?_, fun p hp => k F1 H1 O1 p _ (rngD 0 n.toNat) s1 st1 hp ?_ q1⟩
    · exact RgOk.of_le (by omega) (by omega) (by omega) hn.1
    · have := rg_reps (K := c.K) (F := F1) (i := 0) (j := n)
      rwa [Int.sub_zero] at this
/-- what is owned may be let go -/
theorem l_del {te : TE} {Q : D → Oh → Prop} (p : Addr) (q : LE c te ρ O fun d O1 => Q d (delO O1 p)) : LE c te ρ O Q := fun F H σ rs s z Q' k =>
  q F H σ rs s z _ fun F1 H1 O1 v d s1 st1 rd1 q1 => k F1 H1 _ v d s1 st1.del rd1 q1
theorem s_del {ts : TS} {E : EnL} (p : Addr) (q : LS c ts E ρ (delO O p)) : LS c ts E ρ O := fun F H σ rs s z Dd l => q F H σ rs s.del z Dd l
end
theorem ne_of {O : Oh} {p q : Addr} {o : OD} (h : O p = some o) (g : O q = none) : p ≠ q := fun z => by subst z; rw [h] at g; cases g
theorem new_ne {O : Oh} {p q : Addr} {o : OD} (g : updO O q o p = none) : p ≠ q := fun z => by subst z; rw [updO_same] at g; cases g
theorem new_old {O : Oh} {p q : Addr} {o : OD} (g : updO O q o p = none) : O p = none := by rwa [updO_ne (new_ne g)] at g
theorem updO_comm {O : Oh} {p q : Addr} {o u : OD} (h : p ≠ q) : updO (updO O p o) q u = updO (updO O q u) p o := by
  funext b; unfold updO
  by_cases e : b = q
  · subst e; rw [if_pos rfl, if_neg (Ne.symm h), if_pos rfl]
  · rw [if_neg e, if_neg e]
theorem ex_rg {j : Int} {Q : Int → Prop} (b : 0 ≤ j ∧ j ≤ 100000) (q : Q j) : ∃ n, D.int j = .int n ∧ (0 ≤ n ∧ n ≤ 100000) ∧ Q n := ⟨j, rfl, b, q⟩
theorem abs_nat (i : Int) : (if i < 0 then -i else i) = ((i.natAbs : Nat) : Int) := by split <;> omega
/-- a lot of n bits -/
def Lot (n : Int) (ms : List Int) : Prop := ms.Pairwise (· < ·) ∧ ∀ m ∈ ms, 0 ≤ m ∧ m < n
theorem rngD_ints (n : Nat) : rngD 0 n = ((List.range n).map fun (k : Nat) => (k : Int)).map D.int := by
  unfold rngD; rw [List.map_map]; congr 1; funext k; show D.int (0 + (k : Int)) = D.int k; rw [Int.zero_add]
theorem lt_of_le_nodup {ms : List Int} (h : ms.Pairwise (· ≤ ·)) (nd : ms.Nodup) : ms.Pairwise (· < ·) := by
  induction ms with
  | nil => exact .nil
  | cons a l ih =>
    obtain ⟨h1, h2⟩ := List.pairwise_cons.mp h
    obtain ⟨n1, n2⟩ := List.nodup_cons.mp nd
    exact List.pairwise_cons.mpr ⟨fun b hb => by
      have := h1 b hb
      have : a ≠ b := fun z => n1 (z ▸ hb)
      omega, ih h2 n2⟩
theorem Lot.nodup {n : Int} {ms : List Int} (h : Lot n ms) : ms.Nodup := h.1.imp fun h => by omega
theorem Lot.len {n : Int} {ms : List Int} (h : Lot n ms) (h0 : 0 ≤ n) : (ms.length : Int) ≤ n := by
  have : ∀ (l : List Int) (a : Int), l.Pairwise (· < ·) → (∀ m ∈ l, a ≤ m ∧ m < n) → a ≤ n → (l.length : Int) ≤ n - a := by
    intro l
    induction l with
    | nil => intro a _ _ h; show (0 : Int) ≤ n - a; omega
    | cons x l ih =>
      intro a hp hm _
      obtain ⟨h1, h2⟩ := List.pairwise_cons.mp hp
      have hx := hm x (List.mem_cons_self ..)
      have := ih (x + 1) h2 (fun m hmm => ⟨by have := h1 m hmm; omega, (hm m (List.mem_cons_of_mem _ hmm)).2⟩) (by omega)
      rw [List.length_cons]; omega
  have := this ms 0 h.1 h.2 h0
  omega
/-- some of a pool are drawn out -/
structure Drawn (n : Nat) (pool out : List Int) (i : Nat) : Prop where
  perm : (out ++ pool).Perm ((List.range n).map fun (k : Nat) => (k : Int))
  len : out.length = i
theorem Drawn.start (n : Nat) : Drawn n ((List.range n).map fun (k : Nat) => (k : Int)) [] 0 := ⟨List.Perm.refl _, rfl⟩
theorem Drawn.total {n i : Nat} {pool out : List Int} (h : Drawn n pool out i) : i + pool.length = n := by
  have := h.perm.length_eq
  rw [List.length_append, List.length_map, List.length_range, h.len] at this
  exact this
theorem Drawn.step {n i j : Nat} {pool out : List Int} {x : Int} (h : Drawn n pool out i) (hx : pool[j]? = some x) : Drawn n (pool.eraseIdx j) (out ++ [x]) (i + 1) := by
  refine ⟨?_, by rw [List.length_append, h.len]; rfl⟩
  refine List.Perm.trans ?_ h.perm
  rw [List.append_assoc]
  refine List.Perm.append_left out ?_
  obtain ⟨hj, e⟩ := List.getElem?_eq_some_iff.mp hx
  subst e
  exact era pool j hj
where
  era : ∀ (l : List Int) (j : Nat) (hj : j < l.length), (l[j] :: l.eraseIdx j).Perm l
    | [], j, hj => absurd hj (Nat.not_lt_zero j)
    | a :: l, 0, hj => List.Perm.refl _
    | a :: l, j + 1, hj => by
      have hj' : j < l.length := by simpa using hj
      show (l[j] :: a :: l.eraseIdx j).Perm (a :: l)
      exact (List.Perm.swap a l[j] _).trans ((era l j hj').cons a)
theorem Drawn.lot {n i : Nat} {pool out ms : List Int} (h : Drawn n pool out i) (pm : ms.Perm out) (so : ms.Pairwise (· ≤ ·)) : Lot n ms := by
  have nd : (out ++ pool).Nodup := h.perm.symm.nodup (by
    refine List.Pairwise.map _ ?_ (List.nodup_range (n := n))
    intro a b hab; omega)
  have nd2 : ms.Nodup := pm.symm.nodup (List.nodup_append.mp nd).1
  refine ⟨lt_of_le_nodup so nd2, fun m hm => ?_⟩
  have : m ∈ out ++ pool := List.mem_append_left _ (pm.subset hm)
  have := h.perm.subset this
  obtain ⟨k, hk, rfl⟩ := List.mem_map.mp this
  have := List.mem_range.mp hk
  omega
theorem map_erase {α β : Type} (f : α → β) : ∀ (l : List α) (i : Nat), (l.map f).eraseIdx i = (l.eraseIdx i).map f
  | [], _ => rfl
  | _ :: _, 0 => rfl
  | a :: l, i + 1 => congrArg (f a :: ·) (map_erase f l i)
theorem seqIx {i : Int} {n : Nat} (h0 : 0 ≤ i) (h1 : i < n) : seqIndex? i n = some i.toNat := by
  unfold seqIndex?
  have e : ¬ i < 0 := by omega
  simp [e]
  omega
end VL
set_option maxHeartbeats 2000000
namespace VL
open PySem PySem.Spec PyProof.Rows L2 MB
theorem at_in {xs : List D} {i : Int} (h0 : 0 ≤ i) (h : i < xs.length) : ∃ x, x ∈ xs ∧ xs[i.toNat]? = some x ∧ atI xs i = some x := by
  have e : i = ((i.toNat : Nat) : Int) := by omega
  have hl : i.toNat < xs.length := by omega
  have g : atI xs ((i.toNat : Nat) : Int) = some xs[i.toNat] := atI_nat (List.getElem?_eq_getElem hl)
  rw [← e] at g
  exact ⟨_, List.getElem_mem hl, List.getElem?_eq_getElem hl, g⟩
theorem rel_list {α : Type} {P : α → Prop} {f : α → D} : ∀ {ys : List D}, (∀ y ∈ ys, ∃ c, P c ∧ y = f c) → ∃ cs : List α, ys = cs.map f ∧ ∀ c ∈ cs, P c
  | [], _ => ⟨[], rfl, by simp⟩
  | y :: ys, h => by
    obtain ⟨c, hc, e⟩ := h y (List.mem_cons_self ..)
    obtain ⟨cs, e2, h2⟩ := rel_list (ys := ys) fun z hz => h z (List.mem_cons_of_mem _ hz)
    refine ⟨c :: cs, by rw [e, e2]; rfl, fun d hd => ?_⟩
    rcases List.mem_cons.mp hd with z | z
    · subst z; exact hc
    · exact h2 d z
theorem rel_mem {ds ys : List D} {R : Nat → D → D → Prop} {S : D → Prop} (hl : ys.length = ds.length) (h : ∀ (i : Nat) (d y : D), ds[i]? = some d → ys[i]? = some y → R i d y) (g : ∀ i d y, ds[i]? = some d → R i d y → S y) : ∀ y ∈ ys, S y := fun y hy => by
  obtain ⟨i, hi, e⟩ := List.getElem_of_mem hy
  have h1 : ds[i]? = some (ds[i]'(by omega)) := List.getElem?_eq_getElem (by omega)
  exact g i _ y h1 (h i _ y h1 (by rw [List.getElem?_eq_getElem hi, e]))
/-- t holds the rows cs -/
def Rows (O : Oh) (t : D) (cs : List (List Int)) : Prop := Kn O t ∧ ∃ xs, asS O t = some xs ∧ xs.length = cs.length ∧ ∀ (i : Nat) (x : D) (c : List Int), xs[i]? = some x → cs[i]? = some c → Kn O x ∧ asS O x = some (c.map D.int)
/-- checks that a code of n bits may have -/
def Good (n : Int) (cs : List (List Int)) : Prop := ∀ c ∈ cs, c ≠ [] ∧ c.Nodup ∧ ∀ b ∈ c, 0 ≤ b ∧ b < n
theorem nodup_len {n : Int} {c : List Int} (h : c.Nodup) (hb : ∀ b ∈ c, 0 ≤ b ∧ b < n) (h0 : 0 ≤ n) : (c.length : Int) ≤ n := by
  rw [← srt_len c]
  refine Lot.len (n := n) ⟨lt_of_le_nodup (srt_le c) ((srt_perm c).symm.nodup h), fun m hm => hb m ((srt_perm c).subset hm)⟩ h0
theorem Rows.ext {O O' : Oh} {t : D} {cs : List (List Int)} (e : Ext O O') (h : Rows O t cs) : Rows O' t cs := by
  obtain ⟨k, xs, h1, h2, h3⟩ := h
  exact ⟨k.ext e, xs, asS_ext e h1, h2, fun i x c a b => ⟨(h3 i x c a b).1.ext e, asS_ext e (h3 i x c a b).2⟩⟩
theorem Rows.at {O : Oh} {t x : D} {xs : List D} {cs : List (List Int)} (h : Rows O t cs) (e : asS O t = some xs) {i : Nat} (hx : xs[i]? = some x) : ∃ c, cs[i]? = some c ∧ Kn O x ∧ asS O x = some (c.map D.int) := by
  obtain ⟨k, ys, h1, h2, h3⟩ := h
  rw [e] at h1; cases h1
  have hi := (List.getElem?_eq_some_iff.mp hx).1
  have hc : cs[i]? = some (cs[i]'(by omega)) := List.getElem?_eq_getElem (by omega)
  exact ⟨_, hc, h3 i x _ hx hc⟩
theorem Rows.items {O : Oh} {t : D} {cs : List (List Int)} (h : Rows O t cs) : ∃ xs, asS O t = some xs ∧ xs.length = cs.length := by
  obtain ⟨k, ys, h1, h2, h3⟩ := h
  exact ⟨ys, h1, h2⟩
theorem Rows.look {O : Oh} {t : D} {cs : List (List Int)} (h : Rows O t cs) (hl : cs.length ≤ 1000) (hc : ∀ c ∈ cs, c.length ≤ 1000) : Look3 O t := by
  have h' := h
  obtain ⟨k, ys, h1, h2, h3⟩ := h'
  refine ⟨k, fun xs e => ?_⟩
  rw [e] at h1; cases h1
  refine ⟨by omega, fun x hx => ?_⟩
  obtain ⟨i, hi, ei⟩ := List.getElem_of_mem hx
  obtain ⟨c, c1, c2, c3⟩ := h.at e (i := i) (x := x) (by rw [List.getElem?_eq_getElem hi, ei])
  refine ⟨c2, fun ys e2 => ?_⟩
  rw [c3] at e2; cases e2
  refine ⟨by rw [List.length_map]; exact hc c (List.mem_of_getElem? c1), fun y hy => ?_⟩
  obtain ⟨z, _, rfl⟩ := List.mem_map.mp hy
  exact kn_int
theorem chk_good {a : AS} {x : D} {c : List Int} {n : Int} (h : a x = some (c.map D.int)) (h0 : c ≠ []) (nd : c.Nodup) (hb : ∀ b ∈ c, 0 ≤ b ∧ b < n) : chkA a n x = true := by
  have hl : lotA a x n = true := by
    unfold lotA; rw [h]
    show lotB _ _ = true
    rw [lotB_ints]; exact decide_eq_true ⟨hb, nd⟩
  rw [chk_len h hl]
  have : (c.map D.int).length ≠ 0 := by
    rw [List.length_map]; exact fun z => h0 (List.eq_nil_of_length_eq_zero z)
  simp [this]
  omega
theorem Rows.fault {O : Oh} {t : D} {cs : List (List Int)} {n : Int} (h : Rows O t cs) (hn : 1 ≤ n ∧ n ≤ 10) (hl : cs.length ≤ 63) (g : Good n cs) : codeFault (asS O) (.int n) t = none := by
  obtain ⟨xs, e, el⟩ := h.items
  refine cf_ok (by simp [isWhole, geB, leB]; omega) e (by omega) fun j y hy => ?_
  obtain ⟨c, c1, c2, c3⟩ := h.at e hy
  obtain ⟨g1, g2, g3⟩ := g c (List.mem_of_getElem? c1)
  exact chk_good c3 g1 g2 g3
theorem Rows.chks {O : Oh} {t : D} {cs : List (List Int)} (h : Rows O t cs) : (itemsA (asS O) t).map (chkD (asS O)) = (cs.map srt).map fun c => D.tup (c.map D.int) := by
  obtain ⟨xs, e, el⟩ := h.items
  have ei : itemsA (asS O) t = xs := by unfold itemsA; rw [e]; rfl
  rw [ei, List.map_map]
  refine List.ext_getElem? fun i => ?_
  rw [List.getElem?_map, List.getElem?_map]
  cases hx : xs[i]? with
  | none =>
    rw [List.getElem?_eq_none (by have := List.getElem?_eq_none_iff.mp hx; omega)]; rfl
  | some x =>
    obtain ⟨c, c1, c2, c3⟩ := h.at e hx
    rw [c1]
    show some (chkD (asS O) x) = some (D.tup ((srt c).map D.int))
    unfold chkD; rw [intsA_of c3]
theorem rows_tups {O : Oh} (cs : List (List Int)) : Rows O (.lst (cs.map fun c => D.tup (c.map D.int))) cs := by
  refine ⟨kn_lst, _, rfl, by rw [List.length_map], fun i x c hx hc => ?_⟩
  obtain ⟨c', h1, rfl⟩ := rows_at hx
  rw [hc] at h1; cases h1
  exact ⟨kn_tup, rfl⟩
theorem rows_tupsT {O : Oh} (cs : List (List Int)) : Rows O (.tup (cs.map fun c => D.tup (c.map D.int))) cs := by
  refine ⟨kn_tup, _, rfl, by rw [List.length_map], fun i x c hx hc => ?_⟩
  obtain ⟨c', h1, rfl⟩ := rows_at hx
  rw [hc] at h1; cases h1
  exact ⟨kn_tup, rfl⟩
theorem rows_lsts {O : Oh} (cs : List (List Int)) : Rows O (.lst (cs.map fun c => D.lst (c.map D.int))) cs := by
  refine ⟨kn_lst, _, rfl, by rw [List.length_map], fun i x c hx hc => ?_⟩
  rw [List.getElem?_map, hc] at hx
  cases hx
  exact ⟨kn_lst, rfl⟩
/-- a new list of new lists -/
structure OwnRows (O O' : Oh) (r : Addr) (ps : List Addr) (es : List (List Int)) : Prop where
  new : O r = none
  own : O' r = some (.lst (ps.map D.ref))
  len : ps.length = es.length
  each : ∀ (i : Nat) (p : Addr) (e : List Int), ps[i]? = some p → es[i]? = some e → O' p = some (.lst (e.map D.int))
  free : ∀ p ∈ ps, O p = none ∧ p ≠ r
  nd : ps.Nodup
  rest : ∀ a, a ≠ r → a ∉ ps → O' a = O a
theorem OwnRows.ext {O O' : Oh} {r : Addr} {ps : List Addr} {es : List (List Int)} (h : OwnRows O O' r ps es) : Ext O O' := fun a o e => by
  rw [h.rest a (fun z => by subst z; rw [h.new] at e; cases e) (fun z => by rw [(h.free a z).1] at e; cases e)]; exact e
theorem OwnRows.rows {O O' : Oh} {r : Addr} {ps : List Addr} {es : List (List Int)} (h : OwnRows O O' r ps es) : Rows O' (.ref r) es := by
  refine ⟨kn_own h.own, _, asS_own h.own, by rw [List.length_map, h.len], fun i x c hx hc => ?_⟩
  rw [List.getElem?_map] at hx
  cases e : ps[i]? with
  | none => rw [e] at hx; cases hx
  | some p =>
    rw [e] at hx; cases hx
    exact ⟨kn_own (h.each i p c e hc), asS_own (h.each i p c e hc)⟩
theorem OwnRows.start {O : Oh} {r : Addr} (h : O r = none) : OwnRows O (updO O r (.lst [])) r [] [] :=
  ⟨h, updO_same, rfl, fun _ _ _ e => by simp at e, fun _ h => by simp at h, List.nodup_nil, fun a e _ => updO_ne e⟩
theorem OwnRows.step {O O' : Oh} {r q : Addr} {ps : List Addr} {es : List (List Int)} {e : List Int} (h : OwnRows O O' r ps es) (hq : O' q = none) : OwnRows O (updO (updO O' q (.lst (e.map D.int))) r (.lst (ps.map D.ref ++ [.ref q]))) r (ps ++ [q]) (es ++ [e]) := by
  have nqr : q ≠ r := fun z => by subst z; rw [h.own] at hq; cases hq
  have nqp : q ∉ ps := fun z => by
    obtain ⟨i, hi, ei⟩ := List.getElem_of_mem z
    have := h.each i q (es[i]'(by rw [← h.len]; exact hi)) (by rw [List.getElem?_eq_getElem hi, ei]) (List.getElem?_eq_getElem _)
    rw [hq] at this; cases this
  have hO : O q = none := by rw [← h.rest q nqr nqp]; exact hq
  refine ⟨h.new, by rw [updO_same, List.map_append]; rfl, by rw [List.length_append, List.length_append, h.len]; rfl, fun i p f hp hf => ?_, fun p hp => ?_, ?_, fun a h1 h2 => ?_⟩
  · by_cases hi : i < ps.length
    · rw [List.getElem?_append_left hi] at hp
      rw [List.getElem?_append_left (by rw [← h.len]; exact hi)] at hf
      have hm := List.mem_of_getElem? hp
      rw [updO_ne (h.free p hm).2, updO_ne (fun (z : p = q) => nqp (z ▸ hm))]
      exact h.each i p f hp hf
    · rw [List.getElem?_append_right (by omega)] at hp
      rw [List.getElem?_append_right (by rw [← h.len]; omega)] at hf
      have h0 : i - ps.length = 0 := by
        by_cases z : i - ps.length = 0
        · exact z
        · rw [List.getElem?_eq_none (by simp; omega)] at hp; cases hp
      rw [h0] at hp
      rw [← h.len, h0] at hf
      cases hp; cases hf
      rw [updO_ne nqr, updO_same]
  · rcases List.mem_append.mp hp with z | z
    · exact h.free p z
    · rw [List.mem_singleton] at z; subst z; exact ⟨hO, nqr⟩
  · rw [List.nodup_append]
    exact ⟨h.nd, List.nodup_cons.mpr ⟨by simp, List.nodup_nil⟩, fun x hx y hy e => by
      rw [List.mem_singleton] at hy; subst hy; subst e; exact nqp hx⟩
  · have h3 : a ∉ ps := fun z => h2 (List.mem_append_left _ z)
    have h4 : a ≠ q := fun z => h2 (List.mem_append_right _ (by rw [z]; exact List.mem_singleton.mpr rfl))
    rw [updO_ne h1, updO_ne h4]
    exact h.rest a h1 h3
theorem cut_from {xs : List D} {b : Int} (h0 : 0 ≤ b) (h1 : b ≤ xs.length) : cutD xs (some b) none = xs.drop b.toNat := by
  unfold cutD HT.sIx
  show (xs.drop (if b < 0 then _ else min b.toNat xs.length)).take (xs.length - (if b < 0 then _ else min b.toNat xs.length)) = _
  rw [if_neg (by omega), Nat.min_eq_left (by omega), ← List.length_drop, List.take_length]
theorem cut_to {xs : List D} {b : Int} (h0 : 0 ≤ b) (h1 : b ≤ xs.length) : cutD xs none (some b) = xs.take b.toNat := by
  unfold cutD HT.sIx
  show (xs.drop 0).take ((if b < 0 then _ else min b.toNat xs.length) - 0) = _
  rw [if_neg (by omega), Nat.min_eq_left (by omega)]
  rfl
/-- a row turned by k -/
def turn (k : Nat) (c : List Int) : List Int := c.drop k ++ c.take k
theorem turn_perm (k : Nat) (c : List Int) : (turn k c).Perm c := by
  unfold turn
  exact List.perm_append_comm.trans (by rw [List.take_append_drop])
theorem turn_map (k : Nat) (c : List Int) : (c.map D.int).drop k ++ (c.map D.int).take k = (turn k c).map D.int := by
  unfold turn
  rw [List.map_append, List.map_drop, List.map_take]
theorem Good.perm {n : Int} {c d : List Int} (h : c ≠ [] ∧ c.Nodup ∧ ∀ b ∈ c, 0 ≤ b ∧ b < n) (pm : d.Perm c) : d ≠ [] ∧ d.Nodup ∧ ∀ b ∈ d, 0 ≤ b ∧ b < n :=
  ⟨fun z => h.1 (by subst z; exact pm.symm.eq_nil), pm.symm.nodup h.2.1, fun b hb => h.2.2 b (pm.subset hb)⟩
theorem lot_good {n : Int} {c : List Int} (h : Lot n c) (h0 : 1 ≤ (c.length : Int)) : c ≠ [] ∧ c.Nodup ∧ ∀ b ∈ c, 0 ≤ b ∧ b < n := ⟨fun z => by subst z; simp at h0, h.nodup, h.2⟩
def ratD (r : Int × Int) : D := .tup [.int r.1, .int r.2]
theorem low_share {t b : Int} (h0 : 0 ≤ t) (h1 : t ≤ b) (hb : 0 < b) : isShare (.tup [.int (t / (Nat.gcd t.natAbs b.natAbs : Nat)), .int (b / (Nat.gcd t.natAbs b.natAbs : Nat))]) = true := by
  rw [isShare_ii]
  have g0 : 0 < Nat.gcd t.natAbs b.natAbs := Nat.gcd_pos_of_pos_right _ (by omega)
  obtain ⟨x, hx⟩ : (Nat.gcd t.natAbs b.natAbs) ∣ t.natAbs := Nat.gcd_dvd_left _ _
  obtain ⟨y, hy⟩ : (Nat.gcd t.natAbs b.natAbs) ∣ b.natAbs := Nat.gcd_dvd_right _ _
  have hc : Nat.gcd x y = 1 := by
    have h := Nat.gcd_mul_left (Nat.gcd t.natAbs b.natAbs) x y
    rw [← hx, ← hy] at h
    exact Nat.eq_of_mul_eq_mul_left g0 (by rw [Nat.mul_one]; exact h.symm)
  generalize Nat.gcd t.natAbs b.natAbs = g at *
  have et : t = (g : Int) * (x : Int) := by have : ((t.natAbs : Nat) : Int) = ((g * x : Nat) : Int) := by rw [hx]
                                            rw [Int.natCast_mul] at this; omega
  have eb : b = (g : Int) * (y : Int) := by have : ((b.natAbs : Nat) : Int) = ((g * y : Nat) : Int) := by rw [hy]
                                            rw [Int.natCast_mul] at this; omega
  have gne : (g : Int) ≠ 0 := by omega
  have e1 : t / (g : Int) = (x : Int) := by rw [et]; exact Int.mul_ediv_cancel_left _ gne
  have e2 : b / (g : Int) = (y : Int) := by rw [eb]; exact Int.mul_ediv_cancel_left _ gne
  rw [e1, e2]
  have hxy : x ≤ y := by
    have : t.natAbs ≤ b.natAbs := by omega
    rw [hx, hy] at this
    exact Nat.le_of_mul_le_mul_left this g0
  have hy1 : 1 ≤ y := by
    rcases Nat.eq_zero_or_pos y with z | z
    · rw [z, Nat.mul_zero] at hy; omega
    · exact z
  rw [decide_eq_true (show (y : Int) ≥ 1 by omega), decide_eq_true (show (0 : Int) ≤ x by omega), decide_eq_true (show (x : Int) ≤ y by omega), Int.natAbs_natCast, Int.natAbs_natCast, decide_eq_true hc]
  rfl
end VL
set_option maxHeartbeats 2000000
namespace VL
open PySem PySem.Spec PyProof.Rows L2 MB
def tTry (K : Fr) (cv : Value) (i : Nat) (ts : Addr → Value → Option Addr → TS) (Wout : WX) (tb : WX → TS) : TS := fun Dd σ H => tb (wAs K cv i ts Wout Dd) Dd σ H
theorem ps_tryT {X : Cx} {st : Stmt} {cv : Value} {i : Nat} {ts : Addr → Value → Option Addr → TS} {Wout : WX} {tb : WX → TS} (h : PS X st (fun D σ H => tb (wAs X.K cv i ts Wout D) D σ H)) : PS X st (tTry X.K cv i ts Wout tb) := h
section
variable {c : Cz} {ρ : En} {O : Oh} {Q : D → Oh → Prop} {E : EnL}
theorem l_xfv {i : Nat} {a C : Addr} {dx : Option Addr} {n : Str} {fs : List (Str × D)} {d : D} (h : ρ[i]? = some (some (.exc a dx C fs))) (hl : fs.lookup n = some d) (q : Q d O) : LE c (tXf a (.ref C) dx C n (tVar i)) ρ O Q :=
  l_xf (fs := fs) (l_var h ⟨d, rfl, hl, q⟩)
/-- a try that lets nothing out -/
theorem s_tryN {cv : Value} {i : Nat} {ts : Addr → Value → Option Addr → TS} {tb : WX → TS} {Wout : WX} (q : ∀ W : WX, LS ⟨c.K, fun σ cls d H => W cls d σ H, xAs c E cv i ts fun _ _ _ _ => False⟩ (tb W) E ρ O) {K' : Fr} (hK : K' = c.K) : LS c (tTry K' cv i ts Wout tb) E ρ O := by
  subst hK
  exact s_try (XW := fun _ _ _ _ => False) (fun _ _ _ _ _ _ _ _ _ _ _ _ h => h.elim) q
/-- what is caught -/
theorem x_caught {cv : Value} {i : Nat} {ts : Addr → Value → Option Addr → TS} {C : Addr} {fs : List (Str × D)} (h : PySem.W.exmOne c.K (.ref C) cv = some true) (q : ∀ a dx, (fs = [] → dx = none) → LS c (ts a (.ref C) dx) ⟨fun ρ2 O2 => E.nx (ρ2.set i none) O2, E.rt, fun ρ2 O2 => E.bk (ρ2.set i none) O2, fun ρ2 O2 => E.ct (ρ2.set i none) O2⟩ (ρ.set i (some (.exc a dx C fs))) O) : xAs c E cv i ts (fun _ _ _ _ => False) C fs ρ O :=
  ⟨true, h, fun _ => q, fun h => by cases h⟩
theorem x_caughtN {cv : Value} {i : Nat} {ts : Addr → Value → Option Addr → TS} {C : Addr} {fs : List (Str × D)} {p C0 : Addr} {gs : List (Str × D)} (hp : O p = none) (h : PySem.W.exmOne c.K (.ref C) cv = some true) (q : ∀ a dx, (fs = [] → dx = none) → LS c (ts a (.ref C) dx) ⟨fun ρ2 O2 => E.nx (ρ2.set i none) O2, E.rt, fun ρ2 O2 => E.bk (ρ2.set i none) O2, fun ρ2 O2 => E.ct (ρ2.set i none) O2⟩ (ρ.set i (some (.exc a dx C fs))) O) : xAs c E cv i ts (fun _ _ _ _ => False) C fs ρ (delO (updO O p (.ins C0 gs)) p) := by
  rw [delO_updO hp]; exact x_caught h q
end
section
variable {c : Cz} {ρ : En} {O : Oh}
theorem reps_rep {K : Fr} {F : Hp} {vs : List V} {xs : List D} (r : RepsD K F vs xs) : ∀ n : Nat, RepsD K F (List.replicate n vs).flatten (List.replicate n xs).flatten
  | 0 => .nil
  | n + 1 => by rw [List.replicate_succ, List.replicate_succ, List.flatten_cons, List.flatten_cons]; exact r.append (reps_rep r n)
theorem o_rep {x : D} {xs : List D} {k : Int} {Q : List D → Oh → Prop} (h : asL O x = some xs) (hk : 0 ≤ k ∧ k ≤ 100000) (hl : xs.length * k.toNat ≤ 100000) (q : Q (List.replicate k.toNat xs).flatten O) : O2N c rRep x (.int k) O Q := fun F H v w s rv rw x Q' kk => by
  obtain ⟨p, vs, rfl, hp, r⟩ := asL_sq s rv h
  cases rw
  exact ⟨p, k, vs, rfl, rfl, hp, by omega, by omega, by rw [r.len]; exact le_line hl, fun a ha => kk F H O a _ _ (Same.refl F) s ha (reps_rep r _) q⟩
theorem f_rep {ta tb : TE} {Q : D → Oh → Prop} (q : LE c ta ρ O fun x O1 => LE c tb ρ O1 fun y O2 => O2N c rRep x y O2 fun ys O3 => Q (.lst ys) O3) : LE c (tOp rRep ta tb) ρ O Q := l_frz (ln_op q)
theorem rep_one (n : Nat) (i : Int) : (List.replicate n [D.int i]).flatten = (List.replicate n i).map D.int := by
  induction n with
  | zero => rfl
  | succ n ih => rw [List.replicate_succ, List.flatten_cons, ih, List.replicate_succ]; rfl
end
/-- isinstance(e, C2) in a suite that caught a C without fields -/
theorem k_isX {c : Cz} {O : Oh} {Q : D → Oh → Prop} {K' : Fr} (hK : K' = c.K) {a C C2 : Addr} {b : Bool} (h : PySem.W.kitOne c.K (.ref C) (.ref C2) = some b) (q : Q (.bl b) O) : CAR c (rIsX K' C a (.ref C) none) [.exc a none C [], .ref C2] O Q := by
  subst hK
  intro F H vs s r z Q' k
  cases r with
  | cons ra t =>
    cases t with
    | cons rb t =>
      cases t; cases rb; cases ra
      exact ⟨rfl, rfl, _, .ref C2, b, rfl, fun u hu => hu, h, k F H O _ _ (Same.refl F) s (.bl _) q⟩
def kitE (K : Fr) (A B : Str) (b : Bool) : Bool := decide (PySem.W.kitOne K (.ref (He.ga K A)) (.ref (He.ga K B)) = some b)
theorem kit_same {K : Fr} {C : Addr} : PySem.W.kitOne K (.ref C) (.ref C) = some true := by unfold PySem.W.kitOne; rw [if_pos (beq_self_eq_true _)]
theorem l_post {c : Cz} {ρ : En} {O : Oh} {Q : D → Oh → Prop} {te : TE} (P : D → Oh → Prop) (q : LE c te ρ O P) (k : ∀ d O, P d O → Q d O) : LE c te ρ O Q := fun F H σ rs s x Q' kk => q F H σ rs s x Q' fun F1 H1 O1 v d s1 st1 rd1 h => kk F1 H1 O1 v d s1 st1 rd1 (k d O1 h)
theorem cut_le {xs : List D} (k : Nat) : cutD xs none (some (k : Int)) = xs.take k := by
  unfold cutD HT.sIx
  show (xs.drop 0).take ((if (k : Int) < 0 then _ else min ((k : Int).toNat) xs.length) - 0) = _
  rw [if_neg (by omega), Int.toNat_natCast, Nat.sub_zero, List.drop_zero]
  by_cases h : k ≤ xs.length
  · rw [Nat.min_eq_left h]
  · rw [Nat.min_eq_right (by omega), List.take_length, List.take_of_length_le (by omega)]
theorem s_post {c : Cz} {ρ : En} {O : Oh} {E : EnL} {ts : TS} (P : En → Oh → Prop) (q : LS c ts { E with nx := P } ρ O) (k : ∀ ρ O, P ρ O → E.nx ρ O) : LS c ts E ρ O := LS.imp q k (fun _ _ z => z) (fun _ _ z => z) (fun _ _ z => z)
theorem ixN_in {n : Nat} {i : Int} (h0 : 0 ≤ i) (h1 : i < n) : ixN n i = some i.toNat := by unfold ixN; rw [if_pos h0, if_pos h1]
theorem look2_new {O : Oh} {p C : Addr} {gs : List (Str × D)} {t : D} (h : O p = none) (l : Look2 O t) : Look2 (updO O p (.ins C gs)) t := by
  unfold Look2 at *
  rw [asS_new h, kn_new h]
  exact ⟨l.1, fun xs e => ⟨(l.2 xs e).1, fun x hx => (kn_new h).mpr ((l.2 xs e).2 x hx)⟩⟩
theorem look3_new {O : Oh} {p C : Addr} {gs : List (Str × D)} {t : D} (h : O p = none) (l : Look3 O t) : Look3 (updO O p (.ins C gs)) t := by
  unfold Look3 at *
  rw [asS_new h, kn_new h]
  exact ⟨l.1, fun xs e => ⟨(l.2 xs e).1, fun x hx => look2_new h ((l.2 xs e).2 x hx)⟩⟩
end VL
set_option maxHeartbeats 2000000
namespace VL
open PySem PySem.Spec PyProof.Rows L2 MB
theorem StO.sub {K : Fr} {F H : Hp} {O O2 : Oh} (e : Ext O O2) (s : StO K F O2 H) : StO K F O H := ⟨s.same, fun a o h => s.own a o (e a o h)⟩
section
variable {c : Cz} {ρ : En} {O : Oh} {Q : D → Oh → Prop} {E : EnL}
theorem s_sub {ts : TS} (O0 : Oh) (e : Ext O0 O) (q : LS c ts E ρ O0) : LS c ts E ρ O := fun F H σ rs s x Dd l => q F H σ rs (s.sub e) x Dd l
theorem l_shrink {te : TE} (O0 : Oh) (q : LE c te ρ O fun d O1 => Ext O0 O1 ∧ Q d O0) : LE c te ρ O Q := fun F H σ rs s x Q' k => q F H σ rs s x Q' fun F1 H1 O1 v d s1 st1 rd1 ⟨e, h⟩ => k F1 H1 O0 v d s1 (st1.sub e) rd1 h
end
theorem if_post {c : Cz} {ρ : En} {O : Oh} {E : EnL} {p : Prop} [Decidable p] {t u : TS} (P : En → Oh → Prop) (h1 : p → LS c t { E with nx := P } ρ O) (h2 : ¬ p → LS c u { E with nx := P } ρ O) (k : ∀ ρ O, P ρ O → E.nx ρ O) : if decide p = true then LS c t E ρ O else LS c u E ρ O := if_d (fun h => s_post P (h1 h) k) (fun h => s_post P (h2 h) k)
theorem cut_ge {xs : List D} (k : Nat) : cutD xs (some (k : Int)) none = xs.drop k := by
  unfold cutD HT.sIx
  show (xs.drop (if (k : Int) < 0 then _ else min ((k : Int).toNat) xs.length)).take (xs.length - (if (k : Int) < 0 then _ else min ((k : Int).toNat) xs.length)) = _
  rw [if_neg (by omega), Int.toNat_natCast]
  by_cases h : k ≤ xs.length
  · rw [Nat.min_eq_left h, ← List.length_drop, List.take_length]
  · rw [Nat.min_eq_right (by omega), Nat.sub_self, List.take_zero, List.drop_of_length_le (show xs.length ≤ k by omega)]
theorem Rows.lists {O : Oh} {t : D} {cs : List (List Int)} {xs : List D} (h : Rows O t cs) (e : asS O t = some xs) : xs.map (fun d => D.lst (itemsA (asS O) d)) = cs.map fun c => D.lst (c.map D.int) := by
  obtain ⟨ys, e', el⟩ := h.items
  rw [e] at e'; cases e'
  refine List.ext_getElem? fun i => ?_
  rw [List.getElem?_map, List.getElem?_map]
  cases hx : xs[i]? with
  | none =>
    rw [List.getElem?_eq_none (by have := List.getElem?_eq_none_iff.mp hx; omega)]; rfl
  | some x =>
    obtain ⟨c, c1, c2, c3⟩ := h.at e hx
    rw [c1]
    show some (D.lst (itemsA (asS O) x)) = some (D.lst (c.map D.int))
    unfold itemsA; rw [c3]; rfl
theorem Rows.sorted {O : Oh} {t : D} {cs : List (List Int)} {xs : List D} (h : Rows O t cs) (e : asS O t = some xs) : xs.map (chkD (asS O)) = (cs.map srt).map fun c => D.tup (c.map D.int) := by
  have := h.chks
  unfold itemsA at this
  rw [e] at this
  exact this
theorem Good.srt {n : Int} {cs : List (List Int)} (h : Good n cs) : Good n (cs.map VL.srt) := fun d hd => by
  obtain ⟨c, hc, rfl⟩ := List.mem_map.mp hd
  exact Good.perm (h c hc) (srt_perm c)
theorem srt_twice (cs : List (List Int)) : (cs.map srt).map srt = cs.map srt := by
  rw [List.map_map]; congr 1; funext c; exact srt_srt c
theorem Good.sub {n : Int} {cs ds : List (List Int)} (h : Good n cs) (s : ∀ d ∈ ds, d ∈ cs) : Good n ds := fun d hd => h d (s d hd)
theorem Good.more {n m : Int} {cs : List (List Int)} (h : Good n cs) (hm : n ≤ m) : Good m cs := fun d hd => ⟨(h d hd).1, (h d hd).2.1, fun b hb => by have := (h d hd).2.2 b hb; omega⟩
theorem rows_at_lst {cs : List (List Int)} {i : Nat} {d : D} (h : (cs.map fun c => D.lst (c.map D.int))[i]? = some d) : ∃ c, cs[i]? = some c ∧ d = .lst (c.map D.int) := by
  rw [List.getElem?_map] at h
  cases e : cs[i]? with
  | none => rw [e] at h; cases h
  | some b => rw [e] at h; exact ⟨b, rfl, (Option.some.inj h).symm⟩
theorem lists_sorted (cs : List (List Int)) : (cs.map fun c => D.lst (c.map D.int)).map (fun d => D.lst ((srt (intsA (asS fun _ => none) d)).map D.int)) = (cs.map srt).map fun c => D.lst (c.map D.int) := by
  rw [List.map_map, List.map_map]
  congr 1
  funext c
  show D.lst ((srt (intsA _ (.lst (c.map D.int)))).map D.int) = _
  rw [intsA_of (a := asS fun _ => none) (t := .lst (c.map D.int)) rfl]
  rfl
end VL
set_option maxHeartbeats 2000000
namespace VL
open PySem PySem.Spec PyProof.Rows L2 MB
abbrev ClT := Value × Option Nat × (Addr → Value → Option Addr → TS)
def endN (Dd : Ends) : Option Nat → Ends
  | none => Dd
  | some j => { nx := fun σ2 H2 => Dd.nx (σ2.set j none) H2, rt := Dd.rt, bk := fun σ2 H2 => Dd.bk (σ2.set j none) H2, ct := fun σ2 H2 => Dd.ct (σ2.set j none) H2 }
def slN (σ : L2.St) (a : Addr) : Option Nat → L2.St
  | none => σ
  | some j => σ.set j (some (.ref a))
def wMix (K : Fr) (Wo : WX) (Dd : Ends) : List ClT → WX
  | [] => Wo
  | z :: more => fun cls d σ H => ∃ b, PySem.W.exmOne K cls z.1 = some b ∧ (b = true → ∀ a, H a = none → z.2.2 a cls d (endN Dd z.2.1) (slN σ a z.2.1) H) ∧ (b = false → wMix K Wo Dd more cls d σ H)
inductive ClsOk (X : Cx) : List ExceptHandler → List ClT → Prop
  | nil : ClsOk X [] []
  | bare {y : Str} {cv : Value} {tu : Addr → Value → Option Addr → TS} {s₀ : Stmt} {ss : List Stmt} {q q' : Pos} {more : List ExceptHandler} {ls : List ClT} (nm : Names X y cv)
      (su : ∀ (a : Addr) (ob : Obj) (cls : Value) (d : Option Addr) (pp : List (Addr × Obj)), Zc cls d ob → (∃ vs, ob.data = .fields vs) → PSs (X.suite a ((a, ob) :: pp)) (s₀ :: ss) (tu a cls d)) (rest : ClsOk X more ls) :
      ClsOk X (.ExceptHandler (some (.Name y q)) none (s₀ :: ss) q' :: more) ((cv, none, tu) :: ls)
  | as {y n : Str} {j : Nat} {cv : Value} {tu : Addr → Value → Option Addr → TS} {s₀ : Stmt} {ss : List Stmt} {q q' : Pos} {more : List ExceptHandler} {ls : List ClT} (nj : X.N[j]? = some n) (kl : X.env.kindOf n = some .local) (nm : Names X y cv)
      (su : ∀ (a : Addr) (ob : Obj) (cls : Value) (d : Option Addr) (pp : List (Addr × Obj)), Zc cls d ob → (∃ vs, ob.data = .fields vs) → PSs (X.suite a ((a, ob) :: pp)) (s₀ :: ss) (tu a cls d)) (rest : ClsOk X more ls) :
      ClsOk X (.ExceptHandler (some (.Name y q)) (some n) (s₀ :: ss) q' :: more) ((cv, some j, tu) :: ls)
def tTryM (K : Fr) (ls : List ClT) (Wo : WX) (tb : WX → TS) : TS := fun Dd σ H => tb (wMix K Wo Dd ls) Dd σ H
section
variable {X : Cx} {body : List Stmt} {h₁ : ExceptHandler} {more : List ExceptHandler} {ls : List ClT} {p : Pos} {tb : WX → TS} {Wo : WX}
theorem ps_tryM (st : X.stack = X.env :: X.outer) (fr : X.env.frame = some X.env.locals) (nd : X.N.Nodup) (lets : Takes X Wo)
    (run : ∀ (W : WX) (pp : List (Addr × Obj)) (xe : Value → Shared → Prop), Takes (X.tr pp xe) W → PassesOwn (model X.prog X.w) X.A X.env xe → PSs (X.tr pp xe) body (tb W))
    (cl : ClsOk X (h₁ :: more) ls) : PS X (.Try body (h₁ :: more) [] [] p) (tTryM X.K ls Wo tb) := by
  refine ⟨fun pins s σ H Dd I hh => ?_⟩
  have okX := I.ok
  have frm : X.A.frames = some (X.env :: X.outer) := okX.frames.trans (congrArg some st)
  refine wpAny_Try_except (wpAny_mono ((run (wMix X.K Wo Dd ls) (X.pn ++ pins) (fun er s₁ => wpAny (model X.prog X.w) X.A (noteFrame er X.env) (fun _ s₂ => wpAny (model X.prog X.w) X.A (setFlight er none)
    (fun _ s₃ => wpAny (model X.prog X.w) X.A (handleBy er X.env (h₁ :: more)) (SP X pins Dd) X.xe s₃) X.xe s₂) X.xe s₁) (fun er sE took => ?_) PassesOwn.looking).run [] s σ H Dd (I.toTry _) hh) (fun fl sF sp => ?_) (fun _ _ z => z))
  · obtain ⟨a, B, s0, pinsE, σE, HE, cls, d, rfl, J0, nb, up, sky0, na, os, ag, wish⟩ := took
    have JE : Inv X pins σE HE s0 := J0.ofTry okX
    have sky : Sky B (X.env :: X.outer) a (Zc cls d) X.env.locals sE.heap := st ▸ sky0
    show wpAny (model X.prog X.w) X.A (noteFrame (.ref a) X.env) _ _ _
    refine Sky.land Zc.steady frm fr sky fun hp3 land3 up3 => ?_
    have JL : Inv X pins σE HE { sE with heap := hp3 } := JE.landed nb land3.1 (up.trans up3) os ag
    obtain ⟨ob3, vs3, at3, zc3, dt3⟩ := land3.there
    have off : a ∉ frs (X.env :: X.outer) := fun hm => by
      obtain ⟨_, o2, e2, bad⟩ := land3.2.2.1.mem hm
      cases at3.symm.trans e2
      exact bad _ dt3
    have nL : a ≠ X.env.locals := fun z => off (List.mem_filterMap.mpr ⟨X.env, List.mem_cons_self, by rw [fr, z]⟩)
    have nF : a ∉ X.fs := fun hm => by
      obtain ⟨e, he, qq⟩ := List.mem_filterMap.mp hm
      exact off (List.mem_filterMap.mpr ⟨e, List.mem_cons_of_mem _ he, qq⟩)
    have SL := JL.suite at3 dt3 na nL nF
    have clauses : ∀ {hs' : List ExceptHandler} {ls' : List ClT}, ClsOk X hs' ls' → wMix X.K Wo Dd ls' cls d σE HE → wpAny (model X.prog X.w) X.A (handleBy (.ref a) X.env hs') (SP X pins Dd) X.xe { sE with heap := hp3 } := by
      have looks : PySem.W.Looks (model X.prog X.w) hp3 (typeOf (.ref a)) cls := fun A Q E s2 k2 q2 => wpAny_typeOf_ref (k2 _ _ at3) (by rw [zc3.1]; exact q2)
      have nmd : ∀ {y : Str} {cv : Value} {q : Pos}, Names X y cv → ∀ {R S : Value → Shared → Prop}, R cv { sE with heap := hp3 } → wpAny (model X.prog X.w) (X.A.mark (some (.ref a))) (eval (.Name y q) X.env) R S { sE with heap := hp3 } := fun {y cv q} nm {R S} rr => by
        obtain ⟨g1, g2, g3 | ⟨g3, g4, g5⟩⟩ := nm
        · exact ld_glob (X := X.suite a ((a, ob3) :: (X.pn ++ pins))) SL g1 g3 rr g2
        · exact ld_blt (X := X.suite a ((a, ob3) :: (X.pn ++ pins))) SL g1 g3 g4 rr g5 g2
      intro hs' ls' ok
      induction ok with
      | nil =>
        intro wish
        refine wpAny_handleBy_nil ?_
        obtain ⟨k1, k2, k3, oe, vs, T, oT, tz, he, hz, hd, g1, hr⟩ := id land3
        unfold PySem.passOn
        refine wpAny_bind (wpAny_field he hd g1 ?_)
        rw [if_neg (show ¬ ((Value.ref T == Value.none) = true) by simp)]
        have out : wpAny (model X.prog X.w) X.A (setFlight (.ref a) X.env.frame) (fun _ s4 => wpAny (model X.prog X.w) X.A (throw (.ref a) : Sem Flow) (SP X pins Dd) X.xe s4) X.xe { sE with heap := hp3 } := by
          rw [fr]
          exact HandSPX.setFlight_upZ land3 fun hp4 g4 up4 => wpAny_throw (lets _ _ ⟨a, B, s0, pins, σE, HE, cls, d, rfl, JE, nb, (up.trans up3).trans up4, .inr (.inr (st.symm ▸ g4)), na, os, ag, wish⟩)
        exact (by first | exact wpAny_bind (wpAny_pure (wpAny_bind out)) | exact wpAny_bind out)
      | @bare y cv tu s₀ ss q q' more2 ls2 nm su rest ih =>
        rintro ⟨b, hb, yes, no⟩
        refine wpAny_handleBy_cons (codeAny_handlers_test ?_) (by intro z; cases z)
        refine nmd nm ((PySem.W.exm_one (M := model X.prog X.w) JL.kIn looks hb).here ?_)
        cases b with
        | false => show wpAny _ X.A (handleBy (.ref a) X.env more2) _ _ _; exact ih (no rfl)
        | true =>
          refine codeAny_handlers_suite (HandSPX.lands_againZ land3 fun hp4 land4 up4 => ?_)
          obtain ⟨ob4, vs4, at4, zc4, dt4⟩ := land4.there
          have JN : Inv X pins σE HE { sE with heap := hp4 } := JE.landed nb land4.1 ((up.trans up3).trans up4) os ag
          refine wpAny_mono ((su a ob4 cls d (X.pn ++ pins) zc4 ⟨_, dt4⟩).run [] _ _ HE _ (JN.suite at4 dt4 na nL nF) (yes rfl a na)) (fun fl s6 sp => ?_) (fun _ _ z => False.elim z)
          cases fl with
          | ret u => obtain ⟨v, σ6, H6, g6, r6, q6⟩ := sp; exact ⟨_, _, _, g6.unsuite okX, r6, q6⟩
          | next => obtain ⟨σ6, H6, g6, q6⟩ := sp; exact ⟨_, _, g6.unsuite okX, q6⟩
          | brk => obtain ⟨σ6, H6, g6, q6⟩ := sp; exact ⟨_, _, g6.unsuite okX, q6⟩
          | cont => obtain ⟨σ6, H6, g6, q6⟩ := sp; exact ⟨_, _, g6.unsuite okX, q6⟩
      | @as y n j cv tu s₀ ss q q' more2 ls2 nj kl nm su rest ih =>
        rintro ⟨b, hb, yes, no⟩
        refine wpAny_handleBy_cons (codeAny_handlers_test ?_) (by intro z; cases z)
        refine nmd nm ((PySem.W.exm_one (M := model X.prog X.w) JL.kIn looks hb).here ?_)
        cases b with
        | false => show wpAny _ X.A (handleBy (.ref a) X.env more2) _ _ _; exact ih (no rfl)
        | true =>
          refine codeAny_handlers_suite_as (HandSPX.lands_againZ land3 fun hp4 land4 up4 => ?_)
          obtain ⟨ob4, vs4, at4, zc4, dt4⟩ := land4.there
          have JN : Inv X pins σE HE { sE with heap := hp4 } := JE.landed nb land4.1 ((up.trans up3).trans up4) os ag
          refine store_ok (X := X.suite a ((a, ob4) :: (X.pn ++ pins))) (v := .ref a) (JN.suite at4 dt4 na nL nF) nd nj (.inl kl) rfl (fun s5 g5 => ?_) (.inr kl)
          refine wpAny_mono ((su a ob4 cls d (X.pn ++ pins) zc4 ⟨_, dt4⟩).run [] s5 _ HE _ g5 (yes rfl a na)) (fun fl s6 sp => ?_) (fun _ _ z => False.elim z)
          have fin : ∀ {σ6 : L2.St} {H6 : Hp} {R : Shared → Prop}, Inv (X.suite a ((a, ob4) :: (X.pn ++ pins))) [] σ6 H6 s6 → (∀ s7, Inv X pins (σ6.set j none) H6 s7 → R s7) → wpAny (model X.prog X.w) X.A (do bindName X.env n .none; unbindBehindTheSuite X.env n q') (fun _ s7 => R s7) X.xe s6 := fun {σ6 H6 R} g6 rr => gone_ok (g6.unsuite okX) nd nj kl rr
          cases fl with
          | ret u => obtain ⟨v, σ6, H6, g6, r6, q6⟩ := sp; exact fin g6 fun s7 J7 => ⟨_, _, _, J7, r6, q6⟩
          | next => obtain ⟨σ6, H6, g6, q6⟩ := sp; exact fin g6 fun s7 J7 => ⟨_, _, J7, q6⟩
          | brk => obtain ⟨σ6, H6, g6, q6⟩ := sp; exact fin g6 fun s7 J7 => ⟨_, _, J7, q6⟩
          | cont => obtain ⟨σ6, H6, g6, q6⟩ := sp; exact fin g6 fun s7 J7 => ⟨_, _, J7, q6⟩
    exact clauses cl wish
  · cases fl with
    | ret u => obtain ⟨v, σ', H', g, r, q⟩ := sp; exact ⟨v, σ', H', g.ofTry okX, r, q⟩
    | next => obtain ⟨σ', H', g, q⟩ := sp; exact wpAny_execs_nil ⟨σ', H', g.ofTry okX, q⟩
    | brk => obtain ⟨σ', H', g, q⟩ := sp; exact ⟨σ', H', g.ofTry okX, q⟩
    | cont => obtain ⟨σ', H', g, q⟩ := sp; exact ⟨σ', H', g.ofTry okX, q⟩
end
section
variable {c : Cz} {ρ : En} {O : Oh} {E : EnL}
def enN (E : EnL) : Option Nat → EnL
  | none => E
  | some j => ⟨fun ρ2 O2 => E.nx (ρ2.set j none) O2, E.rt, fun ρ2 O2 => E.bk (ρ2.set j none) O2, fun ρ2 O2 => E.ct (ρ2.set j none) O2⟩
def ρN (ρ : En) (d : D) : Option Nat → En
  | none => ρ
  | some j => ρ.set j (some d)
def xMix (c : Cz) (E : EnL) : List ClT → Addr → List (Str × D) → En → Oh → Prop
  | [], _, _, _, _ => False
  | z :: more, C, fs, ρ', O' => ∃ b, PySem.W.exmOne c.K (.ref C) z.1 = some b ∧ (b = true → ∀ a dx, (fs = [] → dx = none) → LS c (z.2.2 a (.ref C) dx) (enN E z.2.1) (ρN ρ' (.exc a dx C fs) z.2.1) O') ∧ (b = false → xMix c E more C fs ρ' O')
theorem xMix_w {F' H' : Hp} {O' : Oh} {σ' : L2.St} {ρ' : En} {C : Addr} {dx : Option Addr} {fs : List (Str × D)} {F : Hp} {Dd : Ends} (x : XL c F) (l : Lift c.K F E Dd) (s1 : Same F F') (rs1 : RepS c.K F' σ' ρ') (st1 : StO c.K F' O' H') (rx : RepX c.K F' H' dx fs) : ∀ {ls : List ClT}, xMix c E ls C fs ρ' O' → wMix c.K (fun _ _ _ _ => False) Dd ls (.ref C) dx σ' H'
  | [], h => h.elim
  | (cv, o, ts) :: more, ⟨b, hb, hy, hn⟩ => by
    refine ⟨b, hb, fun e a ha => ?_, fun e => xMix_w x l s1 rs1 st1 rx (hn e)⟩
    obtain ⟨F2, s2, st2, rd2⟩ := catch_frz (a := a) (C := C) st1 rx
    have s12 := s1.trans s2
    have dn : fs = [] → dx = none := fun z => by
      cases dx with
      | none => rfl
      | some d => obtain ⟨_, _, _, h⟩ := rx; exact absurd z h
    have l2 := l.mono s12
    cases o with
    | none => exact hy e a dx dn F2 H' _ (rs1.mono s2) st2 (x.mono s12) _ l2
    | some j => exact hy e a dx dn F2 H' _ ((rs1.mono s2).set j rd2) st2 (x.mono s12) _ ⟨fun F3 H3 O3 σ3 ρ3 s3 rs3 st3 q3 => l2.nx F3 H3 O3 _ _ s3 (rs3.forget j none) st3 q3, l2.rt, fun F3 H3 O3 σ3 ρ3 s3 rs3 st3 q3 => l2.bk F3 H3 O3 _ _ s3 (rs3.forget j none) st3 q3, fun F3 H3 O3 σ3 ρ3 s3 rs3 st3 q3 => l2.ct F3 H3 O3 _ _ s3 (rs3.forget j none) st3 q3⟩
/-- a try of several clauses that lets nothing out -/
theorem s_tryM {ls : List ClT} {tb : WX → TS} (q : ∀ W : WX, LS ⟨c.K, fun σ cls d H => W cls d σ H, xMix c E ls⟩ (tb W) E ρ O) {K' : Fr} (hK : K' = c.K) : LS c (tTryM K' ls (fun _ _ _ _ => False) tb) E ρ O := by
  subst hK
  intro F H σ rs s x Dd l
  refine q _ F H σ rs s ?_ Dd l
  rintro F' H' O' σ' ρ' C dx fs s1 rs1 st1 rx h
  exact xMix_w x l s1 rs1 st1 rx h
theorem m_caught {cv : Value} {o : Option Nat} {ts : Addr → Value → Option Addr → TS} {C : Addr} {fs : List (Str × D)} {ls : List ClT} (h : PySem.W.exmOne c.K (.ref C) cv = some true) (q : ∀ a dx, (fs = [] → dx = none) → LS c (ts a (.ref C) dx) (enN E o) (ρN ρ (.exc a dx C fs) o) O) : xMix c E ((cv, o, ts) :: ls) C fs ρ O :=
  ⟨true, h, fun _ => q, fun h => by cases h⟩
theorem m_other {cv : Value} {o : Option Nat} {ts : Addr → Value → Option Addr → TS} {C : Addr} {fs : List (Str × D)} {ls : List ClT} (h : PySem.W.exmOne c.K (.ref C) cv = some false) (q : xMix c E ls C fs ρ O) : xMix c E ((cv, o, ts) :: ls) C fs ρ O :=
  ⟨false, h, fun z => absurd z Bool.false_ne_true, fun _ => q⟩
end
end VL
set_option maxHeartbeats 4000000
namespace VL
open PySem PySem.Spec PyProof.Rows L2 MB
section
variable {prog : Program} {w : World} {A : Around} {E : Value → Shared → Prop} {s : Shared} {l : Addr} {its : List Value} {ns : List Int} {Q : Value → Shared → Prop}
theorem sum_rawT (hh : A.handled = none) (hl : s.heap.IsTuple l its.toArray) (hi : IntsAre its ns)
    (h : ∀ h' tk t', (∀ b o, s.heap.get? b = some o → h'.get? b = some o) → Q (.int ns.sum t') { s with heap := h', toks := tk }) : wpAny (model prog w) A (call (.builtin "sum") [.ref l]) Q E s := by
  obtain ⟨xs, e⟩ := hi.allInts.items
  have hn : numsOf (intItems xs).toList = ns := e ▸ hi.numsOf
  rw [nums_intItems] at hn
  rw [e] at hl
  have lt : l < s.heap.objs.size := by obtain ⟨_, e, _⟩ := hl; exact Heap.lt_size e
  refine call_sum_walkG (wpAny_pyIter_tuple hl ⟨s.heap.objs.size, [s.heap.objs.size, l], [s.heap.objs.size], _, _, _, numAt xs, rfl, Walks.tuple (A := A.in1) hh _ l (Nat.ne_of_lt lt) (intItems xs), ⟨⟨_, Heap.get?_push_size _ rfl, rfl, rfl⟩, hl.push _⟩, fun b hb => ?_, fun _ _ => intItems_at, fun h' tk t' hk => ?_⟩)
  · show b < (s.heap.push _).objs.size
    rw [Heap.size_push]
    simp only [List.mem_cons, List.not_mem_nil, or_false] at hb
    rcases hb with z | z <;> subst z
    · exact Nat.lt_succ_self _
    · exact Nat.lt_succ_of_lt lt
  · have g := h h' tk t' fun b o q => hk b o (fun m => by
      simp only [List.mem_singleton] at m
      subst m
      exact absurd (Heap.lt_size q) (Nat.lt_irrefl _)) (Heap.get?_push_of_some _ q)
    rw [← hn] at g
    rw [preSum_eq, List.take_of_length_le (by simp [intItems])]
    exact g
end
def rSumA (K : Fr) : RC := fun vs H Q => ∃ (a : Addr) (ns : List Int), vs = [V.ref a] ∧ (SqL K H a (ns.map V.int) ∨ SqT K H a (ns.map V.int)) ∧ Q (.int ns.sum) H
theorem cr_sumA {X : Cx} (hc : X.calm = true) : CallR X (.builtin "sum") (rSumA X.K) := by
  intro pins s σ H vs us Q I r h
  obtain ⟨a, ns, rfl, hs, q⟩ := h
  rw [Vals.ref1 r]
  rcases hs with hs | hs
  · obtain ⟨its, rv, hl, _⟩ := I.list hs
    exact sum_raw (I.ok.hd hc) hl.isList rv.ints fun h' tk t' hk => ⟨.int _, H, I.kept hk, ⟨_, rfl⟩, q⟩
  · obtain ⟨its, rv, hl, _⟩ := I.tuple hs
    exact sum_rawT (I.ok.hd hc) hl rv.ints fun h' tk t' hk => ⟨.int _, H, I.kept hk, ⟨_, rfl⟩, q⟩
section
variable {prog : Program} {w : World} {A : Around} {E : Value → Shared → Prop} {s : Shared}
open SrtO SrtR in
theorem sortedR_tup {l : Addr} {vs : List Value} {ltv : Value → Value → Bool} {Q : Value → Shared → Prop} (ha1 : argsOk "sorted" ⟨[.ref l], [(Str.ofString "reverse", .bool true)]⟩) (ha2 : ∀ a, argsOk "list.sort" ⟨[a], [(Str.ofString "reverse", .bool true)]⟩) (O : Swo ltv) (hl : s.heap.IsTuple l vs.toArray) (hz : vs.length ≤ sizeLine)
    (hS : 2 ≤ vs.length → ∀ (h₁ : Heap) (a : Addr), h₁.get? a = some (seqObj "list" vs.toArray 0) → (∀ b o, s.heap.get? b = some o → b ≠ a ∧ h₁.get? b = some o) → SortableO prog w A.in1.in1 { s with heap := h₁ } a vs ltv)
    (h : ∀ out : List Value, Srtd ltv out → Stb ltv out vs.reverse → Q (.ref (s.heap.objs.size + 1)) { s with heap := sortedAll s.heap vs out.toArray.reverse }) : wpAny (model prog w) A (call (.builtin "sorted") [.ref l] [(Str.ofString "reverse", .bool true)]) Q E s := by
  refine call_function_entry_kw kind_sorted plain_sorted entry_sorted ha1 ?_
  unfold Builtin.«sorted»
  refine wpAny_bind (m := checkCount "sorted" 1 1 _) (wpAny_pure (wpAny_bind (collect_tup hl hz (wpAny_bind (wpAny_newList ?_ hz)))))
  have z1 : ((s.heap.push (seqObj "list" #[] 0)).update s.heap.objs.size (Obj.mapSeq (· ++ vs.toArray))).objs.size = s.heap.objs.size + 1 := (Heap.size_update _ _ _).trans (size_push' _ _)
  have g1 : (((s.heap.push (seqObj "list" #[] 0)).update s.heap.objs.size (Obj.mapSeq (· ++ vs.toArray))).push (seqObj "list" vs.toArray 0)).get? (s.heap.objs.size + 1) = some (seqObj "list" vs.toArray 0) := z1 ▸ Heap.get?_push_size _ rfl
  have kp : ∀ b o, s.heap.get? b = some o → b ≠ s.heap.objs.size + 1 ∧ (((s.heap.push (seqObj "list" #[] 0)).update s.heap.objs.size (Obj.mapSeq (· ++ vs.toArray))).push (seqObj "list" vs.toArray 0)).get? b = some o := fun b o q => by
    have lt : b < s.heap.objs.size := Heap.lt_size q
    refine ⟨Nat.ne_of_lt (Nat.lt_succ_of_lt lt), Heap.get?_push_of_some _ ((Heap.get?_update_ne _ _ _ _ (Nat.ne_of_lt lt)).trans (Heap.get?_push_of_some _ q))⟩
  show wpAny _ _ _ _ _ { s with heap := ((s.heap.push (seqObj "list" #[] 0)).update s.heap.objs.size (Obj.mapSeq (· ++ vs.toArray))).push (seqObj "list" vs.toArray 0) }
  rw [z1]
  refine wpAny_bind (wpAny_holding (wpAny_call_entry_kw slot_list_sort ⟨_, g1, rfl⟩ entry_list_sort ?_ (ha2 _)))
  exact list_sort_ordR (b := true) O g1 hz (fun h2 => hS h2 _ _ g1 kp) fun out hs hb => ⟨_, rfl, wpAny_pure ⟨_, rfl, h out hs hb⟩⟩
end
def rSortedRA (K : Fr) : List V → List V → Hp → VK → Prop := fun vs zs H Q => ∃ (a : Addr) (ns : List Int), vs = [V.ref a] ∧ zs = [.bl true] ∧ (SqL K H a (ns.map V.int) ∨ SqT K H a (ns.map V.int)) ∧ ∀ (ms : List Int) (p : Addr), ms.Perm ns → ms.Pairwise (· ≥ ·) → H p = none → Q (.ref p) (upd H p (.lst (ms.map V.int)))
theorem cr_sortedRA {X : Cx} : CallRK X (.builtin "sorted") [Str.ofString "reverse"] (rSortedRA X.K) := by
  intro pins s σ H vs zs us ws Q I r rz h
  obtain ⟨a, ns, rfl, rfl, hs, q⟩ := h
  rcases hs with hs | hs
  · exact cr_sortedRev pins s σ H _ _ us ws Q I r rz ⟨a, ns, rfl, rfl, hs, fun ms p h1 h2 h3 => q ms p h1 h2 h3⟩
  · obtain rfl := Vals.ref1 r
    obtain ⟨w1, rfl, e1⟩ := vals1 rz
    obtain rfl : w1 = Value.bool true := e1
    obtain ⟨its, rv, hl, hz⟩ := I.tuple hs
    have hi := rv.ints
    refine sortedR_tup (PyProof.Rows.args_sorted_rev _ _) (fun _ => PyProof.Rows.args_list_sort_rev _ _) SrtO.swo_int hl (by rw [← rv.length]; exact hz) (fun h2 h₁ a' _ _ => SrtO.ints_sortable hi h2) fun out h1 h2 => ?_
    obtain ⟨ns', k1, k2, k3⟩ := SrtR.ints_outR (b := true) hi h1 h2
    obtain ⟨ep, he'⟩ := PyProof.Rows.sortedAll_at s.heap its out.toArray.reverse
    have hlen : (ns'.map V.int).length ≤ sizeLine := by
      rw [List.length_map, k2.length_eq, ← List.length_map (f := V.int)]; exact hz
    have e0 : (out.toArray.reverse.toList).toArray = out.toArray.reverse := Array.toArray_toList
    exact ⟨.ref _, upd H (s.heap.objs.size + 1) (.lst (ns'.map V.int)), I.laid (t' := s.toks) (fun _ _ => PyProof.Rows.sortedAll_old) (Nat.le_succ _) ⟨hlen, _, ep, vals_of_ints k1, by rw [show (if (true : Bool) = true then out.toArray.reverse else out.toArray) = out.toArray.reverse from rfl, e0]; exact he'⟩, rfl, q _ _ k2 k3 (I.hok.fresh (Nat.le_succ _))⟩
section
variable {c : Cz} {ρ : En} {O : Oh} {Q : D → Oh → Prop} {E : EnL}
theorem k_sumA {K' : Fr} (hK : K' = c.K) {x : D} {ns : List Int} (h : asS O x = some (ns.map D.int)) (q : Q (.int ns.sum) O) : CAR c (rSumA K') [x] O Q := by
  subst hK
  intro F H vs s r z Q' k
  cases r with
  | cons a t =>
    cases t
    obtain ⟨p, ws, rfl, hp, r⟩ := asS_sq s a h
    cases repsD_ints r
    exact ⟨p, ns, rfl, hp, k F H O _ _ (Same.refl F) s (.int _) q⟩
/-- a call with keywords that makes a new list -/
theorem ln_sortR {K' : Fr} (hK : K' = c.K) {ta tk : TA} {Q : List D → Oh → Prop} (q : LA c ta ρ O fun xs O1 => LA c tk ρ O1 fun zs O2 => ∃ x ns, xs = [x] ∧ zs = [.bl true] ∧ asS O2 x = some (ns.map D.int) ∧ ∀ ms : List Int, ms.Perm ns → ms.Pairwise (· ≥ ·) → Q (ms.map D.int) O2) : LN c (tCKw (rSortedRA K') ta tk) ρ O Q := by
  subst hK
  intro F H σ rs s x Q' k
  refine q F H σ rs s x _ fun F1 H1 O1 vs ds s1 st1 rd1 q1 => q1 F1 H1 σ (rs.mono s1) st1 (x.mono s1) _ fun F2 H2 O2 ws es s2 st2 rd2 ⟨y, ns, e1, e2, h, q2⟩ => ?_
  subst e1 e2
  have rd1' := rd1.mono s2
  cases rd1' with
  | cons a t =>
    cases t
    cases rd2 with
    | cons b t =>
      cases t; cases b
      obtain ⟨p, us, rfl, hp, r⟩ := asS_sq st2 a h
      cases repsD_ints r
      exact ⟨p, ns, rfl, rfl, hp, fun ms l hm hs hl => k F2 H2 O2 l _ _ (s1.trans s2) st2 hl repsD_int' (q2 ms hm hs)⟩
theorem o_isB {x y : Bool} (q : Q (.bl (decide (x = y))) O) : O2R c rIsB (.bl x) (.bl y) O Q := fun F H v w s rv rw z Q' k => by
  cases rv; cases rw
  exact ⟨x, y, rfl, rfl, k F H O _ _ (Same.refl F) s (.bl _) q⟩
/-- o[i] op= e in an owned list -/
theorem s_augS {to ti te : TE} {tget : V → V → Hp → VK → Prop} {tip : TIp} {tset : TSet} (q : LE c to ρ O fun o O1 => LE c ti ρ O1 fun i O2 => O2R c tget o i O2 fun x O3 => LE c te ρ O3 fun y O4 => IPR c tip x y O4 fun z O5 => TSR c tset o i z O5 fun O6 => E.nx ρ O6) : LS c (tAugS to ti te tget tip tset) E ρ O := fun F H σ rs s z Dd l =>
  q F H σ rs s z _ fun F1 H1 O1 u o s1 st1 rd1 q1 => q1 F1 H1 σ (rs.mono s1) st1 (z.mono s1) _ fun F2 H2 O2 w i s2 st2 rd2 q2 => by
    have s12 := s1.trans s2
    refine q2 F2 H2 u w st2 (rd1.mono s2) rd2 (z.mono s12) _ fun F3 H3 O3 v x s3 st3 rd3 q3 => ?_
    have s13 := s12.trans s3
    refine q3 F3 H3 σ (rs.mono s13) st3 (z.mono s13) _ fun F4 H4 O4 v4 y s4 st4 rd4 q4 => ?_
    have s14 := s13.trans s4
    refine q4 F4 H4 v v4 st4 (rd3.mono s4) rd4 (z.mono s14) _ fun F5 H5 O5 v5 n s5 st5 rd5 q5 => ?_
    have s15 := s14.trans s5
    exact q5 F5 H5 u w v5 st5 (rd1.mono (((s2.trans s3).trans s4).trans s5)) (rd2.mono ((s3.trans s4).trans s5)) rd5 (z.mono s15) _ fun F6 H6 O6 s6 st6 q6 => l.nx F6 H6 O6 σ ρ (s15.trans s6) (rs.mono (s15.trans s6)) st6 q6
end
def rIsF (K : Fr) (D a : Addr) (cls : Value) (d : Option Addr) : RC := fun xs H Q => cls = .ref D ∧ (d = none ∨ ∃ dx fs, d = some dx ∧ H dx = some (.xd fs)) ∧ rIsE K D a xs H Q
theorem call_isF {X : Cx} {a D : Addr} {cls : Value} {d : Option Addr} {oe : Obj} {pn : List (Addr × Obj)} (C : ExcC X.K D) (hz : Zc cls d oe) (hf : ∃ vs, oe.data = .fields vs) : CallR (X.suite a ((a, oe) :: pn)) (.builtin "isinstance") (rIsF X.K D a cls d) := by
  intro pins s σ H xs us Q I r h
  obtain ⟨rfl, hd, c, cv, b, rfl, hcv, e, q⟩ := h
  have fin : ∀ {od : Option Obj}, PySem.W.InstAt s.heap a oe D od → wpAny (model X.prog X.w) (X.suite a ((a, oe) :: pn)).A (call (.builtin "isinstance") [.ref a, cv]) (EP (X.suite a ((a, oe) :: pn)) pins σ Q) (X.suite a ((a, oe) :: pn)).xe s := fun J =>
    PySem.W.kia_one (kit_exv C) I.kIn J e (fun z => nomatch z) fun tk => ⟨.bl b, H, I.kept (t' := tk) fun _ _ z => z, rfl, q⟩
  cases r with
  | cons rx rr =>
    cases rr with
    | cons rt rr =>
      cases rr; cases rx
      cases hcv _ rt
      obtain ⟨hget, _⟩ := I.pin (a, oe) (List.mem_append.mpr (.inl List.mem_cons_self))
      obtain ⟨vs, hv⟩ := hf
      obtain ⟨oc, od, oda, osl⟩ := oe
      obtain ⟨h1, h2⟩ := hz
      dsimp only at h1 h2 hv
      subst h1 h2 hv
      rcases hd with rfl | ⟨dx, fs, rfl, hx⟩
      · exact fin (od := none) ⟨hget, rfl, rfl, trivial⟩
      · obtain ⟨mA, hns, _⟩ := I.hok dx _ hx
        obtain ⟨od, hod, _⟩ := lookIn_ns hns
        exact fin (od := some od) ⟨hget, rfl, rfl, hod⟩
theorem k_isFo {c : Cz} {O : Oh} {Q : D → Oh → Prop} {K' : Fr} (hK : K' = c.K) {a C C2 : Addr} {dx : Option Addr} {fs : List (Str × D)} {b : Bool} (h : PySem.W.kitOne c.K (.ref C) (.ref C2) = some b) (q : Q (.bl b) O) : CAR c (rIsF K' C a (.ref C) dx) [.exc a dx C fs, .ref C2] O Q := by
  subst hK
  intro F H vs s r z Q' k
  cases r with
  | cons ra t =>
    cases t with
    | cons rb t =>
      cases t; cases rb
      cases ra with
      | excN => exact ⟨rfl, .inl rfl, _, .ref C2, b, rfl, fun u hu => hu, h, k F H O _ _ (Same.refl F) s (.bl _) q⟩
      | excS _ hx _ => exact ⟨rfl, .inr ⟨_, _, rfl, s.same _ _ hx⟩, _, .ref C2, b, rfl, fun u hu => hu, h, k F H O _ _ (Same.refl F) s (.bl _) q⟩
theorem k_isFt {c : Cz} {O : Oh} {Q : D → Oh → Prop} {K' : Fr} (hK : K' = c.K) {a C : Addr} {n : String} {dx : Option Addr} {fs : List (Str × D)} {b : Bool} (h : PySem.W.kitOne c.K (.ref C) (.type n) = some b) (q : Q (.bl b) O) : CAR c (rIsF K' C a (.ref C) dx) [.exc a dx C fs, .ty n] O Q := by
  subst hK
  intro F H vs s r z Q' k
  cases r with
  | cons ra t =>
    cases t with
    | cons rb t =>
      cases t; cases rb
      cases ra with
      | excN => exact ⟨rfl, .inl rfl, _, .type n, b, rfl, fun u hu => hu, h, k F H O _ _ (Same.refl F) s (.bl _) q⟩
      | excS _ hx _ => exact ⟨rfl, .inr ⟨_, _, rfl, s.same _ _ hx⟩, _, .type n, b, rfl, fun u hu => hu, h, k F H O _ _ (Same.refl F) s (.bl _) q⟩
end VL
set_option maxHeartbeats 2000000
namespace VL
open PySem PySem.Spec PyProof.Rows L2 MB
section
variable {c : Cz} {ρ : En} {O : Oh} {Q : D → Oh → Prop} {E : EnL}
theorem k_lenScr {K' : Fr} (hK : K' = c.K) {ns : List Int} (q : Q (.int ns.length) O) : CAR c (rLenQ K') [.scr ns] O Q := by
  subst hK
  intro F H vs s r x Q' k
  cases r with
  | cons a t =>
    cases t
    cases a with
    | scr h =>
      refine ⟨_, ns.map V.int, rfl, .inl (s.same.seq h), ?_⟩
      rw [List.length_map]
      exact k F H O _ _ (Same.refl F) s (.int _) q
/-- a new dict -/
theorem l_dnew (q : ∀ p, O p = none → Q (.ref p) (updO O p (.dk []))) : LE c tDNewK ρ O Q := fun F H σ rs s x Q' k p hp =>
  k F _ (updO O p (.dk [])) _ _ (Same.refl F) (s.newO (o := .dk []) hp ⟨[], upd_same, .nil⟩) (.ref p) (q p (s.fresh hp).1)
theorem ip_I {f : Int → Int → Int} {i j : Int} (q : Q (.int (f i j)) O) : IPR c (ipI f) (.int i) (.int j) O Q := fun F H v w s rv rw z Q' k => by
  cases rv; cases rw
  exact ⟨i, j, rfl, rfl, k F H O _ _ (Same.refl F) s (.int _) q⟩
theorem tyD_dk {p : Addr} {kvs : List (Key × D)} (h : O p = some (.dk kvs)) : tyD O (.ref p) = some "dict" := by
  show (match O p with | some (.lst _) => some "list" | some (.dk _) => some "dict" | _ => none) = _
  rw [h]
end
theorem kit_is' : kitB "int" "str" = some false := by decide +kernel
theorem kit_ss' : kitB "str" "str" = some true := by decide +kernel
theorem kit_bs' : kitB "bool" "str" = some false := by decide +kernel
theorem kit_ns' : kitB "NoneType" "str" = some false := by decide +kernel
theorem kit_ts' : kitB "tuple" "str" = some false := by decide +kernel
theorem kit_dl : kitB "dict" "list" = some false := by decide +kernel
theorem kit_dt : kitB "dict" "tuple" = some false := by decide +kernel
theorem kit_di : kitB "dict" "int" = some false := by decide +kernel
theorem asS_dk {O : Oh} {p : Addr} {kvs : List (Key × D)} (h : O p = some (.dk kvs)) : asS O (.ref p) = none := by
  show (match O p with | some (.lst xs) => some xs | _ => none) = _
  rw [h]
/-- a thing of a known kind, or a dict -/
def KnD (O : Oh) (t : D) : Prop := Kn O t ∨ ∃ p, t = .ref p ∧ O p = some (.dk [])
theorem KnD.ext {O O' : Oh} {x : D} (e : Ext O O') (h : KnD O x) : KnD O' x := h.elim (fun h => .inl (h.ext e)) fun ⟨p, h1, h2⟩ => .inr ⟨p, h1, e p _ h2⟩
/-- k is the first place of xs at which p holds, or there is none -/
theorem o_ixTn {c : Cz} {O : Oh} {Q : D → Oh → Prop} {K' : Fr} (hK : K' = c.K) {xs : List D} {i : Int} (h0 : 0 ≤ i) (h : i < xs.length) (q : ∀ x, xs[i.toNat]? = some x → Q x O) : O2R c (rIxT K') (.tup xs) (.int i) O Q := by
  obtain ⟨x, _, e1, e2⟩ := at_in h0 h
  exact o_ixT hK e2 (q x e1)
theorem o_ixQn {c : Cz} {O : Oh} {Q : D → Oh → Prop} {K' : Fr} (hK : K' = c.K) {y : D} {xs : List D} {i : Int} (hy : asS O y = some xs) (h0 : 0 ≤ i) (h : i < xs.length) (q : ∀ x, x ∈ xs → xs[i.toNat]? = some x → Q x O) : O2R c (rIx K') y (.int i) O Q := by
  obtain ⟨x, hx, e1, e2⟩ := at_in h0 h
  exact o_ixQ hK hy e2 (q x hx e1)
end VL
set_option maxHeartbeats 2000000
namespace VL
open PySem PySem.Spec PyProof.Rows L2 MB
theorem OwnRows.move {O O' : Oh} {r L : Addr} {ps : List Addr} {es : List (List Int)} (h : OwnRows O O' L ps es) (hr : delO O' L r = none) : OwnRows O (updO (delO O' L) r (.lst (ps.map D.ref))) r ps es := by
  have np : r ∉ ps := fun z => by
    obtain ⟨i, hi, ei⟩ := List.getElem_of_mem z
    have hp : ps[i]? = some r := by rw [List.getElem?_eq_getElem hi, ei]
    have := h.each i r (es[i]'(by rw [← h.len]; exact hi)) hp (List.getElem?_eq_getElem _)
    rw [delO_ne (h.free r z).2, this] at hr; cases hr
  have hO : O r = none := by
    by_cases z : r = L
    · subst z; exact h.new
    · rw [delO_ne z, h.rest r z np] at hr; exact hr
  refine ⟨hO, updO_same, h.len, fun i p e hp he => ?_, fun p hp => ⟨(h.free p hp).1, fun z => np (z ▸ hp)⟩, h.nd, fun a h1 h2 => ?_⟩
  · have hm := List.mem_of_getElem? hp
    rw [updO_ne (fun (z : p = r) => np (z ▸ hm)), delO_ne (h.free p hm).2]
    exact h.each i p e hp he
  · rw [updO_ne h1]
    by_cases z : a = L
    · subst z; rw [delO_same, h.new]
    · rw [delO_ne z, h.rest a z h2]
theorem OwnRows.write {O O' : Oh} {r p : Addr} {ps : List Addr} {es : List (List Int)} {i : Nat} {e : List Int} (h : OwnRows O O' r ps es) (hp : ps[i]? = some p) : OwnRows O (updO O' p (.lst (e.map D.int))) r ps (es.set i e) := by
  have hm := List.mem_of_getElem? hp
  refine ⟨h.new, by rw [updO_ne (fun z => (h.free p hm).2 z.symm)]; exact h.own, by rw [List.length_set]; exact h.len, fun j q f hq hf => ?_, h.free, h.nd, fun a h1 h2 => ?_⟩
  · by_cases hij : i = j
    · subst hij
      rw [hp] at hq; cases hq
      rw [List.getElem?_set_self (by rw [← h.len]; exact (List.getElem?_eq_some_iff.mp hp).1)] at hf
      cases hf
      exact updO_same
    · rw [List.getElem?_set_ne hij] at hf
      have nq : q ≠ p := fun z => by
        subst z
        obtain ⟨a1, b1⟩ := List.getElem?_eq_some_iff.mp hp
        obtain ⟨a2, b2⟩ := List.getElem?_eq_some_iff.mp hq
        exact hij ((List.getElem_inj h.nd).mp (b1.trans b2.symm))
      rw [updO_ne nq]
      exact h.each j q f hq hf
  · rw [updO_ne (fun z => h2 (by rw [z]; exact hm))]
    exact h.rest a h1 h2
theorem OwnRows.at {O O' : Oh} {r : Addr} {ps : List Addr} {es : List (List Int)} {i : Nat} (h : OwnRows O O' r ps es) (hi : i < es.length) : ∃ p, ps[i]? = some p ∧ O' p = some (.lst (es[i].map D.int)) := by
  have hi' : i < ps.length := by rw [h.len]; exact hi
  exact ⟨_, List.getElem?_eq_getElem hi', h.each i _ _ (List.getElem?_eq_getElem hi') (List.getElem?_eq_getElem hi)⟩
def delAll (O : Oh) : List Addr → Oh
  | [] => O
  | q :: qs => delAll (delO O q) qs
theorem delAll_ne {a : Addr} : ∀ {qs : List Addr} {O : Oh}, a ∉ qs → delAll O qs a = O a
  | [], _, _ => rfl
  | q :: qs, O, h => by
    show delAll (delO O q) qs a = _
    rw [delAll_ne (fun z => h (List.mem_cons_of_mem _ z)), delO_ne (fun z => h (by rw [z]; exact List.mem_cons_self ..))]
theorem StO.frzAll {K : Fr} {H : Hp} : ∀ {qs : List Addr} {es : List (List D)} {F : Hp} {O : Oh}, StO K F O H → qs.Nodup → qs.length = es.length → (∀ (i : Nat) (q : Addr) (e : List D), qs[i]? = some q → es[i]? = some e → O q = some (.lst e)) →
    ∃ F', Same F F' ∧ StO K F' (delAll O qs) H ∧ RepsD K F' (qs.map V.ref) (es.map D.lst)
  | [], [], F, O, s, _, _, _ => ⟨F, Same.refl _, s, .nil⟩
  | [], _ :: _, _, _, _, _, h, _ => by cases h
  | _ :: _, [], _, _, _, _, h, _ => by cases h
  | q :: qs, e :: es, F, O, s, nd, hl, he => by
    obtain ⟨n1, n2⟩ := List.nodup_cons.mp nd
    obtain ⟨F1, sm, st, rd⟩ := s.freeze (he 0 q e rfl rfl)
    obtain ⟨F2, sm2, st2, rd2⟩ := StO.frzAll (qs := qs) (es := es) st n2 (by simpa using hl) fun i q' e' hq' he' => by
      rw [delO_ne (fun z => n1 (by rw [← z]; exact List.mem_of_getElem? hq'))]
      exact he (i + 1) q' e' (by simpa using hq') (by simpa using he')
    exact ⟨F2, sm.trans sm2, st2, .cons (rd.mono sm2) rd2⟩
theorem reps_refs {K : Fr} {F : Hp} : ∀ {vs : List V} {qs : List Addr}, RepsD K F vs (qs.map D.ref) → vs = qs.map V.ref
  | _, [], h => by cases h; rfl
  | _, q :: qs, h => by
    cases h with
    | cons a t => cases a; rw [reps_refs t]; rfl
section
variable {c : Cz} {ρ : En} {O : Oh} {Q : D → Oh → Prop} {E : EnL}
/-- a list of owned lists is told: from here on they stay -/
theorem l_frzs {te : TE} (O0 : Oh) (q : LE c te ρ O fun d O1 => ∃ (qs : List Addr) (es : List (List D)), d = .lst (qs.map D.ref) ∧ qs.length = es.length ∧ qs.Nodup ∧ (∀ (i : Nat) (p : Addr) (e : List D), qs[i]? = some p → es[i]? = some e → O1 p = some (.lst e)) ∧ (∀ p ∈ qs, O0 p = none) ∧ Ext O0 O1 ∧ Q (.lst (es.map D.lst)) O0) : LE c te ρ O Q := fun F H σ rs s x Q' k =>
  q F H σ rs s x Q' fun F1 H1 O1 v d s1 st1 rd1 ⟨qs, es, e, hl, nd, he, hf, ex, h⟩ => by
    subst e
    obtain ⟨F2, sm, st2, rd2⟩ := st1.frzAll nd hl he
    cases rd1 with
    | lst a r =>
      cases reps_refs r
      refine k F2 H1 O0 _ _ (s1.trans sm) (st2.sub fun b o e => ?_) (.lst (sm _ _ a) rd2) h
      rw [delAll_ne (fun z => by rw [hf b z] at e; cases e)]
      exact ex b o e
theorem o_ixTi {K' : Fr} (hK : K' = c.K) {xs : List D} {i : Int} (ns : List Int) (e : xs = ns.map D.int) (h0 : 0 ≤ i) (h : i < ns.length) (q : ∀ v ∈ ns, Q (.int v) O) : O2R c (rIx K') (.tup xs) (.int i) O Q := by
  subst e
  refine o_ixQn hK rfl h0 (by rw [List.length_map]; exact h) fun x hx _ => ?_
  obtain ⟨v, hv, rfl⟩ := List.mem_map.mp hx
  exact q v hv
end
theorem Ext.upd {O O1 : Oh} {s : Addr} {o : OD} (h : Ext O O1) : Ext (updO O s o) (updO O1 s o) := fun a u e => by
  by_cases z : a = s
  · subst z; rw [updO_same] at e ⊢; exact e
  · rw [updO_ne z] at e ⊢; exact h a u e
def keepO (O : Oh) (d : D) : Bool := match asS O d with
  | some xs => !xs.isEmpty
  | none => false
theorem filt_zip {keep : D → Bool} : ∀ {ps : List Addr} {es : List (List Int)}, ps.length = es.length → (∀ (i : Nat) (p : Addr) (e : List Int), ps[i]? = some p → es[i]? = some e → keep (.ref p) = !e.isEmpty) →
    (ps.map D.ref).filter keep = (((ps.zip es).filter fun z => !z.2.isEmpty).map (·.1)).map D.ref
  | [], [], _, _ => rfl
  | [], _ :: _, h, _ => by cases h
  | _ :: _, [], h, _ => by cases h
  | p :: ps, e :: es, hl, h => by
    have ih := filt_zip (keep := keep) (ps := ps) (es := es) (by simpa using hl) fun i q f hq hf => h (i + 1) q f (by simpa using hq) (by simpa using hf)
    have h0 := h 0 p e rfl rfl
    rw [List.map_cons, List.zip_cons_cons, List.filter_cons, List.filter_cons, h0]
    cases e with
    | nil => exact ih
    | cons a e => show D.ref p :: _ = _; rw [ih]; rfl
/-- the rows of a new list of lists that are not empty -/
structure Kept (O O' : Oh) (ps : List Addr) (es : List (List Int)) (qs : List Addr) (fs : List (List Int)) : Prop where
  fil : (ps.map D.ref).filter (keepO O') = qs.map D.ref
  len : qs.length = (fs.map fun f => f.map D.int).length
  nd : qs.Nodup
  each : ∀ (i : Nat) (p : Addr) (e : List D), qs[i]? = some p → (fs.map fun f => f.map D.int)[i]? = some e → O' p = some (.lst e)
  free : ∀ p ∈ qs, O p = none
  sub : ∀ f ∈ fs, f ∈ es ∧ f ≠ []
  le : fs.length ≤ es.length
theorem OwnRows.kept {O O' : Oh} {r : Addr} {ps : List Addr} {es : List (List Int)} (h : OwnRows O O' r ps es) : ∃ qs fs, Kept O O' ps es qs fs := by
  have mz : ∀ z ∈ (ps.zip es).filter (fun z => !z.2.isEmpty), ∃ j : Nat, ps[j]? = some z.1 ∧ es[j]? = some z.2 ∧ z.2 ≠ [] := fun z hz => by
    obtain ⟨h1, h2⟩ := List.mem_filter.mp hz
    obtain ⟨j, hj, e⟩ := List.getElem_of_mem h1
    have e' : (ps.zip es)[j]? = some (z.1, z.2) := by rw [List.getElem?_eq_getElem hj, e]
    obtain ⟨a, b⟩ := List.getElem?_zip_eq_some.mp e'
    exact ⟨j, a, b, fun y => by rw [y] at h2; cases h2⟩
  have sl : (((ps.zip es).filter fun z => !z.2.isEmpty).map (·.1)).Sublist ps := by
    have := (List.filter_sublist (p := fun z : Addr × List Int => !z.2.isEmpty) (l := ps.zip es)).map (fun z : Addr × List Int => z.1)
    have e : (ps.zip es).map (fun z : Addr × List Int => z.1) = ps := List.map_fst_zip (by rw [h.len]; exact Nat.le_refl _)
    rwa [e] at this
  refine ⟨((ps.zip es).filter fun z => !z.2.isEmpty).map (·.1), ((ps.zip es).filter fun z => !z.2.isEmpty).map (·.2), ?_, by rw [List.length_map, List.length_map, List.length_map], sl.nodup h.nd, fun i p e hp he => ?_, fun p hp => (h.free p (sl.subset hp)).1, fun f hf => ?_, ?_⟩
  · refine filt_zip h.len fun i p e hp he => ?_
    unfold keepO
    rw [asS_own (h.each i p e hp he)]
    cases e <;> rfl
  · rw [List.getElem?_map] at hp
    rw [List.getElem?_map, List.getElem?_map] at he
    cases hz : ((ps.zip es).filter fun z => !z.2.isEmpty)[i]? with
    | none => rw [hz] at hp; cases hp
    | some z =>
      rw [hz] at hp he
      cases hp; cases he
      obtain ⟨j, a, b, _⟩ := mz z (List.mem_of_getElem? hz)
      exact h.each j _ _ a b
  · obtain ⟨z, hz, rfl⟩ := List.mem_map.mp hf
    obtain ⟨j, a, b, n⟩ := mz z hz
    exact ⟨List.mem_of_getElem? b, n⟩
  · rw [List.length_map]
    refine Nat.le_trans (List.length_filter_le _ _) ?_
    rw [List.length_zip, h.len]
    omega
theorem erase_cut (xs : List D) (i : Nat) (h : i < xs.length) : cutD xs none (some (i : Int)) ++ cutD xs (some ((i : Int) + 1)) none = xs.eraseIdx i := by
  rw [cut_le, show ((i : Int) + 1) = ((i + 1 : Nat) : Int) by omega, cut_ge, List.eraseIdx_eq_take_drop_succ]
end VL
set_option maxHeartbeats 2000000
namespace VL
open PySem PySem.Spec PyProof.Rows L2 MB
def sel : Nat → List Int → List Int
  | _, [] => []
  | k, e :: es => if k % 2 = 1 then e :: sel (k / 2) es else sel (k / 2) es
theorem sel_cons (k : Nat) (e : Int) (es : List Int) : sel k (e :: es) = if k % 2 = 1 then e :: sel (k / 2) es else sel (k / 2) es := rfl
theorem sel_sub : ∀ (es : List Int) (k : Nat), (sel k es).Sublist es
  | [], _ => .slnil
  | e :: es, k => by
    unfold sel
    split
    · exact .cons₂ _ (sel_sub es _)
    · exact .cons _ (sel_sub es _)
theorem sel_of : ∀ {es l : List Int}, l.Sublist es → ∃ k, k < 2 ^ es.length ∧ sel k es = l
  | [], l, h => ⟨0, by decide, by cases h; rfl⟩
  | e :: es, l, h => by
    cases h with
    | cons _ h =>
      obtain ⟨k, h1, h2⟩ := sel_of h
      refine ⟨2 * k, by rw [List.length_cons, Nat.pow_succ]; omega, ?_⟩
      unfold sel
      rw [if_neg (by omega), show 2 * k / 2 = k by omega, h2]
    | cons_cons _ h =>
      obtain ⟨k, h1, h2⟩ := sel_of h
      refine ⟨2 * k + 1, by rw [List.length_cons, Nat.pow_succ]; omega, ?_⟩
      unfold sel
      rw [if_pos (by omega), show (2 * k + 1) / 2 = k by omega, h2]
/-- the numbers whose digit of k is 1 -/
def pk (k n : Nat) : List Int := ((List.range n).filter fun b => decide (k / 2 ^ b % 2 = 1)).map fun (b : Nat) => (b : Int)
theorem pk_succ (k n : Nat) : pk k (n + 1) = (if k % 2 = 1 then [0] else []) ++ (pk (k / 2) n).map (· + 1) := by
  unfold pk
  rw [List.range_succ_eq_map]
  have e : ((List.range n).map Nat.succ).filter (fun b => decide (k / 2 ^ b % 2 = 1)) = ((List.range n).filter fun b => decide (k / 2 / 2 ^ b % 2 = 1)).map Nat.succ := by
    rw [List.filter_map]
    congr 1
    refine List.filter_congr fun b _ => ?_
    show decide (k / 2 ^ (b + 1) % 2 = 1) = _
    rw [Nat.pow_succ, Nat.mul_comm, Nat.div_div_eq_div_mul]
  rw [List.filter_cons]
  have z : decide (k / 2 ^ 0 % 2 = 1) = decide (k % 2 = 1) := by rw [Nat.pow_zero, Nat.div_one]
  rw [z, e]
  split
  · rename_i h
    rw [if_pos (of_decide_eq_true h), List.map_cons, List.map_map, List.map_map]
    rfl
  · rename_i h
    rw [if_neg (by simpa using h), List.map_map, List.map_map]
    rfl
theorem pk_range {k n : Nat} : ∀ b ∈ pk k n, 0 ≤ b ∧ b < (n : Int) := fun b hb => by
  obtain ⟨i, hi, rfl⟩ := List.mem_map.mp hb
  have := List.mem_range.mp (List.mem_filter.mp hi).1
  omega
theorem dig_zero (e : Int) (es : List Int) : dig (e :: es) 0 = e := rfl
theorem dig_succ (e : Int) (es : List Int) {b : Int} (h : 0 ≤ b) : dig (e :: es) (b + 1) = dig es b := by
  unfold dig
  rw [show (b + 1).toNat = b.toNat + 1 by omega]
  rfl
theorem pk_sel : ∀ (es : List Int) (k : Nat), (pk k es.length).map (dig es) = sel k es
  | [], k => rfl
  | e :: es, k => by
    rw [List.length_cons, pk_succ, List.map_append, List.map_map]
    have e1 : ((pk (k / 2) es.length).map (dig (e :: es) ∘ (· + 1))) = (pk (k / 2) es.length).map (dig es) := List.map_congr_left fun b hb => dig_succ e es (pk_range b hb).1
    rw [e1, pk_sel es (k / 2), sel_cons]
    split <;> rfl
theorem pk_len (es : List Int) (k : Nat) : (pk k es.length).length = (sel k es).length := by
  rw [← pk_sel, List.length_map]
/-- of so many items the first of a falling list come to most -/
theorem take_most : ∀ {ds : List Int}, ds.Pairwise (· ≥ ·) → ∀ {l : List Int}, l.Sublist ds → l.sum ≤ (ds.take l.length).sum
  | [], _, l, h => by cases h; exact Int.le_refl _
  | d :: ds, hp, l, h => by
    obtain ⟨h1, h2⟩ := List.pairwise_cons.mp hp
    cases h with
    | cons_cons _ h =>
      have := take_most h2 h
      rw [List.length_cons, List.take_succ_cons, List.sum_cons, List.sum_cons]
      omega
    | cons _ h =>
      have ih := take_most h2 h
      have hl := h.length_le
      cases hn : l.length with
      | zero =>
        rw [hn] at ih
        exact ih
      | succ n =>
        rw [hn] at ih
        rw [List.take_succ_cons, List.sum_cons]
        have e : ds.take (n + 1) = ds.take n ++ [ds[n]'(by omega)] := by
          rw [List.take_add_one, List.getElem?_eq_getElem (by omega)]; rfl
        rw [e, List.sum_append, List.sum_singleton] at ih
        have := h1 _ (List.getElem_mem (show n < ds.length by omega))
        omega
theorem permI_sum {a b : List Int} (h : a.Perm b) : a.sum = b.sum := by induction h <;> simp_all <;> omega
theorem sel_most {es ds : List Int} (pm : ds.Perm es) (so : ds.Pairwise (· ≥ ·)) (k : Nat) : (sel k es).sum ≤ (ds.take (sel k es).length).sum := by
  obtain ⟨l, h1, h2⟩ := List.exists_perm_sublist (sel_sub es k) pm.symm
  rw [← permI_sum h1, ← h1.length_eq]
  exact take_most so h2
theorem sel_top {es ds : List Int} (pm : ds.Perm es) (m : Nat) : ∃ k, k < 2 ^ es.length ∧ (sel k es).sum = (ds.take m).sum ∧ (sel k es).length = (ds.take m).length := by
  obtain ⟨l, h1, h2⟩ := List.exists_perm_sublist (List.take_sublist m ds) pm
  obtain ⟨k, h3, h4⟩ := sel_of h2
  exact ⟨k, h3, by rw [h4]; exact permI_sum h1, by rw [h4]; exact h1.length_eq⟩
/-- the least such number -/
theorem least {p : Nat → Prop} [DecidablePred p] : ∀ n, p n → ∃ m, m ≤ n ∧ p m ∧ ∀ j, j < m → ¬ p j := by
  intro n
  induction n using Nat.strongRecOn with
  | ind n ih =>
    intro h
    by_cases hx : ∃ j, j < n ∧ p j
    · obtain ⟨j, hj, hp⟩ := hx
      obtain ⟨m, h1, h2, h3⟩ := ih j hj hp
      exact ⟨m, by omega, h2, h3⟩
    · exact ⟨n, Nat.le_refl n, h, fun j hj hp => hx ⟨j, hj, hp⟩⟩
theorem fall (ns : List Int) : ∃ ds : List Int, ds.Perm ns ∧ ds.Pairwise (· ≥ ·) :=
  ⟨(srt ns).reverse, (List.reverse_perm _).trans (srt_perm ns), List.pairwise_reverse.mpr (srt_le ns)⟩
end VL
set_option maxHeartbeats 2000000
namespace VL
open PySem PySem.Spec PyProof.Rows L2 MB
theorem get_list {X : Cx} : PGet X (rIxL X.K) := by
  intro pins s σ H o i ov iv Q I ro ri h
  obtain ⟨p, xs, k, z, rfl, rfl, hq, he, q⟩ := h
  cases ro
  obtain ⟨t, rfl⟩ := ri
  obtain ⟨its, r, pl, hz⟩ := I.list hq
  obtain ⟨j, h1, h2, h3, h4, h5⟩ := atI_get he
  obtain ⟨w, ew, rw'⟩ := r.get h2
  have hl := r.length
  have hn := L2.line63
  have fin : EP X pins σ Q w s := ⟨z, H, I, rw', q⟩
  by_cases h0 : 0 ≤ k
  · have hj : k.toNat = j := by
      rw [seqIndex_of h0 h5] at h1
      exact Option.some.inj h1
    exact wpAny_getItem_list pl.isList h0 (by omega) (by rw [hj]; simpa using ew) fin
  · have hj : (k + (its.toArray.size : Int)).toNat = j := by
      rw [seqIndex_neg (by omega) h4] at h1
      rw [List.size_toArray, ← hl]
      exact Option.some.inj h1
    exact wpAny_getItem_list_neg pl.isList (by omega) (by rw [List.size_toArray] <;> omega) (by omega) (by rw [hj]; simpa using ew) fin
theorem asS_asL {O : Oh} {x : D} {xs : List D} (h : asL O x = some xs) : asS O x = some xs := by
  cases x with
  | tup ys => cases h
  | _ => exact h
end VL
set_option maxHeartbeats 2000000
namespace VL
open PySem PySem.Spec PyProof.Rows L2 MB
def rLcm : List V → Hp → VK → Prop := fun vs H Q => ∃ a b : Nat, vs = [.int a, .int b] ∧ a < 2 ^ 6000 ∧ b < 2 ^ 6000 ∧ Q (.int ((Nat.lcm a b : Nat) : Int)) H
set_option exponentiation.threshold 20000 in
theorem cr_lcm {X : Cx} : CallR X (.builtin "math.lcm") rLcm := by
  intro pins s σ H vs us Q I r h
  obtain ⟨a, b, rfl, ha, hb, q⟩ := h
  obtain ⟨t, u, rfl⟩ := Vals.int2 r
  have la : (max 1 a).log2 ≤ 5999 := PySem.W.mg_log (by
    have : (1 : Nat) < 2 ^ 6000 := Nat.one_lt_two_pow (by decide)
    omega)
  have lb : (max a b).log2 ≤ 5999 := PySem.W.mg_log (by omega)
  have hz : Nat.lcm a b < 2 ^ 12000 := by
    have h1 : Nat.lcm a b ≤ a * b := Nat.div_le_self _ _
    have h2 : a * b < 2 ^ 6000 * 2 ^ 6000 := Nat.mul_lt_mul'' ha hb
    rw [← Nat.pow_add] at h2
    exact Nat.lt_of_le_of_lt h1 h2
  have hl : (Nat.lcm a b).log2 ≤ 11999 := PySem.W.mg_log (by omega)
  have e2 : (((Nat.lcm 1 (a : Int).natAbs).lcm (b : Int).natAbs : Nat) : Int) = ((Nat.lcm a b : Nat) : Int) := by
    rw [Int.natAbs_natCast, Int.natAbs_natCast, Nat.lcm_one_left]
  have g := PySem.W.mg_run_lcm (a : Int) t (b : Int) u (by rw [Int.natAbs_natCast]; omega) (by rw [Int.natAbs_natCast, Int.natAbs_natCast]; omega) (by
    rw [e2, Int.natAbs_natCast]
    have : bitsLine = 134217728 := by decide
    omega)
  rw [e2] at g
  exact call_function_meets PySem.W.MGF.kind_lcm PySem.W.MGF.plain_lcm PySem.W.MGF.entry_lcm (PySem.W.MGF.args_lcm _ _) g.meets ⟨.int _, H, I.tok _, ⟨_, rfl⟩, q⟩
def lcmB (K : Fr) : Bool := match PySem.W.nsIn K mainGlobals "lcm" with
  | some (some (.builtin n)) => decide (n = "math.lcm")
  | _ => false
theorem TxtV.lcm {fa : List He.Fa} {fn : List He.DefD} {cs : List (Str × List Str)} {ex : Fr → Bool} {K : Fr} {mg : Str → Option Value} (T : TxtV fa fn cs ex K mg) (c2 : lcmB K = true) : mg "lcm" = some (.builtin "math.lcm") := by
  obtain ⟨h', X, G⟩ := T.h
  unfold lcmB at c2
  split at c2
  · rename_i n q
    rw [of_decide_eq_true c2] at q
    exact PySem.W.mg_of X G q
  · cases c2
theorem star_lst {X : Cx} {pins : List (Addr × Obj)} {σ : L2.St} {H : Hp} {s : Shared} {a : Addr} {xs : List V} {E : Value → Shared → Prop} {Q : List Value → Shared → Prop} (I : Inv X pins σ H s) (h : SqL X.K H a xs) (hQ : ∀ us s', Inv X pins σ H s' → Vals xs us → Q us s') :
    PySem.W.StarOf (model X.prog X.w) X.A E (.ref a) Q s := by
  obtain ⟨its, r, ⟨o, n, ho, hc, _, hd⟩, hz⟩ := I.list h
  have hT : s.TypeIs (.ref a) "list" := ⟨o, ho, hc⟩
  have hl := r.length
  have z : wpAny (model X.prog X.w) X.A (collect (.ref a)) Q E s := by
    refine wpAny_collect_seq a (.inl rfl) ho hc hd (fun h' hk => ?_) (by rw [List.size_toArray]; omega)
    have e : its.toArray.toList = its := by simp
    rw [e]
    exact hQ its _ (I.kept (t' := s.toks) hk) r
  unfold PySem.W.StarOf notIterableAtAll
  exact wpAny_bind (wpAny_specialOf hT PySem.F.slot_list_iter.lookup (wpAny_pure ⟨rfl, z⟩))
def tStar (K : Fr) (te : TE) (tr : TA) : TA := fun σ H Q => te σ H fun x H1 => ∃ a vs, x = .ref a ∧ (SqL K H1 a vs ∨ SqT K H1 a vs) ∧ tr σ H1 fun ws H2 => Q (vs ++ ws) H2
theorem pa_star {X : Cx} {e : Expr} {es : List Expr} {p : Pos} {te : TE} {tr : TA} (ha : PE X e te) (hr : PA X es tr) (hs : starEach (.Starred e p :: es) X.env = (true, eval e X.env) :: starEach es X.env := by rfl) : PA X (.Starred e p :: es) (tStar X.K te tr) := by
  refine ⟨fun pos pins s σ H Q I h => ?_⟩
  rw [hs]
  show wpAny _ _ (spliced ((true, (do let v ← eval e X.env; standAt pos; pure v)) :: backTo pos (starEach es X.env))) _ _ s
  refine PySem.W.ks_spliced (thn (ha.run pins s σ H _ I h) fun u s1 ⟨x, H1, I1, r1, a, vs, e, hq, q1⟩ => ?_)
  subst e
  obtain rfl : u = Value.ref a := r1
  rcases hq with hq | hq
  · exact star_lst I1 hq fun us s2 I2 rv => thn (hr.run pos pins s2 σ H1 _ I2 q1) fun ws s3 ⟨xs, H3, I3, r3, q3⟩ => ⟨vs ++ xs, H3, I3, rv.append r3, q3⟩
  · exact star_tup I1 hq fun us s2 I2 rv => thn (hr.run pos pins s2 σ H1 _ I2 q1) fun ws s3 ⟨xs, H3, I3, r3, q3⟩ => ⟨vs ++ xs, H3, I3, rv.append r3, q3⟩
section
variable {c : Cz} {ρ : En} {O : Oh} {Q : D → Oh → Prop}
theorem la_star {K' : Fr} (hK : K' = c.K) {te : TE} {tr : TA} {Q : List D → Oh → Prop} (q : LE c te ρ O fun x O1 => ∃ xs, asS O1 x = some xs ∧ LA c tr ρ O1 fun ys O2 => Q (xs ++ ys) O2) : LA c (tStar K' te tr) ρ O Q := by
  subst hK
  intro F H σ rs s z Q' k
  refine q F H σ rs s z _ fun F1 H1 O1 v d s1 st1 rd1 ⟨xs, h, q1⟩ => ?_
  obtain ⟨p, vs, rfl, hp, r⟩ := asS_sq st1 rd1 h
  exact ⟨p, vs, rfl, hp, q1 F1 H1 σ (rs.mono s1) st1 (z.mono s1) _ fun F2 H2 O2 ws ds s2 st2 rd2 q2 => k F2 H2 O2 _ _ (s1.trans s2) st2 ((r.mono s2).append rd2) q2⟩
theorem k_lcm {a b : Nat} (ha : a < 2 ^ 6000) (hb : b < 2 ^ 6000) (q : Q (.int ((Nat.lcm a b : Nat) : Int)) O) : CAR c rLcm [.int a, .int b] O Q := fun F H vs s r x Q' k => by
  cases r with
  | cons a t =>
    cases t with
    | cons b t => cases t; cases a; cases b; exact ⟨_, _, rfl, ha, hb, k F H O _ _ (Same.refl F) s (.int _) q⟩
theorem k_max {K' : Fr} (hK : K' = c.K) {x : D} {ns : List Int} (h : asL O x = some (ns.map D.int)) (h0 : ns ≠ []) (q : ∀ M, M ∈ ns → (∀ a ∈ ns, a ≤ M) → Q (.int M) O) : CAR c (rMax K') [x] O Q := by
  subst hK
  intro F H vs s r x Q' k
  cases r with
  | cons a t =>
    cases t
    obtain ⟨p, ws, rfl, hp, r⟩ := asL_sq s a h
    cases repsD_ints r
    exact ⟨p, ns, rfl, .of hp, List.length_pos_iff.mpr h0, fun M h1 h2 => k F H O _ _ (Same.refl F) s (.int _) (q M h1 h2)⟩
theorem k_min {K' : Fr} (hK : K' = c.K) {x : D} {ns : List Int} (h : asL O x = some (ns.map D.int)) (h0 : ns ≠ []) (q : ∀ M, M ∈ ns → (∀ a ∈ ns, M ≤ a) → Q (.int M) O) : CAR c (rMin K') [x] O Q := by
  subst hK
  intro F H vs s r x Q' k
  cases r with
  | cons a t =>
    cases t
    obtain ⟨p, ws, rfl, hp, r⟩ := asL_sq s a h
    cases repsD_ints r
    exact ⟨p, ns, rfl, .of hp, List.length_pos_iff.mpr h0, fun M h1 h2 => k F H O _ _ (Same.refl F) s (.int _) (q M h1 h2)⟩
end
end VL
set_option maxHeartbeats 2000000
namespace VL
open PySem PySem.Spec PyProof.Rows L2 MB
def rl (a sc : Scope) : Scope := { a with names := a.names.map fun (n, k) => if (k == NameKind.free && sc.kind == .function && sc.names.lookup n == some .cell) then (n, NameKind.cell) else (n, k) }
theorem relabel_rl (a : Scope) (e : Env) : relabel a e = rl a e.scope := rfl
end VL
set_option maxHeartbeats 2000000
namespace VL
open PySem PySem.Spec PyProof.Rows L2 MB
section
variable {c : Cz} {ρ : En} {O : Oh}
theorem ln_rg2 {ta tb : TE} {Q : List D → Oh → Prop} (q : LE c ta ρ O fun x O1 => LE c tb ρ O1 fun y O2 => ∃ i j, x = .int i ∧ y = .int j ∧ (0 ≤ i ∧ i ≤ j ∧ j ≤ 100000) ∧ Q (rngD i (j - i).toNat) O2) : LN c (tLstRg (tRg2 ta tb)) ρ O Q := fun F H σ rs s z Q' k =>
  q F H σ rs s z _ fun F1 H1 O1 v d s1 st1 rd1 q1 => q1 F1 H1 σ (rs.mono s1) st1 (z.mono s1) _ fun F2 H2 O2 w e s2 st2 rd2 ⟨i, j, e1, e2, hn, q2⟩ => by
    subst e1; subst e2; cases rd1; cases rd2
    refine ⟨i, j, rfl, rfl, ?_, fun p hp => k F2 H2 O2 p _ (rngD i (j - i).toNat) (s1.trans s2) st2 hp ?_ q2⟩
    · exact RgOk.of_le (by omega) (by omega) (by omega) (by omega)
    · exact rg_reps (K := c.K) (F := F2) (i := i) (j := j)
end
end VL
set_option maxHeartbeats 2000000
namespace VL
open PySem PySem.Spec PyProof.Rows L2 MB
def dkLook (kvs : List (Key × D)) (k : Key) : Option D := (kvs.find? fun kv => decide (kv.1 = k)).map (·.2)
def dkPut (kvs : List (Key × D)) (k : Key) (d : D) : List (Key × D) := if (kvs.any fun kv => decide (kv.1 = k)) = true then kvs.map (fun kv => if kv.1 = k then (kv.1, d) else kv) else kvs ++ [(k, d)]
theorem dkLook_pos {p : Key × D} {r : List (Key × D)} {k : Key} (e : p.1 = k) : dkLook (p :: r) k = some p.2 := by
  unfold dkLook; rw [List.find?_cons_of_pos (by simpa using e)]; rfl
theorem dkLook_neg {p : Key × D} {r : List (Key × D)} {k : Key} (e : ¬ p.1 = k) : dkLook (p :: r) k = dkLook r k := by
  unfold dkLook; rw [List.find?_cons_of_neg (by simpa using e)]
section
variable {K : Fr} {F : Hp}
theorem RepK.look {k : Key} : ∀ {vs : List (Key × V)} {ds : List (Key × D)}, RepK K F vs ds → (valV vs k = none ∧ dkLook ds k = none) ∨ ∃ v d, valV vs k = some v ∧ dkLook ds k = some d ∧ RepD K F v d
  | _, _, .nil => .inl ⟨rfl, rfl⟩
  | _, _, .cons (x := x) a t => by
    by_cases e : x = k
    · exact .inr ⟨_, _, valV_pos (p := (x, _)) e, dkLook_pos (p := (x, _)) e, a⟩
    · rw [valV_neg (p := (x, _)) e, dkLook_neg (p := (x, _)) e]; exact RepK.look t
theorem RepK.len : ∀ {vs : List (Key × V)} {ds : List (Key × D)}, RepK K F vs ds → vs.length = ds.length
  | _, _, .nil => rfl
  | _, _, .cons _ t => by rw [List.length_cons, List.length_cons, RepK.len t]
theorem RepK.anyE {k : Key} : ∀ {vs : List (Key × V)} {ds : List (Key × D)}, RepK K F vs ds → (vs.any fun kv => decide (kv.1 = k)) = (ds.any fun kv => decide (kv.1 = k))
  | _, _, .nil => rfl
  | _, _, .cons _ t => by rw [List.any_cons, List.any_cons, RepK.anyE t]
theorem RepK.append : ∀ {vs ws : List (Key × V)} {ds es : List (Key × D)}, RepK K F vs ds → RepK K F ws es → RepK K F (vs ++ ws) (ds ++ es)
  | _, _, _, _, .nil, s => s
  | _, _, _, _, .cons a t, s => .cons a (RepK.append t s)
theorem RepK.mapP {k : Key} {v : V} {d : D} (r : RepD K F v d) : ∀ {vs : List (Key × V)} {ds : List (Key × D)}, RepK K F vs ds → RepK K F (vs.map fun kv => if kv.1 = k then (kv.1, v) else kv) (ds.map fun kv => if kv.1 = k then (kv.1, d) else kv)
  | _, _, .nil => .nil
  | _, _, .cons (x := x) a t => by
    rw [List.map_cons, List.map_cons]
    by_cases e : x = k
    · rw [if_pos e, if_pos e]; exact .cons r (RepK.mapP r t)
    · rw [if_neg e, if_neg e]; exact .cons a (RepK.mapP r t)
theorem RepK.put {k : Key} {v : V} {d : D} {vs : List (Key × V)} {ds : List (Key × D)} (h : RepK K F vs ds) (r : RepD K F v d) : RepK K F (putK vs k v) (dkPut ds k d) := by
  unfold putK dkPut
  rw [RepK.anyE h]
  split
  · exact RepK.mapP r h
  · exact h.append (.cons r .nil)
theorem RepK.vals : ∀ {vs : List (Key × V)} {ds : List (Key × D)}, RepK K F vs ds → RepsD K F (vs.map (·.2)) (ds.map (·.2))
  | _, _, .nil => .nil
  | _, _, .cons a t => .cons a (RepK.vals t)
end
section
variable {c : Cz} {ρ : En} {O : Oh} {Q : D → Oh → Prop} {E : EnL}
theorem dk_get {F H : Hp} {p : Addr} {kvs : List (Key × D)} (s : StO c.K F O H) (h : O p = some (.dk kvs)) : ∃ vs, H p = some (.dK vs) ∧ RepK c.K F vs kvs := (s.own p _ h).2
theorem l_din {ty td : TE} (q : LE c ty ρ O fun y O1 => LE c td ρ O1 fun x O2 => ∃ a i kvs, x = .ref a ∧ y = .int i ∧ O2 a = some (.dk kvs) ∧ Q (.bl (dkLook kvs (.inl i)).isSome) O2) : LE c (tDIn ty td) ρ O Q := fun F H σ rs s x Q' k =>
  q F H σ rs s x _ fun F1 H1 O1 v d s1 st1 rd1 q1 => q1 F1 H1 σ (rs.mono s1) st1 (x.mono s1) _ fun F2 H2 O2 w e s2 st2 rd2 ⟨a, i, kvs, e1, e2, ho, q2⟩ => by
    subst e1 e2
    cases rd1; cases rd2
    obtain ⟨vs, hd, rk⟩ := dk_get st2 ho
    refine ⟨a, valV vs (.inl i), rfl, .inl ⟨vs, .inl i, .inl hd, rfl, rfl⟩, ?_⟩
    refine k F2 H2 O2 _ _ (s1.trans s2) st2 (.bl _) ?_
    rcases rk.look (k := .inl i) with ⟨h1, h2⟩ | ⟨v, d, h1, h2, _⟩ <;> rw [h2] at q2 <;> rw [h1] <;> exact q2
theorem l_dnotin {ty td : TE} (q : LE c ty ρ O fun y O1 => LE c td ρ O1 fun x O2 => ∃ a i kvs, x = .ref a ∧ y = .int i ∧ O2 a = some (.dk kvs) ∧ Q (.bl (!(dkLook kvs (.inl i)).isSome)) O2) : LE c (tDNotIn ty td) ρ O Q := fun F H σ rs s x Q' k =>
  q F H σ rs s x _ fun F1 H1 O1 v d s1 st1 rd1 q1 => q1 F1 H1 σ (rs.mono s1) st1 (x.mono s1) _ fun F2 H2 O2 w e s2 st2 rd2 ⟨a, i, kvs, e1, e2, ho, q2⟩ => by
    subst e1 e2
    cases rd1; cases rd2
    obtain ⟨vs, hd, rk⟩ := dk_get st2 ho
    refine ⟨a, valV vs (.inl i), rfl, .inl ⟨vs, .inl i, .inl hd, rfl, rfl⟩, ?_⟩
    refine k F2 H2 O2 _ _ (s1.trans s2) st2 (.bl _) ?_
    rcases rk.look (k := .inl i) with ⟨h1, h2⟩ | ⟨v, d, h1, h2, _⟩ <;> rw [h2] at q2 <;> rw [h1] <;> exact q2
theorem l_dget {td ty : TE} (q : LE c td ρ O fun x O1 => LE c ty ρ O1 fun y O2 => ∃ a i kvs d, x = .ref a ∧ y = .int i ∧ O2 a = some (.dk kvs) ∧ dkLook kvs (.inl i) = some d ∧ Q d O2) : LE c (tDGet td ty) ρ O Q := fun F H σ rs s x Q' k =>
  q F H σ rs s x _ fun F1 H1 O1 v d s1 st1 rd1 q1 => q1 F1 H1 σ (rs.mono s1) st1 (x.mono s1) _ fun F2 H2 O2 w e s2 st2 rd2 ⟨a, i, kvs, d2, e1, e2, ho, hl, q2⟩ => by
    subst e1 e2
    cases rd1; cases rd2
    obtain ⟨vs, hd, rk⟩ := dk_get st2 ho
    rcases rk.look (k := .inl i) with ⟨_, h2⟩ | ⟨v, d, h1, h2, r⟩
    · rw [h2] at hl; cases hl
    · rw [h2] at hl; cases hl
      exact ⟨a, v, rfl, .inl ⟨vs, .inl i, .inl hd, rfl, h1.symm⟩, k F2 H2 O2 _ _ (s1.trans s2) st2 r q2⟩
theorem s_dput {td ty tv : TE} (q : LE c tv ρ O fun v O1 => LE c td ρ O1 fun x O2 => LE c ty ρ O2 fun y O3 => ∃ a i kvs, x = .ref a ∧ y = .int i ∧ O3 a = some (.dk kvs) ∧ kvs.length < sizeLine ∧ E.nx ρ (updO O3 a (.dk (dkPut kvs (.inl i) v)))) : LS c (sDPut td ty tv) E ρ O := fun F H σ rs s x Dd l =>
  q F H σ rs s x _ fun F1 H1 O1 u d s1 st1 rd1 q1 => q1 F1 H1 σ (rs.mono s1) st1 (x.mono s1) _ fun F2 H2 O2 v e s2 st2 rd2 q2 => by
    have s12 := s1.trans s2
    refine q2 F2 H2 σ (rs.mono s12) st2 (x.mono s12) _ fun F3 H3 O3 w f s3 st3 rd3 ⟨a, i, kvs, e1, e2, ho, hz, q3⟩ => ?_
    subst e1 e2
    cases rd2; cases rd3
    obtain ⟨vs, hd, rk⟩ := dk_get st3 ho
    have s13 := s12.trans s3
    have s23 := s2.trans s3
    exact ⟨a, _, rfl, .inl ⟨vs, .inl i, hd, rfl, by rw [rk.len]; exact hz, rfl⟩, l.nx F3 _ _ σ ρ s13 (rs.mono s13) (st3.write (o' := .dk (dkPut kvs (.inl i) d)) ho ⟨_, upd_same, rk.put (rd1.mono s23)⟩) q3⟩
theorem l_dsetd {td ty tx : TE} (q : LE c td ρ O fun x O1 => ∃ a, x = .ref a ∧ (∃ kvs, O1 a = some (.dk kvs)) ∧ LE c ty ρ O1 fun y O2 => LE c tx ρ O2 fun z O3 => ∃ i kvs, y = .int i ∧ O3 a = some (.dk kvs) ∧ kvs.length < sizeLine ∧ (∀ d, dkLook kvs (.inl i) = some d → Q d O3) ∧ (dkLook kvs (.inl i) = none → Q z (updO O3 a (.dk (dkPut kvs (.inl i) z))))) : LE c (tDSetd td ty tx) ρ O Q := fun F H σ rs s x Q' k =>
  q F H σ rs s x _ fun F1 H1 O1 v d s1 st1 rd1 ⟨a, e1, ⟨kv1, ho1⟩, q1⟩ => by
    subst e1
    cases rd1
    obtain ⟨us, hd1, _⟩ := dk_get st1 ho1
    refine ⟨a, rfl, .inl ⟨us, .inl hd1⟩, ?_⟩
    refine q1 F1 H1 σ (rs.mono s1) st1 (x.mono s1) _ fun F2 H2 O2 w e s2 st2 rd2 q2 => ?_
    have s12 := s1.trans s2
    refine q2 F2 H2 σ (rs.mono s12) st2 (x.mono s12) _ fun F3 H3 O3 z f s3 st3 rd3 ⟨i, kvs, e2, ho, hz, qa, qb⟩ => ?_
    subst e2
    cases rd2
    obtain ⟨vs, hd, rk⟩ := dk_get st3 ho
    have s13 := s12.trans s3
    refine ⟨vs, .inl i, hd, rfl, by rw [rk.len]; exact hz, fun v hv => ?_, fun hn => ?_⟩
    · rcases rk.look (k := .inl i) with ⟨h1, _⟩ | ⟨v', d, h1, h2, r⟩
      · rw [h1] at hv; cases hv
      · rw [h1] at hv; cases hv
        exact k F3 H3 O3 _ _ s13 st3 r (qa d h2)
    · rcases rk.look (k := .inl i) with ⟨_, h2⟩ | ⟨v', d, h1, h2, r⟩
      · exact k F3 _ _ _ _ s13 (st3.write (o' := .dk (dkPut kvs (.inl i) f)) ho ⟨_, upd_same, rk.put rd3⟩) rd3 (qb h2)
      · rw [h1] at hn; cases hn
/-- {k: v} -/
theorem l_disp1 {tk tv : TE} (q : ∀ p, O p = none → LE c tk ρ (updO O p (.dk [])) fun x O1 => LE c tv ρ O1 fun y O2 => O2 p = some (.dk []) ∧ ∃ i, x = .int i ∧ Q (.ref p) (updO O2 p (.dk [(.inl i, y)]))) : LE c (tDisp [(tk, tv)]) ρ O Q := fun F H σ rs s x Q' k => by
  intro p hp
  have st0 : StO c.K F (updO O p (.dk [])) (upd H p (.dK [])) := s.newO (o := .dk []) hp ⟨[], upd_same, .nil⟩
  show tk σ (upd H p (.dK [])) fun x H1 => tv σ H1 fun y H2 => _
  refine q p (s.fresh hp).1 F _ σ rs st0 x _ fun F1 H1 O1 v d s1 st1 rd1 q1 => ?_
  refine q1 F1 H1 σ (rs.mono s1) st1 (x.mono s1) _ fun F2 H2 O2 w e s2 st2 rd2 ⟨ho, i, e1, q2⟩ => ?_
  subst e1
  cases rd1
  obtain ⟨vs, hd, rk⟩ := dk_get st2 ho
  cases rk
  refine ⟨hd, [(.inl i, w)], rfl, by simp, ?_⟩
  exact k F2 _ _ _ _ (s1.trans s2) (st2.write (o' := .dk [(.inl i, e)]) ho ⟨[(.inl i, w)], upd_same, .cons rd2 .nil⟩) (.ref p) q2
/-- a new list made while a dict is walked -/
theorem ln_lock {te : TE} {Q : List D → Oh → Prop} (p : Addr) (kvs : List (Key × D)) (ho : O p = some (.dk kvs)) (q : ∀ od vs, LN c te ρ (updO O p (.fdk od vs kvs)) fun ys O1 => O1 p = some (.fdk od vs kvs) ∧ Q ys (updO O1 p (.dk kvs))) : LN c (tLockE te) ρ O Q := fun F H σ rs s x Q' k => by
  obtain ⟨vs, hd, rk⟩ := dk_get s ho
  refine ⟨p, _, hd, trivial, fun od => ?_⟩
  refine q od vs F _ σ rs (s.write (o' := .fdk od vs kvs) ho ⟨upd_same, rk⟩) x _ fun F1 H1 O1 L us ds s1 st1 hL rd1 ⟨ho1, q1⟩ => ?_
  obtain ⟨_, h1, rk1⟩ := st1.own p _ ho1
  have ne : p ≠ L := fun z => by subst z; rw [hL] at h1; cases h1
  refine ⟨by rw [upd_ne ne]; exact h1, ?_⟩
  have e : upd (upd H1 L (.lst us)) p (.dK vs) = upd (upd H1 p (.dK vs)) L (.lst us) := by
    funext b
    by_cases hb : b = p
    · subst hb; rw [upd_same, upd_ne ne, upd_same]
    · rw [upd_ne hb]
      by_cases hl : b = L
      · subst hl; rw [upd_same, upd_same]
      · rw [upd_ne hl, upd_ne hl, upd_ne hb]
  rw [e]
  exact k F1 _ _ L us ds s1 (st1.write (o' := .dk kvs) ho1 ⟨vs, upd_same, rk1⟩) (by rw [upd_ne (Ne.symm ne)]; exact hL) rd1 q1
theorem dw_vals {K : Fr} {F : Hp} {p : Addr} {od : Obj} {vs : List (Key × V)} {kvs : List (Key × D)} (hl : vs.length = kvs.length) : DW K F (Itd p od vs) (kvs.map (·.2)) (fun O' => O' p = some (.fdk od vs kvs)) := by
  refine ⟨fun H' => H' p = some (.frz od (.dK vs)), fun i H' x H2 => H2 = H' ∧ ∃ k, vs[i]? = some (k, x), ?_, ?_⟩
  · rw [List.length_map, ← hl]; exact walk_values
  · refine ⟨fun F' H' O' s1 st1 g => (st1.own p _ g).2.1, fun i F' H' O' x H2 s1 st1 g hi ⟨e, k, hk⟩ => ?_⟩
    subst e
    have r : RepsD K F' (vs.map (·.2)) (kvs.map (·.2)) := RepK.vals (st1.own p _ g).2.2
    obtain ⟨d, e1, e2⟩ := r.at (i := i) (v := x) (by rw [List.getElem?_map, hk]; rfl)
    exact ⟨F', d, Same.refl _, st1, e2, e1⟩
theorem i_vals {td : TE} {Q : List D → (Oh → Prop) → Oh → Prop} (q : LE c td ρ O fun x O1 => ∃ p od vs kvs, x = .ref p ∧ O1 p = some (.fdk od vs kvs) ∧ Q (kvs.map (·.2)) (fun O2 => O2 p = some (.fdk od vs kvs)) O1) : LI c (iVals td) ρ O Q := fun F H σ rs s z Q' k =>
  q F H σ rs s z _ fun F1 H1 O1 v x s1 st1 rd1 ⟨p, od, vs, kvs, e, h, q1⟩ => by
    subst e
    cases rd1
    obtain ⟨_, h1, h2⟩ := st1.own p _ h
    exact ⟨p, od, vs, rfl, h1, k F1 H1 O1 _ _ _ s1 st1 (dw_vals h2.len) q1⟩
theorem ln_revL {K' : Fr} (hK : K' = c.K) {te : TE} {Q : List D → Oh → Prop} (q : LE c te ρ O fun x O1 => ∃ xs, asL O1 x = some xs ∧ Q xs.reverse O1) : LN c (tRevL K' te) ρ O Q := by
  subst hK
  intro F H σ rs s z Q' k
  exact q F H σ rs s z _ fun F1 H1 O1 v x s1 st1 rd1 ⟨xs, h, q1⟩ => by
    obtain ⟨p, vs, e, hp, r⟩ := asL_sq st1 rd1 h
    subst e
    exact ⟨p, vs, rfl, .of hp, fun L hL => k F1 H1 O1 L _ _ s1 st1 hL r.reverse q1⟩
end
end VL
set_option maxHeartbeats 2000000
namespace VL
open PySem PySem.Spec PyProof.Rows L2 MB
def rngC (lo c : Int) (n : Nat) : List D := (List.range n).map fun (k : Nat) => D.int (lo + (k : Int) * c)
theorem rngC_len (lo c : Int) (n : Nat) : (rngC lo c n).length = n := by unfold rngC; simp
theorem rngC_at {lo c : Int} {n i : Nat} {d : D} (h : (rngC lo c n)[i]? = some d) : i < n ∧ d = .int (lo + (i : Int) * c) := by
  unfold rngC at h
  rw [List.getElem?_map] at h
  by_cases hi : i < n
  · rw [List.getElem?_range hi] at h
    cases h; exact ⟨hi, rfl⟩
  · rw [List.getElem?_eq_none (by simpa using Nat.le_of_not_lt hi)] at h
    cases h
theorem dw_rangeC {K : Fr} {F : Hp} (lo c : Int) (n : Nat) : DW K F (Itc lo c n) (rngC lo c n) (fun _ => True) := by
  refine ⟨fun _ => True, YFn fun i => .int (lo + (i : Int) * c), by rw [rngC_len]; exact walk_rangeC, fun _ _ _ _ _ _ => trivial, fun i F' H' O' y H2 s2 st2 _ hi ⟨e1, e2⟩ => ?_⟩
  subst e1 e2
  rw [rngC_len] at hi
  exact ⟨F', .int (lo + (i : Int) * c), Same.refl _, st2, .int _, by unfold rngC; rw [List.getElem?_map, List.getElem?_range hi]; rfl⟩
section
variable {c : Cz} {ρ : En} {O : Oh} {Q : D → Oh → Prop}
theorem i_rng3 {ta : TA} {Q : List D → (Oh → Prop) → Oh → Prop} (q : LA c ta ρ O fun ds O1 => ∃ (i j k : Int) (n : Nat), ds = [.int i, .int j, .int k] ∧ RgC i j k n ∧ Q (rngC i k n) (fun _ => True) O1) : LI c (iRng3 ta) ρ O Q := fun F H σ rs s z Q' k =>
  q F H σ rs s z _ fun F1 H1 O1 vs ds s1 st1 rd1 ⟨i, j, k2, n, e, b, q1⟩ => by
    subst e
    cases rd1 with
    | cons a t =>
      cases t with
      | cons a' t =>
        cases t with
        | cons a'' t => cases t; cases a; cases a'; cases a''; exact ⟨i, j, k2, n, rfl, b, k F1 H1 O1 _ _ _ s1 st1 (dw_rangeC i k2 n) q1⟩
end
theorem size_two {n : Nat} (h : n % 2 = 0) : Builtin.Range.rangeSize 1 (n : Int) 2 = ((n / 2 : Nat) : Int) := by
  unfold Builtin.Range.rangeSize
  simp only [show (2 : Int) > 0 by decide, if_true]
  split <;> omega
theorem fits_small {i : Int} (h : -1000000000 ≤ i) (h2 : i ≤ 1000000000) : Builtin.Range.rangeFitsLong i = true := by
  unfold Builtin.Range.rangeFitsLong
  rw [Bool.and_eq_true, decide_eq_true_eq, decide_eq_true_eq]
  omega
theorem RgC_two {n : Nat} (h : n % 2 = 0) (hn : n ≤ 1000000) : RgC 1 (n : Int) 2 (n / 2) := by
  refine ⟨by decide, by decide, ?_, size_two h⟩
  unfold Builtin.Range.small
  rw [size_two h, fits_small (by omega) (by omega), fits_small (by omega) (by omega), fits_small (by omega) (by omega), fits_small (by omega) (by omega), if_pos (by decide), fits_small (by omega) (by omega), Bool.or_true]
  rfl
def ev2 {α : Type} : List α → List α
  | [] => []
  | [x] => [x]
  | x :: _ :: xs => x :: ev2 xs
theorem ev2_len {α : Type} : ∀ xs : List α, (ev2 xs).length = (xs.length + 1) / 2
  | [] => by simp [ev2]
  | [x] => by simp [ev2]
  | x :: y :: xs => by rw [ev2, List.length_cons, ev2_len xs, List.length_cons, List.length_cons]; omega
theorem ev2_at {α : Type} : ∀ (xs : List α) (k : Nat), (ev2 xs)[k]? = xs[2 * k]?
  | [], k => by simp [ev2]
  | [x], 0 => rfl
  | [x], k + 1 => by rw [ev2, List.getElem?_cons_succ]; simp
  | x :: y :: xs, 0 => rfl
  | x :: y :: xs, k + 1 => by
    rw [ev2, List.getElem?_cons_succ, ev2_at xs k, show 2 * (k + 1) = 2 * k + 1 + 1 by omega, List.getElem?_cons_succ, List.getElem?_cons_succ]
theorem pick_ev2 {α : Type} (xs : Array α) (i m : Nat) (hm : m = (xs.size - i + 1) / 2) : (List.range m).filterMap (fun (k : Nat) => xs[((i : Int) + (k : Int) * 2).toNat]?) = ev2 (xs.toList.drop i) := by
  have hall : (fun (k : Nat) => xs[((i : Int) + (k : Int) * 2).toNat]?) = fun k => (ev2 (xs.toList.drop i))[k]? := by
    funext k
    rw [ev2_at, List.getElem?_drop, show ((i : Int) + (k : Int) * 2).toNat = i + 2 * k by omega, Array.getElem?_toList]
  rw [hall]
  have hl : (ev2 (xs.toList.drop i)).length = m := by rw [ev2_len, List.length_drop, Array.length_toList]; omega
  generalize ev2 (xs.toList.drop i) = ys at hl
  subst hl
  have := pick_run ys.toArray 0 ys.length
  simpa using this
/-- xs[l::2] -/
def stepV {α : Type} (xs : List α) (l : Option Int) : List α := ev2 (xs.drop (HT.sIx xs.length 0 l))
theorem stepV_len {α : Type} (xs : List α) (l : Option Int) : (stepV xs l).length ≤ xs.length := by
  unfold stepV; rw [ev2_len, List.length_drop]; omega
theorem bounds_two (l : Option Int) (n : Nat) : sliceBounds l none (some 2) n = (((HT.sIx n 0 l : Nat) : Int), (n : Int), 2) := by
  have h1 : (2 : Int) > 0 := by omega
  unfold sliceBounds
  simp only [Option.getD_some, h1, if_true]
  refine Prod.ext ?_ rfl
  cases l with
  | none => rfl
  | some v =>
    show max 0 (min (if v < 0 then v + (n : Int) else v) (n : Int)) = (((if v < 0 then (v + (n : Int)).toNat else min v.toNat n) : Nat) : Int)
    by_cases hv : v < 0
    · simp only [hv, if_true]; omega
    · simp only [hv, if_false]; omega
theorem range_two (i n : Nat) (h : i ≤ n) : sliceRange (i : Int) (n : Int) 2 = (List.range ((n - i + 1) / 2)).map fun (k : Nat) => ((i : Int) + 2 * (k : Int)).toNat := by
  unfold sliceRange
  have h1 : (2 : Int) > 0 := by omega
  simp only [h1, if_true]
  congr 2
  by_cases hlt : (i : Int) < n
  · simp only [hlt, if_true]; omega
  · simp only [hlt, if_false]; omega
theorem pick_two (its : List Value) (l : Option Int) : slicePick its.toArray l none (some 2) = (stepV its l).toArray := by
  have hi : HT.sIx its.length 0 l ≤ its.length := HT.sIx_le _ _ (Nat.zero_le _) l
  unfold slicePick stepV
  rw [List.size_toArray, bounds_two]
  dsimp only
  rw [range_two _ _ hi, List.filterMap_map]
  have := pick_ev2 its.toArray (HT.sIx its.length 0 l) ((its.length - HT.sIx its.length 0 l + 1) / 2) (by rw [List.size_toArray])
  have e : ((fun x => its.toArray[x]?) ∘ fun (k : Nat) => (((HT.sIx its.length 0 l : Nat) : Int) + 2 * (k : Int)).toNat) = fun (k : Nat) => its.toArray[(((HT.sIx its.length 0 l : Nat) : Int) + (k : Int) * 2).toNat]? := by
    funext k
    show its.toArray[_]? = _
    rw [Int.mul_comm]
  rw [e, this]
theorem adjust_two (l : Option Int) (n : Nat) : Builtin.Slice.sliceAdjust l none 2 (n : Int) = (((HT.sIx n 0 l : Nat) : Int), (n : Int)) := by
  have h1 : ¬ ((2 : Int) < 0) := by omega
  unfold Builtin.Slice.sliceAdjust
  simp only [h1, if_false]
  refine Prod.ext ?_ rfl
  cases l with
  | none => rfl
  | some v => exact HT.clip_eq v n 0
theorem places_two (i n : Nat) (h : i ≤ n) : Builtin.Slice.slicePlaces (i : Int) (n : Int) 2 = (n - i + 1) / 2 := by
  unfold Builtin.Slice.slicePlaces
  have h1 : (2 : Int) > 0 := by omega
  simp only [h1, if_true]
  split <;> omega
section
variable {prog : Program} {w : World} {A : Around} {E : Value → Shared → Prop} {s : Shared}
theorem sliceApplied_two {sl : Addr} {vl vu vs : Value} {lo : Option Int} {n : Nat} {Q : Int × Int × Nat → Shared → Prop} (hs : s.heap.IsSliceOf sl vl vu vs) (pl : IsPart vl lo) (pu : IsPart vu none) (ps : IsPart vs (some 2))
    (h : Q (((HT.sIx n 0 lo : Nat) : Int), 2, (n - HT.sIx n 0 lo + 1) / 2) s) : wpAny (model prog w) A (Builtin.Slice.sliceApplied (.ref sl) (pure (n : Int))) Q E s := by
  have hi : HT.sIx n 0 lo ≤ n := HT.sIx_le _ _ (Nat.zero_le _) lo
  obtain ⟨os, hos, hcs, hds⟩ := id hs
  unfold Builtin.Slice.sliceApplied Builtin.Slice.sliceFields
  refine wpAny_bind (wpAny_bind (wpAny_field hos hds (x := vl) rfl (wpAny_bind (wpAny_field hos hds (x := vu) rfl (wpAny_bind (wpAny_field hos hds (x := vs) rfl (wpAny_pure ?_)))))))
  refine wpAny_bind (HT.slicePart_ ps ?_)
  show wpAny _ _ (if ((2 : Int) == 0) = true then _ else _) _ _ s
  rw [if_neg (by decide)]
  refine wpAny_bind (HT.slicePart_ pl (wpAny_bind (HT.slicePart_ pu (wpAny_bind (wpAny_pure ?_)))))
  show wpAny _ _ (match Builtin.Slice.sliceAdjust lo none 2 (n : Int) with | (lo, hi) => pure (lo, (2 : Int), Builtin.Slice.slicePlaces lo hi 2)) _ _ s
  rw [adjust_two lo n]
  show wpAny _ _ (pure (((HT.sIx n 0 lo : Nat) : Int), (2 : Int), Builtin.Slice.slicePlaces ((HT.sIx n 0 lo : Nat) : Int) (n : Int) 2)) _ _ s
  rw [places_two _ _ hi]
  exact wpAny_pure h
theorem getItem_tuple_two {t sl : Addr} {items : Array Value} {vl vu vs : Value} {lo : Option Int} {Q : Value → Shared → Prop} (ht : IsTup s.heap t items) (hs : s.heap.IsSliceOf sl vl vu vs) (pl : IsPart vl lo) (pu : IsPart vu none) (ps : IsPart vs (some 2))
    (h : Q (.ref s.heap.objs.size) { s with heap := s.heap.push { cls := .type "tuple", data := .seq (stepV items.toList lo).toArray } })
    (hsz : items.size ≤ sizeLine) : wpAny (model prog w) A (getItem (.ref t) (.ref sl)) Q E s := by
  have htake : sizeOk (.seq (stepV items.toList lo).toArray) := by
    show (stepV items.toList lo).toArray.size ≤ sizeLine
    rw [List.size_toArray]
    exact Nat.le_trans (stepV_len _ _) (by rw [Array.length_toList]; exact hsz)
  obtain ⟨os, hos, hcs, hds⟩ := id hs
  have hTs : s.TypeIs (.ref sl) "slice" := ⟨os, hos, hcs⟩
  unfold getItem
  try with_reducible refine wpAny_holding ?_
  first | refine wpAny_bind (wpAny_pure ?_) | skip
  refine wpAny_bind (wpAny_sequenceKey ht.typeIs (by decide) ?_)
  refine wpAny_bind (wpAny_callSpecial?_slot (name := Str.ofString "__getitem__") ht.typeIs PyProof.Rows.slot_tuple_getitem
    (wpAny_call_entry PyProof.Rows.slot_tuple_getitem ht.typeIs entry_tuple_getitem ?_ (args_tuple_getitem _ _)))
  show wpAny _ _ (Builtin.Tuple.tupleItemsOf (.ref t) >>= _) _ _ s
  refine wpAny_bind (tupleItemsOf_ ht ?_)
  refine wpAny_bind (wpAny_typeOf hTs ?_)
  rw [if_pos (by decide)]
  refine wpAny_bind (sliceApplied_two hs pl pu ps ?_)
  have hno : ¬ ((((HT.sIx items.size 0 lo : Nat) : Int) == 0 && (2 : Int) == 1 && ((items.size - HT.sIx items.size 0 lo + 1) / 2) == items.size) = true) := by
    intro q
    rw [Bool.and_eq_true, Bool.and_eq_true] at q
    exact absurd q.1.2 (by decide)
  show wpAny _ _ (if (((HT.sIx items.size 0 lo : Nat) : Int) == 0 && (2 : Int) == 1 && ((items.size - HT.sIx items.size 0 lo + 1) / 2) == items.size) = true then _ else _) _ _ s
  rw [if_neg hno]
  have e : ((List.range ((items.size - HT.sIx items.size 0 lo + 1) / 2)).filterMap fun (k : Nat) => items[(((HT.sIx items.size 0 lo : Nat) : Int) + (k : Int) * 2).toNat]?).toArray = (stepV items.toList lo).toArray := by
    rw [pick_ev2 items _ _ rfl]; unfold stepV; rw [Array.length_toList]
  show wpAny _ _ (Builtin.Tuple.tupleExact ((List.range ((items.size - HT.sIx items.size 0 lo + 1) / 2)).filterMap fun (k : Nat) => items[(((HT.sIx items.size 0 lo : Nat) : Int) + (k : Int) * 2).toNat]?).toArray >>= _) _ _ s
  rw [e]
  first
    | exact wpAny_bind (m := Builtin.Tuple.tupleExact _) (wpAny_newObj_type (wpAny_pure ⟨_, rfl, wpAny_pure h⟩) htake)
    | exact wpAny_bind (m := Builtin.Tuple.tupleExact _) (wpAny_newObj_type (wpAny_bind (wpAny_pure (wpAny_pure ⟨_, rfl, wpAny_pure h⟩))) htake)
    | exact wpAny_bind (wpAny_bind (m := Builtin.Tuple.tupleExact _) (wpAny_newObj_type (wpAny_pure (wpAny_pure ⟨_, rfl, wpAny_pure h⟩)) htake))
    | exact wpAny_bind (wpAny_bind (m := Builtin.Tuple.tupleExact _) (wpAny_newObj_type (wpAny_pure ⟨_, rfl, wpAny_pure h⟩) htake))
end
/-- e[l::2] of a list or a tuple -/
def tStep (K : PySem.W.Frag) (te : L2.TE) (tl : TO) : L2.TE := fun σ H Q => te σ H fun x H1 => tl σ H1 fun l H2 => ∃ a xs, x = .ref a ∧ ((SqL K H2 a xs ∧ ∀ p, H2 p = none → Q (.ref p) (upd H2 p (.lst (stepV xs l)))) ∨ (SqT K H2 a xs ∧ ∀ p, H2 p = none → Q (.ref p) (upd H2 p (.tup (stepV xs l)))))
section
variable {X : Cx}
theorem vals_step {xs : List V} {its : List Value} (r : Vals xs its) (l : Option Int) : Vals (stepV xs l) (stepV its l) := by
  unfold stepV
  rw [r.length]
  have h := r.drop (HT.sIx its.length 0 l)
  generalize xs.drop (HT.sIx its.length 0 l) = ys at h
  generalize its.drop (HT.sIx its.length 0 l) = zs at h
  clear r
  revert zs
  have : ∀ (n : Nat) (ys : List V) (zs : List Value), ys.length ≤ n → Vals ys zs → Vals (ev2 ys) (ev2 zs) := by
    intro n
    induction n with
    | zero =>
      intro ys zs hn h
      cases h with
      | nil => exact .nil
      | cons _ _ => simp at hn
    | succ n ih =>
      intro ys zs hn h
      cases h with
      | nil => exact .nil
      | cons a t =>
        cases t with
        | nil => exact .cons a .nil
        | cons b t => exact .cons a (ih _ _ (by simp only [List.length_cons] at hn; omega) t)
  exact fun zs h => this _ _ _ (Nat.le_refl _) h
theorem pe_step {e : Expr} {te : L2.TE} {lo : Option Expr} {tl : TO} {k : Nat} {p1 p3 pos : Pos} (he : PE X e te) (hl : PO X lo tl) : PE X (.Subscript e (.Slice lo none (some (.Constant (.int 2) k p1)) p3) pos) (tStep X.K te tl) := by
  refine ⟨fun pins s σ H Q I h => ?_⟩
  refine Subscript_ (thn (he.run pins s σ H _ I h) fun v s1 ⟨x, H1, I1, r1, q1⟩ => ?_)
  have hst : PO X (some (.Constant (.int 2) k p1)) (tPart (tC (.int 2))) := po_some pe_int
  refine wpAny_Slice (thn (hl.run pins s1 σ H1 _ I1 q1) fun vl s2 ⟨l, H2, I2, pl, q2⟩ => ?_)
  refine thn (po_none.run pins s2 σ H2 (fun o H3 => o = none ∧ H3 = H2) I2 ⟨rfl, rfl⟩) fun vu s3 ⟨u, H3, I3, pu, eu, e3⟩ => ?_
  subst eu e3
  refine thn (hst.run pins s3 σ H3 (fun o H4 => o = some 2 ∧ H4 = H3) I3 ⟨2, rfl, rfl, rfl⟩) fun vs s4 ⟨o, H4, I4, ps, eo, e4⟩ => ?_
  subst eo e4
  obtain ⟨a, xs, ex, q⟩ := q2
  subst ex
  cases r1
  have I5 : Inv X pins σ H4 { s4 with heap := s4.heap.push { cls := .type "slice", data := .fields #[vl, vu, vs] } } := I4.kept (t' := s4.toks) fun b ob q => Heap.get?_push_of_some _ q
  show wpAny (model X.prog X.w) X.A (subscriptTail e (.Slice lo none (some (.Constant (.int 2) k p1)) p3) (.ref a) (.ref s4.heap.objs.size)) (EP X pins σ Q) X.xe { s4 with heap := s4.heap.push { cls := .type "slice", data := .fields #[vl, vu, vs] } }
  rcases q with ⟨hx, q⟩ | ⟨hx, q⟩
  · obtain ⟨its, r, ht, hz⟩ := I5.list hx
    have hlen := r.length
    refine tail_any (ops := [.ref a, .ref s4.heap.objs.size]) ht.isList.typeIs (PySem.slot_list_getitem.lookup) ?_ (by with_unfolding_all rfl)
    refine wpAny_getItem_list_slice ht.isList (Heap.IsSliceOf.new _ vl vu vs) pl pu ps (by decide) ?_ (by rw [List.size_toArray]; omega)
    rw [pick_two]
    refine ⟨.ref _, _, I5.laid (t' := s4.toks) (o := .lst (stepV xs l)) (fun b ob q => Heap.get?_push_of_some _ q) (Nat.le_refl _) ?_, rfl, q _ (I5.hok.fresh (Nat.le_refl _))⟩
    exact ⟨Nat.le_trans (stepV_len _ _) hz, _, 0, vals_step r l, Heap.get?_push_size _ rfl⟩
  · obtain ⟨its, r, ht, hz⟩ := I5.tuple hx
    have hlen := r.length
    refine tail_any (ops := [.ref a, .ref s4.heap.objs.size]) ht.typeIs (PyProof.Rows.slot_tuple_getitem.lookup) ?_ (by with_unfolding_all rfl)
    refine getItem_tuple_two ht (Heap.IsSliceOf.new _ vl vu vs) pl pu ps ?_ (by rw [List.size_toArray]; omega)
    refine ⟨.ref _, _, I5.laid (t' := s4.toks) (o := .tup (stepV xs l)) (fun b ob q => Heap.get?_push_of_some _ q) (Nat.le_refl _) ?_, rfl, q _ (I5.hok.fresh (Nat.le_refl _))⟩
    exact ⟨Nat.le_trans (stepV_len _ _) hz, _, vals_step r l, IsTup.new _ _⟩
end
section
variable {c : Cz} {ρ : En} {O : Oh} {Q : D → Oh → Prop}
theorem reps_step {K : Fr} {F : Hp} {vs : List V} {xs : List D} (r : RepsD K F vs xs) (l : Option Int) : RepsD K F (stepV vs l) (stepV xs l) := by
  unfold stepV
  rw [r.len]
  have h := r.drop (HT.sIx xs.length 0 l)
  generalize vs.drop (HT.sIx xs.length 0 l) = ys at h
  generalize xs.drop (HT.sIx xs.length 0 l) = zs at h
  have : ∀ (n : Nat) (ys : List V) (zs : List D), ys.length ≤ n → RepsD K F ys zs → RepsD K F (ev2 ys) (ev2 zs) := by
    intro n
    induction n with
    | zero =>
      intro ys zs hn h
      cases h with
      | nil => exact .nil
      | cons _ _ => simp at hn
    | succ n ih =>
      intro ys zs hn h
      cases h with
      | nil => exact .nil
      | cons a t =>
        cases t with
        | nil => exact .cons a .nil
        | cons b t => exact .cons a (ih _ _ (by simp only [List.length_cons] at hn; omega) t)
  exact this _ _ _ (Nat.le_refl _) h
/-- e[l::2], a list (frozen) or a tuple -/
theorem f_step {K' : Fr} (hK : K' = c.K) {te : TE} {tl : TO} (q : LE c te ρ O fun x O1 => LO c tl ρ O1 fun l O2 => ∃ xs, (asL O2 x = some xs ∧ Q (.lst (stepV xs l)) O2) ∨ (x = .tup xs ∧ Q (.tup (stepV xs l)) O2)) : LE c (tStep K' te tl) ρ O Q := by
  subst hK
  intro F H σ rs s z Q' k
  exact q F H σ rs s z _ fun F1 H1 O1 v x s1 st1 rd1 q1 => q1 F1 H1 σ (rs.mono s1) st1 (z.mono s1) _ fun F2 H2 O2 l s2 st2 ⟨xs, q2⟩ => by
    have rd2 := rd1.mono s2
    rcases q2 with ⟨h, q2⟩ | ⟨e, q2⟩
    · obtain ⟨p, vs, e, hp, r⟩ := asL_sq st2 rd2 h
      subst e
      refine ⟨p, vs, rfl, .inl ⟨.of hp, fun a ha => ?_⟩⟩
      have sm : Same F2 (upd F2 a (.lst (stepV vs l))) := MB.Same.upd (st2.fresh ha).2
      exact k _ _ O2 _ _ ((s1.trans s2).trans sm) (st2.newF ha) (.lst upd_same ((reps_step r l).mono sm)) q2
    · subst e
      cases rd2 with
      | @tup p us _ h r =>
        refine ⟨p, us, rfl, .inr ⟨sqT_same st2.same h, fun a ha => ?_⟩⟩
        have sm : Same F2 (upd F2 a (.tup (stepV us l))) := MB.Same.upd (st2.fresh ha).2
        exact k _ _ O2 _ _ ((s1.trans s2).trans sm) (st2.newF ha) (.tup (.of upd_same) ((reps_step r l).mono sm)) q2
end
end VL
set_option maxHeartbeats 2000000
namespace VL
open PySem PySem.Spec PyProof.Rows L2
theorem slot_rt_hint : Slot "reversed" "__length_hint__" "reversed.__length_hint__" :=
  .of (owner := "reversed") (n := "__length_hint__") (by rw [typeLookup_type, builtinLookup_eq_fast]; kernel_rfl) (by decide +kernel) (by decide +kernel) (by decide +kernel)
    (by first | exact .inl (by decide +kernel) | exact .inr (by decide +kernel)) (by rw [isSubtype_type]; kernel_rfl)
theorem entry_rt_hint : entryFor table "reversed.__length_hint__" = some Builtin.«reversed.__length_hint__» := entryFor_of_tree (by kernel_rfl)
theorem args_rt_hint (a : Value) : argsOk "reversed.__length_hint__" ⟨[a], []⟩ := by
  unfold argsOk; rw [signature?_of (id := "reversed.__length_hint__") (n := ['_', '_', 't', 'n', 'i', 'h', '_', 'h', 't', 'g', 'n', 'e', 'l', '_', '_']) (o := ['d', 'e', 's', 'r', 'e', 'v', 'e', 'r']) (by kernel_rfl) RT.owner_rt]; kernel_rfl
theorem nolen_rt : typeLookup (.type "reversed") "__len__" = pure none := by rw [typeLookup_type, builtinLookup_eq_fast]; kernel_rfl
theorem walks_rt {prog : Program} {w : World} {A : Around} (hh : A.handled = none) (I t : Addr) (hne : t ≠ I) (items : Array Value) (hsz : items.size ≤ sizeLine) :
    Walks prog w A I [I, t] [I] items.size (fun i v => items[items.size - 1 - i]? = some v) (fun i h => i ≤ items.size ∧ RT.IsRt h I t ((items.size : Int) - 1 - (i : Int)) ∧ IsTup h t items) where
  sub := fun b hb => by simp at hb; simp [hb]
  frame := fun _ _ _ x hk => ⟨x.1, x.2.1.at fun o e => hk I (by simp) o e, let ⟨o, ho, r⟩ := x.2.2; ⟨o, hk t (by simp) o ho, r⟩⟩
  item := fun i s Q E hi x hQ => by
    have e : (items.size : Int) - 1 - (i : Int) = ((items.size - 1 - i : Nat) : Int) := by omega
    have hit := x.2.1
    rw [e] at hit
    have hx : items[items.size - 1 - i]? = some (items[items.size - 1 - i]'(by omega)) := Array.getElem?_eq_getElem (by omega)
    refine RT.next_rt_item hit x.2.2 hx hsz fun h' hit' hs' => ?_
    have e2 : ((items.size - 1 - i : Nat) : Int) - 1 = (items.size : Int) - 1 - ((i + 1 : Nat) : Int) := by omega
    rw [e2] at hit'
    exact hQ _ h' (s.toks + 1) hx ⟨hi, hit', let ⟨o, ho, r⟩ := x.2.2; ⟨o, (hs'.2 t hne).trans ho, r⟩⟩ fun b o hb eo => hs'.extBut b o (fun h => hb (by simp [h])) eo
  done := fun s Q E x hQ => by
    have e : (items.size : Int) - 1 - (items.size : Int) = -1 := by omega
    have hit := x.2.1
    rw [e] at hit
    exact RT.next_rt_end hh hit fun h' he' => hQ h' s.toks fun b o hb eo => he' b o (fun h => hb (by simp [h])) eo
  self := fun _ _ _ _ x hQ => RT.iter_rt x.2.1 hQ
section
variable {prog : Program} {w : World} {A : Around} {E : Value → Shared → Prop} {s : Shared}
theorem call_rt_hint {a t : Addr} {items : Array Value} {Q : Value → Shared → Prop} (hit : RT.IsRt s.heap a t ((items.size : Int) - 1)) (ht : IsTup s.heap t items) (hsz : items.size ≤ sizeLine)
    (q : ∀ tk tk', Q (.int (items.size : Int) tk) { s with toks := tk' }) : wpAny (model prog w) A (call (.builtin "reversed.__length_hint__") [.ref a]) Q E s := by
  obtain ⟨o, ho, hc, hd⟩ := id hit
  rw [sizeLine_eq] at hsz
  refine wpAny_call_entry slot_rt_hint hit.typeIs entry_rt_hint ?_ (args_rt_hint _)
  unfold Builtin.«reversed.__length_hint__»
  refine wpAny_bind (wpAny_of_eq (a := Value.ref a) rfl ?_)
  try dsimp only
  refine wpAny_bind (wpAny_field ho hd (x := .ref t) rfl ?_)
  try dsimp only
  rw [if_neg (show ¬ ((Value.ref t == Value.none) = true) from Bool.false_ne_true)]
  try dsimp only
  refine wpAny_bind (len_tuple ht (by omega) ?_)
  refine wpAny_bind (wpAny_of_eq (a := some ((items.size : Nat) : Int)) rfl ?_)
  try dsimp only
  refine wpAny_bind (wpAny_field (s := { s with toks := s.toks + 1 + 1 }) ho hd (x := rawInt ((items.size : Int) - 1)) rfl ?_)
  show wpAny _ _ (if (items.size : Int) < (items.size : Int) - 1 + 1 then _ else _) _ _ _
  rw [if_neg (by omega)]
  rw [show (items.size : Int) - 1 + 1 = (items.size : Int) by omega]
  show wpAny _ _ (mkInt (items.size : Int) >>= fun v => ret v) _ _ _
  exact wpAny_bind (wpAny_mkInt (wpAny_pure ⟨_, rfl, q _ _⟩))
theorem hint_rt {a t : Addr} {items : Array Value} {Q : Bool → Shared → Prop} (hit : RT.IsRt s.heap a t ((items.size : Int) - 1)) (ht : IsTup s.heap t items) (hsz : items.size ≤ sizeLine)
    (q : ∀ b tk, Q b { s with toks := tk }) : wpAny (model prog w) A (Builtin.List.listLengthHint (.ref a)) Q E s := by
  have hT := hit.typeIs
  have hsz2 := hsz
  rw [sizeLine_eq] at hsz2
  unfold Builtin.List.listLengthHint
  refine wpAny_bind (wpAny_specialOf hT nolen_rt ?_)
  show wpAny _ A (specialOf (Value.ref a) (Str.ofString "__length_hint__") >>= _) _ _ _
  refine wpAny_bind (wpAny_specialOf hT slot_rt_hint.lookup ?_)
  generalize hid : ("reversed.__length_hint__" : String) = id0
  wp_delta
  rw [show splitId id0 = some ("reversed", "__length_hint__") from by subst hid; decide +kernel]
  subst hid
  refine wpAny_bind (wpAny_isInstance (b := true) hT (by rw [isSubtype_type]; kernel_rfl) ?_)
  rw [if_neg (by decide), if_neg (by decide)]
  refine wpAny_bind (wpAny_rule ?_)
  rw [slot_rt_hint.bind]
  refine wpAny_bind (wpAny_pure ?_)
  try dsimp only
  refine wpAny_bind (wpAny_attempt (call_rt_hint hit ht hsz fun tk tk' => ?_))
  try dsimp only
  refine wpAny_bind ?_
  rw [show asInt? (.int (items.size : Int) tk) = pure (some (items.size : Int)) from rfl]
  refine wpAny_pure ?_
  try dsimp only
  have f1 : Builtin.List.listFitsIndex (items.size : Int) = true := by
    unfold Builtin.List.listFitsIndex
    rw [Bool.and_eq_true, decide_eq_true_eq, decide_eq_true_eq]; omega
  rw [f1]
  rw [if_neg (show ¬ ((!true) = true) from Bool.false_ne_true), if_neg (by omega)]
  have f2 : Builtin.List.listTooLong (items.size : Int).toNat = false := by
    unfold Builtin.List.listTooLong
    rw [Int.toNat_natCast]; exact decide_eq_false (by omega)
  rw [f2]
  rw [if_neg Bool.false_ne_true]
  exact wpAny_pure (q _ _)
theorem ext_rt {R : Result → Shared → Prop} {I t : Addr} {items : Array Value} (hh : A.handled = none) (hit : RT.IsRt s.heap I t ((items.size : Int) - 1)) (ht : IsTup s.heap t items) (hne : t ≠ I) (hsz : items.size ≤ sizeLine) (S : Addr) (res : Value) (c₀ : Nat)
    (hS : s.heap.get? S = some { cls := .type "list", data := .seq #[] c₀ }) (hSI : S ≠ I) (hSt : S ≠ t)
    (hR : ∀ h' tk acc' c', (∀ b o, b ≠ S → b ≠ I → s.heap.get? b = some o → h'.get? b = some o) → h'.get? S = some { cls := .type "list", dict := none, data := .seq acc' c', slots := #[] } →
      ItemsOf (fun i v => items[items.size - 1 - i]? = some v) acc' items.size → R (.ok (.ret res)) { s with heap := h', toks := tk }) :
    wpAny (model prog w) A.in1 (Builtin.List.listExtendWith (.ref S) (.ref I) res)
      (fun fin s' => match fin with | .done f => R (.ok f) s' | .again c' => c'.quiet = true ∧ codeAny (model prog w) A c' R s') (fun e s' => R (.error e) s') s := by
  have hSf : S ∉ [I, t] := by simp only [List.mem_cons, List.not_mem_nil, or_false, not_or]; exact ⟨hSI, hSt⟩
  have W := (walks_rt (prog := prog) (w := w) (A := A.in1) hh I t hne items hsz).toS
  have e0 : ((items.size : Nat) : Int) - 1 - ((0 : Nat) : Int) = (items.size : Int) - 1 := by omega
  have key : ∀ (h : Heap) (c₁ tk : Nat), RT.IsRt h I t ((items.size : Int) - 1) → IsTup h t items → (∀ b o, b ≠ S → s.heap.get? b = some o → h.get? b = some o) →
      h.get? S = some { cls := .type "list", data := .seq #[] c₁ } → codeAny (model prog w) A (.builtin "list.extend.loop" ⟨[.ref S, .ref I, res], []⟩) R { s with heap := h, toks := tk } := by
    intro h c₁ tk hit1 ht1 hk hS₁
    refine codeAny_extend_loopS W hsz S hSf res items.size 0 _ #[] c₁ rfl (Nat.zero_le _) ⟨Nat.zero_le _, by rw [e0]; exact hit1, ht1⟩ hS₁ (ItemsOf.nil _) fun s' acc' c' hm hS' hacc => ?_
    rw [Moved.eq_with hm]
    refine hR s'.heap s'.toks acc' c' (fun b o hb hb2 e => hm.heap b o (fun hmem => ?_) (hk b o hb e)) hS' hacc
    rcases List.mem_cons.mp hmem with e' | hmem
    · exact hb e'
    · exact hb2 (List.mem_singleton.mp hmem)
  have hT := hit.typeIs
  unfold Builtin.List.listExtendWith
  refine wpAny_bind (wpAny_typeOf hT ?_)
  have h1 : Builtin.List.listSameRef (.ref S) (.ref I) = false := by simp [Builtin.List.listSameRef, hSI]
  have h2 : (Value.type "reversed" == Value.type "list") = false := by decide
  have h3 : (Value.type "reversed" == Value.type "tuple") = false := by decide
  simp only [h1, h2, h3, Bool.or_false, Bool.false_eq_true, if_false]
  refine wpAny_bind (RT.iter_rt hit ?_)
  refine wpAny_bind (wpAny_holding (hint_rt hit ht hsz fun b tk => ?_))
  refine wpAny_ite_split (fun _ => ?_) (fun _ => wpAny_pure ⟨plainId_quiet F.plain_extend_loop _, key _ c₀ _ hit ht (fun b o _ e => e) hS⟩)
  refine wpAny_bind (wpAny_rule ?_)
  refine wpAny_bind ?_
  show wpAny _ _ (updateSeq S (·.push .none) >>= fun _ => updateSeq S (·.pop)) _ _ _
  refine wpAny_bind (wpAny_updateSeq (s := { s with toks := tk }) hS rfl ?_)
  have hS₂ := Heap.get?_update_self (Obj.mapSeq (·.push Value.none)) hS rfl
  refine wpAny_updateSeq (hz := by seq_fits) hS₂ rfl ?_
  have hS₃ := Heap.get?_update_self (Obj.mapSeq (·.pop)) hS₂ rfl
  have oth : ∀ b o, b ≠ S → s.heap.get? b = some o → ((s.heap.update S (Obj.mapSeq (·.push Value.none))).update S (Obj.mapSeq (·.pop))).get? b = some o := fun b o hb e =>
    (Heap.get?_update_other _ _ (Ne.symm hb)).trans ((Heap.get?_update_other _ _ (Ne.symm hb)).trans e)
  refine wpAny_pure ⟨plainId_quiet F.plain_extend_loop _, key _ _ _ (hit.at fun o e => oth I o (Ne.symm hSI) e) (let ⟨o, ho, r⟩ := ht; ⟨o, oth t o (Ne.symm hSt) ho, r⟩) oth hS₃⟩
theorem call_list_rt {Q : Value → Shared → Prop} {I t : Addr} {items : Array Value} (hh : A.handled = none) (hit : RT.IsRt s.heap I t ((items.size : Int) - 1)) (ht : IsTup s.heap t items) (hne : t ≠ I) (hsz : items.size ≤ sizeLine)
    (hQ : ∀ h' tk acc' c', (∀ b o, b ≠ I → s.heap.get? b = some o → h'.get? b = some o) →
      h'.get? s.heap.objs.size = some { cls := .type "list", dict := none, data := .seq acc' c', slots := #[] } → ItemsOf (fun i v => items[items.size - 1 - i]? = some v) acc' items.size → Q (.ref s.heap.objs.size) { s with heap := h', toks := tk }) :
    wpAny (model prog w) A (call (.type "list") [.ref I]) Q E s := by
  refine callType_codes (Q₁ := fun obj s₁ => obj = .ref s.heap.objs.size ∧ s₁ = { s with heap := s.heap.push { cls := .type "list", data := .seq #[] } }) F.called_list (F.typeCall_list_1 _) F.entry_list_init
    (code_list_new _ ⟨rfl, rfl⟩) fun obj s₁ h₁ => ?_
  obtain ⟨rfl, rfl⟩ := h₁
  have hS : (s.heap.push { cls := .type "list", data := .seq #[] }).get? s.heap.objs.size = some { cls := .type "list", data := .seq #[] } := Heap.get?_push_size _ rfl
  obtain ⟨oi, hoi, _⟩ := id hit
  obtain ⟨ot, hot, _⟩ := id ht
  have hSI : s.heap.objs.size ≠ I := Nat.ne_of_gt (Heap.lt_size hoi)
  have hSt : s.heap.objs.size ≠ t := Nat.ne_of_gt (Heap.lt_size hot)
  refine ⟨⟨_, hS, rfl⟩, F.args_list_init_2 _ _, ?_⟩
  show wpAny _ A.in1.in1 (do let old ← Builtin.List.listItems (.ref s.heap.objs.size); Builtin.List.listUpdate (.ref s.heap.objs.size) (fun _ => #[]); letGo old.toList.reverse; Builtin.List.listExtendWith (.ref s.heap.objs.size) (.ref I) .none) _ _ _
  refine wpAny_bind ?_
  unfold Builtin.List.listItems
  refine wpAny_bind (wpAny_seqItems hS rfl (wpAny_pure ?_))
  show wpAny _ _ (updateSeq s.heap.objs.size (fun _ => #[]) >>= fun _ => letGo (#[] : Array Value).toList.reverse >>= fun _ => Builtin.List.listExtendWith (.ref s.heap.objs.size) (.ref I) .none) _ _ _
  refine wpAny_bind (wpAny_updateSeq hS rfl ?_)
  have hS₂ := Heap.get?_update_self (Obj.mapSeq (fun _ => (#[] : Array Value))) hS rfl
  have oth : ∀ b o, b ≠ s.heap.objs.size → s.heap.get? b = some o → ((s.heap.push { cls := .type "list", data := .seq #[] }).update s.heap.objs.size (Obj.mapSeq (fun _ => (#[] : Array Value)))).get? b = some o :=
    fun b o hb e => (Heap.get?_update_other _ _ (Ne.symm hb)).trans (Heap.get?_push_of_some _ e)
  refine wpAny_bind (wpAny_letGo ?_)
  refine ext_rt (A := A.in1) hh (hit.at fun o e => oth I o (Ne.symm hSI) e) (let ⟨o, ho, r⟩ := ht; ⟨o, oth t o (Ne.symm hSt) ho, r⟩) hne hsz _ .none _ hS₂ hSI hSt fun h' tk acc' c' hk hS' hacc => ?_
  exact ⟨rfl, hQ h' tk acc' c' (fun b o hb e => hk b o (Nat.ne_of_lt (Heap.lt_size e)) hb (oth b o (Nat.ne_of_lt (Heap.lt_size e)) e)) hS' hacc⟩
end
/-- list(reversed(x)), x a tuple -/
def tLstRev (K : PySem.W.Frag) (te : TE) : TE := fun σ H Q => te σ H fun v H1 => ∃ (a : Addr) (xs : List V), v = .ref a ∧ SqT K H1 a xs ∧ ∀ q, H1 q = none → Q (.ref q) (upd H1 q (.lst xs.reverse))
section
variable {X : Cx}
theorem pe_lstRev {e : Expr} {te : TE} {p p2 pos pos2 : Pos} (hc : X.calm = true) (hg : Gl X "list") (hm : X.mg "list" = none) (hg2 : Gl X "reversed") (hm2 : X.mg "reversed" = none) (he : PE X e te)
    (hs : starEach [e] X.env = (false, eval e X.env) :: starEach [] X.env := by rfl)
    (hs2 : starEach [.Call (.Name "reversed" p2) [e] [] pos2] X.env = (false, eval (.Call (.Name "reversed" p2) [e] [] pos2) X.env) :: starEach [] X.env := by rfl) :
    PE X (.Call (.Name "list" p) [.Call (.Name "reversed" p2) [e] [] pos2] [] pos) (tLstRev X.K te) := by
  refine ⟨fun pins s σ H Q I h => ?_⟩
  refine Call_ (ld_blt I hg hm boot_list (PyProof.Rows.callWith_type1 (args_cons (Call_ (ld_blt I hg2 hm2 PyProof.Rows.boot_reversed (PyProof.Rows.callWith_type1 (args_cons (thn (he.run pins s σ H _ I h) fun u s1 ⟨v, H1, I1, r1, q1⟩ => args_nil ?_) hs) hs rfl))) hs2) hs2 rfl))
  obtain ⟨a, xs, ev, hq, q⟩ := q1
  subst ev
  obtain rfl : u = Value.ref a := r1
  obtain ⟨its, rv, p', hz⟩ := I1.tuple hq
  have hn := line63
  have hsz : its.toArray.size ≤ sizeLine := by rw [List.size_toArray, ← rv.length]; exact hz
  refine RT.call_reversed_tup p' (fun A E Q k => len_tuple p' (by omega) k) (args_nil ?_)
  have k0 : ∀ b o, s1.heap.get? b = some o → (s1.heap.push (RT.rtObj a ((its.toArray.size : Int) - 1))).get? b = some o := fun b o e => Heap.get?_push_of_some _ e
  have I2 : Inv X pins σ H1 { s1 with heap := s1.heap.push (RT.rtObj a ((its.toArray.size : Int) - 1)), toks := s1.toks + 1 + 1 } := I1.kept (t' := s1.toks + 1 + 1) k0
  obtain ⟨f0, f1, f2, f3, f4, f5⟩ := I1.fpOk (H' := H1) (b := s1.heap.objs.size) (Nat.le_refl _) (I1.hok.fresh (Nat.le_refl _))
  obtain ⟨ol, hol, _⟩ := id p'
  have hne : a ≠ s1.heap.objs.size := Nat.ne_of_lt (Heap.lt_size hol)
  refine call_list_rt (s := { s1 with heap := s1.heap.push (RT.rtObj a ((its.toArray.size : Int) - 1)), toks := s1.toks + 1 + 1 }) (I1.ok.hd hc) ⟨_, Heap.get?_push_size _ rfl, rfl, rfl⟩ (p'.push _) hne hsz fun h' tk acc c' hk hS hi => ?_
  have hfp : ∀ b ∈ [s1.heap.objs.size], FpOk X pins H1 b := fun b hb => by
    rw [List.mem_singleton.mp hb]
    exact ⟨f0, f1, f2, f3, f4, f5⟩
  refine ⟨.ref _, upd H1 _ (.lst xs.reverse), I2.turnedNew (t' := tk) (ch := [s1.heap.objs.size]) (fun b o hb e => hk b o (by simpa using hb) e) hfp (Nat.le_refl _) (show ObjOk X.prog X.w _ _ _ (.lst xs.reverse) from ⟨by rw [List.length_reverse]; exact hz, acc.toList, c', RT.vals_rev rv hi, ?_⟩), rfl, q _ (I2.hok.fresh (Nat.le_refl _))⟩
  rw [Array.toArray_toList]
  exact hS
end
end VL
set_option maxHeartbeats 2000000
namespace VL
open PySem PySem.Spec PyProof.Rows L2 MB
section
variable {c : Cz} {ρ : En} {O : Oh}
theorem ln_lstRev {K' : Fr} (hK : K' = c.K) {te : TE} {Q : List D → Oh → Prop} (q : LE c te ρ O fun x O1 => ∃ xs, x = .tup xs ∧ Q xs.reverse O1) : LN c (tLstRev K' te) ρ O Q := by
  subst hK
  intro F H σ rs s z Q' k
  exact q F H σ rs s z _ fun F1 H1 O1 v x s1 st1 rd1 ⟨xs, e, q1⟩ => by
    subst e
    cases rd1 with
    | @tup p us _ h r => exact ⟨p, us, rfl, sqT_same st1.same h, fun L hL => k F1 H1 O1 L _ _ s1 st1 hL r.reverse q1⟩
end
end VL
set_option maxHeartbeats 2000000
namespace VL
open PySem PySem.Spec PyProof.Rows L2 MB
section
variable {X : Cx} {pins : List (Addr × Obj)} {σ : L2.St} {H : Hp} {s : Shared} {a : Addr} {o : HO}
/-- an address that the frames know nothing of is tracked from now on -/
theorem adopt (I : Inv X pins σ H s) (fp : FpOk X pins H a) (hx : X.s_0.heap.objs.size ≤ a) (new : ObjOk X.prog X.w (upd H a o) s.heap a o) : Inv X pins σ (upd H a o) s := by
  obtain ⟨f0, f1, f2, f3, f4, f5⟩ := fp
  have at_ : ∀ b u, H b = some u → b ≠ a := fun b u e z => by subst z; rw [f0] at e; cases e
  have b0 := I.base
  refine ⟨I.ok, I.os, I.bare, ⟨b0.keep, b0.slot, fun b ob q n hc => ?_, b0.there, fun b xs q => ?_, fun b ob u q => ?_, fun b ps q => ?_⟩, I.loc, I.cell, ?_, fun y c e => ?_, fun p hp => ?_, fun b u e => ?_, I.len⟩
  · rw [upd_ne (Nat.ne_of_lt (Nat.lt_of_lt_of_le (Heap.lt_size q) hx))]; exact b0.free b ob q n hc
  · have h := b0.tups b xs q
    rw [upd_ne (at_ b _ h)]; exact h
  · have h := b0.frzs b ob u q
    rw [upd_ne (at_ b _ h)]; exact h
  · obtain ⟨more, h⟩ := b0.tbls b ps q
    exact ⟨more, by rw [upd_ne (at_ b _ h)]; exact h⟩
  · rw [upd_ne (Ne.symm f1)]; exact I.free
  · rw [upd_ne (f4 y c e)]; exact I.freeC y c e
  · obtain ⟨g1, g2, g3⟩ := I.pin p hp
    exact ⟨g1, by rw [upd_ne (f5 p hp)]; exact g2, g3⟩
  · by_cases hb : b = a
    · subst hb; rw [upd_same] at e; cases e; exact new
    · rw [upd_ne hb] at e
      exact (I.hok b u e).stay (fun c v _ q => q) (fun c q => by rw [upd_ne (at_ c _ q)]; exact q) fun c xs q => by rw [upd_ne (at_ c _ q)]; exact q
/-- one object kept as it is, from now on -/
theorem pinned (I : Inv X pins σ H s) {ob : Obj} (fp : FpOk X pins H a) (e : s.heap.get? a = some ob) (hc : ∀ v, ob.data ≠ .cell v) : Inv X ((a, ob) :: pins) σ H s :=
  I.pins_of fun p hp => (List.mem_cons.mp hp).elim (fun z => by subst z; exact ⟨e, fp.1, fp.2.1, fp.2.2.1, hc⟩) fun z => I.pin p (List.mem_append_right _ z)
theorem unpinned {p : Addr × Obj} (I : Inv X (p :: pins) σ H s) : Inv X pins σ H s := I.pins_of fun q hq => I.pin q (List.mem_append_right _ (List.mem_cons_of_mem _ hq))
end
/-- a call of f that the machine makes, in the room A -/
def KeyRun (X : Cx) (A : Around) (f : Value) (sp : Sp) : Prop := ∀ (pins : List (Addr × Obj)) (σ : L2.St) (H : Hp) (s : Shared) (x : V) (u : Value) (Q : VK), Inv X pins σ H s → RelV x u → sp [x] H Q E0 →
  wpAny (model X.prog X.w) A (call f [u]) (EP X pins σ Q) (fun _ _ => False) s
theorem keyRun_def {X : Cx} {A : Around} {n : Nat} {f : Addr} {fd : FuncData} {ps : List Str} {sp : Sp} (F : FnOk X.prog X.w X.K X.mg X.base CX0 n f fd ps sp) (hb : Binds X.K fd ps []) (hr : Room n A) (fr : A.frames = X.A.frames) : KeyRun X A (.ref f) sp := by
  intro pins σ H s x u Q I r hsp
  have e0 : Env0 X.prog X.w X.K X.mg X.base A X.stack s H := by
    have e := I.env0
    exact ⟨by rw [fr]; exact e.frames, e.mod, e.bs, e.bsz, e.funs, e.frf, e.hok, e.bare⟩
  have rr : Vals [x] [u] := .cons r .nil
  have hl := F.len _ _ _ _ hsp
  refine wpAny_call (codeAny_mono (F.run A X.stack s H ⟨[u], []⟩ [u] [x] Q E0 hr e0 (by
    have := hb s [u] I.kIn (by rw [List.append_nil, ← rr.length]; exact hl)
    simpa using this) rr hsp) fun res s' hq => ?_)
  cases res with
  | error e => exact hq
  | ok fl =>
    cases fl with
    | ret w => exact I.after hq
    | next => exact hq.elim
    | brk => exact hq.elim
    | cont => exact hq.elim
/-- xs by their keys -/
def byKeys {α : Type} (xs : List α) (ks : List PyData) : List α := ((xs.zip ks).mergeSort (PySem.W.dataLe false (·.2))).map (·.1)
theorem eachIs_vals : ∀ {vs : List V} {us : List Value} {ks : List PyData}, Vals vs us → ks.length = vs.length → PySem.W.EachIs (fun u (b : V × PyData) => RelV b.1 u) us (vs.zip ks)
  | _, _, _, .nil, _ => by rw [List.zip_nil_left]; exact .nil
  | _, _, [], .cons _ _, h => by simp at h
  | _, _, _ :: ks, .cons a t, h => by rw [List.zip_cons_cons]; exact .cons a (eachIs_vals t (by simpa using h))
theorem vals_eachIs : ∀ {us : List Value} {bs : List (V × PyData)}, PySem.W.EachIs (fun u b => RelV b.1 u) us bs → Vals (bs.map (·.1)) us
  | _, _, .nil => .nil
  | _, _, .cons a t => .cons a (vals_eachIs t)
theorem zip_snds {α : Type} : ∀ {xs : List α} {ks : List PyData}, ks.length = xs.length → (xs.zip ks).map (·.2) = ks
  | [], [], _ => rfl
  | _ :: xs, _ :: ks, h => by rw [List.zip_cons_cons, List.map_cons, zip_snds (by simpa using h)]
  | [], _ :: _, h => by simp at h
  | _ :: _, [], h => by simp at h
theorem eachIs_reads {h : Heap} : ∀ {us : List Value} {ks : List PyData} {as : List Addr}, ReadsAll h us ks as → PySem.W.EachIs (fun v k => ∃ as, Reads h v k as) us ks
  | _, _, _, .nil => .nil
  | _, _, _, .cons a t => .cons ⟨_, a⟩ (eachIs_reads t)
/-- a heap where nothing stands at a -/
theorem heap_without (h : Heap) (a : Addr) : ∃ h1 : Heap, h1.get? a = none ∧ ∀ b, b ≠ a → h1.get? b = h.get? b := by
  obtain ⟨G, g1, g2⟩ := L2.restrict h fun b => decide (b ≠ a)
  exact ⟨G, g2 a (by simp), fun b hb => g1 b (by simpa using hb)⟩
/-- what holds of a new address whatever is tracked -/
def FpC (X : Cx) (pins : List (Addr × Obj)) (b : Addr) : Prop := b ≠ X.env.locals ∧ b ∉ X.fs ∧ X.s_0.heap.objs.size ≤ b ∧ (∀ x c, X.env.cells.lookup x = some c → c ≠ b) ∧ ∀ p ∈ X.pn ++ pins, p.1 ≠ b
theorem FpC.new {X : Cx} {pins : List (Addr × Obj)} {σ : L2.St} {H : Hp} {s : Shared} {b : Addr} (I : Inv X pins σ H s) (hb : s.heap.objs.size ≤ b) : FpC X pins b := by
  obtain ⟨_, f1, f2, _, f4, f5⟩ := I.fpOk (H' := H) hb (I.hok.fresh hb)
  exact ⟨f1, f2, Nat.le_trans I.sz hb, f4, f5⟩
theorem FpC.at_ {X : Cx} {pins : List (Addr × Obj)} {H : Hp} {b : Addr} (f : FpC X pins b) (n : H b = none) : FpOk X pins H b := ⟨n, f.1, f.2.1, .inr f.2.2.1, f.2.2.2.1, f.2.2.2.2⟩
theorem FpC.cons {X : Cx} {pins : List (Addr × Obj)} {b : Addr} {p : Addr × Obj} (f : FpC X pins b) (h : p.1 ≠ b) : FpC X (p :: pins) b :=
  ⟨f.1, f.2.1, f.2.2.1, f.2.2.2.1, fun q hq => (List.mem_append.mp hq).elim (fun z => f.2.2.2.2 q (List.mem_append_left _ z)) fun z => (List.mem_cons.mp z).elim (fun e => by subst e; exact h) fun z => f.2.2.2.2 q (List.mem_append_right _ z)⟩
section
variable {X : Cx} {pins : List (Addr × Obj)} {σ : L2.St} {A : Around} {f : Value} {sp : Sp} {G : List V → Hp → Prop} {xs : List V} {us : List Value} {ks : List PyData} {P : PySem.Fin → Shared → Prop} {E : Value → Shared → Prop}
theorem sort_keys {H : Hp} {s : Shared} {a kS : Addr} {e1 : Nat} (KR : KeyRun X A f sp) (I : Inv X ((kS, seqObj "list" #[] 0) :: (a, seqObj "list" #[] e1) :: pins) σ H s) (fK : FpC X pins kS) (fA : FpC X pins a) (hka : kS ≠ a)
    (r : Vals xs us) (hz : us.length ≤ sizeLine) (hlen : ks.length = xs.length) (hal : PySem.W.AllAlike ks) (hsk : PySem.W.Sortable ks) (hu : ∀ d ∈ ks, A.units + d.depth < cLine)
    (g0 : G [] H) (step : ∀ (i : Nat) (x : V) (kvs : List V) (H' : Hp), xs[i]? = some x → kvs.length = i → G kvs H' → sp [x] H' (fun v H'' => G (kvs ++ [v]) H'') E0)
    (fin : ∀ kvs H', kvs.length = xs.length → G kvs H' → DpAll X.K H' kvs ks)
    (h : ∀ kvs H' s', kvs.length = xs.length → G kvs H' → H' a = none → Inv X pins σ (upd H' a (.lst (byKeys xs ks))) s' → P (.done (.ret .none)) s') :
    wpAny (model X.prog X.w) A (ksk_rest a f false us.toArray e1 (.ref kS)) P E s := by
  have hul : us.length = xs.length := r.length.symm
  unfold ksk_rest
  refine wpAny_bind (wpAny_rule ?_)
  rw [List.forIn_toArray]
  refine wpAny_bind (ksk_fold (fun i s' => ∃ (Hi : Hp) (kA : Array Value) (e : Nat) (kvs : List V), Inv X ((kS, seqObj "list" kA e) :: (a, seqObj "list" #[] e1) :: pins) σ Hi s' ∧ Vals kvs kA.toList ∧ kvs.length = i ∧ G kvs Hi) us 0 s
    ⟨H, #[], 0, [], I, .nil, rfl, g0⟩ ?_ ?_)
  · rintro j u s' hj ⟨Hi, kA, e, kvs, Ii, rk, hl, g⟩
    rw [Nat.zero_add] at hl ⊢
    have hjl : j < us.length := (List.getElem?_eq_some_iff.mp hj).1
    have hxj : xs[j]? = some (xs[j]'(by omega)) := List.getElem?_eq_getElem (by omega)
    obtain ⟨u', hu', ru⟩ := r.get hxj
    rw [hj] at hu'; cases hu'
    refine wpAny_bind (wpAny_attempt (wpAny_mono (KR _ σ Hi s' _ u _ Ii ru (step j _ kvs Hi hxj hl g)) (fun v s'' he => ?_) fun _ _ z => z.elim))
    obtain ⟨y, H2, I2, ry, g2⟩ := he
    dsimp only
    have nk : s''.heap.get? kS = some (seqObj "list" kA e) := (I2.pin _ (List.mem_append_right _ (List.mem_cons_self ..))).1
    have hk0 : H2 kS = none := (I2.pin _ (List.mem_append_right _ (List.mem_cons_self ..))).2.1
    have hks : kA.size = j := by rw [← Array.length_toList, ← rk.length]; exact hl
    have s1 := Heap.SameBut.update s''.heap kS (Obj.mapSeq (·.push v))
    obtain ⟨c2, hc2⟩ : ∃ c2, (s''.heap.update kS (Obj.mapSeq (·.push v))).get? kS = some (seqObj "list" (kA.push v) c2) := ⟨_, get?_update_seq nk (·.push v)⟩
    have fK1 : FpC X ((a, seqObj "list" #[] e1) :: pins) kS := fK.cons (Ne.symm hka)
    obtain ⟨q0, q1, q2, q3, q4, q5⟩ := fK1.at_ hk0
    have I3 : Inv X ((a, seqObj "list" #[] e1) :: pins) σ H2 { s'' with heap := s''.heap.update kS (Obj.mapSeq (·.push v)), toks := s''.toks } := (unpinned I2).turned (it := kS) (fun b o hb e => (s1.2 b hb).trans e) q0 q1 q3 q4 q5
    refine wpAny_bind (listUpdate_at (f := (·.push v)) nk rfl ?_ (by rw [hks]; omega) (by rw [Array.size_push, hks]; omega))
    refine wpAny_pure ⟨rfl, H2, kA.push v, c2, kvs ++ [y], pinned I3 (fK1.at_ hk0) hc2 (fun v z => by cases z), ?_, by rw [List.length_append]; simp only [List.length_cons, List.length_nil]; omega, g2⟩
    rw [Array.toList_push]
    exact rk.append (.cons ry .nil)
  · rintro s' ⟨Hi, kA, e, kvs, Ii, rk, hl, g⟩
    rw [Nat.zero_add, hul] at hl
    have nk : s'.heap.get? kS = some (seqObj "list" kA e) := (Ii.pin _ (List.mem_append_right _ (List.mem_cons_self ..))).1
    have hk0 : Hi kS = none := (Ii.pin _ (List.mem_append_right _ (List.mem_cons_self ..))).2.1
    have na : s'.heap.get? a = some (seqObj "list" #[] e1) := (Ii.pin _ (List.mem_append_right _ (List.mem_cons_of_mem _ (List.mem_cons_self ..)))).1
    have ha0 : Hi a = none := (Ii.pin _ (List.mem_append_right _ (List.mem_cons_of_mem _ (List.mem_cons_self ..)))).2.1
    obtain ⟨as, ra⟩ := Dp.readsAll Ii ks kvs kA.toList (fin kvs Hi hl g) rk
    have ea := eachIs_reads ra
    have hks : kA.size = us.length := by rw [← Array.length_toList, ← rk.length, hl, hul]
    obtain ⟨h1, n1, n2⟩ := heap_without s'.heap kS
    have kp : PySem.W.KeepsBut a h1 s'.heap := fun b o _ e => by
      by_cases hb : b = kS
      · subst hb; rw [n1] at e; cases e
      · rw [← n2 b hb]; exact e
    refine wpAny_bind (listItems_at nk rfl ?_)
    refine PySem.W.keyH_end (κ := PySem.W.dataKind s'.heap ks) (h₁ := h1) kp n1 nk na hka (PySem.W.SortsAt.data ea hal hsk hu) hks hz fun h2 tk c k2 e2 => ?_
    have ko : PySem.W.KeyedOut false ((xs.zip ks).map (·.2)) us (PySem.W.sortVals (PySem.W.dataKind s'.heap ks) false kA.toList us) := by
      rw [zip_snds hlen]
      exact ⟨s'.heap, kA.toList, hal, rfl, ea⟩
    have rv := vals_eachIs (PySem.W.keyedOut_each (·.2) ko (eachIs_vals r hlen))
    have I4 : Inv X pins σ Hi { s' with heap := h2, toks := tk } := (unpinned (unpinned Ii)).turnedL (t' := tk) (ch := [kS, a]) (fun b o hb e => by
      simp only [List.mem_cons, List.not_mem_nil, or_false, not_or] at hb
      exact k2 b o hb.2 (by rw [n2 b hb.1]; exact e)) fun b hb => by
        simp only [List.mem_cons, List.not_mem_nil, or_false] at hb
        rcases hb with rfl | rfl
        · exact fK.at_ hk0
        · exact fA.at_ ha0
    refine h kvs Hi _ hl g ha0 (adopt I4 (fA.at_ ha0) fA.2.2.1 ⟨?_, _, c, rv, e2⟩)
    show (((xs.zip ks).mergeSort (PySem.W.dataLe false (·.2))).map (·.1)).length ≤ sizeLine
    rw [List.length_map, List.length_mergeSort, List.length_zip]
    omega
theorem sort_all {H : Hp} {s : Shared} {a : Addr} {n : Nat} (KR : KeyRun X A f sp) (I : Inv X pins σ H s) (fA : FpC X pins a) (ha0 : H a = none) (ho : s.heap.get? a = some (seqObj "list" us.toArray n))
    (r : Vals xs us) (hz : us.length ≤ sizeLine) (hlen : ks.length = xs.length) (hal : PySem.W.AllAlike ks) (hsk : PySem.W.Sortable ks) (hu : ∀ d ∈ ks, A.units + d.depth < cLine)
    (g0 : G [] H) (step : ∀ (i : Nat) (x : V) (kvs : List V) (H' : Hp), xs[i]? = some x → kvs.length = i → G kvs H' → sp [x] H' (fun v H'' => G (kvs ++ [v]) H'') E0)
    (fin : ∀ kvs H', kvs.length = xs.length → G kvs H' → DpAll X.K H' kvs ks)
    (h : ∀ kvs H' s', kvs.length = xs.length → G kvs H' → H' a = none → Inv X pins σ (upd H' a (.lst (byKeys xs ks))) s' → P (.done (.ret .none)) s') :
    wpAny (model X.prog X.w) A (ksk_tree a f false) P E s := by
  obtain ⟨e1, ho1⟩ : ∃ e1, (s.heap.update a (Obj.mapSeq fun _ => (#[] : Array Value))).get? a = some (seqObj "list" #[] e1) := ⟨_, get?_update_seq ho fun _ => #[]⟩
  have s1 := Heap.SameBut.update s.heap a (Obj.mapSeq fun _ => (#[] : Array Value))
  obtain ⟨q0, q1, q2, q3, q4, q5⟩ := fA.at_ ha0
  have I1 : Inv X pins σ H { s with heap := s.heap.update a (Obj.mapSeq fun _ => (#[] : Array Value)), toks := s.toks } := I.turned (it := a) (fun b o hb e => (s1.2 b hb).trans e) q0 q1 q3 q4 q5
  unfold ksk_tree
  refine wpAny_bind (listItems_at ho rfl (wpAny_bind (listUpdate_at ho rfl ?_ (by rw [List.size_toArray]; exact hz) (Nat.zero_le _))))
  refine wpAny_bind (seqEpoch_at ho1 rfl (wpAny_bind (wpAny_newTuple ?_ (by show us.length ≤ _; exact hz))))
  refine wpAny_bind (wpAny_newList ?_ (Nat.zero_le _))
  refine wpAny_holding ?_
  generalize hh2 : (s.heap.update a (Obj.mapSeq fun _ => (#[] : Array Value))).push (seqObj "tuple" us.toArray 0) = h2
  have I2 : Inv X pins σ H { s with heap := h2, toks := s.toks } := I1.kept (t' := s.toks) fun b o e => by rw [← hh2]; exact Heap.get?_push_of_some _ e
  have ho2 : h2.get? a = some (seqObj "list" #[] e1) := by rw [← hh2]; exact Heap.get?_push_of_some _ ho1
  have hka : h2.objs.size ≠ a := Nat.ne_of_gt (Heap.lt_size ho2)
  have fK : FpC X pins h2.objs.size := FpC.new I2 (Nat.le_refl _)
  have hk0 : H h2.objs.size = none := I2.hok.fresh (Nat.le_refl _)
  have I3 : Inv X pins σ H { s with heap := h2.push (seqObj "list" #[] 0), toks := s.toks } := I2.kept (t' := s.toks) fun b o e => Heap.get?_push_of_some _ e
  have I4 := pinned I3 (fA.at_ ha0) (show (h2.push (seqObj "list" #[] 0)).get? a = some (seqObj "list" #[] e1) from Heap.get?_push_of_some _ ho2) (fun v z => by cases z)
  have I5 := pinned I4 ((fK.cons (Ne.symm hka)).at_ hk0) (show (h2.push (seqObj "list" #[] 0)).get? h2.objs.size = some (seqObj "list" #[] 0) from Heap.get?_push_size _ rfl) (fun v z => by cases z)
  exact sort_keys KR I5 fK fA hka r hz hlen hal hsk hu g0 step fin h
/-- sorted(l, key=f) -/
theorem call_sortK {Q : VK} {H : Hp} {s : Shared} {l kf : Addr} (KR : KeyRun X X.A.in1.in1 (.ref kf) sp) (hu : ∀ d ∈ ks, X.A.units + 2 + d.depth < cLine) (I : Inv X pins σ H s) (hs : SqL X.K H l xs) (hlen : ks.length = xs.length) (hal : PySem.W.AllAlike ks) (hsk : PySem.W.Sortable ks)
    (g0 : G [] H) (step : ∀ (i : Nat) (x : V) (kvs : List V) (H' : Hp), xs[i]? = some x → kvs.length = i → G kvs H' → sp [x] H' (fun v H'' => G (kvs ++ [v]) H'') E0)
    (fin : ∀ kvs H', kvs.length = xs.length → G kvs H' → DpAll X.K H' kvs ks) (q : ∀ kvs H' p, kvs.length = xs.length → G kvs H' → H' p = none → Q (.ref p) (upd H' p (.lst (byKeys xs ks)))) :
    wpAny (model X.prog X.w) X.A (call (.builtin "sorted") [.ref l] [(Str.ofString "key", .ref kf)]) (EP X pins σ Q) X.xe s := by
  obtain ⟨its, rv, hl, hz⟩ := I.list hs
  have hz2 : its.length ≤ sizeLine := by rw [← rv.length]; exact hz
  refine PySem.W.sorted_of_sort hl.isList hz2 (ksk_s1 _ _) (fun _ => ksk_l1 _ _) fun E' => ?_
  rw [ksk_t1]
  have I1 : Inv X pins σ H { s with heap := PySem.W.copyHeap s.heap its, toks := s.toks } := I.kept (t' := s.toks) fun b o e => PySem.W.copyHeap_old e
  have ha0 : H (s.heap.objs.size + 1) = none := I.hok.fresh (Nat.le_succ _)
  refine sort_all (G := G) (P := fun f s' => f = .done (.ret .none) ∧ EP X pins σ Q (.ref (s.heap.objs.size + 1)) s') KR I1 (FpC.new I (Nat.le_succ _)) ha0 (PySem.W.copyHeap_at s.heap its) rv hz2 hlen hal hsk (fun d hd => hu d hd) g0 step fin fun kvs H' s' hl2 g ha I2 => ⟨rfl, .ref _, _, I2, rfl, q kvs H' _ hl2 g ha⟩
end
def rSortK (K : PySem.W.Frag) (sp : Sp) (kf : Addr) : List V → List V → Hp → VK → Prop := fun vs zs H Q => ∃ (l : Addr) (xs : List V) (ks : List PyData) (G : List V → Hp → Prop), vs = [.ref l] ∧ zs = [.ref kf] ∧ SqL K H l xs ∧ ks.length = xs.length ∧ PySem.W.AllAlike ks ∧ PySem.W.Sortable ks ∧ (∀ d ∈ ks, d.depth ≤ 8) ∧ G [] H ∧
  (∀ (i : Nat) (x : V) (kvs : List V) (H' : Hp), xs[i]? = some x → kvs.length = i → G kvs H' → sp [x] H' (fun v H'' => G (kvs ++ [v]) H'') E0) ∧ (∀ kvs H', kvs.length = xs.length → G kvs H' → DpAll K H' kvs ks) ∧
  ∀ kvs H' p, kvs.length = xs.length → G kvs H' → H' p = none → Q (.ref p) (upd H' p (.lst (byKeys xs ks)))
section
variable {X : Cx} {sp : Sp} {kf : Addr}
theorem cr_sortK (KR : KeyRun X X.A.in1.in1 (.ref kf) sp) (hu : X.A.units + 64 < cLine) : CallRK X (.builtin "sorted") [Str.ofString "key"] (rSortK X.K sp kf) := by
  intro pins s σ H vs zs us ws Q I r rz h
  obtain ⟨l, xs, ks, G, rfl, rfl, hs, h1, h2, h3, h4, h5, h6, h7, h8⟩ := h
  obtain rfl := Vals.ref1 r
  obtain ⟨w1, rfl, e1⟩ := vals1 rz
  obtain rfl : w1 = Value.ref kf := e1
  exact call_sortK KR (fun d hd => by have := h4 d hd; omega) I hs h1 h2 h3 h5 h6 h7 h8
theorem pe_fun {fe : Expr} (h : PF X fe (.ref kf)) : PE X fe (tC (.ref kf)) :=
  ⟨fun pins s σ H Q I q => h.run pins s σ H _ I fun s' I' => ⟨.ref kf, H, I', rfl, q⟩⟩
end
theorem PDs.dp {K : Fr} {F H : Hp} {O : Oh} (s : StO K F O H) : ∀ {xs : List D} {ds : List PyData} {vs : List V}, PDs O xs ds → RepsD K F vs xs → DpAll K H vs ds
  | _, _, _, .nil, .nil => .nil
  | _, _, _, .cons a t, .cons r u => .cons (PD.dp s a _ r) (PDs.dp s t u)
theorem reps_pairs {K : Fr} {F : Hp} : ∀ {T : List (V × D)}, (∀ p ∈ T, RepD K F p.1 p.2) → RepsD K F (T.map (·.1)) (T.map (·.2))
  | [], _ => .nil
  | p :: T, h => .cons (h p (List.mem_cons_self ..)) (reps_pairs fun q hq => h q (List.mem_cons_of_mem _ hq))
theorem reps_zip {K : Fr} {F : Hp} : ∀ {vs : List V} {ds : List D}, RepsD K F vs ds → (∀ p ∈ vs.zip ds, RepD K F p.1 p.2) ∧ (vs.zip ds).map (·.1) = vs ∧ (vs.zip ds).map (·.2) = ds
  | _, _, .nil => ⟨fun _ h => (by cases h), rfl, rfl⟩
  | _, _, .cons a t => by
    obtain ⟨h1, h2, h3⟩ := reps_zip t
    refine ⟨fun p hp => ?_, by rw [List.zip_cons_cons, List.map_cons, h2], by rw [List.zip_cons_cons, List.map_cons, h3]⟩
    rw [List.zip_cons_cons] at hp
    rcases List.mem_cons.mp hp with e | e
    · subst e; exact a
    · exact h1 p e
theorem reps_byKeys {K : Fr} {F : Hp} {vs : List V} {ds : List D} (kp : D → PyData) (r : RepsD K F vs ds) : RepsD K F (byKeys vs (ds.map kp)) (ds.mergeSort (PySem.W.dataLe false kp)) := by
  obtain ⟨h1, h2, h3⟩ := reps_zip r
  have e1 : vs.zip (ds.map kp) = (vs.zip ds).map fun p => (p.1, kp p.2) := by
    rw [List.zip_map_right]; rfl
  have e2 : byKeys vs (ds.map kp) = ((vs.zip ds).mergeSort fun a b => PySem.W.dataLe false kp a.2 b.2).map (·.1) := by
    unfold byKeys
    rw [e1, ← List.map_mergeSort (r := fun a b => PySem.W.dataLe false kp a.2 b.2) (fun a _ b _ => rfl), List.map_map]
    rfl
  have e3 : ds.mergeSort (PySem.W.dataLe false kp) = ((vs.zip ds).mergeSort fun a b => PySem.W.dataLe false kp a.2 b.2).map (·.2) := by
    rw [List.map_mergeSort (s := PySem.W.dataLe false kp) (fun a _ b _ => rfl), h3]
  rw [e2, e3]
  exact reps_pairs fun p hp => h1 p ((List.mergeSort_perm _ _).mem_iff.mp hp)
section
variable {c : Cz} {ρ : En} {O : Oh}
/-- the keys are data, told by W -/
theorem l_sortKF {K' : Fr} (hK : K' = c.K) {W : WL} {kf : Addr} {te : TE} {Q : D → Oh → Prop} (q : LE c te ρ O fun x O1 => ∃ (ds : List D) (kd : D → D) (kp : D → PyData), asL O1 x = some ds ∧ (∀ d ∈ ds, PD O1 (kd d) (kp d)) ∧ PySem.W.AllAlike (ds.map kp) ∧ PySem.W.Sortable (ds.map kp) ∧ (∀ d ∈ ds, (kp d).depth ≤ 8) ∧
    (∀ d ∈ ds, ∀ Q' : D → Oh → Prop, Q' (kd d) O1 → W [d] O1 Q' noX) ∧ Q (.lst (ds.mergeSort (PySem.W.dataLe false kp))) O1) : LE c (tCKw (rSortK K' (SpL K' W) kf) (tCons te tNil) (tCons (tC (.ref kf)) tNil)) ρ O Q := by
  subst hK
  intro F H σ rs s z Q' k
  exact q F H σ rs s z _ fun F1 H1 O1 v x s1 st1 rd1 ⟨ds, kd, kp, h, hp, hal, hsk, hdp, hW, q1⟩ => by
    obtain ⟨l, vs, e, hl, r⟩ := asL_sq st1 rd1 h
    subst e
    have hvl : vs.length = ds.length := r.len
    refine ⟨l, vs, ds.map kp, fun kvs H' => ∃ F', Same F1 F' ∧ StO c.K F' O1 H' ∧ RepsD c.K F' kvs ((ds.take kvs.length).map kd), rfl, rfl, .of hl, by rw [List.length_map, hvl], hal, hsk, fun d hd => ?_, ⟨F1, Same.refl _, st1, .nil⟩, ?_, ?_, ?_⟩
    · obtain ⟨y, hy, rfl⟩ := List.mem_map.mp hd
      exact hdp y hy
    · rintro i w kvs H' hw rfl ⟨F', s2, st2, rk⟩
      obtain ⟨d, hd, rd⟩ := r.at hw
      refine ⟨F', O1, [d], fun y O2 => y = kd d ∧ O2 = O1, noX, .cons (rd.mono s2) .nil, st2, hW d (List.mem_of_getElem? hd) _ ⟨rfl, rfl⟩, fun F3 H3 O3 u y s3 st3 ru ⟨e1, e2⟩ => ?_, fun _ _ _ _ _ _ _ _ _ z => z.elim⟩
      subst e1 e2
      refine ⟨F3, s2.trans s3, st3, ?_⟩
      rw [List.length_append, List.length_singleton, List.take_add_one, hd, List.map_append]
      exact (rk.mono s3).append (.cons ru .nil)
    · rintro kvs H' hk ⟨F', s2, st2, rk⟩
      rw [hk, hvl, List.take_length] at rk
      have hps : PDs O1 (ds.map kd) (ds.map kp) := by
        clear hal hsk hdp hW h r rk hvl q1
        induction ds with
        | nil => exact .nil
        | cons d ds ih => exact .cons (hp d (List.mem_cons_self ..)) (ih fun e he => hp e (List.mem_cons_of_mem _ he))
      exact PDs.dp st2 hps rk
    · rintro kvs H' p hk ⟨F', s2, st2, rk⟩ hp0
      have sm : Same F' (upd F' p (.lst (byKeys vs (ds.map kp)))) := MB.Same.upd (st2.fresh hp0).2
      exact k _ _ O1 _ _ ((s1.trans s2).trans sm) (st2.newF hp0) (.lst upd_same ((reps_byKeys kp (r.mono s2)).mono sm)) q1
end
end VL
set_option maxHeartbeats 2000000
namespace VL
open PySem PySem.Spec PyProof.Rows L2 MB LamX NdefX
/-- the object at f is this lambda -/
def LamO (f : Addr) (F : NF) (body : Expr) : HO := .ext fun h => ∃ (pm ctv : Value), h.get? f = some (PySem.W.kla_obj "<lambda>" F.qual F.params body F.scope F.cl pm F.c ctv)
theorem lamO_at {P : Program} {w : World} {H : Hp} {h : Heap} {f : Addr} {F : NF} {body : Expr} (hok : HOk P w H h) (e : H f = some (LamO f F body)) : ∃ (pm ctv : Value), h.get? f = some (PySem.W.kla_obj "<lambda>" F.qual F.params body F.scope F.cl pm F.c ctv) := by
  obtain ⟨z, _, _⟩ := hok f _ e
  exact z
theorem lamO_ne {f : Addr} {F : NF} {body : Expr} (ps : Array Value) : LamO f F body ≠ .tbl ps := fun z => by
  unfold LamO at z
  cases z
/-- what a key promises while its lambda stands at f -/
def spLam (f : Addr) (F : NF) (body : Expr) (sp : Sp) : Sp := fun vs H Q E => H f = some (LamO f F body) ∧ H F.c = some (CodeO F.c F.qual) ∧ sp vs H Q E
section
variable {X : Cx} {A : Around} {N : List Str} {p : Str} {F : NF} {body : Expr} {f : Addr} {k : Nat} {sp : Sp}
theorem keyRun_lam (S : NScope N [p] [] F.scope) (hcl : F.cl = []) (hb : ∀ (pm ctv u : Value), bindArgs (PySem.W.kla_fn "<lambda>" F.qual F.params body F.scope F.cl pm (.ref F.c) ctv) ⟨[u], []⟩ = pure [(p, u)])
    (hbody : ∀ (A : Around) (outer : List Env) (s : Shared) (H : Hp) (v : V) (Q : VK), Room k (A.deeper (envF F f s.heap.objs.size)) → sp [v] H Q E0 →
      ∃ t, PE (ncx CX0 X.prog X.w X.K X.mg X.base N F f A outer s H E0) body t ∧ t (startF N [v] []) H Q)
    (hr : Room (k + 1) A) (fr : A.frames = X.A.frames) : KeyRun X A (.ref f) (spLam f F body sp) := by
  intro pins σ H s x u Q I r ⟨hf, hc, hsp⟩
  have e0 : Env0 X.prog X.w X.K X.mg X.base A X.stack s H := by
    have e := I.env0
    exact ⟨by rw [fr]; exact e.frames, e.mod, e.bs, e.bsz, e.funs, e.frf, e.hok, e.bare⟩
  have lim : s.heap.NoLimit := e0.mod.nolimit.keeps fun b o e => (e0.bs b o e).1
  obtain ⟨pm, ctv, ho⟩ := lamO_at I.hok hf
  have rr : Vals [x] [u] := .cons r .nil
  have rc : codeAny (model X.prog X.w) A (.call (.ref f) ⟨[u], []⟩) (CR CX0 X.stack X.prog X.w H s Q E0) s := by
    refine PySem.W.kla_callFunE hr.depth ho rfl S.co S.gen rfl (codeO_at I.hok hc) ?_
    rw [hb pm ctv u]
    refine wpAny_pure (wpAny_newFunctionEnv S.nocell (fun ⟨n, _⟩ hy => S.par n (List.of_mem_zip (show _ ∈ [p].zip [u] from hy)).1) (fun h₁ hns hsb => ⟨lim.fresh _ hsb, ?_⟩) S.kind)
    show codeAny _ _ (.expr body (envF F f s.heap.objs.size)) _ _
    have kp : ∀ b o, s.heap.get? b = some o → h₁.get? b = some o := fun b o e => hsb.extBut b o (Nat.ne_of_lt (Heap.lt_size e)) (Heap.get?_push_of_some _ e)
    obtain ⟨t, ht, hq⟩ := hbody A X.stack s H x Q (hr.deeper _) hsp
    have C : CellsAt F.cl [] [] s.heap H := ⟨rfl, (fun y c e => by rw [hcl] at e; cases e), (fun x y c e _ => by rw [hcl] at e; cases e), (fun i y e => by cases e)⟩
    have J : Inv (ncx CX0 X.prog X.w X.K X.mg X.base N F f A X.stack s H E0) [] (startF N [x] []) H { s with heap := h₁, toks := s.toks + ([p].zip [u]).length } := inv_startN S hr.hd e0 rfl rr C hns kp
    refine PySem.W.kla_codeExpr (wpAny_mono (ht.run [] _ _ H Q J hq) (fun v s' hz => ?_) fun e s' hz => hz)
    obtain ⟨w', H', J', rv, q⟩ := hz
    exact ⟨w', H', J'.os, J'.bare, J'.base, J'.hok, rv, q⟩
  refine wpAny_call (codeAny_mono rc fun res s' hq => ?_)
  cases res with
  | error e => exact hq
  | ok fl =>
    cases fl with
    | ret w => exact I.after hq
    | next => exact hq.elim
    | brk => exact hq.elim
    | cont => exact hq.elim
end
/-- a lambda is made: its code object is found in the def's table P, or new -/
def tLamb (P : Addr) (q : Str) (mk : Addr → NF) (body : Expr) (pos : Pos) : TE := fun _ H Q => ∃ ps : Array Value, H P = some (.tbl ps) ∧ TriplesOk ps.toList ∧ (∀ (p' : Pos) (cv : Value), codeAmong p' ps.toList = some cv → ∃ c, cv = .ref c ∧ H c = some (CodeO c q)) ∧
  (∀ f c', codeAmong pos ps.toList = some (.ref c') → H f = none → Q (.ref f) (upd H f (LamO f (mk c') body))) ∧
  ∀ f c', H c' = none → H f = none → f ≠ c' → Q (.ref f) (upd (upd (upd H P (.tbl (ps ++ #[rawInt pos.line, rawInt pos.col, .ref c']))) c' (CodeO c' q)) f (LamO f (mk c') body))
section
variable {X : Cx} {pins : List (Addr × Obj)} {σ : L2.St} {H : Hp} {s : Shared}
theorem pe_lamb {c P : Addr} {params : Arguments} {body : Expr} {scope : Scope} {pos : Pos} (TB : TabB X.base X.mg c P) (hcode : X.env.code = .ref c) (hdef : defaultsOf params X.env = ([], []) := by rfl) (hclo : cloFrom X.env.cells scope.names [] = [] := by rfl) (hfree : ∀ y ∈ scope.names, y.2 ≠ .free := by decide) :
    PE X (.Lambda params body scope pos) (tLamb P (X.env.qual ++ "<lambda>") (fun c' => ⟨"<lambda>", X.env.qual ++ "<lambda>", params, [], scope, [], c'⟩) body pos) := by
  refine ⟨fun pins s σ H Q I h => ?_⟩
  obtain ⟨ps, hP, ht, ha, hold, hnew⟩ := h
  refine PySem.W.kla_eval hdef ?_
  have bP : s.heap.BuiltinsAt X.mg P := TB.bm.keeps I.bk
  have hP' : s.heap.get? P = some { cls := .none, data := .fields ps } := I.hok P _ hP
  have hcl : ∀ y ∈ scope.names, y.2 = .free → ∃ c, X.env.cells.lookup y.1 = some c := fun y hy e => absurd e (hfree y hy)
  have obj : ∀ {c' : Addr} {pm ctv : Value} {h' : Heap} {H1 : Hp}, ObjOk X.prog X.w (upd H1 h'.objs.size (LamO h'.objs.size ⟨"<lambda>", X.env.qual ++ "<lambda>", params, [], scope, [], c'⟩ body)) (h'.push (PySem.W.kla_obj "<lambda>" (X.env.qual ++ "<lambda>") params body scope (cloFrom X.env.cells scope.names []) pm c' ctv)) h'.objs.size (LamO h'.objs.size ⟨"<lambda>", X.env.qual ++ "<lambda>", params, [], scope, [], c'⟩ body) := fun {c' pm ctv h' H1} => by
    have e := Heap.get?_push_size h' (o := PySem.W.kla_obj "<lambda>" (X.env.qual ++ "<lambda>") params body scope (cloFrom X.env.cells scope.names []) pm c' ctv) rfl
    rw [hclo] at e ⊢
    exact ⟨⟨pm, ctv, e⟩, ⟨_, e⟩, fun h1 h2 ⟨pm, ctv, e1⟩ st => ⟨pm, ctv, st _ e1⟩⟩
  cases hc : codeAmong pos ps.toList with
  | none =>
    refine PySem.W.kla_makeFunction (mg := X.mg) (c := c) (P := P) (ps := ps) (closure_ok hcl) I.ok.glob (I.mod.glob.keeps I.bk) hcode (TB.code.keeps I.bk) hP' ht hc TB.gP bP fun c' ctv h' tk hx hge hlt hrec htb => ?_
    obtain ⟨c2, oc, vs, t, e2, hoc, hd, hv⟩ := hrec
    cases e2
    have hsz : s.heap.objs.size ≤ h'.objs.size := Nat.le_trans hge (Nat.le_of_lt hlt)
    have nC : H c' = none := I.hok.fresh hge
    have I1 := inv_table (t' := tk) (more := #[rawInt pos.line, rawInt pos.col, .ref c']) (h' := h'.push (PySem.W.kla_obj "<lambda>" (X.env.qual ++ "<lambda>") params body scope (cloFrom X.env.cells scope.names []) ((X.mg "__name__").getD .none) c' ctv)) I hP
      (fun b o hb e => Heap.get?_push_of_some _ (hx b o hb e)) (Heap.get?_push_of_some _ htb) hge ⟨oc, vs, t, Heap.get?_push_of_some _ hoc, hd, hv⟩
    have n1 : h'.objs.size ≠ c' := Nat.ne_of_gt hlt
    have n2 : h'.objs.size ≠ P := Nat.ne_of_gt (Nat.lt_of_lt_of_le (Heap.lt_size hP') hsz)
    have nf : upd (upd H P (.tbl (ps ++ #[rawInt pos.line, rawInt pos.col, .ref c']))) c' (CodeO c' (X.env.qual ++ "<lambda>")) h'.objs.size = none := by
      rw [upd_ne n1, upd_ne n2]; exact I.hok.fresh hsz
    have fp := FpC.new I hsz
    exact ⟨.ref h'.objs.size, _, adopt I1 (fp.at_ nf) fp.2.2.1 obj, rfl, hnew h'.objs.size c' nC (I.hok.fresh hsz) n1⟩
  | some cv =>
    obtain ⟨c', e, hco⟩ := ha pos cv hc
    subst e
    refine PySem.W.kla_makeFunctionHit (mg := X.mg) (c := c) (P := P) (ps := ps) (closure_ok hcl) I.ok.glob (I.mod.glob.keeps I.bk) hcode (TB.code.keeps I.bk) hP' ht hc bP fun ctv h' tk hx hsz => ?_
    have I1 : Inv X pins σ H { s with heap := h'.push (PySem.W.kla_obj "<lambda>" (X.env.qual ++ "<lambda>") params body scope (cloFrom X.env.cells scope.names []) ((X.mg "__name__").getD .none) c' ctv), toks := tk } := I.kept fun b o e => Heap.get?_push_of_some _ (hx b o e)
    have nf : H h'.objs.size = none := I.hok.fresh hsz
    have fp := FpC.new I hsz
    exact ⟨.ref h'.objs.size, _, adopt I1 (fp.at_ nf) fp.2.2.1 obj, rfl, hold h'.objs.size c' hc nf⟩
end
end VL
set_option maxHeartbeats 2000000
namespace VL
open PySem PySem.Spec PyProof.Rows L2 MB LamX NdefX
def rSortLam (K : PySem.W.Frag) (sp : Sp) (mk : Addr → NF) (body : Expr) : List V → List V → Hp → VK → Prop := fun vs zs H Q => ∃ (l : Addr) (xs : List V) (ks : List PyData) (G : List V → Hp → Prop) (f c' : Addr), vs = [.ref l] ∧ zs = [.ref f] ∧ SqL K H l xs ∧ ks.length = xs.length ∧ PySem.W.AllAlike ks ∧ PySem.W.Sortable ks ∧ (∀ d ∈ ks, d.depth ≤ 8) ∧ G [] H ∧
  (∀ (i : Nat) (x : V) (kvs : List V) (H' : Hp), xs[i]? = some x → kvs.length = i → G kvs H' → spLam f (mk c') body sp [x] H' (fun v H'' => G (kvs ++ [v]) H'') E0) ∧ (∀ kvs H', kvs.length = xs.length → G kvs H' → DpAll K H' kvs ks) ∧
  ∀ kvs H' p, kvs.length = xs.length → G kvs H' → H' p = none → Q (.ref p) (upd H' p (.lst (byKeys xs ks)))
section
variable {X : Cx} {sp : Sp} {mk : Addr → NF} {body : Expr}
theorem cr_sortLam (KR : ∀ f c', KeyRun X X.A.in1.in1 (.ref f) (spLam f (mk c') body sp)) (hu : X.A.units + 64 < cLine) : CallRK X (.builtin "sorted") [Str.ofString "key"] (rSortLam X.K sp mk body) := by
  intro pins s σ H vs zs us ws Q I r rz h
  obtain ⟨l, xs, ks, G, f, c', rfl, rfl, hs, h1, h2, h3, h4, h5, h6, h7, h8⟩ := h
  obtain rfl := Vals.ref1 r
  obtain ⟨w1, rfl, e1⟩ := vals1 rz
  obtain rfl : w1 = Value.ref f := e1
  exact call_sortK (KR f c') (fun d hd => by have := h4 d hd; omega) I hs h1 h2 h3 h5 h6 h7 h8
end
section
variable {c : Cz} {ρ : En} {O : Oh}
theorem l_sortLamF {K' : Fr} (hK : K' = c.K) {W : WL} {P : Addr} {qn : Str} {mk : Addr → NF} {body : Expr} {pos : Pos} {te : TE} {Q : D → Oh → Prop} (hmk : ∀ c', (mk c').c = c' ∧ (mk c').qual = qn)
    (q : LE c te ρ O fun x O1 => O1 P = some (.tbl qn) ∧ ∃ (ds : List D) (kd : D → D) (kp : D → PyData), asL O1 x = some ds ∧ (∀ d ∈ ds, PD O1 (kd d) (kp d)) ∧ PySem.W.AllAlike (ds.map kp) ∧ PySem.W.Sortable (ds.map kp) ∧ (∀ d ∈ ds, (kp d).depth ≤ 8) ∧
    (∀ d ∈ ds, ∀ Q' : D → Oh → Prop, Q' (kd d) O1 → W [d] O1 Q' noX) ∧ Q (.lst (ds.mergeSort (PySem.W.dataLe false kp))) O1) : LE c (tCKw (rSortLam K' (SpL K' W) mk body) (tCons te tNil) (tCons (tLamb P qn mk body pos) tNil)) ρ O Q := by
  subst hK
  intro F H σ rs s z Q' k
  exact q F H σ rs s z _ fun F1 H1 O1 v x s1 st1 rd1 ⟨hP, ds, kd, kp, h, hp, hal, hsk, hdp, hW, q1⟩ => by
    obtain ⟨l, vs, e, hl, r⟩ := asL_sq st1 rd1 h
    subst e
    have hvl : vs.length = ds.length := r.len
    have main : ∀ (f c' : Addr) (F2 H2 : Hp), Same F1 F2 → StO c.K F2 O1 H2 → F2 f = some (LamO f (mk c') body) → F2 c' = some (CodeO c' qn) → SqL c.K H2 l vs → rSortLam c.K (SpL c.K W) mk body [.ref l] [.ref f] H2 Q' := by
      intro f c' F2 H2 s2 st2 hf hc hl2
      refine ⟨l, vs, ds.map kp, fun kvs H' => ∃ F', Same F2 F' ∧ StO c.K F' O1 H' ∧ RepsD c.K F' kvs ((ds.take kvs.length).map kd), f, c', rfl, rfl, hl2, by rw [List.length_map, hvl], hal, hsk, fun d hd => ?_, ⟨F2, Same.refl _, st2, .nil⟩, ?_, ?_, ?_⟩
      · obtain ⟨y, hy, rfl⟩ := List.mem_map.mp hd
        exact hdp y hy
      · rintro i w kvs H' hw rfl ⟨F', s3, st3, rk⟩
        obtain ⟨d, hd, rd⟩ := r.at hw
        refine ⟨st3.same _ _ (s3 _ _ hf), ?_, F', O1, [d], fun y O2 => y = kd d ∧ O2 = O1, noX, .cons (rd.mono (s2.trans s3)) .nil, st3, hW d (List.mem_of_getElem? hd) _ ⟨rfl, rfl⟩, fun F3 H3 O3 u y s4 st4 ru ⟨e1, e2⟩ => ?_, fun _ _ _ _ _ _ _ _ _ z => z.elim⟩
        · rw [(hmk c').1, (hmk c').2]; exact st3.same _ _ (s3 _ _ hc)
        · subst e1 e2
          refine ⟨F3, s3.trans s4, st4, ?_⟩
          rw [List.length_append, List.length_singleton, List.take_add_one, hd, List.map_append]
          exact (rk.mono s4).append (.cons ru .nil)
      · rintro kvs H' hk ⟨F', s3, st3, rk⟩
        rw [hk, hvl, List.take_length] at rk
        have hps : PDs O1 (ds.map kd) (ds.map kp) := by
          clear hal hsk hdp hW h r rk hvl q1
          induction ds with
          | nil => exact .nil
          | cons d ds ih => exact .cons (hp d (List.mem_cons_self ..)) (ih fun e he => hp e (List.mem_cons_of_mem _ he))
        exact PDs.dp st3 hps rk
      · rintro kvs H' p hk ⟨F', s3, st3, rk⟩ hp0
        have sm : Same F' (upd F' p (.lst (byKeys vs (ds.map kp)))) := MB.Same.upd (st3.fresh hp0).2
        exact k _ _ O1 _ _ (((s1.trans s2).trans s3).trans sm) (st3.newF hp0) (.lst upd_same ((reps_byKeys kp (r.mono (s2.trans s3))).mono sm)) q1
    obtain ⟨_, ps, g1, g2, g3⟩ := st1.own P _ hP
    refine ⟨ps, g1, g2, fun p' cv hc => let ⟨c0, e1, e2⟩ := g3 p' cv hc; ⟨c0, e1, st1.same _ _ e2⟩, fun f c' hc hf => ?_, fun f c' hc hf hne => ?_⟩
    · obtain ⟨c0, e1, e2⟩ := g3 _ _ hc
      cases e1
      have sm : Same F1 (upd F1 f (LamO f (mk c') body)) := MB.Same.upd (st1.fresh hf).2
      exact main f c' _ _ sm (st1.newF hf) upd_same (sm _ _ e2) (.of ((upd_ne (ne_of_none hl hf)).trans hl))
    · have nPc : P ≠ c' := ne_of_none g1 hc
      have nPf : P ≠ f := ne_of_none g1 hf
      have smA : Same F1 (upd F1 c' (CodeO c' qn)) := MB.Same.upd (st1.fresh hc).2
      have stA := st1.newF (u := CodeO c' qn) hc
      have eL : (ps ++ #[rawInt pos.line, rawInt pos.col, .ref c']).toList = ps.toList ++ [rawInt pos.line, rawInt pos.col, .ref c'] := by simp
      have rep : RepO c.K (upd F1 c' (CodeO c' qn)) (upd (upd H1 c' (CodeO c' qn)) P (.tbl (ps ++ #[rawInt pos.line, rawInt pos.col, .ref c']))) P (.tbl qn) := by
        refine ⟨_, upd_same, by rw [eL]; exact PySem.TriplesOk_snoc _ _ _ _ g2, fun p' cv hcv => ?_⟩
        rw [eL] at hcv
        rcases among_app _ g2 hcv with z | z
        · obtain ⟨c0, e1, e2⟩ := g3 p' cv z
          exact ⟨c0, e1, smA _ _ e2⟩
        · exact ⟨c', z, upd_same⟩
      have stB := stA.write (o' := .tbl qn) hP rep
      rw [show updO O1 P (.tbl qn) = O1 from by funext b; unfold updO; by_cases hb : b = P <;> simp [hb, hP]] at stB
      have ec : upd (upd H1 c' (CodeO c' qn)) P (.tbl (ps ++ #[rawInt pos.line, rawInt pos.col, .ref c'])) = upd (upd H1 P (.tbl (ps ++ #[rawInt pos.line, rawInt pos.col, .ref c']))) c' (CodeO c' qn) := by
        funext b
        by_cases hb : b = P
        · subst hb; rw [upd_same, upd_ne nPc, upd_same]
        · rw [upd_ne hb]
          by_cases hb2 : b = c'
          · subst hb2; rw [upd_same, upd_same]
          · rw [upd_ne hb2, upd_ne hb2, upd_ne hb]
      rw [ec] at stB
      have hf2 : upd (upd H1 P (.tbl (ps ++ #[rawInt pos.line, rawInt pos.col, .ref c']))) c' (CodeO c' qn) f = none := by rw [upd_ne hne, upd_ne (Ne.symm nPf)]; exact hf
      have smB : Same (upd F1 c' (CodeO c' qn)) (upd (upd F1 c' (CodeO c' qn)) f (LamO f (mk c') body)) := MB.Same.upd (stB.fresh hf2).2
      refine main f c' _ _ (smA.trans smB) (stB.newF hf2) upd_same (smB _ _ upd_same) (.of ?_)
      have nlP : l ≠ P := fun z => by subst z; rw [hl] at g1; cases g1
      rw [upd_ne (ne_of_none hl hf), upd_ne (ne_of_none hl hc), upd_ne nlP]
      exact hl
end
end VL
set_option maxHeartbeats 2000000
namespace VL
open PySem PySem.Spec PyProof.Rows L2 MB LamX NdefX
section
variable {P : Program} {w : World} {K : Fr} {mg : Str → Option Value} {base : Heap} {CX : CXT} {x qual : Str} {params : Arguments} {body : List Stmt} {scope : Scope} {dv : List V} {kws : List (Str × V)} {p : He.Defn} {fd : FuncData} {N ps : List Str} {k : Nat} {W : WL}
/-- fnL', the def's code object told -/
theorem fnLT (F : FunD K x qual params body scope dv kws (He.fAd K p) fd) (S : FnScope N ps scope) (hl : ∀ ds O Q E, W ds O Q E → ds.length = ps.length)
    (hbody : ∀ (cdv : Value) (_ : cdv = .ref (He.cT K p).1) (A : Around) (outer : List Env) (s : Shared) (H : Hp) (E : XK), Room k (A.deeper (envOfC qual scope s.heap.objs.size (He.fAd K p) cdv)) → ∃ t, PSs (cxOf CX P w K mg base N qual scope (He.fAd K p) cdv A outer s H E) body t ∧
      ∀ ds O Qd Ed, W ds O Qd Ed → LS (cD K E Ed) t (enD Qd) (en0 N.length ds) O) : FnOk P w K mg base CX (k + 1) (He.fAd K p) fd ps (SpL K W) := by
  obtain ⟨oc, od, dV, kV, doc, pm, an, cdv, ct, osl, rfl, lk, hcd, _, _⟩ := F.ex
  obtain ⟨c, rfl⟩ := He.codeIn_ref hcd
  have ec : He.codeOf K p = c := He.codeOf_eq lk rfl
  refine fn_of lk hcd S (fun vs H Q E ⟨F, O, ds, Qd, Ed, rd, st, hw, kq, kx⟩ => rd.len.trans (hl _ _ _ _ hw)) fun A outer s H vs Q E hr ⟨F, O, ds, Qd, Ed, rd, st, hw, kq, kx⟩ => ?_
  obtain ⟨t, h1, h2⟩ := hbody (.ref c) (by rw [← ec]; rfl) A outer s H E hr
  exact ⟨t, h1, body_L rd st kq kx (h2 ds O Qd Ed hw)⟩
end
/-- the key's promise, by the lambda's body -/
theorem lam_sp {K : Fr} {W : WL} {N : List Str} {v : V} {t : TE} {H : Hp} {Q : VK} (hN : N.length = 1) (h : SpL K W [v] H Q E0) (hb : ∀ d O Qd Ed, W [d] O Qd Ed → LE (cD K E0 Ed) t [some d] O Qd) : t (startF N [v] []) H Q := by
  obtain ⟨F, O, ds, Qd, Ed, rd, st, hw, kq, kx⟩ := h
  cases rd with
  | cons a r =>
    cases r
    have e : startF N [v] [] = [some v] := by
      unfold startF
      rw [hN]; rfl
    rw [e]
    refine hb _ O Qd Ed hw F H [some v] ⟨rfl, fun i d hd => ?_⟩ st (fun F' H' O' σ' ρ' C dx fs s _ so rx ex => kx F' H' O' C dx fs s so rx ex) Q kq
    cases i with
    | zero => cases hd; exact ⟨v, rfl, a⟩
    | succ i => simp at hd
end VL
set_option maxHeartbeats 2000000
namespace VL
open PySem PySem.Spec PyProof.Rows L2 MB
section
variable {c : Cz} {ρ : En} {O : Oh}
def fl2 (ed : D → List D) (f : D → D → D) (ds : List D) : List D := ds.flatMap fun d => (ed d).map (f d)
theorem fl2_app {ed : D → List D} {f : D → D → D} (a b : List D) : fl2 ed f (a ++ b) = fl2 ed f a ++ fl2 ed f b := by unfold fl2; rw [List.flatMap_append]
theorem fl2_take {ed : D → List D} {f : D → D → D} {ds : List D} {i : Nat} {d : D} (h : ds[i]? = some d) : fl2 ed f (ds.take (i + 1)) = fl2 ed f (ds.take i) ++ (ed d).map (f d) := by
  rw [List.take_add_one, h, fl2_app]
  unfold fl2
  simp
theorem fl2_part {ed : D → List D} {f : D → D → D} (ds : List D) (i : Nat) : (fl2 ed f (ds.take i)).length ≤ (fl2 ed f ds).length := by
  have e := congrArg List.length (fl2_app (ed := ed) (f := f) (ds.take i) (ds.drop i))
  rw [List.take_append_drop, List.length_append] at e
  omega
/-- [f(x, y) for x in xs for y in ys(x)]; what is owned stays -/
theorem ln_map2 {wi wi1 : TI} {g g1 : TG} {te : TE} {vs vs1 : List Nat} {Q : List D → Oh → Prop} (ed : D → List D) (f : D → D → D)
    (q : LI c wi ρ O fun ds G O1 => (fl2 ed f ds).length ≤ 100000 ∧ (∀ O2, Ext O1 O2 → G O2) ∧
      (∀ (i : Nat) (d : D) (O2 : Oh), ds[i]? = some d → Ext O1 O2 → LG c g vs d (wipeE ρ vs) O2 fun ρ2 O3 => LI c wi1 ρ2 O3 fun es G1 O4 => O4 = O2 ∧ es = ed d ∧ (∀ O5, Ext O1 O5 → G1 O5) ∧
        ∀ (j : Nat) (e : D) (O5 : Oh), es[j]? = some e → Ext O1 O5 → LG c g1 vs1 e (wipeE ρ2 vs1) O5 fun ρ3 O6 => LE c te ρ3 O6 fun y O7 => y = f d e ∧ O7 = O5) ∧
      Q (fl2 ed f ds) O1) : LN c (tLc2 wi g tYes wi1 g1 tYes te vs vs1) ρ O Q := fun F H σ rs s z Q' k =>
  q F H σ rs s z _ fun F1 H1 O1 J ds G s1 st1 dw ⟨hz, hG, hs, hd⟩ => by
    intro L hL
    have hO : O1 L = none := (st1.fresh hL).1
    have hext : ∀ acc, Ext O1 (updO O1 L (.lst acc)) := fun acc => ext_new hO
    obtain ⟨Gh, Yh, w, hGh, hY⟩ := dw.ex
    refine ⟨fun i m H' => m = ds.length - i ∧ i ≤ ds.length ∧ ∃ F', Same F1 F' ∧ StO c.K F' (updO O1 L (.lst (fl2 ed f (ds.take i)))) H', ⟨_, rfl, Nat.zero_le _, F1, Same.refl _, st1.newO (o := .lst []) hL ⟨[], upd_same, .nil⟩⟩, ?_⟩
    rintro i m H' ⟨rfl, hi, F', sF, stF⟩
    have hg := hGh F' H' _ sF stF (hG _ (hext _))
    by_cases hlt : i < ds.length
    · right
      refine ⟨w.goes i H' hlt hg, fun H2 => ∃ F2, Same F1 F2 ∧ StO c.K F2 (updO O1 L (.lst (fl2 ed f (ds.take (i + 1))))) H2, fun H2 h2 => ⟨_, by omega, rfl, hlt, h2⟩, fun x H2 hy => ?_⟩
      obtain ⟨F2, d, s2, st2, rx, ex⟩ := hY i F' H' _ x H2 sF stF (hG _ (hext _)) hlt (w.yields i H' x H2 hlt hg hy)
      have s12 := (s1.trans sF).trans s2
      have etake := fl2_take (ed := ed) (f := f) ex
      refine hs i d _ ex (hext (fl2 ed f (ds.take i))) F2 H2 _ x (repS_wipe (rs.mono s12) vs) st2 rx (z.mono s12) _ fun F3 H3 O3 σ3 ρ3 s3 rs3 st3 w3 q3 => ⟨w3.trans (wipe_wipe σ vs), ?_⟩
      unfold tYes
      dsimp only
      rw [if_pos rfl]
      refine q3 F3 H3 σ3 rs3 st3 (z.mono (s12.trans s3)) _ fun F4 H4 O4 J1 es G1 s4 st4 dw1 ⟨eO, ee, hG1, hs1⟩ => ?_
      subst eO ee
      obtain ⟨Gh1, Yh1, w1, hGh1, hY1⟩ := dw1.ex
      refine ⟨fun j k H5 => k = (ed d).length - j ∧ j ≤ (ed d).length ∧ ∃ F5, Same F4 F5 ∧ StO c.K F5 (updO O1 L (.lst (fl2 ed f (ds.take i) ++ ((ed d).take j).map (f d)))) H5, ⟨_, rfl, Nat.zero_le _, F4, Same.refl _, by simpa using st4⟩, ?_⟩
      rintro j k5 H5 ⟨rfl, hj, F5, s5, st5⟩
      have hg5 := hGh1 F5 H5 _ s5 st5 (hG1 _ (hext _))
      by_cases hjl : j < (ed d).length
      · right
        refine ⟨w1.goes j H5 hjl hg5, fun H6 => ∃ F6, Same F4 F6 ∧ StO c.K F6 (updO O1 L (.lst (fl2 ed f (ds.take i) ++ ((ed d).take (j + 1)).map (f d)))) H6, fun H6 h6 => ⟨_, by omega, rfl, hjl, h6⟩, fun x6 H6 hy6 => ?_⟩
        obtain ⟨F6, e6, s6, st6, rx6, ex6⟩ := hY1 j F5 H5 _ x6 H6 s5 st5 (hG1 _ (hext _)) hjl (w1.yields j H5 x6 H6 hjl hg5 hy6)
        have s46 := (s4.trans s5).trans s6
        have s16 := (s12.trans s3).trans s46
        refine hs1 j e6 _ ex6 (hext (fl2 ed f (ds.take i) ++ ((ed d).take j).map (f d))) F6 H6 _ x6 (repS_wipe (rs3.mono s46) vs1) st6 rx6 (z.mono s16) _ fun F7 H7 O7 σ7 ρ7 s7 rs7 st7 w7 q7 => ⟨w7.trans (wipe_wipe σ3 vs1), ?_⟩
        try dsimp only
        rw [if_pos rfl]
        refine q7 F7 H7 σ7 rs7 st7 (z.mono (s16.trans s7)) _ fun F8 H8 O8 v8 y8 s8 st8 rd8 ⟨e8, e9⟩ => ?_
        subst e8 e9
        obtain ⟨_, us, h1, h2⟩ := st8.own L _ updO_same
        have hlen : us.length < sizeLine := by
          rw [h2.len, List.length_append, List.length_map, List.length_take]
          have h3 := fl2_part (ed := ed) (f := f) ds (i + 1)
          rw [etake, List.length_append, List.length_map] at h3
          exact Nat.lt_of_lt_of_le (show _ < 100001 by omega) (by decide)
        refine ⟨us, h1, hlen, F8, ((s5.trans s6).trans s7).trans s8, ?_⟩
        have hw := st8.write (o' := .lst (fl2 ed f (ds.take i) ++ ((ed d).take j).map (f d) ++ [f d e6])) updO_same ⟨us ++ [v8], upd_same, h2.append (.cons rd8 .nil)⟩
        rw [updO_updO] at hw
        rw [List.take_add_one, ex6]
        simpa using hw
      · left
        have ej : j = (ed d).length := by omega
        subst ej
        refine ⟨w1.stops H5 hg5, F5, (((sF.trans s2).trans s3).trans s4).trans s5, ?_⟩
        rw [etake]
        rw [List.take_length] at st5
        exact st5
    · left
      have ei : i = ds.length := by omega
      subst ei
      rw [List.take_length] at stF
      obtain ⟨us, r, st, hn, e⟩ := stF.cut updO_same
      refine ⟨w.stops H' hg, ?_⟩
      rw [e]
      rw [delO_updO hO] at st
      exact k F' _ _ L us _ (s1.trans sF) st hn r hd
end
end VL
set_option maxHeartbeats 2000000
namespace VL
open PySem PySem.Spec PyProof.Rows L2 MB
section
variable {prog : Program} {w : World} {A : Around} {E : Value → Shared → Prop} {s : Shared}
theorem special_lst_item {it l : Addr} {i : Nat} {items : Array Value} {x : Value} {Q : Option Value → Shared → Prop} (hit : s.heap.IsListIter it l i) (hl : s.heap.IsList l items) (hx : items[i]? = some x)
    (hQ : ∀ h', h'.IsListIter it l (i + 1) → Heap.SameBut it s.heap h' → Q (some x) { s with heap := h' }) : wpAny (model prog w) A (callSpecial? (.ref it) "__next__") Q E s := by
  obtain ⟨o, ho, hc, hd⟩ := id hit
  obtain ⟨ol, hol, _, nl, hdl⟩ := hl
  refine wpAny_callSpecial?_slot (name := Str.ofString "__next__") hit.typeIs slot_listiter_next (wpAny_call_entry slot_listiter_next hit.typeIs entry_listiter_next ?_ (args_listiter_next _))
  show wpAny _ _ (field (.ref it) 0 >>= _) _ _ s
  refine wpAny_bind (wpAny_field ho hd (x := .ref l) rfl ?_)
  show wpAny _ _ (if (Value.ref l == Value.none) = true then _ else _) _ _ s
  rw [if_neg (show ¬ ((Value.ref l == Value.none) = true) from Bool.false_ne_true)]
  show wpAny _ _ (field (.ref it) 1 >>= _) _ _ s
  refine wpAny_bind (wpAny_field ho hd (x := .int i 0) rfl ?_)
  show wpAny _ _ (seqItems? (.ref l) >>= _) _ _ s
  refine wpAny_bind (wpAny_seqItems hol hdl ?_)
  simp only [Int.toNat_natCast, hx]
  refine wpAny_bind (wpAny_setField ho hd (by simp) (wpAny_pure ⟨x, rfl, hQ _ ?_ (Heap.SameBut.update ..)⟩))
  exact ⟨_, Heap.get?_update_self _ ho (Obj.isFreed_of_fields (Obj.data_mapFields hd _)), (Obj.cls_mapFields ..).trans hc, by rw [Obj.data_mapFields hd]; simp [rawInt]⟩
theorem special_lst_end {it l : Addr} {i : Nat} {items : Array Value} {Q : Option Value → Shared → Prop} (hh : A.handled = none) (hit : s.heap.IsListIter it l i) (hl : s.heap.IsList l items) (hx : items[i]? = none)
    (hE : ∀ e h', StopX e h' → Heap.ExtBut it s.heap h' → E e { s with heap := h' }) : wpAny (model prog w) A (callSpecial? (.ref it) "__next__") Q E s := by
  obtain ⟨o, ho, hc, hd⟩ := id hit
  obtain ⟨ol, hol, _, nl, hdl⟩ := hl
  refine wpAny_callSpecial?_slot (name := Str.ofString "__next__") hit.typeIs slot_listiter_next (wpAny_call_entry slot_listiter_next hit.typeIs entry_listiter_next ?_ (args_listiter_next _))
  show wpAny _ _ (field (.ref it) 0 >>= _) _ _ s
  refine wpAny_bind (wpAny_field ho hd (x := .ref l) rfl ?_)
  show wpAny _ _ (if (Value.ref l == Value.none) = true then _ else _) _ _ s
  rw [if_neg (show ¬ ((Value.ref l == Value.none) = true) from Bool.false_ne_true)]
  show wpAny _ _ (field (.ref it) 1 >>= _) _ _ s
  refine wpAny_bind (wpAny_field ho hd (x := .int i 0) rfl ?_)
  show wpAny _ _ (seqItems? (.ref l) >>= _) _ _ s
  refine wpAny_bind (wpAny_seqItems hol hdl ?_)
  simp only [Int.toNat_natCast, hx]
  refine wpAny_bind (wpAny_rule (wpAny_bind (wpAny_setField ho hd (by simp) ?_)))
  show wpAny _ _ (newExc (.type "StopIteration") [] >>= _) _ _ _
  refine wpAny_bind ?_
  simp only [newExc, newTuple]
  refine wpAny_bind (wpAny_newObj_type ?_ (by size_fits))
  refine wpAny_bind (m := firstArgMember _ _) (wpAny_of_eq (a := Value.none) (by first | rfl | (simp only [firstArgMember]; rfl)) ?_)
  refine wpAny_newObj_type ?_ (by size_fits)
  simp only [raiseNew]
  refine wpAny_bind (wpAny_handled ?_)
  first | rw [show A.in1.handled = none from hh] | rw [hh]
  refine wpAny_bind (wpAny_pure (wpAny_throw ?_))
  refine hE _ _ ⟨_, _, _, rfl, Heap.get?_push_size _ rfl, rfl, rfl, ?_⟩ (((Heap.SameBut.update ..).extBut.push _).push _)
  first
    | rfl
    | (rw [Array.getElem?_append_left (by decide)]; rfl)
    | kernel_rfl
end
def tYfLst (te : L2.TE) : TYf := fun σ H Q => te σ H fun x H1 => ∃ a xs, x = .ref a ∧ H1 a = some (.lst xs) ∧ Q xs H1
theorem close_lst : typeLookup (.type "list_iterator") "close" = pure none := by rw [typeLookup_type, builtinLookup_eq_fast]; kernel_rfl
section
variable {X : Cx} {e : Expr} {te : L2.TE}
theorem yf_lst (he : PE X e te) : YfE X e (tYfLst te) := by
  refine ⟨fun pins s σ H Q I h => ?_⟩
  refine thn (he.run pins s σ H _ I h) fun v s1 ⟨x, H1, I1, r1, a, xs, ex, ha, hq⟩ => ?_
  subst ex
  obtain rfl : v = Value.ref a := r1
  obtain ⟨hlen, its, n0, rits, el, eo⟩ := I1.lstM ha
  have hl : s1.heap.IsList a its.toArray := ⟨_, eo, rfl, _, rfl⟩
  refine ⟨"list", hl.typeIs, by decide, wpAny_pyIter_list hl ?_⟩
  have ksz : ∀ b o, s1.heap.get? b = some o → b ≠ s1.heap.objs.size := fun b o e => Nat.ne_of_lt (Heap.lt_size e)
  have kp : ∀ b o, s1.heap.get? b = some o → (s1.heap.push { cls := .type "list_iterator", data := .fields #[.ref a, .int 0 0] }).get? b = some o := fun b o e => Heap.get?_push_of_some _ e
  refine ⟨s1.heap.objs.size, H1, xs, fun j h => h.IsListIter s1.heap.objs.size a j ∧ h.IsList a its.toArray, rfl, I1.kept (t' := s1.toks) kp, .inr I1.sz, Nat.ne_of_gt I1.lt, fun y c hy => ?_, I1.hok.fresh (Nat.le_refl _), fun p hp => ?_,
    ⟨⟨_, Heap.get?_push_size _ rfl, rfl, rfl⟩, hl.push _⟩, ⟨⟨"list_iterator", fun j h q => ?_, close_lst, by decide⟩, fun j h h' q hk => ?_, fun A' j x s2 Q' E' hA hx q hQ => ?_, fun A' s2 Q' E' hA q hE => ?_⟩, hq⟩
  · obtain ⟨v, o, ho, _⟩ := I1.cell y c hy
    exact ksz c o ho
  · exact ksz p.1 _ (I1.pin p hp).1
  · obtain ⟨⟨o, ho, hc, _⟩, _⟩ := q
    exact ⟨o, ho, hc⟩
  · obtain ⟨⟨o, ho, r⟩, o2, ho2, r2⟩ := q
    exact ⟨⟨o, hk _ o (.inl rfl) ho, r⟩, o2, hk _ o2 (.inr (by rw [ha]; exact fun z => by cases z)) ho2, r2⟩
  · obtain ⟨q1, q2⟩ := q
    obtain ⟨u, hu, ru⟩ := rits.get hx
    have hne : a ≠ s1.heap.objs.size := ksz a _ eo
    exact special_lst_item q1 q2 (x := u) (by simpa using hu) fun h' q1' hs => hQ u h' s2.toks ru ⟨q1', q2.extBut hs.extBut hne⟩ fun b o hb eb => hs.extBut b o hb eb
  · obtain ⟨q1, q2⟩ := q
    have hnone : its.toArray[xs.length]? = none := by
      have e2 : its[xs.length]? = none := List.getElem?_eq_none_iff.mpr (by omega)
      simpa using e2
    exact special_lst_end hA q1 q2 hnone fun e h' hS hk => hE e h' s2.toks hS fun b o hb eb => hk b o hb eb
end
abbrev WLG := List D → Oh → (List D → Oh → Prop) → Prop
def SpGL (K : Fr) (W : WLG) : SpG := fun vs H Q _ => ∃ (F : Hp) (O : Oh) (ds : List D) (Qd : List D → Oh → Prop), RepsD K F vs ds ∧ StO K F O H ∧ W ds O Qd ∧ ∀ (F' H' : Hp) (O' : Oh) (us : List V) (es : List D), Same F F' → StO K F' O' H' → RepsD K F' us es → Qd es O' → Q us H'
/-- what follows a generator's statement: what is out, by values -/
def LGn (c : Cz) (t : TGn) (ρ : En) (O : Oh) (Q : List D → Oh → Prop) : Prop := ∀ (F H : Hp) (σ : L2.St), RepS c.K F σ ρ → StO c.K F O H → XL c F → ∀ Dd : GEnds, (∀ (F' H' : Hp) (O' : Oh) (σ' : L2.St) (us : List V) (es : List D), Same F F' → StO c.K F' O' H' → RepsD c.K F' us es → Q es O' → Dd.nx us σ' H') → t Dd [] σ H
theorem lgn_fromL {c : Cz} {te : L2.TE} {ρ : En} {O : Oh} {Q : List D → Oh → Prop} (q : LE c te ρ O fun x O1 => ∃ xs, x = .lst xs ∧ xs.length ≤ 100000 ∧ Q xs O1) : LGn c (tGThen (tGFrom (tYfLst te)) tG0) ρ O Q := fun F H σ rs s z Dd k => by
  refine q F H σ rs s z _ fun F1 H1 O1 v x s1 st1 rd1 ⟨xs, e, hl, q1⟩ => ?_
  subst e
  cases rd1 with
  | @lst p us _ h r =>
    refine ⟨p, us, rfl, st1.same _ _ h, ?_, k F1 H1 O1 _ _ _ s1 st1 r q1⟩
    rw [r.len]
    show 0 + xs.length ≤ sizeLine
    rw [Nat.zero_add]; exact le_line hl
structure GCal (P : Program) (w : World) (K : PySem.W.Frag) (mg : Str → Option Value) (base : Heap) (k : Nat) (x : Str) (ps : List Str) (W : WLG) : Prop where
  ex : ∃ (f : Addr) (fd : FuncData), GFn P w K mg base k f fd ps (SpGL K W) ∧ mg x = some (.ref f) ∧ PySem.W.keepIn K (.ref f) = true ∧ Binds K fd ps []
section
variable {P : Program} {w : World} {K : Fr} {mg : Str → Option Value} {base : Heap} {x qual : Str} {params : Arguments} {body : List Stmt} {scope : Scope} {dv : List V} {kws : List (Str × V)} {f : Addr} {fd : FuncData} {N ps : List Str} {k : Nat} {W : WLG}
theorem gfnL (F : FunD K x qual params body scope dv kws f fd) (S : GScope N ps scope) (hl : ∀ ds O Q, W ds O Q → ds.length = ps.length)
    (hbody : ∀ (cdv : Value) (A : Around) (outer : List Env) (s : Shared) (H : Hp) (E : XK) (pn : List (Addr × Obj)), Room k (A.deeper (envOfC qual scope s.heap.objs.size f cdv)) → ∃ t, GSs (gcxOf P w K mg base N qual scope f cdv A outer s H E pn) body t ∧
      ∀ ds O Qd, W ds O Qd → LGn (cD K E0 noX) t (en0 N.length ds) O Qd) : GFn P w K mg base (k + 1) f fd ps (SpGL K W) := by
  obtain ⟨oc, od, dV, kV, doc, pm, an, cdv, ct, osl, rfl, lk, hcd, _, _⟩ := F.ex
  refine gfn_of lk hcd S (fun vs H Q E ⟨F, O, ds, Qd, rd, st, hw, kq⟩ => rd.len.trans (hl _ _ _ hw)) fun A outer s H vs Q E pn hr ⟨F, O, ds, Qd, rd, st, hw, kq⟩ => ?_
  obtain ⟨t, h1, h2⟩ := hbody cdv A outer s H E pn hr
  exact ⟨t, h1, h2 ds O Qd hw F H _ (repS_start rd rfl rfl) st (fun _ _ _ _ _ _ _ _ _ _ _ _ z => z.elim) _ fun F' H' O' σ' us es s' st' ru hq => kq F' H' O' us es s' st' ru hq⟩
end
section
variable {X : Cx} {k : Nat} {x : Str} {ps : List Str} {W : WLG} {e : Expr} {es : List Expr} {t : TA} {p p2 pos pos' : Pos}
/-- list(g(..)) -/
theorem pe_listGL (h : GCal X.prog X.w X.K X.mg X.base k x ps W) (hr : Room (k + 3) X.A) (hgl : Gl X "list") (hml : X.mg "list" = none) (ha : PA X (e :: es) t) (hx : Passes (L2.CX X.prog X.w) X E0) (hg : Gl X x := by rfl) (hdb : (x == ("__debug__" : Str)) = false := by decide)
    (he : starEach (e :: es) X.env = (false, eval e X.env) :: starEach es X.env := by rfl) (hpl : (backTo pos' (starEach es X.env)).any (·.1) = false := by rfl)
    (he2 : starEach [.Call (.Name x p) (e :: es) [] pos'] X.env = (false, eval (.Call (.Name x p) (e :: es) [] pos') X.env) :: starEach [] X.env := by rfl) :
    PE X (.Call (.Name "list" p2) [.Call (.Name x p) (e :: es) [] pos'] [] pos) (tListG (tCallG (SpGL X.K W) [] E0 t)) := by
  obtain ⟨f, fd, F, hm, hk, hb⟩ := h.ex
  exact pe_listG (pgen_call F (hr.mono (by omega)) hg hm hk hb .nil ha hdb he hpl) hx (fun _ _ _ z => z.elim) hr hgl hml PySem.Pv.boot_list (he := he2)
end
section
variable {c : Cz} {ρ : En} {O : Oh}
theorem ln_listG {K' : Fr} (hK : K' = c.K) {W : WLG} {XE : XK} {ta : TA} {Q : List D → Oh → Prop} (q : LA c ta ρ O fun ds O1 => W ds O1 Q) : LN c (tListG (tCallG (SpGL K' W) [] XE ta)) ρ O Q := by
  subst hK
  intro F H σ rs s z Q' k
  refine q F H σ rs s z _ fun F1 H1 O1 vs ds s1 st1 rd1 q1 => ?_
  refine ⟨F1, O1, ds, Q, by rw [List.append_nil]; exact rd1, st1, q1, fun F' H' O' us es s2 st2 ru hq p hp => ?_⟩
  exact k F' H' O' p us es (s1.trans s2) st2 hp ru hq
end
end VL
set_option maxHeartbeats 2000000
namespace VL
open PySem PySem.Spec PyProof.Rows L2 MB LamX NdefX
/-- sorted(e, key=f), f an own def whose promise is sp -/
def tSortD (K : PySem.W.Frag) (sp : Sp) (te : TE) : TE := fun σ H Q => ∀ kf : Addr, tCKw (rSortK K sp kf) (tCons te tNil) (tCons (tC (.ref kf)) tNil) σ H Q
section
variable {X : Cx} {k : Nat} {x : Str} {ps : List Str} {sp : Sp} {e : Expr} {te : TE} {p p2 pos : Pos} {kp : Pos}
theorem pe_sortDef (h : Cal X.prog X.w X.K X.mg X.base CX0 k x ps [] sp) (hr : Room (k + 2) X.A) (hgs : Gl X "sorted") (hms : X.mg "sorted" = none) (ha : PA X [e] (tCons te tNil)) (hg : Gl X x := by rfl) (hdb : (x == ("__debug__" : Str)) = false := by decide)
    (he : backTo pos (starEach [e] X.env) = (false, eval e X.env) :: backTo pos (starEach [] X.env) := by rfl) (hpl : (backTo pos (starEach [e] X.env)).any (·.1) = false := by rfl) :
    PE X (.Call (.Name "sorted" p2) [e] [⟨some "key", .Name x p, kp⟩] pos) (tSortD X.K sp te) := by
  obtain ⟨f, fd, ds, F, hm, hk, hb, hd⟩ := h
  cases hd
  have KR : KeyRun X X.A.in1.in1 (.ref f) sp := keyRun_def F hb hr.in1.in1 rfl
  have main : PE X (.Call (.Name "sorted" p2) [e] [⟨some "key", .Name x p, kp⟩] pos) (tCKw (rSortK X.K sp f) (tCons te tNil) (tCons (tC (.ref f)) tNil)) :=
    pe_callBK (cr_sortK KR hr.units) hgs hms (by decide +kernel) ha (pk_cons (pe_fun (pf_glob hg hm hdb)) pk_nil) (he := he) (hpl := hpl)
  exact ⟨fun pins s σ H Q I h => main.run pins s σ H Q I (h f)⟩
end
section
variable {c : Cz} {ρ : En} {O : Oh}
theorem l_sortD {K' : Fr} (hK : K' = c.K) {W : WL} {te : TE} {Q : D → Oh → Prop} (q : LE c te ρ O fun x O1 => ∃ (ds : List D) (kd : D → D) (kp : D → PyData), asL O1 x = some ds ∧ (∀ d ∈ ds, PD O1 (kd d) (kp d)) ∧ PySem.W.AllAlike (ds.map kp) ∧ PySem.W.Sortable (ds.map kp) ∧ (∀ d ∈ ds, (kp d).depth ≤ 8) ∧
    (∀ d ∈ ds, ∀ Q' : D → Oh → Prop, Q' (kd d) O1 → W [d] O1 Q' noX) ∧ Q (.lst (ds.mergeSort (PySem.W.dataLe false kp))) O1) : LE c (tSortD K' (SpL K' W) te) ρ O Q := fun F H σ rs s z Q' k kf => l_sortKF hK q F H σ rs s z Q' k
end
/-- the lambda of `return sorted(.., key=lambda ..)` -/
def lamOf : Expr → Arguments × Expr × Scope
  | .Call _ _ (⟨_, .Lambda a b s _, _⟩ :: _) _ => (a, b, s)
  | _ => (⟨[], [], none, [], [], none, []⟩, .Name "" ⟨0, 0, 0, 0⟩, ⟨.function, [], false, false, []⟩)
def lamRet : List Stmt → Arguments × Expr × Scope
  | [] => (⟨[], [], none, [], [], none, []⟩, .Name "" ⟨0, 0, 0, 0⟩, ⟨.function, [], false, false, []⟩)
  | [.Return (some e) _] => lamOf e
  | _ :: r => lamRet r
section
variable {X : Cx} {k : Nat} {W : WL} {c Pt : Addr} {params : Arguments} {body : Expr} {scope : Scope} {a : Str} {N : List Str} {e : Expr} {te : TE} {p2 pos lpos kp : Pos}
theorem pe_sortLamb (TB : TabB X.base X.mg c Pt) (hcode : X.env.code = .ref c) (S : NScope N [a] [] scope) (hN : N.length = 1)
    (hbind : ∀ (qual : Str) (pm cv ctv u : Value), bindArgs (PySem.W.kla_fn "<lambda>" qual params body scope [] pm cv ctv) ⟨[u], []⟩ = pure [(a, u)])
    (hbody : ∀ (f c' : Addr) (A : Around) (outer : List Env) (s : Shared) (H : Hp), Room k (A.deeper (envF ⟨"<lambda>", X.env.qual ++ "<lambda>", params, [], scope, [], c'⟩ f s.heap.objs.size)) →
      ∃ t, PE (ncx CX0 X.prog X.w X.K X.mg X.base N ⟨"<lambda>", X.env.qual ++ "<lambda>", params, [], scope, [], c'⟩ f A outer s H E0) body t ∧ ∀ d O Qd Ed, W [d] O Qd Ed → LE (cD X.K E0 Ed) t [some d] O Qd)
    (hr : Room (k + 3) X.A) (hgs : Gl X "sorted") (hms : X.mg "sorted" = none) (ha : PA X [e] (tCons te tNil)) (hdef : defaultsOf params X.env = ([], []) := by rfl) (hclo : cloFrom X.env.cells scope.names [] = [] := by rfl) (hfree : ∀ y ∈ scope.names, y.2 ≠ .free := by decide)
    (he : backTo pos (starEach [e] X.env) = (false, eval e X.env) :: backTo pos (starEach [] X.env) := by rfl) (hpl : (backTo pos (starEach [e] X.env)).any (·.1) = false := by rfl) :
    PE X (.Call (.Name "sorted" p2) [e] [⟨some "key", .Lambda params body scope lpos, kp⟩] pos)
      (tCKw (rSortLam X.K (SpL X.K W) (fun c' => ⟨"<lambda>", X.env.qual ++ "<lambda>", params, [], scope, [], c'⟩) body) (tCons te tNil) (tCons (tLamb Pt (X.env.qual ++ "<lambda>") (fun c' => ⟨"<lambda>", X.env.qual ++ "<lambda>", params, [], scope, [], c'⟩) body lpos) tNil)) := by
  have KR : ∀ f c', KeyRun X X.A.in1.in1 (.ref f) (spLam f ⟨"<lambda>", X.env.qual ++ "<lambda>", params, [], scope, [], c'⟩ body (SpL X.K W)) := fun f c' =>
    keyRun_lam (k := k) S rfl (fun pm ctv u => hbind _ pm _ ctv u) (fun A outer s H v Q hrr hsp => by
      obtain ⟨t, h1, h2⟩ := hbody f c' A outer s H hrr
      exact ⟨t, h1, lam_sp hN hsp h2⟩) hr.in1.in1 rfl
  exact pe_callBK (cr_sortLam KR hr.units) hgs hms (by decide +kernel) ha (pk_cons (pe_lamb TB hcode hdef hclo hfree) pk_nil) (he := he) (hpl := hpl)
end
end VL
set_option maxHeartbeats 2000000
namespace VL
open PySem PySem.Spec PyProof.Rows L2 MB
def fstD : D → D
  | .tup (a :: _) => a
  | _ => .non
def sndD : D → D
  | .tup (_ :: b :: _) => b
  | _ => .non
def cnt : List Bool → Nat
  | [] => 0
  | b :: v => (if b = true then 1 else 0) + cnt v
def gsum : List Bool → List Int → Int
  | [], _ => 0
  | _ :: _, [] => 0
  | b :: v, g :: gs => (if b = true then g else 0) + gsum v gs
def posv (gs : List Int) : List Bool := gs.map fun g => decide (g > 0)
theorem posv_len (gs : List Int) : (posv gs).length = gs.length := List.length_map _
/-- what lies between a lot and the gains above 0 -/
theorem gsum_le : ∀ {v : List Bool} {gs : List Int}, v.length = gs.length → gsum v gs ≤ gsum (posv gs) gs
  | [], [], _ => Int.le_refl _
  | b :: v, g :: gs, h => by
    have ih := gsum_le (v := v) (gs := gs) (by simpa using h)
    show (if b = true then g else 0) + gsum v gs ≤ (if decide (g > 0) = true then g else 0) + gsum (posv gs) gs
    simp only [decide_eq_true_eq]
    split <;> split <;> omega
/-- a lot of the other parity lacks some gain -/
theorem gsum_odd : ∀ {v : List Bool} {gs : List Int} {m : Int}, v.length = gs.length → (∀ g ∈ gs, m ≤ g ∨ m ≤ -g) → cnt v % 2 ≠ cnt (posv gs) % 2 → gsum v gs ≤ gsum (posv gs) gs - m
  | [], [], m, _, _, h => absurd rfl h
  | b :: v, g :: gs, m, hl, hm, hp => by
    have hl' : v.length = gs.length := by simpa using hl
    have hm' : ∀ x ∈ gs, m ≤ x ∨ m ≤ -x := fun x hx => hm x (List.mem_cons_of_mem _ hx)
    have h0 := hm g (List.mem_cons_self ..)
    show (if b = true then g else 0) + gsum v gs ≤ (if decide (g > 0) = true then g else 0) + gsum (posv gs) gs - m
    have hp : ((if b = true then 1 else 0) + cnt v) % 2 ≠ ((if decide (g > 0) = true then 1 else 0) + cnt (posv gs)) % 2 := hp
    have le := gsum_le hl'
    simp only [decide_eq_true_eq] at hp ⊢
    by_cases hg : g > 0 <;> cases b <;> simp only [hg, ↓reduceIte, Bool.false_eq_true] at hp ⊢
    · omega
    · have := gsum_odd (v := v) hl' hm' (by omega)
      omega
    · have := gsum_odd (v := v) hl' hm' (by omega)
      omega
    · omega
def idxs (p : Int → Bool) (gs : List Int) : List Int := (gs.zipIdx.filter fun q => p q.1).map fun q => ((q.2 : Nat) : Int)
def ats (gs : List Int) (is : List Int) : List Int := is.map (dig gs)
/-- marks at places -/
def marks (n : Nat) (is : List Int) : List Bool := (List.range n).map fun (i : Nat) => decide ((i : Int) ∈ is)
theorem idxs_mem {p : Int → Bool} {gs : List Int} {i : Int} : i ∈ idxs p gs ↔ ∃ k : Nat, i = k ∧ ∃ g, gs[k]? = some g ∧ p g = true := by
  unfold idxs
  constructor
  · intro h
    obtain ⟨q, hq, rfl⟩ := List.mem_map.mp h
    obtain ⟨h1, h2⟩ := List.mem_filter.mp hq
    exact ⟨q.2, rfl, q.1, by simpa using List.mem_zipIdx_iff_getElem?.mp h1, h2⟩
  · rintro ⟨k, rfl, g, h1, h2⟩
    exact List.mem_map.mpr ⟨(g, k), List.mem_filter.mpr ⟨List.mem_zipIdx_iff_getElem?.mpr h1, h2⟩, rfl⟩
theorem zipIdx_sorted (gs : List Int) : ∀ n, (gs.zipIdx n).Pairwise fun a b => a.2 < b.2 := by
  induction gs with
  | nil => intro n; exact .nil
  | cons g gs ih =>
    intro n
    rw [List.zipIdx_cons]
    refine List.pairwise_cons.mpr ⟨fun q hq => ?_, ih (n + 1)⟩
    have := List.le_snd_of_mem_zipIdx hq
    show n < q.2
    omega
theorem idxs_sorted (p : Int → Bool) (gs : List Int) : (idxs p gs).Pairwise (· < ·) := by
  unfold idxs
  refine List.pairwise_map.mpr (List.Pairwise.imp ?_ ((zipIdx_sorted gs 0).filter _))
  intro a b h
  omega
theorem idxs_lot (p : Int → Bool) (gs : List Int) : Lot gs.length (idxs p gs) := ⟨idxs_sorted p gs, fun i hi => by
  obtain ⟨k, rfl, g, h, _⟩ := idxs_mem.mp hi
  have := (List.getElem?_eq_some_iff.mp h).1
  omega⟩
/-- the sum of gains at the places of an ascending lot is the one by marks -/
theorem lot_cons {n : Nat} {is : List Int} (h : Lot (n + 1 : Nat) is) : ∃ js, Lot n js ∧ ((is = js.map (· + 1) ∧ (0 : Int) ∉ is) ∨ is = 0 :: js.map (· + 1)) := by
  have shift : ∀ ks : List Int, ks.Pairwise (· < ·) → (∀ m ∈ ks, 1 ≤ m ∧ m < (n + 1 : Nat)) → ∃ js, Lot n js ∧ ks = js.map (· + 1) := fun ks hs hb => by
    refine ⟨ks.map (· - 1), ⟨List.pairwise_map.mpr (hs.imp fun h => by omega), fun m hm => ?_⟩, ?_⟩
    · obtain ⟨k, hk, rfl⟩ := List.mem_map.mp hm
      have := hb k hk; omega
    · rw [List.map_map]
      exact (List.map_id' ks).symm.trans (List.map_congr_left fun x _ => by show x = x - 1 + 1; omega)
  cases is with
  | nil => exact ⟨[], ⟨.nil, fun m hm => by cases hm⟩, .inl ⟨rfl, by simp⟩⟩
  | cons a is =>
    obtain ⟨h1, h2⟩ := List.pairwise_cons.mp h.1
    have ha := h.2 a (List.mem_cons_self ..)
    by_cases hz : a = 0
    · subst hz
      obtain ⟨js, hj, e⟩ := shift is h2 fun m hm => by
        have := h1 m hm
        have := h.2 m (List.mem_cons_of_mem _ hm)
        omega
      exact ⟨js, hj, .inr (by rw [e])⟩
    · obtain ⟨js, hj, e⟩ := shift (a :: is) h.1 fun m hm => by
        have := h.2 m hm
        rcases List.mem_cons.mp hm with rfl | hm
        · omega
        · have := h1 m hm; omega
      refine ⟨js, hj, .inl ⟨e, fun z => ?_⟩⟩
      rcases List.mem_cons.mp z with z | z
      · exact hz z.symm
      · have := h1 0 z; omega
theorem marks_succ (n : Nat) (is : List Int) : marks (n + 1) is = decide ((0 : Int) ∈ is) :: (List.range n).map fun (i : Nat) => decide (((i : Int) + 1) ∈ is) := by
  unfold marks
  rw [List.range_succ_eq_map, List.map_cons, List.map_map]
  rfl
theorem marks_shift {n : Nat} {js is : List Int} (h : is = js.map (· + 1) ∨ is = 0 :: js.map (· + 1)) : ((List.range n).map fun (i : Nat) => decide (((i : Int) + 1) ∈ is)) = marks n js := by
  unfold marks
  refine List.map_congr_left fun i _ => decide_eq_decide.mpr ?_
  have e : ((i : Int) + 1) ∈ js.map (· + 1) ↔ (i : Int) ∈ js := ⟨fun h => by
    obtain ⟨x, hx, e⟩ := List.mem_map.mp h
    have : x = i := by omega
    exact this ▸ hx, fun h => List.mem_map.mpr ⟨_, h, rfl⟩⟩
  rcases h with rfl | rfl
  · exact e
  · rw [List.mem_cons]
    constructor
    · rintro (h | h)
      · omega
      · exact e.mp h
    · exact fun h => .inr (e.mpr h)
theorem lot_marks : ∀ {gs : List Int} {is : List Int}, Lot gs.length is → (ats gs is).sum = gsum (marks gs.length is) gs ∧ is.length = cnt (marks gs.length is)
  | [], is, h => by
    cases is with
    | nil => exact ⟨rfl, rfl⟩
    | cons a is => have := h.2 a (List.mem_cons_self ..); rw [List.length_nil] at this; omega
  | g :: gs, is, h => by
    obtain ⟨js, hj, e⟩ := lot_cons h
    obtain ⟨ih1, ih2⟩ := lot_marks (gs := gs) hj
    rw [List.length_cons, marks_succ]
    have sh : ats (g :: gs) (js.map (· + 1)) = ats gs js := by
      unfold ats
      rw [List.map_map]
      refine List.map_congr_left fun b hb => ?_
      have := (hj.2 b hb).1
      show dig (g :: gs) (b + 1) = dig gs b
      unfold dig
      rw [show (b + 1).toNat = b.toNat + 1 by omega]
      rfl
    rcases e with ⟨rfl, h0⟩ | rfl
    · rw [decide_eq_false h0, marks_shift (.inl rfl), sh, List.length_map]
      exact ⟨by rw [ih1]; show _ = (if false = true then g else 0) + _; rw [if_neg Bool.false_ne_true]; omega, by rw [ih2]; show _ = (if false = true then 1 else 0) + _; rw [if_neg Bool.false_ne_true]; omega⟩
    · rw [decide_eq_true (List.mem_cons_self ..), marks_shift (.inr rfl), List.length_cons, List.length_map]
      refine ⟨?_, by rw [ih2]; show _ = (if true = true then 1 else 0) + _; rw [if_pos rfl]; omega⟩
      show (dig (g :: gs) 0 :: ats (g :: gs) (js.map (· + 1))).sum = (if true = true then g else 0) + _
      rw [List.sum_cons, sh, ih1, if_pos rfl]
      rfl
theorem marks_len (n : Nat) (is : List Int) : (marks n is).length = n := by unfold marks; rw [List.length_map, List.length_range]
theorem marks_pos (gs : List Int) : marks gs.length (idxs (fun g => decide (g > 0)) gs) = posv gs := by
  refine List.ext_getElem (by rw [marks_len, posv_len]) fun i h1 h2 => ?_
  rw [posv_len] at h2
  have e1 : (marks gs.length (idxs (fun g => decide (g > 0)) gs))[i] = decide ((i : Int) ∈ idxs (fun g => decide (g > 0)) gs) := by simp [marks]
  have e2 : (posv gs)[i] = decide (gs[i] > 0) := by simp [posv]
  rw [e1, e2]
  refine decide_eq_decide.mpr ?_
  rw [idxs_mem]
  constructor
  · rintro ⟨k, e, g, hg, hp⟩
    have : k = i := by omega
    subst this
    rw [List.getElem?_eq_getElem h2] at hg
    cases hg
    exact of_decide_eq_true hp
  · exact fun h => ⟨i, rfl, _, List.getElem?_eq_getElem h2, decide_eq_true h⟩
def IsMin (M : Int) (ns : List Int) : Prop := M ∈ ns ∧ ∀ a ∈ ns, M ≤ a
def iabs (i : Int) : Int := if i < 0 then -i else i
def bestQ (gs : List Int) (odd M : Int) : List Int :=
  if ((idxs (fun g => decide (g > 0)) gs).length : Int) % 2 = odd then idxs (fun g => decide (g > 0)) gs
  else if ((idxs (fun g => decide (g > 0)) gs).filter fun i => decide (dig gs i = M)) ≠ [] then (idxs (fun g => decide (g > 0)) gs).filter fun i => decide (i ≠ ((idxs (fun g => decide (g > 0)) gs).filter fun i => decide (dig gs i = M)).getLastD 0)
  else srt (idxs (fun g => decide (g > 0)) gs ++ [(idxs (fun g => decide (g = -M)) gs).headD 0])
theorem filter_ne {f : Int → Int} {j : Int} : ∀ {P : List Int}, P.Nodup → j ∈ P → ((P.filter fun i => decide (i ≠ j)).map f).sum = (P.map f).sum - f j ∧ (P.filter fun i => decide (i ≠ j)).length + 1 = P.length
  | [], _, h => by cases h
  | a :: P, nd, h => by
    obtain ⟨h1, h2⟩ := List.nodup_cons.mp nd
    by_cases e : a = j
    · subst e
      have : (a :: P).filter (fun o => decide (o ≠ a)) = P := by
        rw [List.filter_cons_of_neg (by simp)]
        exact List.filter_eq_self.mpr fun x hx => decide_eq_true fun z => h1 (z ▸ hx)
      rw [this, List.map_cons, List.sum_cons, List.length_cons]
      exact ⟨by omega, rfl⟩
    · have hb : j ∈ P := (List.mem_cons.mp h).elim (fun z => absurd z.symm e) id
      obtain ⟨i1, i2⟩ := filter_ne (f := f) h2 hb
      rw [List.filter_cons_of_pos (by simp [e]), List.map_cons, List.sum_cons, List.map_cons, List.sum_cons, i1, List.length_cons, List.length_cons]
      exact ⟨by omega, by omega⟩
theorem dig_of {gs : List Int} {k : Nat} {g : Int} (h : gs[k]? = some g) : dig gs (k : Int) = g := by
  unfold dig
  rw [Int.toNat_natCast, List.getD_eq_getElem?_getD, h]; rfl
theorem best_ok {gs : List Int} {odd M : Int} (hM : IsMin M (gs.map iabs)) (ho : odd = 0 ∨ odd = 1) :
    Lot gs.length (bestQ gs odd M) ∧ ((bestQ gs odd M).length : Int) % 2 = odd ∧ ∀ v : List Bool, v.length = gs.length → ((cnt v : Nat) : Int) % 2 = odd → gsum v gs ≤ (ats gs (bestQ gs odd M)).sum := by
  have hP := idxs_lot (fun g => decide (g > 0)) gs
  obtain ⟨e1, e2⟩ := lot_marks hP
  rw [marks_pos] at e1 e2
  have hm : ∀ g ∈ gs, M ≤ g ∨ M ≤ -g := fun g hg => by
    have := hM.2 _ (List.mem_map.mpr ⟨g, hg, rfl⟩)
    unfold iabs at this
    split at this <;> omega
  obtain ⟨g0, hg0, hg1⟩ := List.mem_map.mp hM.1
  have hM0 : 0 ≤ M := by rw [← hg1]; unfold iabs; split <;> omega
  unfold bestQ
  generalize hPP : idxs (fun g => decide (g > 0)) gs = P at *
  split
  · rename_i h
    exact ⟨hP, h, fun v hv _ => by rw [e1]; exact gsum_le hv⟩
  · rename_i h
    have opt : ∀ v : List Bool, v.length = gs.length → ((cnt v : Nat) : Int) % 2 = odd → gsum v gs ≤ (ats gs P).sum - M := fun v hv hc => by
      rw [e1]
      exact gsum_odd hv hm (by omega)
    split
    · rename_i hS
      obtain ⟨j, hj⟩ : ∃ j, j = (P.filter fun i => decide (dig gs i = M)).getLastD 0 := ⟨_, rfl⟩
      have hjS : j ∈ P.filter fun i => decide (dig gs i = M) := by
        rw [hj, List.getLastD_eq_getLast?, List.getLast?_eq_some_getLast hS]
        exact List.getLast_mem hS
      rw [← hj]
      obtain ⟨hjP, hjM⟩ := List.mem_filter.mp hjS
      obtain ⟨f1, f2⟩ := filter_ne (f := dig gs) hP.nodup hjP
      refine ⟨⟨hP.1.filter _, fun m hmm => hP.2 m (List.mem_filter.mp hmm).1⟩, by omega, fun v hv hc => ?_⟩
      have := opt v hv hc
      unfold ats at this ⊢
      rw [f1, of_decide_eq_true hjM]
      exact this
    · rename_i hS
      have hS : (P.filter fun i => decide (dig gs i = M)) = [] := Classical.byContradiction fun z => hS z
      obtain ⟨k, hk, hgk⟩ := List.getElem_of_mem hg0
      have hk2 : gs[k]? = some g0 := by rw [List.getElem?_eq_getElem hk, hgk]
      have hneg : g0 = -M := by
        unfold iabs at hg1
        split at hg1
        · omega
        · by_cases z : g0 > 0
          · have : (k : Int) ∈ P.filter fun i => decide (dig gs i = M) := by
              refine List.mem_filter.mpr ⟨?_, decide_eq_true (by rw [dig_of hk2]; exact hg1)⟩
              rw [← hPP]
              exact idxs_mem.mpr ⟨k, rfl, g0, hk2, decide_eq_true z⟩
            rw [hS] at this; cases this
          · omega
      obtain ⟨j, hj⟩ : ∃ j, j = (idxs (fun g => decide (g = -M)) gs).headD 0 := ⟨_, rfl⟩
      have hjm : j ∈ idxs (fun g => decide (g = -M)) gs := by
        have hne : (k : Int) ∈ idxs (fun g => decide (g = -M)) gs := idxs_mem.mpr ⟨k, rfl, g0, hk2, decide_eq_true hneg⟩
        rw [hj]
        cases hi : idxs (fun g => decide (g = -M)) gs with
        | nil => rw [hi] at hne; cases hne
        | cons a l => exact List.mem_cons_self ..
      rw [← hj]
      obtain ⟨k2, rfl, g2, hg2, hp2⟩ := idxs_mem.mp hjm
      have hg2M : g2 = -M := of_decide_eq_true hp2
      have hjP : (k2 : Int) ∉ P := fun z => by
        rw [← hPP] at z
        obtain ⟨k3, e, g3, hg3, hp3⟩ := idxs_mem.mp z
        have : k3 = k2 := by omega
        subst this
        rw [hg2] at hg3; cases hg3
        have := of_decide_eq_true hp3
        omega
      have pm := srt_perm (P ++ [(k2 : Int)])
      have nd : (P ++ [(k2 : Int)]).Nodup := List.nodup_append.mpr ⟨hP.nodup, by simp, fun a ha b hb e => by
        rw [List.mem_singleton] at hb; subst hb; subst e; exact hjP ha⟩
      refine ⟨⟨lt_of_le_nodup (srt_le _) (pm.nodup_iff.mpr nd), fun m hmm => ?_⟩, ?_, fun v hv hc => ?_⟩
      · rcases List.mem_append.mp (pm.mem_iff.mp hmm) with z | z
        · exact hP.2 m z
        · rw [List.mem_singleton] at z; subst z
          have := (List.getElem?_eq_some_iff.mp hg2).1
          omega
      · rw [pm.length_eq, List.length_append]
        show ((P.length + 1 : Nat) : Int) % 2 = odd
        omega
      · have := opt v hv hc
        have e3 : (ats gs (srt (P ++ [(k2 : Int)]))).sum = (ats gs P).sum - M := by
          unfold ats
          rw [permI_sum (pm.map _), List.map_append, List.sum_append, List.map_singleton, List.sum_singleton, dig_of hg2, hg2M]
          omega
        rw [e3]; exact this
def mabs : List Int → Int
  | [] => 0
  | g :: gs => gs.foldl (fun m x => if iabs x < m then iabs x else m) (iabs g)
theorem mabs_fold : ∀ (gs : List Int) (m : Int), (gs.foldl (fun m x => if iabs x < m then iabs x else m) m = m ∨ gs.foldl (fun m x => if iabs x < m then iabs x else m) m ∈ gs.map iabs) ∧ gs.foldl (fun m x => if iabs x < m then iabs x else m) m ≤ m ∧ ∀ a ∈ gs.map iabs, gs.foldl (fun m x => if iabs x < m then iabs x else m) m ≤ a
  | [], m => ⟨.inl rfl, Int.le_refl m, fun a h => by cases h⟩
  | g :: gs, m => by
    obtain ⟨h1, h2, h3⟩ := mabs_fold gs (if iabs g < m then iabs g else m)
    rw [List.foldl_cons]
    generalize gs.foldl (fun m x => if iabs x < m then iabs x else m) (if iabs g < m then iabs g else m) = r at *
    refine ⟨?_, ?_, fun a ha => ?_⟩
    · rcases h1 with h1 | h1
      · split at h1
        · exact .inr (List.mem_cons.mpr (.inl h1))
        · exact .inl h1
      · exact .inr (List.mem_cons_of_mem _ h1)
    · split at h2 <;> omega
    · rcases List.mem_cons.mp ha with rfl | ha
      · split at h2 <;> omega
      · exact h3 a ha
theorem mabs_min {gs : List Int} (h : gs ≠ []) : IsMin (mabs gs) (gs.map iabs) := by
  cases gs with
  | nil => exact absurd rfl h
  | cons g gs =>
    obtain ⟨h1, h2, h3⟩ := mabs_fold gs (iabs g)
    refine ⟨?_, fun a ha => ?_⟩
    · rcases h1 with h1 | h1
      · exact List.mem_cons.mpr (.inl h1)
      · exact List.mem_cons_of_mem _ h1
    · rcases List.mem_cons.mp ha with rfl | ha
      · exact h2
      · exact h3 a ha
theorem IsMin.uniq {M N : Int} {ns : List Int} (h : IsMin M ns) (g : IsMin N ns) : M = N := by
  have := h.2 N g.1
  have := g.2 M h.1
  omega
/-- where no gain above 0 is least, some gain is its negative -/
theorem more_ne {gs : List Int} (h : gs ≠ []) (hS : ((idxs (fun g => decide (g > 0)) gs).filter fun i => decide (dig gs i = mabs gs)) = []) : idxs (fun g => decide (g = -mabs gs)) gs ≠ [] := by
  obtain ⟨g0, hg0, hg1⟩ := List.mem_map.mp (mabs_min h).1
  obtain ⟨k, hk, hgk⟩ := List.getElem_of_mem hg0
  have hk2 : gs[k]? = some g0 := by rw [List.getElem?_eq_getElem hk, hgk]
  have hneg : g0 = -mabs gs := by
    unfold iabs at hg1
    split at hg1
    · omega
    · by_cases z : g0 > 0
      · have : (k : Int) ∈ (idxs (fun g => decide (g > 0)) gs).filter fun i => decide (dig gs i = mabs gs) :=
          List.mem_filter.mpr ⟨idxs_mem.mpr ⟨k, rfl, g0, hk2, decide_eq_true z⟩, decide_eq_true (by rw [dig_of hk2]; exact hg1)⟩
        rw [hS] at this; cases this
      · omega
  intro z
  have : (k : Int) ∈ idxs (fun g => decide (g = -mabs gs)) gs := idxs_mem.mpr ⟨k, rfl, g0, hk2, decide_eq_true hneg⟩
  rw [z] at this; cases this
def bestP (gs : List Int) (odd : Int) : List Int := bestQ gs odd (mabs gs)
theorem bestP_ok {gs : List Int} {odd : Int} (h : gs ≠ []) (ho : odd = 0 ∨ odd = 1) :
    Lot gs.length (bestP gs odd) ∧ ((bestP gs odd).length : Int) % 2 = odd ∧ ∀ v : List Bool, v.length = gs.length → ((cnt v : Nat) : Int) % 2 = odd → gsum v gs ≤ (ats gs (bestP gs odd)).sum := best_ok (mabs_min h) ho
def gains (ts : List Int) (b : Int) : List Int := ts.map fun t => 2 * t - b
def wTop (ts : List Int) (b : Int) (c : List Int) : Int := (ats (gains (ats ts c) b) (bestP (gains (ats ts c) b) 1)).sum - (ats ts c).sum + b
def wLot (ts : List Int) (b : Int) (c : List Int) : List Int := ats c (bestP (gains (ats ts c) b) 1)
def letX (ts : List Int) (b : Int) (cs : List (List Int)) : Option (Nat × List Int) := match cs.findIdx? (fun c => decide (wTop ts b c > 0)) with
  | some i => some (i, wLot ts b (cs.getD i []))
  | none => none
/-- what a lot comes to, less what is let: times the bottom -/
def exc (v : List Bool) (ts : List Int) (b : Int) : Int := 2 * gsum v ts - ts.sum - ((cnt v : Nat) : Int) * b + b
theorem gsum_gains : ∀ {v : List Bool} {ts : List Int} {b : Int}, v.length = ts.length → gsum v (gains ts b) = 2 * gsum v ts - ((cnt v : Nat) : Int) * b
  | [], [], b, _ => by simp [gsum, cnt, gains]
  | x :: v, t :: ts, b, h => by
    have ih := gsum_gains (v := v) (ts := ts) (b := b) (by simpa using h)
    show (if x = true then 2 * t - b else 0) + gsum v (gains ts b) = 2 * ((if x = true then t else 0) + gsum v ts) - (((if x = true then 1 else 0) + cnt v : Nat) : Int) * b
    rw [ih]
    cases x with
    | true =>
      simp only [↓reduceIte]
      rw [show ((1 + cnt v : Nat) : Int) = 1 + (cnt v : Int) by omega, Int.add_mul]
      omega
    | false =>
      simp only [Bool.false_eq_true, ↓reduceIte]
      rw [show ((0 + cnt v : Nat) : Int) = (cnt v : Int) by omega]
      omega
theorem ats_len (gs is : List Int) : (ats gs is).length = is.length := List.length_map _
/-- the worst lot is one of an odd count, no other comes to more -/
theorem worst_ok {ts : List Int} {b : Int} {c : List Int} (h : c ≠ []) : (∀ v : List Bool, v.length = c.length → cnt v % 2 = 1 → exc v (ats ts c) b ≤ wTop ts b c) ∧
    ∃ is, Lot c.length is ∧ wLot ts b c = ats c is ∧ is.length % 2 = 1 ∧ exc (marks c.length is) (ats ts c) b = wTop ts b c := by
  have hl : (gains (ats ts c) b).length = c.length := by unfold gains; rw [List.length_map, ats_len]
  have hne : gains (ats ts c) b ≠ [] := fun z => h (List.length_eq_zero_iff.mp (by rw [← hl, z]; rfl))
  obtain ⟨h1, h2, h3⟩ := bestP_ok hne (.inr rfl)
  rw [hl] at h1 h3
  refine ⟨fun v hv hc => ?_, _, h1, rfl, by omega, ?_⟩
  · have := h3 v hv (by omega)
    rw [gsum_gains (by rw [ats_len]; exact hv)] at this
    unfold exc wTop
    omega
  · obtain ⟨e1, e2⟩ := lot_marks (gs := gains (ats ts c) b) (is := bestP (gains (ats ts c) b) 1) (by rw [hl]; exact h1)
    rw [hl, gsum_gains (by rw [marks_len, ats_len])] at e1
    unfold exc wTop
    omega
theorem kept_idx (p : Int → Bool) (gs : List Int) : ((enumD (gs.map D.int)).filter fun d => p (toI (sndD d))).map fstD = (idxs p gs).map D.int := by
  have e : enumD (gs.map D.int) = gs.zipIdx.map fun q => D.tup [.int (q.2 : Nat), .int q.1] := by
    unfold enumD
    rw [List.zipIdx_map, List.map_map]
    rfl
  rw [e, List.filter_map, List.map_map]
  unfold idxs
  rw [List.map_map]
  rfl
def lcms (rs : List (Int × Int)) : Nat := rs.foldl (fun m r => Nat.lcm m r.2.toNat) 1
def topsL (rs : List (Int × Int)) (L : Int) : List Int := rs.map fun r => r.1 * L.fdiv r.2
theorem lcms_step {rs : List (Int × Int)} {i : Nat} {r : Int × Int} (h : rs[i]? = some r) : lcms (rs.take (i + 1)) = Nat.lcm (lcms (rs.take i)) r.2.toNat := by
  unfold lcms
  rw [List.take_add_one, h, List.foldl_append]
  rfl
set_option exponentiation.threshold 20000 in
theorem lcms_lt {rs : List (Int × Int)} (h : ∀ r ∈ rs, r.2 < 2 ^ 500) : ∀ i, i ≤ rs.length → lcms (rs.take i) < 2 ^ (500 * i + 1)
  | 0, _ => by show 1 < 2 ^ 1; decide
  | i + 1, hi => by
    have ih := lcms_lt h i (by omega)
    have hr : rs[i]? = some rs[i] := List.getElem?_eq_getElem (by omega)
    rw [lcms_step hr]
    have h1 : Nat.lcm (lcms (rs.take i)) rs[i].2.toNat ≤ lcms (rs.take i) * rs[i].2.toNat := Nat.div_le_self _ _
    have h2 := h _ (List.getElem_mem (show i < rs.length by omega))
    have h3 : rs[i].2.toNat < 2 ^ 500 := by omega
    have h4 : lcms (rs.take i) * rs[i].2.toNat < 2 ^ (500 * i + 1) * 2 ^ 500 := Nat.mul_lt_mul'' ih h3
    rw [← Nat.pow_add, show 500 * i + 1 + 500 = 500 * (i + 1) + 1 by omega] at h4
    exact Nat.lt_of_le_of_lt h1 h4
theorem lcms_pos {rs : List (Int × Int)} (h : ∀ r ∈ rs, 1 ≤ r.2) : 0 < lcms rs := by
  have : ∀ (rs : List (Int × Int)) (m : Nat), 0 < m → (∀ r ∈ rs, 1 ≤ r.2) → 0 < rs.foldl (fun m r => Nat.lcm m r.2.toNat) m := by
    intro rs
    induction rs with
    | nil => intro m hm _; exact hm
    | cons r rs ih =>
      intro m hm h
      rw [List.foldl_cons]
      exact ih _ (Nat.lcm_pos hm (by have := h r (List.mem_cons_self ..); omega)) fun x hx => h x (List.mem_cons_of_mem _ hx)
  exact this rs 1 (by decide) h
theorem lcms_dvd {rs : List (Int × Int)} : ∀ r ∈ rs, r.2.toNat ∣ lcms rs := by
  have : ∀ (rs : List (Int × Int)) (m : Nat), m ∣ rs.foldl (fun m r => Nat.lcm m r.2.toNat) m ∧ ∀ r ∈ rs, r.2.toNat ∣ rs.foldl (fun m r => Nat.lcm m r.2.toNat) m := by
    intro rs
    induction rs with
    | nil => intro m; exact ⟨Nat.dvd_refl m, fun r h => by cases h⟩
    | cons r rs ih =>
      intro m
      rw [List.foldl_cons]
      obtain ⟨h1, h2⟩ := ih (Nat.lcm m r.2.toNat)
      refine ⟨Nat.dvd_trans (Nat.dvd_lcm_left _ _) h1, fun x hx => ?_⟩
      rcases List.mem_cons.mp hx with rfl | hx
      · exact Nat.dvd_trans (Nat.dvd_lcm_right _ _) h1
      · exact h2 x hx
  exact fun r hr => (this rs 1).2 r hr
end VL
set_option maxHeartbeats 2000000
namespace VL
open PySem PySem.Spec PyProof.Rows L2 MB
theorem gsum_mul (q : Int) : ∀ (v : List Bool) (ts : List Int), gsum v (ts.map (· * q)) = gsum v ts * q
  | [], _ => by simp [gsum]
  | _ :: _, [] => by simp [gsum]
  | x :: v, t :: ts => by
    show (if x = true then t * q else 0) + gsum v (ts.map (· * q)) = ((if x = true then t else 0) + gsum v ts) * q
    rw [gsum_mul q v ts, Int.add_mul]
    cases x <;> simp
theorem sum_mul (q : Int) : ∀ ts : List Int, (ts.map (· * q)).sum = ts.sum * q
  | [] => by simp
  | t :: ts => by rw [List.map_cons, List.sum_cons, List.sum_cons, sum_mul q ts, Int.add_mul]
theorem exc_mul (q : Int) (v : List Bool) (ts : List Int) (b : Int) : exc v (ts.map (· * q)) (b * q) = exc v ts b * q := by
  unfold exc
  rw [gsum_mul, sum_mul, ← Int.mul_assoc, ← Int.mul_assoc, Int.add_mul, Int.sub_mul, Int.sub_mul]
theorem ats_mul (q : Int) (ts c : List Int) : ats (ts.map (· * q)) c = (ats ts c).map (· * q) := by
  unfold ats
  rw [List.map_map]
  refine List.map_congr_left fun b _ => ?_
  show dig (ts.map (· * q)) b = dig ts b * q
  unfold dig
  rw [List.getD_eq_getElem?_getD, List.getD_eq_getElem?_getD, List.getElem?_map]
  cases ts[b.toNat]? <;> simp
/-- row's entries over b: each share's top times what b is of its bottom -/
def Over (rs : List (Int × Int)) (es : List Int) (b : Int) : Prop := es.length = rs.length ∧ 0 < b ∧ ∀ (i : Nat) (r : Int × Int) (e : Int), rs[i]? = some r → es[i]? = some e → r.2 ∣ b ∧ e = r.1 * (b / r.2)
theorem topsL_len (rs : List (Int × Int)) (L : Int) : (topsL rs L).length = rs.length := List.length_map _
theorem over_lcms {rs : List (Int × Int)} (h : ∀ r ∈ rs, 1 ≤ r.2) : Over rs (topsL rs (lcms rs)) (lcms rs) := by
  refine ⟨topsL_len _ _, by have := lcms_pos h; omega, fun i r e hr he => ?_⟩
  have hm := List.mem_of_getElem? hr
  have h1 := h r hm
  have hd := lcms_dvd r hm
  have hd2 : r.2 ∣ (lcms rs : Int) := by
    have := Int.natCast_dvd_natCast.mpr hd
    rwa [Int.toNat_of_nonneg (by omega)] at this
  refine ⟨hd2, ?_⟩
  unfold topsL at he
  rw [List.getElem?_map, hr] at he
  cases he
  show r.1 * (lcms rs : Int).fdiv r.2 = _
  rw [Int.fdiv_eq_ediv_of_nonneg _ (by omega)]
/-- rows over two bottoms of which one divides the other -/
theorem over_mul {rs : List (Int × Int)} {es fs : List Int} {b q : Int} (h : Over rs es b) (g : Over rs fs (b * q)) : fs = es.map (· * q) := by
  refine List.ext_getElem? fun i => ?_
  rw [List.getElem?_map]
  by_cases hi : i < rs.length
  · have hr : rs[i]? = some rs[i] := List.getElem?_eq_getElem hi
    have he : es[i]? = some (es[i]'(by have := h.1; omega)) := List.getElem?_eq_getElem _
    have hf : fs[i]? = some (fs[i]'(by have := g.1; omega)) := List.getElem?_eq_getElem _
    obtain ⟨d1, e1⟩ := h.2.2 i _ _ hr he
    obtain ⟨_, e2⟩ := g.2.2 i _ _ hr hf
    rw [he, hf]
    have hel : i < es.length := by have := h.1; omega
    show some _ = some (es[i] * q)
    rw [e1, e2, Int.mul_comm b q, Int.mul_ediv_assoc _ d1, Int.mul_assoc, Int.mul_comm q]
  · rw [List.getElem?_eq_none (by have := g.1; omega), List.getElem?_eq_none (by have := h.1; omega)]
    rfl
theorem over_any {rs : List (Int × Int)} {es fs : List Int} {b c : Int} (h : Over rs es b) (g : Over rs fs c) (v : List Bool) (k : List Int) : (exc v (ats es k) b > 0 ↔ exc v (ats fs k) c > 0) := by
  have m : ∀ {es fs : List Int} {b c : Int}, Over rs es b → Over rs fs c → ∃ hs, Over rs hs (b * c) ∧ hs = es.map (· * c) := fun {es fs b c} h g => by
    refine ⟨es.map (· * c), ⟨by rw [List.length_map]; exact h.1, Int.mul_pos h.2.1 g.2.1, fun i r e hr he => ?_⟩, rfl⟩
    rw [List.getElem?_map] at he
    cases hx : es[i]? with
    | none => rw [hx] at he; cases he
    | some x =>
      rw [hx] at he
      cases he
      obtain ⟨d1, e1⟩ := h.2.2 i r x hr hx
      refine ⟨Int.dvd_trans d1 (Int.dvd_mul_right _ _), ?_⟩
      show x * c = _
      rw [e1, Int.mul_comm b c, Int.mul_ediv_assoc _ d1, Int.mul_assoc, Int.mul_comm c]
  obtain ⟨h1, o1, e1⟩ := m h g
  obtain ⟨h2, o2, e2⟩ := m g h
  have e3 : h1 = h2 := by
    rw [Int.mul_comm c b] at o2
    have := over_mul (q := 1) (b := b * c) o1 (by rw [Int.mul_one]; exact o2)
    rw [this]
    simp
  have x1 := exc_mul c v (ats es k) b
  have x2 := exc_mul b v (ats fs k) c
  rw [← ats_mul] at x1 x2
  rw [← e1] at x1
  rw [← e2, ← e3, Int.mul_comm c b] at x2
  rw [x1] at x2
  have hb := h.2.1
  have hc := g.2.1
  constructor
  · intro hp
    have : exc v (ats es k) b * c > 0 := Int.mul_pos hp hc
    rw [x2] at this
    exact Int.pos_of_mul_pos_left this hb |> fun z => z
  · intro hp
    have : exc v (ats fs k) c * b > 0 := Int.mul_pos hp hb
    rw [← x2] at this
    exact Int.pos_of_mul_pos_left this hc |> fun z => z
theorem gsum_nonneg : ∀ (v : List Bool) {ts : List Int}, (∀ t ∈ ts, 0 ≤ t) → 0 ≤ gsum v ts ∧ gsum v ts ≤ ts.sum
  | [], ts, h => ⟨Int.le_refl 0, by
    show 0 ≤ ts.sum
    induction ts with
    | nil => exact Int.le_refl 0
    | cons t ts ih =>
      rw [List.sum_cons]
      have := h t (List.mem_cons_self ..)
      have := ih fun x hx => h x (List.mem_cons_of_mem _ hx)
      omega⟩
  | _ :: _, [], _ => ⟨Int.le_refl 0, Int.le_refl 0⟩
  | b :: v, t :: ts, h => by
    obtain ⟨h1, h2⟩ := gsum_nonneg v (ts := ts) fun x hx => h x (List.mem_cons_of_mem _ hx)
    have := h t (List.mem_cons_self ..)
    show 0 ≤ (if b = true then t else 0) + gsum v ts ∧ (if b = true then t else 0) + gsum v ts ≤ (t :: ts).sum
    rw [List.sum_cons]
    split <;> omega
theorem gsum_none : ∀ {v : List Bool} {ts : List Int}, cnt v = 0 → gsum v ts = 0
  | [], _, _ => rfl
  | _ :: _, [], _ => rfl
  | b :: v, t :: ts, h => by
    have h : (if b = true then 1 else 0) + cnt v = 0 := h
    show (if b = true then t else 0) + gsum v ts = 0
    cases b with
    | true => simp at h
    | false =>
      simp only [Bool.false_eq_true, ↓reduceIte] at h ⊢
      rw [gsum_none (by omega)]
      omega
theorem gsum_one : ∀ {v : List Bool} {ts : List Int}, v.length = ts.length → cnt v = 1 → ∃ t ∈ ts, gsum v ts = t
  | [], [], _, h => by cases h
  | b :: v, t :: ts, hl, h => by
    have h : (if b = true then 1 else 0) + cnt v = 1 := h
    show ∃ x ∈ t :: ts, (if b = true then t else 0) + gsum v ts = x
    cases b with
    | true =>
      simp only [↓reduceIte] at h ⊢
      rw [gsum_none (by omega)]
      exact ⟨t, List.mem_cons_self .., by omega⟩
    | false =>
      simp only [Bool.false_eq_true, ↓reduceIte] at h ⊢
      obtain ⟨x, hx, e⟩ := gsum_one (v := v) (ts := ts) (by simpa using hl) (by omega)
      exact ⟨x, List.mem_cons_of_mem _ hx, by omega⟩
/-- the lot of one place -/
theorem exc_one {ts : List Int} {b : Int} {i : Nat} (h : i < ts.length) : ∃ v : List Bool, v.length = ts.length ∧ cnt v % 2 = 1 ∧ exc v ts b = 2 * ts[i] - ts.sum := by
  have hL : Lot ts.length [(i : Int)] := ⟨List.pairwise_singleton _ _, fun m hm => by rw [List.mem_singleton] at hm; omega⟩
  obtain ⟨e1, e2⟩ := lot_marks hL
  refine ⟨marks ts.length [(i : Int)], marks_len _ _, by rw [← e2]; rfl, ?_⟩
  unfold exc
  rw [← e1, ← e2]
  have : (ats ts [(i : Int)]).sum = ts[i] := by
    unfold ats
    rw [List.map_singleton, List.sum_singleton, dig_of (List.getElem?_eq_getElem h)]
  rw [this]
  show 2 * ts[i] - ts.sum - ((1 : Nat) : Int) * b + b = _
  omega
theorem few_let {ts : List Int} {B : Int} (h0 : ∀ t ∈ ts, 0 ≤ t) (hB : 0 ≤ B) (hs : ts.sum ≤ 2 * B) (hc : ∀ t ∈ ts, 2 * t ≤ ts.sum) (v : List Bool) (hl : v.length = ts.length) (hv : cnt v % 2 = 1) : exc v ts B ≤ 0 := by
  obtain ⟨g0, g1⟩ := gsum_nonneg v h0
  unfold exc
  by_cases h1 : cnt v = 1
  · obtain ⟨t, ht, e⟩ := gsum_one hl h1
    have := hc t ht
    rw [h1, e]
    show 2 * t - ts.sum - ((1 : Nat) : Int) * B + B ≤ 0
    omega
  · have h3 : (3 : Int) ≤ (cnt v : Nat) := by omega
    have : 3 * B ≤ ((cnt v : Nat) : Int) * B := Int.mul_le_mul_of_nonneg_right h3 hB
    omega
def subR (rs : List (Int × Int)) (c : List Int) : List (Int × Int) := c.map fun b => rs.getD b.toNat (0, 1)
theorem subR_mem {rs : List (Int × Int)} {c : List Int} (hc : ∀ b ∈ c, 0 ≤ b ∧ b < (rs.length : Int)) {r : Int × Int} (h : r ∈ subR rs c) : r ∈ rs := by
  obtain ⟨b, hb, rfl⟩ := List.mem_map.mp h
  have := hc b hb
  rw [List.getD_eq_getElem?_getD, List.getElem?_eq_getElem (show b.toNat < rs.length by omega)]
  exact List.getElem_mem _
theorem over_sub {rs : List (Int × Int)} {es : List Int} {b : Int} {c : List Int} (h : Over rs es b) (hc : ∀ x ∈ c, 0 ≤ x ∧ x < (rs.length : Int)) : Over (subR rs c) (ats es c) b := by
  refine ⟨by rw [ats_len]; unfold subR; rw [List.length_map], h.2.1, fun i r e hr he => ?_⟩
  unfold subR at hr
  unfold ats at he
  rw [List.getElem?_map] at hr he
  cases hx : c[i]? with
  | none => rw [hx] at hr; cases hr
  | some x =>
    rw [hx] at hr he
    cases hr
    cases he
    have hb := hc x (List.mem_of_getElem? hx)
    have hl : x.toNat < rs.length := by omega
    have hl2 : x.toNat < es.length := by rw [h.1]; exact hl
    have e1 : rs.getD x.toNat (0, 1) = rs[x.toNat] := by rw [List.getD_eq_getElem?_getD, List.getElem?_eq_getElem hl]; rfl
    have e2 : dig es x = es[x.toNat] := by unfold dig; rw [List.getD_eq_getElem?_getD, List.getElem?_eq_getElem hl2]; rfl
    show (rs.getD x.toNat (0, 1)).2 ∣ b ∧ dig es x = (rs.getD x.toNat (0, 1)).1 * (b / (rs.getD x.toNat (0, 1)).2)
    rw [e1, e2]
    exact h.2.2 _ _ _ (List.getElem?_eq_getElem hl) (List.getElem?_eq_getElem hl2)
theorem ats_range (es : List Int) : ats es ((List.range es.length).map fun (i : Nat) => (i : Int)) = es := by
  unfold ats
  rw [List.map_map]
  refine List.ext_getElem (by simp) fun i h1 h2 => ?_
  rw [List.getElem_map, List.getElem_range]
  exact dig_of (List.getElem?_eq_getElem h2)
theorem over_any0 {rs : List (Int × Int)} {es fs : List Int} {b c : Int} (h : Over rs es b) (g : Over rs fs c) (v : List Bool) : (exc v es b > 0 ↔ exc v fs c > 0) := by
  have := over_any h g v ((List.range rs.length).map fun (i : Nat) => (i : Int))
  rw [← h.1, ats_range, h.1, ← g.1, ats_range] at this
  exact this
theorem lcms_ltK {rs : List (Int × Int)} {K : Nat} (h : ∀ r ∈ rs, r.2 < 2 ^ K) : ∀ i, i ≤ rs.length → lcms (rs.take i) < 2 ^ (K * i + 1)
  | 0, _ => by rw [Nat.mul_zero]; show 1 < 2 ^ 1; decide
  | i + 1, hi => by
    have ih := lcms_ltK h i (by omega)
    have hr : rs[i]? = some rs[i] := List.getElem?_eq_getElem (by omega)
    rw [lcms_step hr]
    have h1 : Nat.lcm (lcms (rs.take i)) rs[i].2.toNat ≤ lcms (rs.take i) * rs[i].2.toNat := Nat.div_le_self _ _
    have h2 := h _ (List.getElem_mem (show i < rs.length by omega))
    have h3 : rs[i].2.toNat < 2 ^ K := by
      have : (0 : Int) < 2 ^ K := Int.pow_pos (by decide)
      have e : ((2 ^ K : Nat) : Int) = 2 ^ K := by push_cast; rfl
      omega
    have h4 : lcms (rs.take i) * rs[i].2.toNat < 2 ^ (K * i + 1) * 2 ^ K := Nat.mul_lt_mul'' ih h3
    rw [← Nat.pow_add, show K * i + 1 + K = K * (i + 1) + 1 by rw [Nat.mul_add]; omega] at h4
    exact Nat.lt_of_le_of_lt h1 h4
def vm (k m : Nat) : List Bool := (List.range m).map fun i => decide (k / 2 ^ i % 2 = 1)
theorem vm_succ (k m : Nat) : vm k (m + 1) = decide (k % 2 = 1) :: vm (k / 2) m := by
  unfold vm
  rw [List.range_succ_eq_map, List.map_cons, List.map_map, Nat.pow_zero, Nat.div_one]
  congr 1
  refine List.map_congr_left fun i _ => ?_
  show decide (k / 2 ^ (i + 1) % 2 = 1) = _
  rw [Nat.pow_succ, Nat.mul_comm, Nat.div_div_eq_div_mul]
theorem vm_len (k m : Nat) : (vm k m).length = m := by unfold vm; rw [List.length_map, List.length_range]
theorem vm_of : ∀ v : List Bool, ∃ k, k < 2 ^ v.length ∧ vm k v.length = v
  | [] => ⟨0, by decide, rfl⟩
  | b :: v => by
    obtain ⟨k, h1, h2⟩ := vm_of v
    refine ⟨2 * k + (if b = true then 1 else 0), ?_, ?_⟩
    · rw [List.length_cons, Nat.pow_succ]; split <;> omega
    · rw [List.length_cons, vm_succ]
      cases b with
      | true =>
        simp only [↓reduceIte]
        rw [show (2 * k + 1) / 2 = k by omega, h2, decide_eq_true (by omega)]
      | false =>
        simp only [Bool.false_eq_true, ↓reduceIte]
        rw [show (2 * k + 0) / 2 = k by omega, h2, decide_eq_false (by omega)]
theorem map_range_succ {α : Type} (f : Nat → α) (m : Nat) : (List.range (m + 1)).map f = f 0 :: (List.range m).map fun i => f (i + 1) := by
  rw [List.range_succ_eq_map, List.map_cons, List.map_map]
  rfl
theorem vm_cnt : ∀ (m k : Nat), (((List.range m).map fun i => ((k / 2 ^ i % 2 : Nat) : Int)).sum) = ((cnt (vm k m) : Nat) : Int)
  | 0, _ => rfl
  | m + 1, k => by
    rw [map_range_succ, List.sum_cons, vm_succ]
    have e : ((List.range m).map fun i => ((k / 2 ^ (i + 1) % 2 : Nat) : Int)) = (List.range m).map fun i => ((k / 2 / 2 ^ i % 2 : Nat) : Int) :=
      List.map_congr_left fun i _ => by rw [Nat.pow_succ, Nat.mul_comm, Nat.div_div_eq_div_mul]
    rw [e, vm_cnt m (k / 2), Nat.pow_zero, Nat.div_one]
    show _ = (((if decide (k % 2 = 1) = true then 1 else 0) + cnt (vm (k / 2) m) : Nat) : Int)
    simp only [decide_eq_true_eq]
    split <;> omega
theorem vm_sum : ∀ (ts : List Int) (k : Nat), ((List.range ts.length).map fun (i : Nat) => if k / 2 ^ i % 2 = 1 then dig ts (i : Int) else -dig ts (i : Int)).sum = 2 * gsum (vm k ts.length) ts - ts.sum
  | [], _ => rfl
  | t :: ts, k => by
    rw [List.length_cons, map_range_succ, List.sum_cons, vm_succ, List.sum_cons]
    have e : ((List.range ts.length).map fun (i : Nat) => if k / 2 ^ (i + 1) % 2 = 1 then dig (t :: ts) ((i + 1 : Nat) : Int) else -dig (t :: ts) ((i + 1 : Nat) : Int)) = (List.range ts.length).map fun (i : Nat) => if k / 2 / 2 ^ i % 2 = 1 then dig ts (i : Int) else -dig ts (i : Int) :=
      List.map_congr_left fun i _ => by
        rw [Nat.pow_succ, Nat.mul_comm, Nat.div_div_eq_div_mul]
        rfl
    rw [e, vm_sum ts (k / 2), Nat.pow_zero, Nat.div_one]
    show (if k % 2 = 1 then t else -t) + (2 * gsum (vm (k / 2) ts.length) ts - ts.sum) = 2 * ((if decide (k % 2 = 1) = true then t else 0) + gsum (vm (k / 2) ts.length) ts) - (t + ts.sum)
    simp only [decide_eq_true_eq]
    split <;> omega
theorem gsum_take : ∀ {v : List Bool} {ts : List Int} {j : Nat} {b : Bool} {t : Int}, v[j]? = some b → ts[j]? = some t → 2 * gsum (v.take (j + 1)) (ts.take (j + 1)) - (ts.take (j + 1)).sum = 2 * gsum (v.take j) (ts.take j) - (ts.take j).sum + (if b = true then t else -t)
  | [], _, _, _, _, h, _ => by simp at h
  | _ :: _, [], _, _, _, _, h => by simp at h
  | x :: v, y :: ts, 0, b, t, h, g => by
    have h : x = b := by simpa using h
    have g : y = t := by simpa using g
    subst h; subst g
    rw [List.take_succ_cons, List.take_succ_cons, List.take_zero, List.take_zero, List.take_zero, List.sum_cons]
    show 2 * ((if x = true then y else 0) + gsum [] []) - (y + ([] : List Int).sum) = 2 * gsum [] [] - ([] : List Int).sum + _
    show 2 * ((if x = true then y else 0) + 0) - (y + 0) = 2 * 0 - 0 + _
    split <;> omega
  | x :: v, y :: ts, j + 1, b, t, h, g => by
    have ih := gsum_take (v := v) (ts := ts) (j := j) (b := b) (t := t) (by simpa using h) (by simpa using g)
    rw [List.take_succ_cons, List.take_succ_cons, List.take_succ_cons, List.take_succ_cons, List.sum_cons, List.sum_cons]
    show 2 * ((if x = true then y else 0) + gsum (v.take (j + 1)) (ts.take (j + 1))) - (y + (ts.take (j + 1)).sum) = 2 * ((if x = true then y else 0) + gsum (v.take j) (ts.take j)) - (y + (ts.take j).sum) + _
    omega
theorem marks_at {n i : Nat} {is : List Int} (h : i < n) : (marks n is)[i]? = some (decide ((i : Int) ∈ is)) := by
  unfold marks
  rw [List.getElem?_map, List.getElem?_range h]
  rfl
/-- in a list without alikes an item stands at a place exactly if the place is named -/
theorem mem_ats {c is : List Int} (nd : c.Nodup) (hi : Lot c.length is) {k : Nat} {b : Int} (h : c[k]? = some b) : b ∈ ats c is ↔ (k : Int) ∈ is := by
  have hk : k < c.length := (List.getElem?_eq_some_iff.mp h).1
  unfold ats
  constructor
  · intro hm
    obtain ⟨i, him, e⟩ := List.mem_map.mp hm
    have hb := hi.2 i him
    have hl : i.toNat < c.length := by omega
    have e2 : dig c i = c[i.toNat] := by unfold dig; rw [List.getD_eq_getElem?_getD, List.getElem?_eq_getElem hl]; rfl
    have e3 : c[k] = b := by rw [List.getElem?_eq_getElem hk] at h; exact Option.some.inj h
    have : i.toNat = k := (List.getElem_inj nd).mp (by rw [← e2, e, e3])
    have : i = (k : Int) := by omega
    exact this ▸ him
  · intro hm
    exact List.mem_map.mpr ⟨_, hm, dig_of h⟩
end VL
set_option maxHeartbeats 2000000
namespace VL
open PySem PySem.Spec PyProof.Rows L2 MB
def lotLe (a b : List Int) : Bool := decide (a.length < b.length ∨ (a.length = b.length ∧ a ≤ b))
abbrev lotD (ns : List Int) : D := .tup (ns.map D.int)
def lotKp : D → PyData
  | .tup xs => .tuple [.int (xs.length : Nat), .tuple (pInts (xs.map toI))]
  | _ => .tuple [.int 0, .tuple []]
def lotKd (d : D) : D := match d with
  | .tup xs => .tup [.int (xs.length : Nat), d]
  | _ => d
theorem toI_ints (ns : List Int) : (ns.map D.int).map toI = ns := by rw [List.map_map]; exact (List.map_congr_left fun _ _ => rfl).trans (List.map_id ns)
theorem lotKp_lot (ns : List Int) : lotKp (lotD ns) = .tuple [.int (ns.length : Nat), .tuple (pInts ns)] := by
  show PyData.tuple [.int ((ns.map D.int).length : Nat), .tuple (pInts ((ns.map D.int).map toI))] = _
  rw [toI_ints, List.length_map]
theorem lotKd_lot (ns : List Int) : lotKd (lotD ns) = .tup [.int (ns.length : Nat), lotD ns] := by
  show D.tup [.int ((ns.map D.int).length : Nat), _] = _
  rw [List.length_map]
theorem lot_pd (O : Oh) (ns : List Int) : PD O (lotKd (lotD ns)) (lotKp (lotD ns)) := by
  rw [lotKp_lot, lotKd_lot]
  exact .tup (.cons (.int _) (.cons (.tup (pd_ints ns)) .nil))
theorem lot_alike (ls : List (List Int)) : PySem.W.AllAlike ((ls.map lotD).map lotKp) := by
  rw [List.map_map]
  refine PySem.W.AllAlike.of fun b b' => ?_
  show PySem.W.alike (lotKp (lotD b)) (lotKp (lotD b')) = true
  rw [lotKp_lot, lotKp_lot]
  have := PySem.W.alike_ints b b'
  simp only [PySem.W.alike, PySem.W.alikeAll, Bool.and_true, Bool.true_and]
  simpa using this
theorem lot_sortable (ls : List (List Int)) : PySem.W.Sortable ((ls.map lotD).map lotKp) := by
  rw [List.map_map]
  refine PySem.W.Sortable.tuples fun b => ⟨.int (b.length : Nat), [.tuple (pInts b)], ?_⟩
  exact lotKp_lot b
theorem lot_depth {ls : List (List Int)} : ∀ d ∈ ls.map lotD, (lotKp d).depth ≤ 8 := fun d hd => by
  obtain ⟨b, _, rfl⟩ := List.mem_map.mp hd
  rw [lotKp_lot]
  have h := PySem.W.depth_ints b
  simp only [PyData.depth, PyData.depthAll]
  rw [h]
  decide
theorem dataLt_lot (a b : List Int) : PySem.W.dataLt (lotKp (lotD a)) (lotKp (lotD b)) = decide (a.length < b.length ∨ (a.length = b.length ∧ a < b)) := by
  rw [lotKp_lot, lotKp_lot, PySem.W.dataLt_pair (by simp [PySem.W.alike]) (by have := PySem.W.alike_ints a b; simpa [PySem.W.alike] using this), PySem.W.dataLt_int, PySem.W.dataLt_tuple]
  have e1 : PyData.eqv (.tuple (pInts a)) (.tuple (pInts b)) = decide (a = b) := eqv_ints a b
  have e2 := PySem.W.dataLt_ints a b
  unfold PySem.W.rowLt at e2
  rw [e1, e2]
  simp only [PyData.eqv, beq_iff_eq]
  by_cases h1 : a.length = b.length
  · rw [if_pos (by omega)]
    by_cases h2 : a = b
    · subst h2
      simp
    · simp [h1, h2]
  · rw [if_neg (by omega)]
    exact decide_eq_decide.mpr (by omega)
theorem lotLe_data (a b : List Int) : PySem.W.dataLe false lotKp (lotD a) (lotD b) = lotLe a b := by
  show (!PySem.W.dataLt (lotKp (lotD b)) (lotKp (lotD a))) = _
  rw [dataLt_lot]
  unfold lotLe
  by_cases h : b.length < a.length ∨ (b.length = a.length ∧ b < a)
  · have h' : ¬ (a.length < b.length ∨ (a.length = b.length ∧ a ≤ b)) := by
      rintro (z | ⟨z1, z2⟩)
      · omega
      · rcases h with h | ⟨_, h⟩
        · omega
        · exact List.not_lt.mpr z2 h
    rw [decide_eq_true h, decide_eq_false h']; rfl
  · have h' : a.length < b.length ∨ (a.length = b.length ∧ a ≤ b) := by
      by_cases z : a.length < b.length
      · exact .inl z
      · by_cases z2 : a.length = b.length
        · exact .inr ⟨z2, List.not_lt.mp fun q => h (.inr ⟨z2.symm, q⟩)⟩
        · exact absurd (.inl (by omega)) h
    rw [decide_eq_false h, decide_eq_true h']; rfl
theorem lots_sort (ls : List (List Int)) : (ls.map lotD).mergeSort (PySem.W.dataLe false lotKp) = (ls.mergeSort lotLe).map lotD :=
  (List.map_mergeSort (f := lotD) (r := lotLe) (s := PySem.W.dataLe false lotKp) fun a _ b _ => (lotLe_data a b).symm).symm
theorem lotLe_total (a b : List Int) : (lotLe a b || lotLe b a) = true := by
  unfold lotLe
  rw [Bool.or_eq_true, decide_eq_true_eq, decide_eq_true_eq]
  by_cases h1 : a.length < b.length
  · exact .inl (.inl h1)
  · by_cases h2 : b.length < a.length
    · exact .inr (.inl h2)
    · have h3 : a.length = b.length := by omega
      rcases List.le_total a b with z | z
      · exact .inl (.inr ⟨h3, z⟩)
      · exact .inr (.inr ⟨h3.symm, z⟩)
theorem lotLe_trans (a b c : List Int) (h : lotLe a b = true) (g : lotLe b c = true) : lotLe a c = true := by
  unfold lotLe at *
  rw [decide_eq_true_eq] at *
  rcases h with h | ⟨h, h'⟩
  · rcases g with g | ⟨g, _⟩
    · exact .inl (by omega)
    · exact .inl (by omega)
  · rcases g with g | ⟨g, g'⟩
    · exact .inl (by omega)
    · exact .inr ⟨by omega, List.le_trans h' g'⟩
theorem lotLe_anti {a b : List Int} (h : lotLe a b = true) (g : lotLe b a = true) : a = b := by
  unfold lotLe at *
  rw [decide_eq_true_eq] at *
  rcases h with h | ⟨h, h'⟩
  · rcases g with g | ⟨g, _⟩ <;> omega
  · rcases g with g | ⟨g, g'⟩
    · omega
    · exact List.le_antisymm h' g'
/-- two rows in order with the same items are one -/
theorem perm_sorted {α : Type} {le : α → α → Bool} (anti : ∀ a b, le a b = true → le b a = true → a = b) : ∀ {xs ys : List α}, xs.Perm ys → xs.Pairwise (fun a b => le a b = true) → ys.Pairwise (fun a b => le a b = true) → xs = ys
  | [], ys, p, _, _ => (List.nil_perm.mp p).symm
  | x :: xs, [], p, _, _ => absurd (List.perm_nil.mp p) (by simp)
  | x :: xs, y :: ys, p, h, g => by
    obtain ⟨h1, h2⟩ := List.pairwise_cons.mp h
    obtain ⟨g1, g2⟩ := List.pairwise_cons.mp g
    have e : x = y := by
      have m1 : x ∈ y :: ys := p.subset (List.mem_cons_self ..)
      have m2 : y ∈ x :: xs := p.symm.subset (List.mem_cons_self ..)
      rcases List.mem_cons.mp m1 with z | z
      · exact z
      · rcases List.mem_cons.mp m2 with z2 | z2
        · exact z2.symm
        · exact anti _ _ (h1 _ z2) (g1 _ z)
    subst e
    rw [perm_sorted anti (List.perm_cons x |>.mp p) h2 g2]
theorem sort_filter (p : List Int → Bool) (ls : List (List Int)) : (ls.mergeSort lotLe).filter p = (ls.filter p).mergeSort lotLe :=
  perm_sorted (fun a b => lotLe_anti) (((List.mergeSort_perm ls lotLe).filter p).trans (List.mergeSort_perm _ _).symm) ((List.pairwise_mergeSort lotLe_trans lotLe_total ls).filter p) (List.pairwise_mergeSort lotLe_trans lotLe_total _)
/-- all parts of a lot, as they are made -/
def subsL (c : List Int) : List (List Int) := c.foldl (fun L b => L ++ L.map (· ++ [b])) [[]]
theorem subsL_app (c : List Int) (b : Int) : subsL (c ++ [b]) = subsL c ++ (subsL c).map (· ++ [b]) := by
  unfold subsL
  rw [List.foldl_append]; rfl
theorem snoc_ind {α : Type} {p : List α → Prop} (h0 : p []) (h1 : ∀ xs x, p xs → p (xs ++ [x])) (l : List α) : p l := by
  have h : ∀ l : List α, p l.reverse := by
    intro l
    induction l with
    | nil => exact h0
    | cons x l ih => rw [List.reverse_cons]; exact h1 _ _ ih
  have := h l.reverse
  rwa [List.reverse_reverse] at this
theorem subsL_len (c : List Int) : (subsL c).length = 2 ^ c.length := by
  refine snoc_ind (p := fun c => (subsL c).length = 2 ^ c.length) rfl (fun c b ih => ?_) c
  rw [subsL_app, List.length_append, List.length_map, ih, List.length_append, List.length_singleton, Nat.pow_succ]; omega
theorem subsL_mem {c l : List Int} : l ∈ subsL c ↔ l.Sublist c := by
  refine snoc_ind (p := fun c => ∀ l, l ∈ subsL c ↔ l.Sublist c) (fun l => ?_) (fun c b ih l => ?_) c l
  · show l ∈ [[]] ↔ _
    rw [List.mem_singleton, List.sublist_nil]
  · rw [subsL_app, List.mem_append, List.mem_map]
    constructor
    · rintro (h | ⟨m, h, rfl⟩)
      · exact ((ih _).mp h).trans (List.sublist_append_left c [b])
      · exact ((ih _).mp h).append (List.Sublist.refl _)
    · intro h
      obtain ⟨l1, l2, rfl, h1, h2⟩ := List.sublist_append_iff.mp h
      have h3 : l2 = [] ∨ l2 = [b] := by
        cases h2 with
        | cons _ q => exact .inl (List.sublist_nil.mp q)
        | cons_cons _ q => exact .inr (by rw [List.sublist_nil.mp q])
      rcases h3 with rfl | rfl
      · exact .inl (by rw [List.append_nil]; exact (ih _).mpr h1)
      · exact .inr ⟨l1, (ih _).mpr h1, rfl⟩
def oddL (l : List Int) : Bool := decide ((l.length : Int) % 2 = 1)
/-- the odd lots of a check, in the order of lots -/
def odds (c : List Int) : List (List Int) := ((subsL c).filter oddL).mergeSort lotLe
def lots (c : List Int) : List (List Int) := (subsL c).mergeSort lotLe
theorem odds_lots (c : List Int) : (lots c).filter oddL = odds c := sort_filter oddL (subsL c)
theorem odds_mem {c l : List Int} : l ∈ odds c ↔ l.Sublist c ∧ (l.length : Int) % 2 = 1 := by
  unfold odds
  rw [List.mem_mergeSort, List.mem_filter, subsL_mem]
  unfold oddL
  rw [decide_eq_true_eq]
theorem odds_sorted (c : List Int) : (odds c).Pairwise (fun a b => lotLe a b = true) := List.pairwise_mergeSort lotLe_trans lotLe_total _
/-- all rows of digits, upwards -/
def digs : Nat → List (List Int)
  | 0 => [[]]
  | n + 1 => (digs n).flatMap fun r => [r ++ [0], r ++ [1]]
theorem digs_len : ∀ n, (digs n).length = 2 ^ n
  | 0 => rfl
  | n + 1 => by
    have e : ∀ L : List (List Int), (L.flatMap fun r => [r ++ [(0 : Int)], r ++ [1]]).length = 2 * L.length := fun L => by
      induction L with
      | nil => rfl
      | cons x L ih => rw [List.flatMap_cons, List.length_append, ih, List.length_cons, List.length_cons, List.length_cons, List.length_nil]; omega
    show ((digs n).flatMap _).length = _
    rw [e, digs_len n, Nat.pow_succ]; omega
theorem digs_mem : ∀ (n : Nat) (r : List Int), r ∈ digs n → r.length = n ∧ ∀ d ∈ r, d = 0 ∨ d = 1
  | 0, r, h => by
    rw [List.mem_singleton.mp h]
    exact ⟨rfl, fun _ h => by cases h⟩
  | n + 1, r, h => by
    obtain ⟨q, hq, hr⟩ := List.mem_flatMap.mp h
    obtain ⟨h1, h2⟩ := digs_mem n q hq
    simp only [List.mem_cons, List.not_mem_nil, or_false] at hr
    rcases hr with rfl | rfl
    · refine ⟨by rw [List.length_append, h1]; rfl, fun d hd => ?_⟩
      rcases List.mem_append.mp hd with z | z
      · exact h2 d z
      · exact .inl (List.mem_singleton.mp z)
    · refine ⟨by rw [List.length_append, h1]; rfl, fun d hd => ?_⟩
      rcases List.mem_append.mp hd with z | z
      · exact h2 d z
      · exact .inr (List.mem_singleton.mp z)
theorem digs_zero : ∀ n, List.replicate n (0 : Int) ∈ digs n
  | 0 => List.mem_singleton.mpr rfl
  | n + 1 => List.mem_flatMap.mpr ⟨_, digs_zero n, by rw [List.replicate_succ']; exact List.mem_cons_self ..⟩
def evenL (r : List Int) : Bool := decide (r.sum % 2 = 0)
theorem sum_snoc (r : List Int) (d : Int) : (r ++ [d]).sum = r.sum + d := by rw [List.sum_append]; simp
theorem digs_even (n : Nat) : (digs (n + 1)).filter evenL = (digs n).map fun r => r ++ [r.sum % 2] := by
  have e : ∀ L : List (List Int), (L.flatMap fun r => [r ++ [(0 : Int)], r ++ [1]]).filter evenL = L.map fun r => r ++ [r.sum % 2] := fun L => by
    induction L with
    | nil => rfl
    | cons x L ih =>
      rw [List.flatMap_cons, List.filter_append, ih, List.map_cons]
      have h0 : evenL (x ++ [0]) = decide (x.sum % 2 = 0) := by unfold evenL; rw [sum_snoc, Int.add_zero]
      have h1 : evenL (x ++ [1]) = decide (x.sum % 2 = 1) := by unfold evenL; rw [sum_snoc]; exact decide_eq_decide.mpr (by omega)
      rcases Int.emod_two_eq x.sum with z | z
      · rw [List.filter_cons, h0, List.filter_cons, h1, decide_eq_true z, decide_eq_false (show ¬ x.sum % 2 = 1 by omega), z]; rfl
      · rw [List.filter_cons, h0, List.filter_cons, h1, decide_eq_false (show ¬ x.sum % 2 = 0 by omega), decide_eq_true z, z]; rfl
  exact e (digs n)
end VL
set_option maxHeartbeats 2000000
namespace VL
open PySem PySem.Spec PyProof.Rows L2 MB
section
variable {c : Cz} {ρ : En} {O : Oh}
/-- [x for x in xs if ..]: some of the items, what is owned stays -/
theorem ln_sub {wi : TI} {g : TG} {tt : TT} {te : TE} {vs : List Nat} {Q : List D → Oh → Prop}
    (q : LI c wi ρ O fun ds G O1 => ds.length ≤ 100000 ∧ (∀ O2, Ext O1 O2 → G O2) ∧
      (∀ (i : Nat) (d : D) (O2 : Oh), ds[i]? = some d → Ext O1 O2 → LG c g vs d (wipeE ρ vs) O2 fun ρ2 O3 => LT c tt ρ2 O3 fun b O4 => O4 = O2 ∧ LE c te ρ2 O4 fun y O5 => y = d ∧ O5 = O2) ∧
      ∀ ys : List D, ys.Sublist ds → Q ys O1) : LN c (tLc wi g tt te vs) ρ O Q := ln_lc fun F H σ rs s z Q' k => q F H σ rs s z Q' fun F1 H1 O1 J ds G s1 st1 dw ⟨hl, hG, hs, hd⟩ => k F1 H1 O1 J ds G s1 st1 dw fun L hL => by
    refine ⟨fun i acc O2 => i ≤ ds.length ∧ acc.Sublist (ds.take i) ∧ O2 = updO O1 L (.lst acc), ⟨Nat.zero_le _, by simp, rfl⟩, ?_, ?_, ?_⟩
    · rintro i acc O2 ⟨_, _, rfl⟩
      exact ⟨hG _ (ext_new hL), updO_same⟩
    · rintro i d acc O2 e ⟨hi0, ea, rfl⟩
      have hi : i < ds.length := (List.getElem?_eq_some_iff.mp e).1
      intro F3 H3 σ3 v3 rs3 st3 rv3 z3 Q3 k3
      refine hs i d _ e (ext_new hL) F3 H3 σ3 v3 rs3 st3 rv3 z3 Q3 fun F4 H4 O4 σ4 ρ4 s4 rs4 st4 w4 q4 => k3 F4 H4 O4 σ4 ρ4 s4 rs4 st4 w4 ?_
      intro F5 H5 σ5 rs5 st5 z5 Q5 k5
      refine q4 F5 H5 σ5 rs5 st5 z5 Q5 fun F6 H6 O6 b s6 st6 ⟨e6, q6⟩ => k5 F6 H6 O6 b s6 st6 ?_
      subst e6
      have et : ds.take (i + 1) = ds.take i ++ [d] := by rw [List.take_add_one, e]; rfl
      have el := ea.length_le
      rw [List.length_take] at el
      cases b with
      | false =>
        rw [if_neg Bool.false_ne_true]
        refine ⟨hi, ?_, rfl⟩
        rw [et]
        exact ea.trans (List.sublist_append_left _ _)
      | true =>
        rw [if_pos rfl]
        intro F7 H7 σ7 rs7 st7 z7 Q7 k7
        refine q6 F7 H7 σ7 rs7 st7 z7 Q7 fun F8 H8 O8 v8 y8 s8 st8 rd8 ⟨e8, e9⟩ => k7 F8 H8 O8 v8 y8 s8 st8 rd8 ?_
        subst e8 e9
        refine ⟨Nat.lt_of_lt_of_le (by omega) (le_line hl), updO_same, hi, ?_, by rw [updO_updO]⟩
        rw [et]
        exact ea.append (List.Sublist.refl _)
    · rintro acc O2 ⟨_, ea, rfl⟩
      rw [delO_updO hL]
      rw [List.take_length] at ea
      exact hd acc ea
theorem k_int1b {b : Bool} {Q : D → Oh → Prop} (q : Q (.int (if b then 1 else 0)) O) : CAR c rInt1 [.bl b] O Q := fun F H vs s r x Q' k => by
  cases r with
  | cons a t => cases t; cases a; exact .inr ⟨b, rfl, k F H O _ _ (Same.refl F) s (.int _) q⟩
end
end VL
set_option maxHeartbeats 2000000
namespace VL
open PySem PySem.Spec PyProof.Rows L2 MB
def Dq (g : Int → Int) (q : Int → Bool) (c : List Int) : List Int := c.filter fun b => q b != decide (g b > 0)
theorem cost_eq (g : Int → Int) (q : Int → Bool) : ∀ c : List Int, ((c.filter fun b => decide (g b > 0)).map g).sum = ((c.filter q).map g).sum + ((Dq g q c).map fun b => iabs (g b)).sum
  | [] => rfl
  | a :: c => by
    have ih := cost_eq g q c
    unfold Dq at *
    by_cases h1 : g a > 0
    · have e : iabs (g a) = g a := by unfold iabs; rw [if_neg (by omega)]
      cases h2 : q a <;> simp [List.filter_cons, h1, h2, e] at ih ⊢ <;> omega
    · have e : iabs (g a) = -g a := by unfold iabs; split <;> omega
      cases h2 : q a <;> simp [List.filter_cons, h1, h2, e] at ih ⊢ <;> omega
theorem count_eq (g : Int → Int) (q : Int → Bool) : ∀ c : List Int, (c.filter q).length + ((Dq g q c).filter fun b => decide (g b > 0)).length = (c.filter fun b => decide (g b > 0)).length + ((Dq g q c).filter fun b => !decide (g b > 0)).length
  | [] => rfl
  | a :: c => by
    have ih := count_eq g q c
    unfold Dq at *
    by_cases h1 : g a > 0
    · cases h2 : q a <;> simp [List.filter_cons, h1, h2] at * <;> omega
    · cases h2 : q a <;> simp [List.filter_cons, h1, h2] at * <;> omega
theorem split_len {α : Type} (p : α → Bool) : ∀ l : List α, (l.filter p).length + (l.filter fun b => !p b).length = l.length
  | [] => rfl
  | a :: l => by
    have ih := split_len p l
    cases h : p a <;> simp [List.filter_cons, h] <;> omega
theorem cost_ge {g : Int → Int} {M : Int} : ∀ {D : List Int}, (∀ d ∈ D, M ≤ iabs (g d)) → M * (D.length : Int) ≤ (D.map fun b => iabs (g b)).sum
  | [], _ => by simp
  | a :: D, h => by
    have ih := cost_ge (D := D) fun d hd => h d (List.mem_cons_of_mem _ hd)
    have := h a (List.mem_cons_self ..)
    rw [List.map_cons, List.sum_cons, List.length_cons, show ((D.length + 1 : Nat) : Int) = (D.length : Int) + 1 from rfl, Int.mul_add M]
    omega
theorem iabs_nn (i : Int) : 0 ≤ iabs i := by unfold iabs; split <;> omega
theorem cost_one {g : Int → Int} : ∀ {D : List Int} {d : Int}, d ∈ D → iabs (g d) ≤ (D.map fun b => iabs (g b)).sum
  | a :: D, d, h => by
    have nn : ∀ D : List Int, 0 ≤ (D.map fun b => iabs (g b)).sum := fun D => by
      induction D with
      | nil => exact Int.le_refl _
      | cons a D ih => rw [List.map_cons, List.sum_cons]; have := iabs_nn (g a); omega
    rw [List.map_cons, List.sum_cons]
    rcases List.mem_cons.mp h with rfl | h
    · have := nn D; omega
    · have := cost_one (g := g) h; have := iabs_nn (g a); omega
theorem sorted_ext {a b : List Int} (ha : a.Pairwise (· < ·)) (hb : b.Pairwise (· < ·)) (h : ∀ x, x ∈ a ↔ x ∈ b) : a = b :=
  perm_sorted (le := fun a b => decide (a ≤ b)) (fun a b h1 h2 => by simp only [decide_eq_true_eq] at h1 h2; omega) ((List.perm_ext_iff_of_nodup (ha.imp fun h => by omega) (hb.imp fun h => by omega)).mpr h) (ha.imp fun h => decide_eq_true (by omega)) (hb.imp fun h => decide_eq_true (by omega))
theorem filter_mem {c l : List Int} (hs : c.Pairwise (· < ·)) (hl : l.Pairwise (· < ·)) (h : ∀ x ∈ l, x ∈ c) : c.filter (fun b => decide (b ∈ l)) = l :=
  sorted_ext (hs.filter _) hl fun x => by rw [List.mem_filter, decide_eq_true_eq]; exact ⟨fun z => z.2, fun z => ⟨h x z, z⟩⟩
theorem sub_le {a b : List Int} (h : a.Sublist b) : lotLe a b = true := by
  unfold lotLe
  rw [decide_eq_true_eq]
  have := h.length_le
  by_cases e : a.length = b.length
  · rw [h.eq_of_length e]; exact .inr ⟨rfl, List.le_refl _⟩
  · exact .inl (by omega)
theorem lexF {p q : Int → Bool} {x : Int} : ∀ {c : List Int}, c.Pairwise (· < ·) → x ∈ c → p x = true → q x = false → (∀ y ∈ c, y < x → p y = q y) → (c.filter p).length = (c.filter q).length → c.filter p ≤ c.filter q
  | a :: c, hs, hx, hp, hq, hy, hl => by
    obtain ⟨s1, s2⟩ := List.pairwise_cons.mp hs
    rcases List.mem_cons.mp hx with rfl | hx
    · rw [List.filter_cons_of_pos hp, List.filter_cons_of_neg (by rw [hq]; decide)] at *
      have hne : c.filter q ≠ [] := fun z => by rw [z] at hl; simp at hl
      obtain ⟨b, r, e⟩ := List.exists_cons_of_ne_nil hne
      have hb : b ∈ c := (List.mem_filter.mp (show b ∈ c.filter q by rw [e]; exact List.mem_cons_self ..)).1
      rw [e]
      exact List.le_of_lt (List.cons_lt_cons_iff.mpr (.inl (s1 b hb)))
    · have hax := s1 x hx
      have e := hy a (List.mem_cons_self ..) hax
      have hy2 : ∀ y ∈ c, y < x → p y = q y := fun y h => hy y (List.mem_cons_of_mem _ h)
      cases hpa : p a with
      | true =>
        have hqa : q a = true := by rw [← e, hpa]
        rw [List.filter_cons_of_pos hpa, List.filter_cons_of_pos hqa] at *
        exact List.cons_le_cons_iff.mpr (.inr ⟨rfl, lexF s2 hx hp hq hy2 (by simpa using hl)⟩)
      | false =>
        have hqa : q a = false := by rw [← e, hpa]
        rw [List.filter_cons_of_neg (by rw [hpa]; decide), List.filter_cons_of_neg (by rw [hqa]; decide)] at *
        exact lexF s2 hx hp hq hy2 hl
theorem filter_one {c : List Int} (nd : c.Nodup) {s : Int} (h : s ∈ c) {p : Int → Bool} (hp : ∀ b ∈ c, p b = true ↔ b = s) : c.filter p = [s] := by
  induction c with
  | nil => cases h
  | cons a c ih =>
    obtain ⟨n1, n2⟩ := List.nodup_cons.mp nd
    by_cases e : a = s
    · subst e
      rw [List.filter_cons_of_pos ((hp a (List.mem_cons_self ..)).mpr rfl)]
      rw [List.filter_eq_nil_iff.mpr fun b hb z => n1 ((hp b (List.mem_cons_of_mem _ hb)).mp z ▸ hb)]
    · have hs : s ∈ c := (List.mem_cons.mp h).elim (fun z => absurd z.symm e) id
      rw [List.filter_cons_of_neg fun z => e ((hp a (List.mem_cons_self ..)).mp z)]
      exact ih n2 hs fun b hb => hp b (List.mem_cons_of_mem _ hb)
section
variable {c : List Int} (g : Int → Int)
theorem pos_lt (hs : c.Pairwise (· < ·)) {j k : Nat} {a b : Int} (ha : c[j]? = some a) (hb : c[k]? = some b) (h : j < k) : a < b := by
  obtain ⟨h1, rfl⟩ := List.getElem?_eq_some_iff.mp ha
  obtain ⟨h2, rfl⟩ := List.getElem?_eq_some_iff.mp hb
  exact List.pairwise_iff_getElem.mp hs j k h1 h2 h
theorem pos_of {b : Int} (h : b ∈ c) : ∃ k : Nat, c[k]? = some b := by
  obtain ⟨k, hk, e⟩ := List.getElem_of_mem h
  exact ⟨k, by rw [List.getElem?_eq_getElem hk, e]⟩
theorem idx_at {p : Int → Bool} {i : Int} : i ∈ idxs p (c.map g) ↔ ∃ (k : Nat) (b : Int), i = k ∧ c[k]? = some b ∧ p (g b) = true := by
  rw [idxs_mem]
  constructor
  · rintro ⟨k, rfl, v, h1, h2⟩
    rw [List.getElem?_map] at h1
    cases e : c[k]? with
    | none => rw [e] at h1; cases h1
    | some b => rw [e] at h1; cases h1; exact ⟨k, b, rfl, e, h2⟩
  · rintro ⟨k, b, rfl, h1, h2⟩
    exact ⟨k, rfl, g b, by rw [List.getElem?_map, h1]; rfl, h2⟩
theorem dig_map {k : Nat} {b : Int} (h : c[k]? = some b) : dig (c.map g) (k : Int) = g b := dig_of (by rw [List.getElem?_map, h]; rfl)
theorem ats_sorted (hs : c.Pairwise (· < ·)) {is : List Int} (h : Lot c.length is) : (ats c is).Pairwise (· < ·) := by
  unfold ats
  rw [List.pairwise_map]
  refine List.Pairwise.imp_of_mem (R := (· < ·)) (fun {a b} ha hb hab => ?_) h.1
  obtain ⟨a0, a1⟩ := h.2 a ha
  obtain ⟨b0, b1⟩ := h.2 b hb
  have ea : c[a.toNat]? = some (c[a.toNat]'(by omega)) := List.getElem?_eq_getElem _
  have eb : c[b.toNat]? = some (c[b.toNat]'(by omega)) := List.getElem?_eq_getElem _
  have e1 := dig_of ea
  have e2 := dig_of eb
  rw [Int.toNat_of_nonneg a0] at e1
  rw [Int.toNat_of_nonneg b0] at e2
  rw [e1, e2]
  exact pos_lt hs ea eb (by omega)
theorem ats_in {is : List Int} (h : Lot c.length is) : ∀ b ∈ ats c is, b ∈ c := fun b hb => by
  obtain ⟨i, hi, rfl⟩ := List.mem_map.mp hb
  obtain ⟨a0, a1⟩ := h.2 i hi
  have ea : c[i.toNat]? = some (c[i.toNat]'(by omega)) := List.getElem?_eq_getElem _
  have e1 := dig_of ea
  rw [Int.toNat_of_nonneg a0] at e1
  rw [e1]
  exact List.getElem_mem _
theorem last_of {l : List Int} (hs : l.Pairwise (· < ·)) (h : l ≠ []) : l.getLastD 0 ∈ l ∧ ∀ x ∈ l, x ≤ l.getLastD 0 := by
  rcases List.eq_nil_or_concat l with z | ⟨init, x, rfl⟩
  · exact absurd z h
  · rw [List.concat_eq_append] at *
    have e : (init ++ [x]).getLastD 0 = x := by simp
    rw [e]
    refine ⟨by simp, fun y hy => ?_⟩
    rcases List.mem_append.mp hy with hy | hy
    · have := (List.pairwise_append.mp hs).2.2 y hy x (List.mem_singleton.mpr rfl)
      omega
    · rw [List.mem_singleton.mp hy]; exact Int.le_refl _
theorem head_of {l : List Int} (hs : l.Pairwise (· < ·)) (h : l ≠ []) : l.headD 0 ∈ l ∧ ∀ x ∈ l, l.headD 0 ≤ x := by
  obtain ⟨a, r, rfl⟩ := List.exists_cons_of_ne_nil h
  refine ⟨List.mem_cons_self .., fun x hx => ?_⟩
  rcases List.mem_cons.mp hx with rfl | hx
  · exact Int.le_refl _
  · have := (List.pairwise_cons.mp hs).1 x hx
    show a ≤ x
    omega
/-- the best lot, by its bits -/
theorem w_cases (hs : c.Pairwise (· < ·)) (hc : c ≠ []) : ((ats c (bestP (c.map g) 1)).Pairwise (· < ·) ∧ (∀ b ∈ ats c (bestP (c.map g) 1), b ∈ c) ∧ ((ats c (bestP (c.map g) 1)).length : Int) % 2 = 1) ∧
    ((∀ b ∈ c, b ∈ ats c (bestP (c.map g) 1) ↔ g b > 0) ∨
    (∃ s ∈ c, g s = mabs (c.map g) ∧ g s > 0 ∧ (∀ b ∈ c, g b > 0 → g b = mabs (c.map g) → b ≤ s) ∧ ∀ b ∈ c, b ∈ ats c (bestP (c.map g) 1) ↔ g b > 0 ∧ b ≠ s) ∨
    ∃ h ∈ c, g h = -mabs (c.map g) ∧ ¬ g h > 0 ∧ (∀ b ∈ c, g b = -mabs (c.map g) → h ≤ b) ∧ (∀ b ∈ c, ¬ (g b > 0 ∧ g b = mabs (c.map g))) ∧ ∀ b ∈ c, b ∈ ats c (bestP (c.map g) 1) ↔ g b > 0 ∨ b = h) := by
  have hne : c.map g ≠ [] := fun z => hc (List.map_eq_nil_iff.mp z)
  obtain ⟨k1, k2, k3⟩ := bestP_ok hne (.inr rfl)
  have hM := mabs_min hne
  have hM0 : 0 ≤ mabs (c.map g) := by
    obtain ⟨v, _, e⟩ := List.mem_map.mp hM.1
    rw [← e]; exact iabs_nn v
  rw [List.length_map] at k1
  refine ⟨⟨ats_sorted hs k1, ats_in k1, by rw [ats_len]; exact k2⟩, ?_⟩
  have inj : ∀ {j k : Nat} {b : Int}, c[j]? = some b → c[k]? = some b → j = k := fun {j k b} h1 h2 => by
    rcases Nat.lt_trichotomy j k with z | z | z
    · exact absurd (pos_lt hs h1 h2 z) (by omega)
    · exact z
    · exact absurd (pos_lt hs h2 h1 z) (by omega)
  have memw : ∀ (is : List Int) (b : Int), b ∈ ats c is ↔ ∃ i ∈ is, dig c i = b := fun is b => List.mem_map
  have hPs := idxs_sorted (fun g => decide (g > 0)) (c.map g)
  clear k1 k2 k3
  generalize hw : bestP (c.map g) 1 = ws
  unfold bestP bestQ at hw
  split at hw
  · subst hw
    left
    intro b hb
    rw [memw]
    constructor
    · rintro ⟨i, hi, e⟩
      obtain ⟨k, b', rfl, h1, h2⟩ := (idx_at g).mp hi
      rw [dig_of h1] at e
      subst e
      exact of_decide_eq_true h2
    · intro h
      obtain ⟨k, hk⟩ := pos_of hb
      exact ⟨k, (idx_at g).mpr ⟨k, b, rfl, hk, decide_eq_true h⟩, dig_of hk⟩
  · split at hw
    · rename_i hS
      subst hw
      right; left
      obtain ⟨l1, l2⟩ := last_of (hPs.filter _) hS
      generalize hsi : ((idxs (fun g => decide (g > 0)) (c.map g)).filter fun i => decide (dig (c.map g) i = mabs (c.map g))).getLastD 0 = si at *
      obtain ⟨l3, l4⟩ := List.mem_filter.mp l1
      obtain ⟨k, s, rfl, h1, h2⟩ := (idx_at g).mp l3
      have h4 := of_decide_eq_true l4
      rw [dig_map g h1] at h4
      refine ⟨s, List.mem_of_getElem? h1, h4, of_decide_eq_true h2, fun b hb hb0 hbM => ?_, fun b hb => ?_⟩
      · obtain ⟨j, hj⟩ := pos_of hb
        have := l2 j (List.mem_filter.mpr ⟨(idx_at g).mpr ⟨j, b, rfl, hj, decide_eq_true hb0⟩, decide_eq_true (by rw [dig_map g hj]; exact hbM)⟩)
        rcases Nat.lt_or_ge j k with z | z
        · have := pos_lt hs hj h1 z; omega
        · have : j = k := by omega
          subst this
          rw [h1] at hj; cases hj; exact Int.le_refl _
      · rw [memw]
        constructor
        · rintro ⟨i, hi, e⟩
          obtain ⟨hi1, hi2⟩ := List.mem_filter.mp hi
          obtain ⟨j, b', rfl, h5, h6⟩ := (idx_at g).mp hi1
          rw [dig_of h5] at e
          subst e
          refine ⟨of_decide_eq_true h6, fun z => ?_⟩
          subst z
          exact of_decide_eq_true hi2 (by rw [inj h5 h1])
        · rintro ⟨h5, h6⟩
          obtain ⟨j, hj⟩ := pos_of hb
          refine ⟨j, List.mem_filter.mpr ⟨(idx_at g).mpr ⟨j, b, rfl, hj, decide_eq_true h5⟩, decide_eq_true fun z => ?_⟩, dig_of hj⟩
          have : j = k := by omega
          subst this
          rw [h1] at hj; cases hj; exact h6 rfl
    · rename_i hS
      subst hw
      right; right
      have hS' := Decidable.not_not.mp hS
      have hm := more_ne hne hS'
      obtain ⟨l1, l2⟩ := head_of (idxs_sorted (fun v => decide (v = -mabs (c.map g))) (c.map g)) hm
      generalize hsi : (idxs (fun g_1 => decide (g_1 = -mabs (c.map g))) (c.map g)).headD 0 = si at *
      obtain ⟨k, h, rfl, h1, h2⟩ := (idx_at g).mp l1
      have h3 := of_decide_eq_true h2
      refine ⟨h, List.mem_of_getElem? h1, h3, by omega, fun b hb hbM => ?_, fun b hb ⟨z1, z2⟩ => ?_, fun b hb => ?_⟩
      · obtain ⟨j, hj⟩ := pos_of hb
        have := l2 j ((idx_at g).mpr ⟨j, b, rfl, hj, decide_eq_true hbM⟩)
        rcases Nat.lt_or_ge k j with z | z
        · have := pos_lt hs h1 hj z; omega
        · have : j = k := by omega
          subst this
          rw [h1] at hj; cases hj; exact Int.le_refl _
      · obtain ⟨j, hj⟩ := pos_of hb
        have : (j : Int) ∈ ((idxs (fun g => decide (g > 0)) (c.map g)).filter fun i => decide (dig (c.map g) i = mabs (c.map g))) := List.mem_filter.mpr ⟨(idx_at g).mpr ⟨j, b, rfl, hj, decide_eq_true z1⟩, decide_eq_true (by rw [dig_map g hj]; exact z2)⟩
        rw [hS'] at this; cases this
      · rw [memw]
        constructor
        · rintro ⟨i, hi, e⟩
          have hi := (srt_perm _).subset hi
          rcases List.mem_append.mp hi with hi | hi
          · obtain ⟨j, b', rfl, h5, h6⟩ := (idx_at g).mp hi
            rw [dig_of h5] at e
            subst e
            exact .inl (of_decide_eq_true h6)
          · rw [List.mem_singleton.mp hi, dig_of h1] at e
            exact .inr e.symm
        · rintro (h5 | rfl)
          · obtain ⟨j, hj⟩ := pos_of hb
            exact ⟨j, (srt_perm _).symm.subset (List.mem_append_left _ ((idx_at g).mpr ⟨j, b, rfl, hj, decide_eq_true h5⟩)), dig_of hj⟩
          · exact ⟨k, (srt_perm _).symm.subset (List.mem_append_right _ (List.mem_singleton.mpr rfl)), dig_of h1⟩
theorem dq_mem {q : Int → Bool} {b : Int} : b ∈ Dq g q c ↔ b ∈ c ∧ (q b = true ↔ ¬ g b > 0) := by
  unfold Dq
  rw [List.mem_filter]
  refine and_congr_right fun _ => ?_
  by_cases h : g b > 0 <;> cases q b <;> simp [h]
theorem one_pos {d : Int} (h : g d > 0) : ([d].filter fun b => decide (g b > 0)).length = 1 ∧ ([d].filter fun b => !decide (g b > 0)).length = 0 := by
  have h' : 0 < g d := h
  constructor <;> simp [h']
theorem one_neg {d : Int} (h : ¬ g d > 0) : ([d].filter fun b => decide (g b > 0)).length = 0 ∧ ([d].filter fun b => !decide (g b > 0)).length = 1 := by
  have h' : ¬ 0 < g d := h
  constructor <;> simp [h'] <;> omega
/-- among the best the first is taken -/
theorem tie (hs : c.Pairwise (· < ·)) (hc : c ≠ []) {l : List Int} (hl : l.Sublist c) (ho : (l.length : Int) % 2 = 1) (hG : ((ats c (bestP (c.map g) 1)).map g).sum ≤ (l.map g).sum) : lotLe (ats c (bestP (c.map g) 1)) l = true := by
  obtain ⟨⟨w1, w2, w3⟩, hcases⟩ := w_cases g hs hc
  have hMin : ∀ b ∈ c, mabs (c.map g) ≤ iabs (g b) := fun b hb => (mabs_min (fun z => hc (List.map_eq_nil_iff.mp z))).2 _ (List.mem_map.mpr ⟨g b, List.mem_map.mpr ⟨b, hb, rfl⟩, rfl⟩)
  have hM0 : 0 ≤ mabs (c.map g) := by
    obtain ⟨v, _, e⟩ := List.mem_map.mp (mabs_min (fun z => hc (List.map_eq_nil_iff.mp z))).1
    rw [← e]; exact iabs_nn v
  generalize ats c (bestP (c.map g) 1) = W at *
  generalize mabs (c.map g) = M at *
  have nd : c.Nodup := hs.imp fun h => by omega
  have hls := hs.sublist hl
  have eW := filter_mem hs w1 w2
  have eL := filter_mem hs hls fun x hx => hl.subset hx
  have cW := cost_eq g (fun b => decide (b ∈ W)) c
  have cL := cost_eq g (fun b => decide (b ∈ l)) c
  have nW := count_eq g (fun b => decide (b ∈ W)) c
  have nL := count_eq g (fun b => decide (b ∈ l)) c
  have sL := split_len (fun b => decide (g b > 0)) (Dq g (fun b => decide (b ∈ l)) c)
  have dW : ∀ b, b ∈ Dq g (fun b => decide (b ∈ W)) c ↔ b ∈ c ∧ (b ∈ W ↔ ¬ g b > 0) := fun b => by rw [dq_mem, decide_eq_true_eq]
  have dL : ∀ b, b ∈ Dq g (fun b => decide (b ∈ l)) c ↔ b ∈ c ∧ (b ∈ l ↔ ¬ g b > 0) := fun b => by rw [dq_mem, decide_eq_true_eq]
  have oneD : ∀ {d}, d ∈ Dq g (fun b => decide (b ∈ l)) c → iabs (g d) ≤ ((Dq g (fun b => decide (b ∈ l)) c).map fun b => iabs (g b)).sum := fun hd => cost_one hd
  have geD : M * ((Dq g (fun b => decide (b ∈ l)) c).length : Int) ≤ ((Dq g (fun b => decide (b ∈ l)) c).map fun b => iabs (g b)).sum := cost_ge fun d hd => hMin d ((dL d).mp hd).1
  rw [eW] at cW nW
  rw [eL] at cL nL
  rcases hcases with h1 | ⟨s, hsc, hsM, hs0, hsl, h1⟩ | ⟨h, hhc, hhM, hh0, hhl, hno, h1⟩
  · have e0 : Dq g (fun b => decide (b ∈ W)) c = [] := List.eq_nil_iff_forall_not_mem.mpr fun b hb => by
      obtain ⟨z1, z2⟩ := (dW b).mp hb
      have := h1 b z1
      by_cases hg : g b > 0
      · exact (z2.mp (this.mpr hg)) hg
      · exact hg (this.mp (z2.mpr hg))
    rw [e0] at cW
    have cW : _ = (W.map g).sum + 0 := cW
    have hin : ∀ b ∈ c, g b > 0 → b ∈ l := fun b hb hg => Decidable.byContradiction fun hn => by
      have := oneD ((dL b).mpr ⟨hb, ⟨fun z => absurd z hn, fun z => absurd hg z⟩⟩)
      have h2 : iabs (g b) = g b := by unfold iabs; rw [if_neg (by omega)]
      omega
    have : W = l.filter fun b => decide (g b > 0) := sorted_ext w1 (hls.filter _) fun b => by
      rw [List.mem_filter, decide_eq_true_eq]
      exact ⟨fun z => ⟨hin b (w2 b z) ((h1 b (w2 b z)).mp z), (h1 b (w2 b z)).mp z⟩, fun z => (h1 b (hl.subset z.1)).mpr z.2⟩
    rw [this]
    exact sub_le List.filter_sublist
  · have e1 : Dq g (fun b => decide (b ∈ W)) c = [s] := by
      refine filter_one nd hsc fun b hb => ?_
      have := dW b
      unfold Dq at this
      rw [List.mem_filter] at this
      have h2 := h1 b hb
      constructor
      · intro z
        have z2 := (this.mp ⟨hb, z⟩).2
        by_cases hg : g b > 0
        · exact Decidable.byContradiction fun hn => (z2.mp (h2.mpr ⟨hg, hn⟩)) hg
        · exact absurd (h2.mp (z2.mpr hg)).1 hg
      · rintro rfl
        exact (this.mpr ⟨hb, ⟨fun z => absurd rfl (h2.mp z).2, fun z => absurd hs0 z⟩⟩).2
    rw [e1] at cW nW
    have es : iabs (g s) = M := by unfold iabs; rw [if_neg (by omega)]; exact hsM
    have cW : _ = (W.map g).sum + (iabs (g s) + 0) := cW
    rw [(one_pos g hs0).1, (one_pos g hs0).2] at nW
    have hD1 : (Dq g (fun b => decide (b ∈ l)) c).length = 1 := by
      rcases Nat.lt_or_ge 1 (Dq g (fun b => decide (b ∈ l)) c).length with z | z
      · have : M * 2 ≤ M * ((Dq g (fun b => decide (b ∈ l)) c).length : Int) := Int.mul_le_mul_of_nonneg_left (by omega) hM0
        omega
      · omega
    obtain ⟨d, hd⟩ := List.length_eq_one_iff.mp hD1
    have hdm := (dL d).mp (by rw [hd]; exact List.mem_cons_self ..)
    have hd1 := oneD (d := d) (by rw [hd]; exact List.mem_cons_self ..)
    have hother : ∀ b ∈ c, b ≠ d → (b ∈ l ↔ g b > 0) := fun b hb hne => by
      have : b ∉ Dq g (fun b => decide (b ∈ l)) c := by rw [hd]; exact fun z => hne (List.mem_singleton.mp z)
      rw [dL] at this
      by_cases hg : g b > 0
      · exact ⟨fun _ => hg, fun _ => Decidable.byContradiction fun hn => this ⟨hb, ⟨fun z => absurd z hn, fun z => absurd hg z⟩⟩⟩
      · exact ⟨fun z => absurd ⟨hb, ⟨fun _ => hg, fun _ => z⟩⟩ this, fun z => absurd z hg⟩
    rw [hd] at nL
    by_cases hg : g d > 0
    · have hdl : d ∉ l := fun z => (hdm.2.mp z) hg
      have hdM : g d = M := by
        have h2 : iabs (g d) = g d := by unfold iabs; rw [if_neg (by omega)]
        have := hMin d hdm.1
        omega
      have hds := hsl d hdm.1 hg hdM
      rw [(one_pos g hg).1, (one_pos g hg).2] at nL
      by_cases e : d = s
      · subst e
        have : W = l := sorted_ext w1 hls fun b => by
          constructor
          · intro z
            have z1 := (h1 b (w2 b z)).mp z
            exact (hother b (w2 b z) z1.2).mpr z1.1
          · intro z
            have hne : b ≠ d := fun q => hdl (q ▸ z)
            exact (h1 b (hl.subset z)).mpr ⟨(hother b (hl.subset z) hne).mp z, hne⟩
        rw [this]; exact sub_le (List.Sublist.refl _)
      · unfold lotLe
        rw [decide_eq_true_eq]
        refine .inr ⟨by omega, ?_⟩
        rw [← eW, ← eL]
        refine lexF hs hdm.1 (decide_eq_true ((h1 d hdm.1).mpr ⟨hg, e⟩)) (decide_eq_false hdl) (fun y hy hlt => ?_) (by rw [eW, eL]; omega)
        refine decide_eq_decide.mpr ?_
        rw [hother y hy (by omega), h1 y hy]
        exact ⟨fun z => z.1, fun z => ⟨z, by omega⟩⟩
    · rw [(one_neg g hg).1, (one_neg g hg).2] at nL
      unfold lotLe
      rw [decide_eq_true_eq]
      exact .inl (by omega)
  · have e1 : Dq g (fun b => decide (b ∈ W)) c = [h] := by
      refine filter_one nd hhc fun b hb => ?_
      have := dW b
      unfold Dq at this
      rw [List.mem_filter] at this
      have h2 := h1 b hb
      constructor
      · intro z
        have z2 := (this.mp ⟨hb, z⟩).2
        by_cases hg : g b > 0
        · exact absurd hg (z2.mp (h2.mpr (.inl hg)))
        · exact (h2.mp (z2.mpr hg)).elim (fun q => absurd q hg) id
      · rintro rfl
        exact (this.mpr ⟨hb, ⟨fun _ => hh0, fun _ => h2.mpr (.inr rfl)⟩⟩).2
    rw [e1] at cW nW
    have es : iabs (g h) = M := by unfold iabs; split <;> omega
    have cW : _ = (W.map g).sum + (iabs (g h) + 0) := cW
    rw [(one_neg g hh0).1, (one_neg g hh0).2] at nW
    have hall : ∀ d ∈ Dq g (fun b => decide (b ∈ l)) c, ¬ g d > 0 ∧ g d = -M := fun d hd => by
      have a1 := oneD hd
      have a2 := hMin d ((dL d).mp hd).1
      have a3 := hno d ((dL d).mp hd).1
      by_cases hg : g d > 0
      · have h2 : iabs (g d) = g d := by unfold iabs; rw [if_neg (by omega)]
        exact absurd ⟨hg, by omega⟩ a3
      · have h2 : iabs (g d) = -g d := by unfold iabs; split <;> omega
        exact ⟨hg, by omega⟩
    have hpos : (Dq g (fun b => decide (b ∈ l)) c).filter (fun b => decide (g b > 0)) = [] := List.filter_eq_nil_iff.mpr fun d hd z => (hall d hd).1 (of_decide_eq_true z)
    rw [hpos] at nL sL
    simp only [List.length_nil] at nL sL
    by_cases hD1 : (Dq g (fun b => decide (b ∈ l)) c).length = 1
    · obtain ⟨d, hd⟩ := List.length_eq_one_iff.mp hD1
      have hdm := (dL d).mp (by rw [hd]; exact List.mem_cons_self ..)
      obtain ⟨d1, d2⟩ := hall d (by rw [hd]; exact List.mem_cons_self ..)
      have hdl : d ∈ l := hdm.2.mpr d1
      have hother : ∀ b ∈ c, b ≠ d → (b ∈ l ↔ g b > 0) := fun b hb hne => by
        have : b ∉ Dq g (fun b => decide (b ∈ l)) c := by rw [hd]; exact fun z => hne (List.mem_singleton.mp z)
        rw [dL] at this
        by_cases hg : g b > 0
        · exact ⟨fun _ => hg, fun _ => Decidable.byContradiction fun hn => this ⟨hb, ⟨fun z => absurd z hn, fun z => absurd hg z⟩⟩⟩
        · exact ⟨fun z => absurd ⟨hb, ⟨fun _ => hg, fun _ => z⟩⟩ this, fun z => absurd z hg⟩
      have hhd := hhl d hdm.1 d2
      by_cases e : h = d
      · subst e
        have : W = l := sorted_ext w1 hls fun b => by
          constructor
          · intro z
            by_cases q : b = h
            · rw [q]; exact hdl
            · exact (hother b (w2 b z) q).mpr (((h1 b (w2 b z)).mp z).elim id fun r => absurd r q)
          · intro z
            by_cases q : b = h
            · exact (h1 b (hl.subset z)).mpr (.inr q)
            · exact (h1 b (hl.subset z)).mpr (.inl ((hother b (hl.subset z) q).mp z))
        rw [this]; exact sub_le (List.Sublist.refl _)
      · unfold lotLe
        rw [decide_eq_true_eq]
        refine .inr ⟨by omega, ?_⟩
        rw [← eW, ← eL]
        refine lexF hs hhc (decide_eq_true ((h1 h hhc).mpr (.inr rfl))) (decide_eq_false fun z => hh0 ((hother h hhc e).mp z)) (fun y hy hlt => ?_) (by rw [eW, eL]; omega)
        refine decide_eq_decide.mpr ?_
        rw [hother y hy (by omega), h1 y hy]
        exact ⟨fun z => z.elim id fun r => absurd r (by omega), fun z => .inl z⟩
    · unfold lotLe
      rw [decide_eq_true_eq]
      exact .inl (by omega)
end
def far (B : Int) (ts c l : List Int) : Int := (c.map fun b => if b ∈ l then B - dig ts b else dig ts b).sum
theorem far_eq {B : Int} {ts : List Int} : ∀ {c l : List Int}, c.Nodup → l.Sublist c → far B ts c l = (ats ts c).sum - 2 * (ats ts l).sum + B * (l.length : Int)
  | [], l, _, h => by
    rw [List.sublist_nil.mp h]
    simp [far, ats]
  | a :: c, l, nd, h => by
    obtain ⟨n1, n2⟩ := List.nodup_cons.mp nd
    cases h with
    | cons _ h =>
      have ha : a ∉ l := fun z => n1 (h.subset z)
      have ih := far_eq (B := B) (ts := ts) n2 h
      unfold far ats at *
      rw [List.map_cons, List.sum_cons, if_neg ha, ih, List.map_cons, List.sum_cons]
      omega
    | @cons_cons l' _ _ h =>
      have ih := far_eq (B := B) (ts := ts) n2 h
      have e : (c.map fun b => if b ∈ a :: l' then B - dig ts b else dig ts b) = c.map fun b => if b ∈ l' then B - dig ts b else dig ts b := List.map_congr_left fun b hb => by
        have hne : b ≠ a := fun z => n1 (z ▸ hb)
        by_cases hl : b ∈ l'
        · rw [if_pos hl, if_pos (List.mem_cons_of_mem _ hl)]
        · rw [if_neg hl, if_neg fun z => (List.mem_cons.mp z).elim hne hl]
      unfold far ats at *
      rw [List.map_cons, List.sum_cons, if_pos (List.mem_cons_self ..), e, ih, List.map_cons, List.sum_cons, List.map_cons, List.sum_cons, List.length_cons]
      rw [show ((l'.length + 1 : Nat) : Int) = (l'.length : Int) + 1 from rfl, Int.mul_add B]
      omega
theorem far_le {B : Int} {ts : List Int} : ∀ {c : List Int} (l : List Int), (∀ b ∈ c, 0 ≤ dig ts b ∧ dig ts b ≤ B) → 0 ≤ B → 0 ≤ far B ts c l ∧ far B ts c l ≤ B * (c.length : Int)
  | [], _, _, _ => by simp [far]
  | a :: c, l, h, hB => by
    obtain ⟨i1, i2⟩ := far_le (c := c) l (fun b hb => h b (List.mem_cons_of_mem _ hb)) hB
    obtain ⟨a1, a2⟩ := h a (List.mem_cons_self ..)
    unfold far at *
    rw [List.map_cons, List.sum_cons, List.length_cons, show ((c.length + 1 : Nat) : Int) = (c.length : Int) + 1 from rfl, Int.mul_add B]
    split <;> omega
theorem odds_ne {c : List Int} (h : c ≠ []) : odds c ≠ [] := fun z => by
  obtain ⟨b, r, rfl⟩ := List.exists_cons_of_ne_nil h
  have : [b] ∈ odds (b :: r) := odds_mem.mpr ⟨List.Sublist.cons_cons b (List.nil_sublist r), by simp⟩
  rw [z] at this; cases this
theorem gain_sum {B : Int} {ts : List Int} : ∀ l : List Int, (l.map fun b => 2 * dig ts b - B).sum = 2 * (ats ts l).sum - B * (l.length : Int)
  | [] => by simp [ats]
  | a :: l => by
    have ih := gain_sum (B := B) (ts := ts) l
    unfold ats at *
    rw [List.map_cons, List.sum_cons, ih, List.map_cons, List.sum_cons, List.length_cons, show ((l.length + 1 : Nat) : Int) = (l.length : Int) + 1 from rfl, Int.mul_add B]
    omega
theorem gsum_filter (g : Int → Int) (q : Int → Bool) : ∀ c : List Int, gsum (c.map q) (c.map g) = ((c.filter q).map g).sum ∧ cnt (c.map q) = (c.filter q).length
  | [] => ⟨rfl, rfl⟩
  | a :: c => by
    obtain ⟨i1, i2⟩ := gsum_filter g q c
    rw [List.map_cons, List.map_cons]
    cases h : q a with
    | true =>
      rw [List.filter_cons_of_pos h, List.map_cons, List.sum_cons, List.length_cons, ← i1, ← i2]
      exact ⟨by simp [gsum], by simp [cnt]; omega⟩
    | false =>
      rw [List.filter_cons_of_neg (by rw [h]; decide), ← i1, ← i2]
      exact ⟨by simp [gsum], by simp [cnt]⟩
/-- the first of the odd lots that are nearest -/
theorem worst_first {B : Int} {ts c : List Int} (hc : c ≠ []) (hs : c.Pairwise (· < ·)) : (∀ l ∈ odds c, B - wTop ts B c ≤ far B ts c l) ∧ ((odds c).filter fun l => decide (far B ts c l = B - wTop ts B c)).head? = some (wLot ts B c) := by
  have hgs : gains (ats ts c) B = c.map fun b => 2 * dig ts b - B := by
    unfold gains ats
    rw [List.map_map]; rfl
  have nd : c.Nodup := hs.imp fun h => by omega
  have hfar : ∀ l, l.Sublist c → far B ts c l = (ats ts c).sum - (l.map fun b => 2 * dig ts b - B).sum := fun l h => by
    rw [far_eq nd h, gain_sum]
    omega
  have hW : wLot ts B c = ats c (bestP (c.map fun b => 2 * dig ts b - B) 1) := by unfold wLot; rw [hgs]
  obtain ⟨⟨w1, w2, w3⟩, _⟩ := w_cases (fun b => 2 * dig ts b - B) hs hc
  have htie := fun {l} => tie (fun b => 2 * dig ts b - B) hs hc (l := l)
  have hne : (c.map fun b => 2 * dig ts b - B) ≠ [] := fun z => hc (List.map_eq_nil_iff.mp z)
  obtain ⟨k1, k2, k3⟩ := bestP_ok hne (.inr rfl)
  rw [List.length_map] at k1
  have hsum : (ats (c.map fun b => 2 * dig ts b - B) (bestP (c.map fun b => 2 * dig ts b - B) 1)).sum = ((ats c (bestP (c.map fun b => 2 * dig ts b - B) 1)).map fun b => 2 * dig ts b - B).sum := by
    unfold ats
    rw [List.map_map]
    refine congrArg _ (List.map_congr_left fun i hi => ?_)
    obtain ⟨i0, i1⟩ := k1.2 i hi
    have ea : c[i.toNat]? = some (c[i.toNat]'(by omega)) := List.getElem?_eq_getElem _
    have e1 := dig_of ea
    have e2 := dig_map (fun b => 2 * dig ts b - B) ea
    rw [Int.toNat_of_nonneg i0] at e1 e2
    rw [e2]
    show _ = 2 * dig ts (dig c i) - B
    rw [e1]
  have hT : wTop ts B c = ((wLot ts B c).map fun b => 2 * dig ts b - B).sum - (ats ts c).sum + B := by
    unfold wTop
    rw [hgs, hsum, hW]
  rw [← hW] at w1 w2 w3 htie
  rw [hsum, ← hW] at k3
  have wsub : (wLot ts B c).Sublist c := by
    have := filter_mem hs w1 w2
    rw [← this]; exact List.filter_sublist
  have wodd : wLot ts B c ∈ odds c := odds_mem.mpr ⟨wsub, w3⟩
  have wfar : far B ts c (wLot ts B c) = B - wTop ts B c := by rw [hfar _ wsub, hT]; omega
  refine ⟨fun l hl => ?_, ?_⟩
  · obtain ⟨l1, l2⟩ := odds_mem.mp hl
    obtain ⟨g1, g2⟩ := gsum_filter (fun b => 2 * dig ts b - B) (fun b => decide (b ∈ l)) c
    rw [filter_mem hs (hs.sublist l1) fun x hx => l1.subset hx] at g1 g2
    have := k3 (c.map fun b => decide (b ∈ l)) (by rw [List.length_map, List.length_map]) (by rw [g2]; exact l2)
    rw [g1] at this
    rw [hfar l l1, hT]
    omega
  · generalize hLL : (odds c).filter (fun l => decide (far B ts c l = B - wTop ts B c)) = LL
    have hin : wLot ts B c ∈ LL := by rw [← hLL]; exact List.mem_filter.mpr ⟨wodd, decide_eq_true wfar⟩
    have hso : LL.Pairwise (fun a b => lotLe a b = true) := by rw [← hLL]; exact (odds_sorted c).filter _
    have hle : ∀ x ∈ LL, lotLe (wLot ts B c) x = true := fun x hx => by
      rw [← hLL] at hx
      obtain ⟨x1, x2⟩ := List.mem_filter.mp hx
      obtain ⟨x3, x4⟩ := odds_mem.mp x1
      have x2 := of_decide_eq_true x2
      refine htie x3 x4 ?_
      rw [hfar x x3] at x2
      rw [hfar _ wsub] at wfar
      omega
    cases LL with
    | nil => cases hin
    | cons x r =>
      show some x = _
      rcases List.mem_cons.mp hin with e | e
      · rw [e]
      · rw [lotLe_anti (hle x (List.mem_cons_self ..)) ((List.pairwise_cons.mp hso).1 _ e)]
end VL
set_option maxHeartbeats 2000000
namespace VL
open PySem PySem.Spec PyProof.Rows L2 MB
section
variable {c : Cz} {ρ : En} {O : Oh} {Q : D → Oh → Prop}
theorem o_notB {x y : Bool} (q : Q (.bl (!decide (x = y))) O) : O2R c rNotB (.bl x) (.bl y) O Q := fun F H v w s rv rw z Q' k => by
  cases rv; cases rw
  exact ⟨x, y, rfl, rfl, k F H O _ _ (Same.refl F) s (.bl _) q⟩
theorem h_lst {K' : Fr} (hK : K' = c.K) {n : Nat} {gs : TGs} {ds : List D} {Q : En → Oh → Prop} (hl : ds.length = n) (q : LHs c gs ds ρ O Q) : LH c (gLst K' n gs) (.lst ds) ρ O Q := by
  subst hK
  intro F H σ v rs s rd x Q' k
  cases rd with
  | @lst a us _ h r => exact ⟨_, _, rfl, .of (s.same _ _ h), r.len.trans hl, q F H σ _ rs s r x Q' k⟩
end
/-- a check's number and a lot -/
abbrev coupD (q : Int × List Int) : D := .tup [.int q.1, .tup (q.2.map D.int)]
abbrev coupP (q : Int × List Int) : PyData := .tuple [.int q.1, .tuple (pInts q.2)]
theorem coup_pd (O : Oh) (q : Int × List Int) : PD O (coupD q) (coupP q) := .tup (.cons (.int _) (.cons (.tup (pd_ints q.2)) .nil))
theorem eqv_coup (p q : Int × List Int) : PyData.eqv (coupP p) (coupP q) = decide (p = q) := by
  have h := eqv_ints p.2 q.2
  have h2 : PyData.eqv (coupP p) (coupP q) = (PyData.eqv (.int p.1) (.int q.1) && (PyData.eqvAll (pInts p.2) (pInts q.2) && true)) := by
    simp [PyData.eqv, PyData.eqvAll]
  rw [h2, h]
  obtain ⟨a, b⟩ := p
  obtain ⟨c, d⟩ := q
  by_cases h1 : a = c <;> simp [PyData.eqv, Prod.ext_iff, h1]
theorem lay_coup (q : Int × List Int) : (coupP q).canLay0 = true := by
  show ((PyData.int q.1).canLay0 && (PyData.canLay0 (.tuple (pInts q.2)) && true)) = true
  rw [show PyData.canLay0 (.tuple (pInts q.2)) = true from lay_ints q.2]; rfl
theorem dep_coup (q : Int × List Int) : (coupP q).depth ≤ 2 := by
  have := depth_ints q.2
  show PyData.depthAll [.int q.1, .tuple (pInts q.2)] + 1 ≤ 2
  show max 0 (max (PyData.depthAll (pInts q.2) + 1) 0) + 1 ≤ 2
  omega
theorem sh_coup (q : Int × List Int) : SeqAt.shaped (coupP q) = true := by
  unfold SeqAt.shaped
  rw [lay_coup q]
  have := dep_coup q
  exact decide_eq_true (by show (coupP q).depth ≤ 64; omega)
theorem pd_coups (O : Oh) (qs : List (Int × List Int)) : PDs O (qs.map coupD) (qs.map coupP) := pds_map (coup_pd O) qs
theorem sh_coups (qs : List (Int × List Int)) : SeqAt.shaped (.list (qs.map coupP)) = true := by
  unfold SeqAt.shaped
  rw [show PyData.canLay0 (.list (qs.map coupP)) = true from lay_map lay_coup qs]
  have := depth_map (g := coupP) (n := 2) dep_coup qs
  exact decide_eq_true (by show PyData.depthAll (qs.map coupP) + 1 ≤ 64; omega)
theorem eqv_coups (ps qs : List (Int × List Int)) : PyData.eqv (.list (ps.map coupP)) (.list (qs.map coupP)) = decide (ps = qs) := eqv_map (g := coupP) eqv_coup ps qs
end VL
set_option maxHeartbeats 2000000
namespace K04
open PySem PySem.Spec PyProof.Rows L2 MB
def top (i : Nat) : Stmt := PySem.Challenge.pw_letbychecks_k04_whole_worst_lots_of_all.main.body.getD i (.Pass ⟨0, 0, 0, 0⟩)
abbrev s_is_whole : Stmt := top 8
theorem sc_is_whole : FnScope ["thing", "low", "high"] ["thing", "low", "high"] (defScope s_is_whole) := ⟨rfl, rfl, rfl, by decide +kernel, rfl, by decide +kernel, by decide +kernel⟩
abbrev s_is_sequence : Stmt := top 9
theorem sc_is_sequence : FnScope ["thing"] ["thing"] (defScope s_is_sequence) := ⟨rfl, rfl, rfl, by decide +kernel, rfl, by decide +kernel, by decide +kernel⟩
abbrev s_is_ratio : Stmt := top 10
theorem sc_is_ratio : FnScope ["thing", "top", "bottom"] ["thing"] (defScope s_is_ratio) := ⟨rfl, rfl, rfl, by decide +kernel, rfl, by decide +kernel, by decide +kernel⟩
abbrev s_is_share : Stmt := top 11
theorem sc_is_share : FnScope ["thing"] ["thing"] (defScope s_is_share) := ⟨rfl, rfl, rfl, by decide +kernel, rfl, by decide +kernel, by decide +kernel⟩
abbrev s_lowest : Stmt := top 12
theorem sc_lowest : FnScope ["top", "bottom", "divisor"] ["top", "bottom"] (defScope s_lowest) := ⟨rfl, rfl, rfl, by decide +kernel, rfl, by decide +kernel, by decide +kernel⟩
abbrev s_over_one_bottom : Stmt := top 13
theorem sc_over_one_bottom : FnScope ["ratios", "bottom", "ratio"] ["ratios"] (defScope s_over_one_bottom) := ⟨rfl, rfl, rfl, by decide +kernel, rfl, by decide +kernel, by decide +kernel⟩
abbrev s_is_lot : Stmt := top 17
theorem sc_is_lot : FnScope ["thing", "many", "item"] ["thing", "many"] (defScope s_is_lot) := ⟨rfl, rfl, rfl, by decide +kernel, rfl, by decide +kernel, by decide +kernel⟩
abbrev s_check_number : Stmt := top 19
theorem sc_check_number : FnScope ["code", "number"] ["code", "number"] (defScope s_check_number) := ⟨rfl, rfl, rfl, by decide +kernel, rfl, by decide +kernel, by decide +kernel⟩
abbrev s_check_lot : Stmt := top 20
theorem sc_check_lot : FnScope ["code", "lot"] ["code", "lot"] (defScope s_check_lot) := ⟨rfl, rfl, rfl, by decide +kernel, rfl, by decide +kernel, by decide +kernel⟩
abbrev s_is_long : Stmt := top 21
theorem sc_is_long : FnScope ["thing", "many"] ["thing", "many"] (defScope s_is_long) := ⟨rfl, rfl, rfl, by decide +kernel, rfl, by decide +kernel, by decide +kernel⟩
abbrev s_check_row : Stmt := top 22
theorem sc_check_row : FnScope ["code", "row", "place", "share"] ["code", "row"] (defScope s_check_row) := ⟨rfl, rfl, rfl, by decide +kernel, rfl, by decide +kernel, by decide +kernel⟩
abbrev s_lot_order : Stmt := top 24
theorem sc_lot_order : FnScope ["lot"] ["lot"] (defScope s_lot_order) := ⟨rfl, rfl, rfl, by decide +kernel, rfl, by decide +kernel, by decide +kernel⟩
abbrev s_even_rows : Stmt := top 26
theorem sc_even_rows : FnScope ["code", "number", "check", "rows", "_", "row", "digit"] ["code", "number"] (defScope s_even_rows) := ⟨rfl, rfl, rfl, by decide +kernel, rfl, by decide +kernel, by decide +kernel⟩
abbrev s_odd_lots_of : Stmt := top 27
theorem sc_odd_lots_of : FnScope ["check", "lots", "bit", "lot"] ["check"] (defScope s_odd_lots_of) := ⟨rfl, rfl, rfl, by decide +kernel, rfl, by decide +kernel, by decide +kernel⟩
abbrev s_odd_lots : Stmt := top 28
theorem sc_odd_lots : GScope ["code", "number"] ["code", "number"] (defScope s_odd_lots) := ⟨rfl, rfl, rfl, by decide +kernel, rfl, by decide +kernel, by decide +kernel⟩
abbrev s_check_odd_lot : Stmt := top 29
theorem sc_check_odd_lot : FnScope ["code", "number", "lot", "bits", "bit"] ["code", "number", "lot"] (defScope s_check_odd_lot) := ⟨rfl, rfl, rfl, by decide +kernel, rfl, by decide +kernel, by decide +kernel⟩
abbrev s_excess_top : Stmt := top 30
theorem sc_excess_top : FnScope ["check", "lot", "tops", "bottom", "inside", "bit"] ["check", "lot", "tops", "bottom"] (defScope s_excess_top) := ⟨rfl, rfl, rfl, by decide +kernel, rfl, by decide +kernel, by decide +kernel⟩
abbrev s_excess_of : Stmt := top 31
theorem sc_excess_of : FnScope ["code", "number", "lot", "row", "check", "bits", "tops", "bottom"] ["code", "number", "lot", "row"] (defScope s_excess_of) := ⟨rfl, rfl, rfl, by decide +kernel, rfl, by decide +kernel, by decide +kernel⟩
abbrev s_best_places : Stmt := top 32
theorem sc_best_places : FnScope ["gains", "odd", "best", "least", "spare", "more", "place", "gain"] ["gains", "odd"] (defScope s_best_places) := ⟨rfl, rfl, rfl, by decide +kernel, rfl, by decide +kernel, by decide +kernel⟩
abbrev s_worst_places : Stmt := top 33
theorem sc_worst_places : FnScope ["tops", "bottom", "gains", "places", "top", "place"] ["tops", "bottom"] (defScope s_worst_places) := ⟨rfl, rfl, rfl, by decide +kernel, rfl, by decide +kernel, by decide +kernel⟩
abbrev s_worst_on : Stmt := top 34
theorem sc_worst_on : FnScope ["check", "tops", "bottom", "places", "top", "bit", "place"] ["check", "tops", "bottom"] (defScope s_worst_on) := ⟨rfl, rfl, rfl, by decide +kernel, rfl, by decide +kernel, by decide +kernel⟩
abbrev s_worst_lot : Stmt := top 35
theorem sc_worst_lot : FnScope ["code", "number", "row", "check", "tops", "bottom", "lot", "top"] ["code", "number", "row"] (defScope s_worst_lot) := ⟨rfl, rfl, rfl, by decide +kernel, rfl, by decide +kernel, by decide +kernel⟩
abbrev s_let_fault : Stmt := top 36
theorem sc_let_fault : FnScope ["code", "row", "tops", "bottom", "number", "check", "lot", "top"] ["code", "row"] (defScope s_let_fault) := ⟨rfl, rfl, rfl, by decide +kernel, rfl, by decide +kernel, by decide +kernel⟩
abbrev s_is_let : Stmt := top 37
theorem sc_is_let : FnScope ["code", "row"] ["code", "row"] (defScope s_is_let) := ⟨rfl, rfl, rfl, by decide +kernel, rfl, by decide +kernel, by decide +kernel⟩
abbrev s_tight_lots : Stmt := top 38
theorem sc_tight_lots : FnScope ["code", "row", "tops", "bottom", "tight", "number", "check", "lot"] ["code", "row"] (defScope s_tight_lots) := ⟨rfl, rfl, rfl, by decide +kernel, rfl, by decide +kernel, by decide +kernel⟩
abbrev s_l_stir : Stmt := top 40
theorem sc_l_stir : FnScope ["_law_number", "_law_turn", "_law_once", "_law_twice"] ["_law_number", "_law_turn"] (defScope s_l_stir) := ⟨rfl, rfl, rfl, by decide +kernel, rfl, by decide +kernel, by decide +kernel⟩
abbrev s_l_hand : Stmt := top 41
theorem sc_l_hand : FnScope ["_law_script", "_law_state", "_law_place", "_law_cell"] ["_law_script"] (defScope s_l_hand) := ⟨rfl, rfl, rfl, by decide +kernel, rfl, by decide +kernel, by decide +kernel⟩
abbrev s_l_draw : Stmt := top 42
theorem sc_l_draw : FnScope ["_law_hand_here", "_law_many", "_law_cell", "_law_rest"] ["_law_hand_here", "_law_many"] (defScope s_l_draw) := ⟨rfl, rfl, rfl, by decide +kernel, rfl, by decide +kernel, by decide +kernel⟩
abbrev s_l_whole : Stmt := top 43
theorem sc_l_whole : FnScope ["_law_thing"] ["_law_thing"] (defScope s_l_whole) := ⟨rfl, rfl, rfl, by decide +kernel, rfl, by decide +kernel, by decide +kernel⟩
abbrev s_l_wholes : Stmt := top 44
theorem sc_l_wholes : FnScope ["_law_thing", "_law_many", "_law_part_here"] ["_law_thing", "_law_many"] (defScope s_l_wholes) := ⟨rfl, rfl, rfl, by decide +kernel, rfl, by decide +kernel, by decide +kernel⟩
abbrev s_l_part : Stmt := top 45
theorem sc_l_part : FnScope ["_law_one", "_law_other", "_law_a", "_law_b", "_law_step"] ["_law_one", "_law_other"] (defScope s_l_part) := ⟨rfl, rfl, rfl, by decide +kernel, rfl, by decide +kernel, by decide +kernel⟩
abbrev s_l_ratio : Stmt := top 46
theorem sc_l_ratio : FnScope ["_law_top", "_law_bottom", "_law_part_here"] ["_law_top", "_law_bottom"] (defScope s_l_ratio) := ⟨rfl, rfl, rfl, by decide +kernel, rfl, by decide +kernel, by decide +kernel⟩
abbrev s_l_is_ratio : Stmt := top 47
theorem sc_l_is_ratio : FnScope ["_law_thing"] ["_law_thing"] (defScope s_l_is_ratio) := ⟨rfl, rfl, rfl, by decide +kernel, rfl, by decide +kernel, by decide +kernel⟩
abbrev s_l_tops : Stmt := top 48
theorem sc_l_tops : FnScope ["_law_row", "_law_bottom", "_law_share"] ["_law_row"] (defScope s_l_tops) := ⟨rfl, rfl, rfl, by decide +kernel, rfl, by decide +kernel, by decide +kernel⟩
abbrev s_l_lot : Stmt := top 49
theorem sc_l_lot : FnScope ["_law_hand_here", "_law_bits", "_law_size", "_law_pool", "_law_out", "_law_k"] ["_law_hand_here", "_law_bits", "_law_size"] (defScope s_l_lot) := ⟨rfl, rfl, rfl, by decide +kernel, rfl, by decide +kernel, by decide +kernel⟩
abbrev s_l_within : Stmt := top 50
theorem sc_l_within : FnScope ["_law_hand_here", "_law_bits", "_law_bit"] ["_law_hand_here", "_law_bits"] (defScope s_l_within) := ⟨rfl, rfl, rfl, by decide +kernel, rfl, by decide +kernel, by decide +kernel⟩
abbrev s_l_shuffled : Stmt := top 51
theorem sc_l_shuffled : FnScope ["_law_hand_here", "_law_things", "_law_pool", "_law_out", "_law_k"] ["_law_hand_here", "_law_things"] (defScope s_l_shuffled) := ⟨rfl, rfl, rfl, by decide +kernel, rfl, by decide +kernel, by decide +kernel⟩
abbrev s_l_free_checks : Stmt := top 52
theorem sc_l_free_checks : FnScope ["_law_hand_here", "_law_bits", "_law_many", "_law_widest", "_law_out", "_law_k", "_law_pick", "_law_size"] ["_law_hand_here", "_law_bits", "_law_many", "_law_widest"] (defScope s_l_free_checks) := ⟨rfl, rfl, rfl, by decide +kernel, rfl, by decide +kernel, by decide +kernel⟩
abbrev s_l_tie_checks : Stmt := top 53
theorem sc_l_tie_checks : FnScope ["_law_hand_here", "_law_bits", "_law_posts", "_law_ends", "_law_bit", "_law_low", "_law_high", "_law_rows", "_law_post", "_law_row"] ["_law_hand_here", "_law_bits", "_law_posts"] (defScope s_l_tie_checks) := ⟨rfl, rfl, rfl, by decide +kernel, rfl, by decide +kernel, by decide +kernel⟩
abbrev s_l_code : Stmt := top 54
theorem sc_l_code : FnScope ["_law_hand_here", "_law_low", "_law_high", "_law_widest", "_law_bits", "_law_pick"] ["_law_hand_here", "_law_low", "_law_high", "_law_widest"] (defScope s_l_code) := ⟨rfl, rfl, rfl, by decide +kernel, rfl, by decide +kernel, by decide +kernel⟩
abbrev s_l_longer : Stmt := top 55
theorem sc_l_longer : FnScope ["_law_rows", "_law_out", "_law_row"] ["_law_rows"] (defScope s_l_longer) := ⟨rfl, rfl, rfl, by decide +kernel, rfl, by decide +kernel, by decide +kernel⟩
abbrev s_l_digits : Stmt := top 56
theorem sc_l_digits : FnScope ["_law_many", "_law_rows", "_law_k"] ["_law_many"] (defScope s_l_digits) := ⟨rfl, rfl, rfl, by decide +kernel, rfl, by decide +kernel, by decide +kernel⟩
abbrev s_l_even : Stmt := top 57
theorem sc_l_even : FnScope ["_law_checks", "_law_row", "_law_lot_here", "_law_bit"] ["_law_checks", "_law_row"] (defScope s_l_even) := ⟨rfl, rfl, rfl, by decide +kernel, rfl, by decide +kernel, by decide +kernel⟩
abbrev s_l_words : Stmt := top 58
theorem sc_l_words : FnScope ["_law_bits", "_law_checks", "_law_row"] ["_law_bits", "_law_checks"] (defScope s_l_words) := ⟨rfl, rfl, rfl, by decide +kernel, rfl, by decide +kernel, by decide +kernel⟩
abbrev s_l_lots : Stmt := top 59
theorem sc_l_lots : FnScope ["_law_bits", "_law_out", "_law_bit", "_law_lot_here"] ["_law_bits"] (defScope s_l_lots) := ⟨rfl, rfl, rfl, by decide +kernel, rfl, by decide +kernel, by decide +kernel⟩
abbrev s_l_far : Stmt := top 60
theorem sc_l_far : FnScope ["_law_bits", "_law_lot_here", "_law_bottom", "_law_tops_here", "_law_total", "_law_bit"] ["_law_bits", "_law_lot_here", "_law_bottom", "_law_tops_here"] (defScope s_l_far) := ⟨rfl, rfl, rfl, by decide +kernel, rfl, by decide +kernel, by decide +kernel⟩
abbrev s_l_stop : Stmt := top 61
theorem sc_l_stop : FnScope ["_law_checks", "_law_lot_here", "_law_left", "_law_turn", "_law_told", "_law_check", "_law_seen", "_law_bit"] ["_law_checks", "_law_lot_here"] (defScope s_l_stop) := ⟨rfl, rfl, rfl, by decide +kernel, rfl, by decide +kernel, by decide +kernel⟩
abbrev s_l_shares : Stmt := top 62
theorem sc_l_shares : FnScope ["_law_hand_here", "_law_bits", "_law_checks", "_law_words_here", "_law_pick", "_law_bottom", "_law_bit"] ["_law_hand_here", "_law_bits", "_law_checks", "_law_words_here"] (defScope s_l_shares) := ⟨rfl, rfl, rfl, by decide +kernel, rfl, by decide +kernel, by decide +kernel⟩
abbrev s_l_let_shares : Stmt := top 63
theorem sc_l_let_shares : FnScope ["_law_hand_here", "_law_bits", "_law_checks", "_law_words_here", "_law_pick", "_law_many", "_law_picks", "_law_stop_here", "_law_word", "_law_share", "_law_bit", "_law_k"] ["_law_hand_here", "_law_bits", "_law_checks", "_law_words_here"] (defScope s_l_let_shares) := ⟨rfl, rfl, rfl, by decide +kernel, rfl, by decide +kernel, by decide +kernel⟩
abbrev s_l_given : Stmt := top 64
theorem sc_l_given : FnScope ["_law_hand_here", "_law_things"] ["_law_hand_here", "_law_things"] (defScope s_l_given) := ⟨rfl, rfl, rfl, by decide +kernel, rfl, by decide +kernel, by decide +kernel⟩
abbrev s_l_given_checks : Stmt := top 65
theorem sc_l_given_checks : FnScope ["_law_hand_here", "_law_checks", "_law_lot_here"] ["_law_hand_here", "_law_checks"] (defScope s_l_given_checks) := ⟨rfl, rfl, rfl, by decide +kernel, rfl, by decide +kernel, by decide +kernel⟩
abbrev s_l_odds : Stmt := top 66
theorem sc_l_odds : FnScope ["_law_lot_here", "_law_bottom", "_law_tops_here", "_law_parts", "_law_part_here"] ["_law_lot_here", "_law_bottom", "_law_tops_here"] (defScope s_l_odds) := ⟨rfl, rfl, rfl, by decide +kernel, rfl, by decide +kernel, by decide +kernel⟩
abbrev s_l_lists_hold : Stmt := top 67
theorem sc_l_lists_hold : FnScope ["_law_code_here", "_law_number", "_law_lot_here", "_law_odds_here", "_law_told", "_law_rows", "_law_odd", "_law_digits_here", "_law_part_here"] ["_law_code_here", "_law_number", "_law_lot_here", "_law_odds_here"] (defScope s_l_lists_hold) := ⟨rfl, rfl, rfl, by decide +kernel, rfl, by decide +kernel, by decide +kernel⟩
abbrev s_l_worst_holds : Stmt := top 68
theorem sc_l_worst_holds : FnScope ["_law_code_here", "_law_number", "_law_given_here", "_law_odds_here", "_law_bottom", "_law_told", "_law_least", "_law_first", "_law_odd"] ["_law_code_here", "_law_number", "_law_given_here", "_law_odds_here", "_law_bottom"] (defScope s_l_worst_holds) := ⟨rfl, rfl, rfl, by decide +kernel, rfl, by decide +kernel, by decide +kernel⟩
abbrev s_l_excess_holds : Stmt := top 69
theorem sc_l_excess_holds : FnScope ["_law_hand_here", "_law_code_here", "_law_number", "_law_given_here", "_law_odds_here", "_law_bottom", "_law_turn", "_law_odd", "_law_told"] ["_law_hand_here", "_law_code_here", "_law_number", "_law_given_here", "_law_odds_here", "_law_bottom"] (defScope s_l_excess_holds) := ⟨rfl, rfl, rfl, by decide +kernel, rfl, by decide +kernel, by decide +kernel⟩
abbrev s_law : Stmt := top 70
theorem sc_law : FnScope ["_law_script", "_law_hand_here", "_law_bits", "_law_checks", "_law_words_here", "_law_row", "_law_given_here", "_law_code_here", "_law_bottom", "_law_tops_here", "_law_tight", "_law_fault", "_law_number", "_law_odds_here", "_law_least", "_law_told", "_law_lets", "_law_listed", "_law_k", "_law_odd"] ["_law_script"] (defScope s_law) := ⟨rfl, rfl, rfl, by decide +kernel, rfl, by decide +kernel, by decide +kernel⟩
abbrev s_BadCode___init__ : Stmt := inClass (top 3) 0
theorem sc_BadCode___init__ : FnScope ["self", "what", "place"] ["self", "what", "place"] (defScope s_BadCode___init__) := ⟨rfl, rfl, rfl, by decide +kernel, rfl, by decide +kernel, by decide +kernel⟩
abbrev s_NoCheck___init__ : Stmt := inClass (top 4) 0
theorem sc_NoCheck___init__ : FnScope ["self", "number"] ["self", "number"] (defScope s_NoCheck___init__) := ⟨rfl, rfl, rfl, by decide +kernel, rfl, by decide +kernel, by decide +kernel⟩
abbrev s_BadRow___init__ : Stmt := inClass (top 6) 0
theorem sc_BadRow___init__ : FnScope ["self", "place"] ["self", "place"] (defScope s_BadRow___init__) := ⟨rfl, rfl, rfl, by decide +kernel, rfl, by decide +kernel, by decide +kernel⟩
abbrev s_Code___init__ : Stmt := inClass (top 18) 0
theorem sc_Code___init__ : FnScope ["self", "bits", "checks", "number", "check"] ["self", "bits", "checks"] (defScope s_Code___init__) := ⟨rfl, rfl, rfl, by decide +kernel, rfl, by decide +kernel, by decide +kernel⟩
abbrev s_Code___len__ : Stmt := inClass (top 18) 1
theorem sc_Code___len__ : FnScope ["self"] ["self"] (defScope s_Code___len__) := ⟨rfl, rfl, rfl, by decide +kernel, rfl, by decide +kernel, by decide +kernel⟩
abbrev s_Code___eq__ : Stmt := inClass (top 18) 2
theorem sc_Code___eq__ : FnScope ["self", "other"] ["self", "other"] (defScope s_Code___eq__) := ⟨rfl, rfl, rfl, by decide +kernel, rfl, by decide +kernel, by decide +kernel⟩
def dd_is_whole : He.DefD := ⟨("is_whole", none), "is_whole", "is_whole", defArgs s_is_whole, defBody s_is_whole, defScope s_is_whole, [.non, .non], []⟩
def dd_is_sequence : He.DefD := ⟨("is_sequence", none), "is_sequence", "is_sequence", defArgs s_is_sequence, defBody s_is_sequence, defScope s_is_sequence, [], []⟩
def dd_is_ratio : He.DefD := ⟨("is_ratio", none), "is_ratio", "is_ratio", defArgs s_is_ratio, defBody s_is_ratio, defScope s_is_ratio, [], []⟩
def dd_is_share : He.DefD := ⟨("is_share", none), "is_share", "is_share", defArgs s_is_share, defBody s_is_share, defScope s_is_share, [], []⟩
def dd_lowest : He.DefD := ⟨("lowest", none), "lowest", "lowest", defArgs s_lowest, defBody s_lowest, defScope s_lowest, [], []⟩
def dd_over_one_bottom : He.DefD := ⟨("over_one_bottom", none), "over_one_bottom", "over_one_bottom", defArgs s_over_one_bottom, defBody s_over_one_bottom, defScope s_over_one_bottom, [], []⟩
def dd_is_lot : He.DefD := ⟨("is_lot", none), "is_lot", "is_lot", defArgs s_is_lot, defBody s_is_lot, defScope s_is_lot, [], []⟩
def dd_check_number : He.DefD := ⟨("check_number", none), "check_number", "check_number", defArgs s_check_number, defBody s_check_number, defScope s_check_number, [], []⟩
def dd_check_lot : He.DefD := ⟨("check_lot", none), "check_lot", "check_lot", defArgs s_check_lot, defBody s_check_lot, defScope s_check_lot, [], []⟩
def dd_is_long : He.DefD := ⟨("is_long", none), "is_long", "is_long", defArgs s_is_long, defBody s_is_long, defScope s_is_long, [], []⟩
def dd_check_row : He.DefD := ⟨("check_row", none), "check_row", "check_row", defArgs s_check_row, defBody s_check_row, defScope s_check_row, [], []⟩
def dd_lot_order : He.DefD := ⟨("lot_order", none), "lot_order", "lot_order", defArgs s_lot_order, defBody s_lot_order, defScope s_lot_order, [], []⟩
def dd_even_rows : He.DefD := ⟨("even_rows", none), "even_rows", "even_rows", defArgs s_even_rows, defBody s_even_rows, defScope s_even_rows, [], []⟩
def dd_odd_lots_of : He.DefD := ⟨("odd_lots_of", none), "odd_lots_of", "odd_lots_of", defArgs s_odd_lots_of, defBody s_odd_lots_of, defScope s_odd_lots_of, [], []⟩
def dd_odd_lots : He.DefD := ⟨("odd_lots", none), "odd_lots", "odd_lots", defArgs s_odd_lots, defBody s_odd_lots, defScope s_odd_lots, [], []⟩
def dd_check_odd_lot : He.DefD := ⟨("check_odd_lot", none), "check_odd_lot", "check_odd_lot", defArgs s_check_odd_lot, defBody s_check_odd_lot, defScope s_check_odd_lot, [], []⟩
def dd_excess_top : He.DefD := ⟨("excess_top", none), "excess_top", "excess_top", defArgs s_excess_top, defBody s_excess_top, defScope s_excess_top, [], []⟩
def dd_excess_of : He.DefD := ⟨("excess_of", none), "excess_of", "excess_of", defArgs s_excess_of, defBody s_excess_of, defScope s_excess_of, [], []⟩
def dd_best_places : He.DefD := ⟨("best_places", none), "best_places", "best_places", defArgs s_best_places, defBody s_best_places, defScope s_best_places, [], []⟩
def dd_worst_places : He.DefD := ⟨("worst_places", none), "worst_places", "worst_places", defArgs s_worst_places, defBody s_worst_places, defScope s_worst_places, [], []⟩
def dd_worst_on : He.DefD := ⟨("worst_on", none), "worst_on", "worst_on", defArgs s_worst_on, defBody s_worst_on, defScope s_worst_on, [], []⟩
def dd_worst_lot : He.DefD := ⟨("worst_lot", none), "worst_lot", "worst_lot", defArgs s_worst_lot, defBody s_worst_lot, defScope s_worst_lot, [], []⟩
def dd_let_fault : He.DefD := ⟨("let_fault", none), "let_fault", "let_fault", defArgs s_let_fault, defBody s_let_fault, defScope s_let_fault, [], []⟩
def dd_is_let : He.DefD := ⟨("is_let", none), "is_let", "is_let", defArgs s_is_let, defBody s_is_let, defScope s_is_let, [], []⟩
def dd_tight_lots : He.DefD := ⟨("tight_lots", none), "tight_lots", "tight_lots", defArgs s_tight_lots, defBody s_tight_lots, defScope s_tight_lots, [], []⟩
def dd_l_stir : He.DefD := ⟨("_law_stir", none), "_law_stir", "_law_stir", defArgs s_l_stir, defBody s_l_stir, defScope s_l_stir, [], []⟩
def dd_l_hand : He.DefD := ⟨("_law_hand", none), "_law_hand", "_law_hand", defArgs s_l_hand, defBody s_l_hand, defScope s_l_hand, [], []⟩
def dd_l_draw : He.DefD := ⟨("_law_draw", none), "_law_draw", "_law_draw", defArgs s_l_draw, defBody s_l_draw, defScope s_l_draw, [], []⟩
def dd_l_whole : He.DefD := ⟨("_law_whole", none), "_law_whole", "_law_whole", defArgs s_l_whole, defBody s_l_whole, defScope s_l_whole, [], []⟩
def dd_l_wholes : He.DefD := ⟨("_law_wholes", none), "_law_wholes", "_law_wholes", defArgs s_l_wholes, defBody s_l_wholes, defScope s_l_wholes, [], []⟩
def dd_l_part : He.DefD := ⟨("_law_part", none), "_law_part", "_law_part", defArgs s_l_part, defBody s_l_part, defScope s_l_part, [], []⟩
def dd_l_ratio : He.DefD := ⟨("_law_ratio", none), "_law_ratio", "_law_ratio", defArgs s_l_ratio, defBody s_l_ratio, defScope s_l_ratio, [], []⟩
def dd_l_is_ratio : He.DefD := ⟨("_law_is_ratio", none), "_law_is_ratio", "_law_is_ratio", defArgs s_l_is_ratio, defBody s_l_is_ratio, defScope s_l_is_ratio, [], []⟩
def dd_l_tops : He.DefD := ⟨("_law_tops", none), "_law_tops", "_law_tops", defArgs s_l_tops, defBody s_l_tops, defScope s_l_tops, [], []⟩
def dd_l_lot : He.DefD := ⟨("_law_lot", none), "_law_lot", "_law_lot", defArgs s_l_lot, defBody s_l_lot, defScope s_l_lot, [], []⟩
def dd_l_within : He.DefD := ⟨("_law_within", none), "_law_within", "_law_within", defArgs s_l_within, defBody s_l_within, defScope s_l_within, [], []⟩
def dd_l_shuffled : He.DefD := ⟨("_law_shuffled", none), "_law_shuffled", "_law_shuffled", defArgs s_l_shuffled, defBody s_l_shuffled, defScope s_l_shuffled, [], []⟩
def dd_l_free_checks : He.DefD := ⟨("_law_free_checks", none), "_law_free_checks", "_law_free_checks", defArgs s_l_free_checks, defBody s_l_free_checks, defScope s_l_free_checks, [], []⟩
def dd_l_tie_checks : He.DefD := ⟨("_law_tie_checks", none), "_law_tie_checks", "_law_tie_checks", defArgs s_l_tie_checks, defBody s_l_tie_checks, defScope s_l_tie_checks, [], []⟩
def dd_l_code : He.DefD := ⟨("_law_code", none), "_law_code", "_law_code", defArgs s_l_code, defBody s_l_code, defScope s_l_code, [], []⟩
def dd_l_longer : He.DefD := ⟨("_law_longer", none), "_law_longer", "_law_longer", defArgs s_l_longer, defBody s_l_longer, defScope s_l_longer, [], []⟩
def dd_l_digits : He.DefD := ⟨("_law_digits", none), "_law_digits", "_law_digits", defArgs s_l_digits, defBody s_l_digits, defScope s_l_digits, [], []⟩
def dd_l_even : He.DefD := ⟨("_law_even", none), "_law_even", "_law_even", defArgs s_l_even, defBody s_l_even, defScope s_l_even, [], []⟩
def dd_l_words : He.DefD := ⟨("_law_words", none), "_law_words", "_law_words", defArgs s_l_words, defBody s_l_words, defScope s_l_words, [], []⟩
def dd_l_lots : He.DefD := ⟨("_law_lots", none), "_law_lots", "_law_lots", defArgs s_l_lots, defBody s_l_lots, defScope s_l_lots, [], []⟩
def dd_l_far : He.DefD := ⟨("_law_far", none), "_law_far", "_law_far", defArgs s_l_far, defBody s_l_far, defScope s_l_far, [], []⟩
def dd_l_stop : He.DefD := ⟨("_law_stop", none), "_law_stop", "_law_stop", defArgs s_l_stop, defBody s_l_stop, defScope s_l_stop, [], []⟩
def dd_l_shares : He.DefD := ⟨("_law_shares", none), "_law_shares", "_law_shares", defArgs s_l_shares, defBody s_l_shares, defScope s_l_shares, [], []⟩
def dd_l_let_shares : He.DefD := ⟨("_law_let_shares", none), "_law_let_shares", "_law_let_shares", defArgs s_l_let_shares, defBody s_l_let_shares, defScope s_l_let_shares, [], []⟩
def dd_l_given : He.DefD := ⟨("_law_given", none), "_law_given", "_law_given", defArgs s_l_given, defBody s_l_given, defScope s_l_given, [], []⟩
def dd_l_given_checks : He.DefD := ⟨("_law_given_checks", none), "_law_given_checks", "_law_given_checks", defArgs s_l_given_checks, defBody s_l_given_checks, defScope s_l_given_checks, [], []⟩
def dd_l_odds : He.DefD := ⟨("_law_odds", none), "_law_odds", "_law_odds", defArgs s_l_odds, defBody s_l_odds, defScope s_l_odds, [], []⟩
def dd_l_lists_hold : He.DefD := ⟨("_law_lists_hold", none), "_law_lists_hold", "_law_lists_hold", defArgs s_l_lists_hold, defBody s_l_lists_hold, defScope s_l_lists_hold, [], []⟩
def dd_l_worst_holds : He.DefD := ⟨("_law_worst_holds", none), "_law_worst_holds", "_law_worst_holds", defArgs s_l_worst_holds, defBody s_l_worst_holds, defScope s_l_worst_holds, [], []⟩
def dd_l_excess_holds : He.DefD := ⟨("_law_excess_holds", none), "_law_excess_holds", "_law_excess_holds", defArgs s_l_excess_holds, defBody s_l_excess_holds, defScope s_l_excess_holds, [], []⟩
def dd_law : He.DefD := ⟨("law", none), "law", "law", defArgs s_law, defBody s_law, defScope s_law, [], []⟩
def dd_BadCode___init__ : He.DefD := ⟨("BadCode", some "__init__"), "__init__", "BadCode.__init__", defArgs s_BadCode___init__, defBody s_BadCode___init__, defScope s_BadCode___init__, [], []⟩
def dd_NoCheck___init__ : He.DefD := ⟨("NoCheck", some "__init__"), "__init__", "NoCheck.__init__", defArgs s_NoCheck___init__, defBody s_NoCheck___init__, defScope s_NoCheck___init__, [], []⟩
def dd_BadRow___init__ : He.DefD := ⟨("BadRow", some "__init__"), "__init__", "BadRow.__init__", defArgs s_BadRow___init__, defBody s_BadRow___init__, defScope s_BadRow___init__, [], []⟩
def dd_Code___init__ : He.DefD := ⟨("Code", some "__init__"), "__init__", "Code.__init__", defArgs s_Code___init__, defBody s_Code___init__, defScope s_Code___init__, [], []⟩
def dd_Code___len__ : He.DefD := ⟨("Code", some "__len__"), "__len__", "Code.__len__", defArgs s_Code___len__, defBody s_Code___len__, defScope s_Code___len__, [], []⟩
def dd_Code___eq__ : He.DefD := ⟨("Code", some "__eq__"), "__eq__", "Code.__eq__", defArgs s_Code___eq__, defBody s_Code___eq__, defScope s_Code___eq__, [], []⟩
def fa0 : List He.Fa := [.free "isinstance", .free "int", .free "bool", .free "len", .free "abs", .free "all", .free "sum", .free "range", .free "enumerate", .free "tuple", .free "list", .free "set", .free "sorted", .free "min", .free "max", .free "ValueError", .glo "CodeError", .glo "BadCode", .glo "NoCheck", .glo "BadLot"]
def fa1 : List He.Fa := [.glo "BadRow", .glo "Code", .glo "is_whole", .glo "is_sequence", .glo "is_ratio", .glo "is_share", .glo "lowest", .glo "over_one_bottom", .glo "is_lot", .glo "check_number", .glo "check_lot", .glo "is_long", .glo "check_row", .glo "lot_order", .glo "even_rows", .glo "odd_lots_of", .glo "odd_lots", .glo "check_odd_lot", .glo "excess_top", .glo "excess_of"]
def fa2 : List He.Fa := [.glo "best_places", .glo "worst_places", .glo "worst_on", .glo "worst_lot", .glo "let_fault", .glo "is_let", .glo "tight_lots", .glo "_law_stir", .glo "_law_hand", .glo "_law_draw", .glo "_law_whole", .glo "_law_wholes", .glo "_law_part", .glo "_law_ratio", .glo "_law_is_ratio", .glo "_law_tops", .glo "_law_lot", .glo "_law_within", .glo "_law_shuffled", .glo "_law_free_checks"]
def fa3 : List He.Fa := [.glo "_law_tie_checks", .glo "_law_code", .glo "_law_longer", .glo "_law_digits", .glo "_law_even", .glo "_law_words", .glo "_law_lots", .glo "_law_far", .glo "_law_stop", .glo "_law_shares", .glo "_law_let_shares", .glo "_law_given", .glo "_law_given_checks", .glo "_law_odds", .glo "_law_lists_hold", .glo "_law_worst_holds", .glo "_law_excess_holds", .glo "law", .int "MOST_BITS" 10, .int "MOST_CHECKS" 63]
def fa4 : List He.Fa := [.cls "Code", .noat "Code" "bits", .noat "Code" "checks", .mkr "Code", .meth "Code" "__len__", .meth "Code" "__eq__"]
def fa : List He.Fa := fa0 ++ fa1 ++ fa2 ++ fa3 ++ fa4
def fn0 : List He.DefD := [dd_is_whole, dd_is_sequence, dd_is_ratio, dd_is_share, dd_lowest, dd_over_one_bottom, dd_is_lot, dd_check_number, dd_check_lot, dd_is_long, dd_check_row, dd_lot_order, dd_even_rows, dd_odd_lots_of, dd_odd_lots, dd_check_odd_lot, dd_excess_top, dd_excess_of, dd_best_places, dd_worst_places]
def fn1 : List He.DefD := [dd_worst_on, dd_worst_lot, dd_let_fault, dd_is_let, dd_tight_lots, dd_l_stir, dd_l_hand, dd_l_draw, dd_l_whole, dd_l_wholes, dd_l_part, dd_l_ratio, dd_l_is_ratio, dd_l_tops, dd_l_lot, dd_l_within, dd_l_shuffled, dd_l_free_checks, dd_l_tie_checks, dd_l_code]
def fn2 : List He.DefD := [dd_l_longer, dd_l_digits, dd_l_even, dd_l_words, dd_l_lots, dd_l_far, dd_l_stop, dd_l_shares, dd_l_let_shares, dd_l_given, dd_l_given_checks, dd_l_odds, dd_l_lists_hold, dd_l_worst_holds, dd_l_excess_holds, dd_law, dd_BadCode___init__, dd_NoCheck___init__, dd_BadRow___init__, dd_Code___init__]
def fn3 : List He.DefD := [dd_Code___len__, dd_Code___eq__]
def fn : List He.DefD := fn0 ++ fn1 ++ fn2 ++ fn3
def cs : List (PySem.Str × List PySem.Str) := [("CodeError", []), ("BadCode", ["what", "place"]), ("NoCheck", ["number"]), ("BadLot", []), ("BadRow", ["place"])]
def ex (K : PySem.W.Frag) : Bool := VL.gcdB K && (VL.lcmB K && (VL.neB K "Code" && (VL.isB K "Code" && (true))))
abbrev Txt (K : PySem.W.Frag) (mg : Str → Option Value) : Prop := VL.TxtV fa fn cs ex K mg
theorem gcd_ {K : PySem.W.Frag} {mg : Str → Option Value} (T : Txt K mg) : mg "gcd" = some (.builtin "math.gcd") := T.gcd ((He.ba T.ex_).1)
theorem lcm_ {K : PySem.W.Frag} {mg : Str → Option Value} (T : Txt K mg) : mg "lcm" = some (.builtin "math.lcm") := T.lcm ((He.ba (He.ba T.ex_).2).1)
theorem ne_Code {K : PySem.W.Frag} {mg : Str → Option Value} (T : Txt K mg) : VL.neB K "Code" = true := (He.ba (He.ba (He.ba T.ex_).2).2).1
theorem is_Code {K : PySem.W.Frag} {mg : Str → Option Value} (T : Txt K mg) : VL.isB K "Code" = true := (He.ba (He.ba (He.ba (He.ba T.ex_).2).2).2).1
section
variable {P : Program} {w : World} {K : PySem.W.Frag} {mg : Str → Option Value} {base : Heap}
theorem FI_BadCode (T : Txt K mg) : ∃ fI, FnOk P w K mg base CX0 1 (He.ma K (He.ga K "BadCode") "__init__") fI ["self", "what", "place"] (spInit2 (He.ga K "BadCode") "what" "place") ∧ Binds K fI ["self", "what", "place"] [] := by
  obtain ⟨fd, F⟩ := T.c.def_ 56 (d := dd_BadCode___init__) rfl
  refine ⟨fd, FunD.ok (CX := CX0) F sc_BadCode___init__ (fun vs H Q E h => ?_) (fun cdv A outer s H vs Q E hr h => ?_), F.bindsN fun _ _ _ _ _ _ us hl => match us, hl with | [_, _, _], _ => rfl⟩
  · obtain ⟨a, v, u, rfl, _⟩ := h; rfl
  · obtain ⟨a, v, u, rfl, ha, k⟩ := h
    refine ⟨_, PSs.nox (pss_cons (ps_ost (pv 0) (pv 1)) (pss_one (ps_ost (pv 0) (pv 2)))), ?_⟩
    refine MB.st0 (σ := [some (.ref a), some v, some u]) rfl ?_
    refine ⟨_, rfl, _, rfl, a, _, rfl, T.bo 1, T.bn 1 0, .inl ⟨ha, fun dx h1 h2 => ?_⟩⟩
    exact ⟨_, rfl, _, rfl, a, _, rfl, T.bo 1, T.bn 1 1, .inr ⟨dx, [("what", v)], upd_same, (upd_ne h2).trans upd_same, by show 1 ≤ 900; decide, k dx h1 h2⟩⟩
theorem FI_NoCheck (T : Txt K mg) : ∃ fI, FnOk P w K mg base CX0 1 (He.ma K (He.ga K "NoCheck") "__init__") fI ["self", "number"] (spInit1 (He.ga K "NoCheck") "number") ∧ Binds K fI ["self", "number"] [] := by
  obtain ⟨fd, F⟩ := T.c.def_ 57 (d := dd_NoCheck___init__) rfl
  refine ⟨fd, FunD.ok (CX := CX0) F sc_NoCheck___init__ (fun vs H Q E h => ?_) (fun cdv A outer s H vs Q E hr h => ?_), F.bindsN fun _ _ _ _ _ _ us hl => match us, hl with | [_, _], _ => rfl⟩
  · obtain ⟨a, v, rfl, _⟩ := h; rfl
  · obtain ⟨a, v, rfl, ha, k⟩ := h
    refine ⟨_, PSs.nox (pss_one (ps_ost (pv 0) (pv 1))), ?_⟩
    refine MB.st0 (σ := [some (.ref a), some v]) rfl ?_
    exact ⟨_, rfl, _, rfl, a, _, rfl, T.bo 2, T.bn 2 0, .inl ⟨ha, fun dx h1 h2 => k dx h1 h2⟩⟩
theorem FI_BadRow (T : Txt K mg) : ∃ fI, FnOk P w K mg base CX0 1 (He.ma K (He.ga K "BadRow") "__init__") fI ["self", "place"] (spInit1 (He.ga K "BadRow") "place") ∧ Binds K fI ["self", "place"] [] := by
  obtain ⟨fd, F⟩ := T.c.def_ 58 (d := dd_BadRow___init__) rfl
  refine ⟨fd, FunD.ok (CX := CX0) F sc_BadRow___init__ (fun vs H Q E h => ?_) (fun cdv A outer s H vs Q E hr h => ?_), F.bindsN fun _ _ _ _ _ _ us hl => match us, hl with | [_, _], _ => rfl⟩
  · obtain ⟨a, v, rfl, _⟩ := h; rfl
  · obtain ⟨a, v, rfl, ha, k⟩ := h
    refine ⟨_, PSs.nox (pss_one (ps_ost (pv 0) (pv 1))), ?_⟩
    refine MB.st0 (σ := [some (.ref a), some v]) rfl ?_
    exact ⟨_, rfl, _, rfl, a, _, rfl, T.bo 4, T.bn 4 0, .inl ⟨ha, fun dx h1 h2 => k dx h1 h2⟩⟩
end
end K04
set_option maxHeartbeats 0
namespace K04
open PySem PySem.Spec PyProof.Rows L2 MB
def tf : List He.Defn := [("_law_lots", none)]
def exx (K : PySem.W.Frag) : Bool := cs.all (VL.errB K) && ex K
abbrev R : PySem.W.OpenRow := PySem.W.OpenLaw.row PySem.Challenge.rw_letbychecks_k04_whole_worst_lots_of_all
def names0 : List PySem.Str := ["CodeError", "BadCode", "NoCheck", "BadLot", "BadRow", "is_whole", "is_sequence", "is_ratio", "is_share", "lowest", "over_one_bottom", "MOST_BITS", "MOST_CHECKS", "is_lot", "Code", "check_number", "check_lot", "is_long", "check_row", "lot_order"]
def names1 : List PySem.Str := ["even_rows", "odd_lots_of", "odd_lots", "check_odd_lot", "excess_top", "excess_of", "best_places", "worst_places", "worst_on", "worst_lot", "let_fault", "is_let", "tight_lots", "_law_stir", "_law_hand", "_law_draw", "_law_whole", "_law_wholes", "_law_part", "_law_ratio"]
def names2 : List PySem.Str := ["_law_is_ratio", "_law_tops", "_law_lot", "_law_within", "_law_shuffled", "_law_free_checks", "_law_tie_checks", "_law_code", "_law_longer", "_law_digits", "_law_even", "_law_words", "_law_lots", "_law_far", "_law_stop", "_law_shares", "_law_let_shares", "_law_given", "_law_given_checks", "_law_odds"]
def names3 : List PySem.Str := ["_law_lists_hold", "_law_worst_holds", "_law_excess_holds"]
def names : List PySem.Str := names0 ++ names1 ++ names2 ++ names3

abbrev hk : PySem.W.Hook := He.hookX 5 fa fn [] tf exx
def ob (s : PySem.W.SharedT) : He.AlX := He.obsX 5 fa fn [] tf exx (HandSHeadRun.getT s)
theorem ob_eq (s : PySem.W.SharedT) : ob s = hk.obs s.abs := He.obsX_eq (HandSHeadRun.getT_eq s)
theorem run (w : World) : HandSHeadRun.RunEqI R (PySem.W.view R.prog [0, 70]) hk ob 12000 names w := by
  unfold HandSHeadRun.RunEqI
  kernel_rfl
end K04
set_option Elab.async false
set_option linter.all false
set_option maxRecDepth 100000
set_option exponentiation.threshold 1000
set_option maxHeartbeats 4000000
local macro_rules | `(tactic| walk_at "cm") => `(tactic| first
  | assumption
  | exact Or.inr ⟨by decide, by decide⟩
  | exact Or.inl ⟨by decide, by decide⟩
  | exact Or.inr ⟨by omega, by omega⟩
  | exact Or.inl ⟨by omega, by omega⟩
  | (show (0 : Int) < _; omega)
  | (show (0 : Int) ≤ _; omega)
  | exact ⟨by decide, by decide⟩
  | exact ⟨by omega, by omega⟩
  | exact ⟨by decide, by decide, by decide⟩
  | exact ⟨by omega, by omega, by omega, by omega⟩
  | omega)
local macro_rules | `(tactic| walk_at "ol") => `(tactic| first
  | assumption
  | exact VL.updO_same
  | exact (VL.updO_ne (by first | assumption | exact Ne.symm (by assumption))).trans (by walk_at "ol"))
local macro_rules | `(tactic| walk_at "sq") => `(tactic| first
  | rfl
  | exact VL.asL_own (by walk_at "ol")
  | exact VL.asS_own (by walk_at "ol")
  | assumption)
local macro_rules | `(tactic| walk_at "ty") => `(tactic| first
  | rfl
  | exact VL.tyD_own (by walk_at "ol")
  | assumption)
local macro_rules | `(tactic| walk_at "kit") => `(tactic| first
  | exact K00.kit_ii | exact K00.kit_bi | exact K00.kit_si | exact K00.kit_ni | exact K00.kit_li | exact K00.kit_ti
  | exact K00.kit_ib | exact K00.kit_bb | exact K00.kit_sb | exact K00.kit_nb | exact K00.kit_lb | exact K00.kit_tb
  | exact K00.kit_it | exact K00.kit_bt | exact K00.kit_st | exact K00.kit_nt | exact K00.kit_lt | exact K00.kit_tt
  | exact VL.kit_is' | exact VL.kit_ss' | exact VL.kit_bs' | exact VL.kit_ns' | exact VL.kit_ts'
  | exact K00.kit_il | exact K00.kit_bl | exact K00.kit_sl | exact K00.kit_nl | exact K00.kit_ll | exact K00.kit_tl)
local macro_rules | `(tactic| walk_at "vw") => `(tactic| repeat (first
  | ((with_reducible apply VL.l_var); (next => rfl))
  | ((with_reducible apply VL.l_c); (next => rfl))
  | with_reducible refine VL.l_own (VL.ln_lst ?_)
  | with_reducible refine VL.l_own (VL.ln_cb ?_)
  | with_reducible refine VL.l_own (VL.ln_op ?_)
  | with_reducible refine VL.l_own (VL.ln_sl ?_)
  | with_reducible refine VL.l_own (VL.ln_rg1 ?_)
  | with_reducible refine VL.l_own ?_
  | with_reducible refine VL.f_lst ?_
  | ((with_reducible apply VL.f_list); (next => rfl))
  | ((with_reducible apply VL.f_sorted); (next => rfl))
  | ((with_reducible apply VL.f_sortedA); (next => rfl))
  | with_reducible refine VL.f_cat ?_
  | with_reducible refine VL.f_rep ?_
  | ((with_reducible apply VL.f_sl); (next => rfl))
  | with_reducible refine VL.f_lc ?_
  | ((with_reducible apply VL.l_isiT); (next => rfl))
  | with_reducible refine VL.l_op ?_
  | with_reducible refine VL.l_un ?_
  | with_reducible refine VL.l_cb ?_
  | with_reducible refine VL.la_nil ?_
  | with_reducible refine VL.la_cons ?_
  | with_reducible refine VL.l_tup ?_
  | with_reducible refine VL.and_len (Nat.le_of_ble_eq_true rfl) ?_
  | with_reducible refine VL.l_test ?_
  | with_reducible refine VL.l_tB ?_
  | with_reducible refine VL.ex_bl ?_
  | with_reducible refine VL.ex_int ?_
  | with_reducible refine VL.ex_tup ?_
  | with_reducible refine VL.ex_two ?_
  | with_reducible refine VL.ex_one ?_
  | with_reducible refine VL.l_and ?_
  | with_reducible refine VL.l_or ?_
  | with_reducible refine VL.l_not ?_
  | with_reducible refine VL.l_andV ?_
  | with_reducible refine VL.l_orV ?_
  | with_reducible refine VL.l_notV ?_
  | with_reducible refine VL.l_if ?_
  | with_reducible refine VL.l_chain ?_
  | with_reducible refine VL.l_yes ?_
  | with_reducible refine VL.lo_none ?_
  | with_reducible refine VL.lo_some ?_
  | with_reducible refine VL.l_sl ?_
  | ((with_reducible apply VL.l_fld); (next => rfl))
  | ((with_reducible apply VL.l_xfv); (next => rfl); (next => rfl))
  | ((with_reducible apply VL.o_I0); (next => rfl))
  | ((with_reducible apply VL.o_I); (next => walk_at "cm"); (next => rfl))
  | ((with_reducible apply VL.o_U); (next => rfl))
  | ((with_reducible apply VL.o_eqs); (next => rfl); (next => rfl); (next => rfl); (next => rfl))
  | ((with_reducible apply VL.o_nes); (next => rfl); (next => rfl); (next => rfl); (next => rfl))
  | with_reducible refine VL.o_isN ?_
  | with_reducible refine VL.o_notN ?_
  | ((with_reducible apply VL.o_ixL); (next => rfl); (next => walk_at "sq"); (next => rfl))
  | ((with_reducible apply VL.o_ixT); (next => rfl); (next => rfl))
  | ((with_reducible apply VL.o_ixQ); (next => rfl); (next => walk_at "sq"); (next => rfl))
  | ((with_reducible apply VL.l_lenSet2); (next => rfl))
  | ((with_reducible apply VL.k_repr0); (next => rfl))
  | ((with_reducible apply VL.o_inI); (next => rfl); (next => walk_at "sq"))
  | ((with_reducible apply VL.o_niI); (next => rfl); (next => walk_at "sq"))
  | ((with_reducible apply VL.k_len); (next => rfl); (next => walk_at "sq"))
  | ((with_reducible apply VL.k_allM); (next => rfl); (next => rfl))
  | ((with_reducible apply VL.k_anyM); (next => rfl); (next => rfl))
  | ((with_reducible apply VL.k_sumM); (next => rfl); (next => rfl))
  | with_reducible refine VL.ln_rg1 ?_
  | with_reducible refine VL.ex_rg (by first | exact ⟨by decide, by decide⟩ | exact ⟨by omega, by omega⟩) ?_
  | with_reducible refine VL.i_rng1 ?_
  | with_reducible refine VL.ex_r1 (by first | exact ⟨by decide, by decide⟩ | exact ⟨by omega, by omega⟩) ?_
  | ((with_reducible apply VL.l_bm); (next => rfl))
  | ((with_reducible apply VL.l_bm0); (next => rfl))
  | ((with_reducible apply VL.ex_asLB); (next => walk_at "sq"))
  | with_reducible refine VL.k_int1 ?_
  | with_reducible refine VL.k_abs ?_
  | with_reducible refine VL.k_gcd ?_
  | with_reducible refine VL.k_MM ?_
  | ((with_reducible apply VL.k_listOf); (next => rfl); (next => walk_at "sq"))
  | ((with_reducible apply VL.k_tupOf); (next => rfl); (next => walk_at "sq"))
  | ((with_reducible apply VL.k_sum); (next => rfl); (next => walk_at "sq"))
  | ((with_reducible apply VL.k_sumA); (next => rfl); (next => walk_at "sq"))
  | ((with_reducible apply VL.k_lenScr); (next => rfl))
  | with_reducible refine VL.o_isB ?_
  | ((with_reducible apply VL.k_isi); (next => rfl); (next => walk_at "ty"); (next => walk_at "kit"))
  | ((with_reducible apply VL.sl_L); (next => rfl); (next => walk_at "sq"))
  | ((with_reducible apply VL.sl_T); (next => rfl))
  | with_reducible refine VL.s_seq ?_
  | with_reducible refine VL.s_asg ?_
  | with_reducible refine VL.h_name ?_
  | with_reducible refine VL.h_sub ?_
  | with_reducible refine VL.h_nil ?_
  | with_reducible refine VL.h_cons ?_
  | ((with_reducible apply VL.h_tup); (next => rfl); (next => rfl))
  | with_reducible refine VL.g_name (by simp) ?_
  | with_reducible refine VL.g_nil ?_
  | with_reducible refine VL.g_cons ?_
  | ((with_reducible apply VL.g_tup); (next => rfl); (next => rfl))
  | ((with_reducible apply VL.t_setL); (next => walk_at "ol"); (next => rfl))
  | with_reducible refine VL.s_next ?_
  | with_reducible refine VL.s_break ?_
  | with_reducible refine VL.s_cont ?_
  | with_reducible refine VL.s_ret ?_
  | with_reducible refine VL.s_retN ?_
  | with_reducible refine VL.s_drop ?_
  | with_reducible refine VL.s_if ?_
  | with_reducible refine VL.s_par ?_
  | with_reducible refine VL.l_callN ?_
  | with_reducible refine VL.l_makeN ?_
  | with_reducible refine VL.l_calln1 ?_
  | with_reducible refine VL.l_calln2 ?_
  | with_reducible refine VL.nn0 ?_
  | with_reducible refine VL.nn1 ?_
  | with_reducible refine VL.nn2 ?_
  | with_reducible refine VL.nn3 ?_
  | with_reducible refine VL.nn4 ?_
  | with_reducible refine VL.nn5 ?_
  | with_reducible refine VL.nn6 ?_
  | with_reducible refine VL.mm0 ?_
  | with_reducible refine VL.mm1 ?_
  | with_reducible refine VL.mm2 ?_
  | with_reducible refine VL.mm3 ?_
  | with_reducible refine VL.mm4 ?_
  | with_reducible refine VL.mm5 ?_
  | with_reducible refine VL.mm6 ?_
  | with_reducible refine MB.if_nt ?_
  | with_reducible refine MB.if_nf ?_
  | with_reducible refine L2.iteF ?_
  | with_reducible refine L2.iteT ?_))
local macro_rules | `(tactic| walk_at "vx") => `(tactic| repeat (first
  | ((with_reducible apply VL.l_var); (next => rfl))
  | ((with_reducible apply VL.l_c); (next => rfl))
  | with_reducible refine VL.l_own (VL.ln_lst ?_)
  | with_reducible refine VL.l_own (VL.ln_cb ?_)
  | with_reducible refine VL.l_own (VL.ln_op ?_)
  | with_reducible refine VL.l_own (VL.ln_sl ?_)
  | with_reducible refine VL.l_own (VL.ln_rg1 ?_)
  | with_reducible refine VL.l_own ?_
  | with_reducible refine VL.f_lst ?_
  | ((with_reducible apply VL.f_list); (next => rfl))
  | ((with_reducible apply VL.f_sorted); (next => rfl))
  | ((with_reducible apply VL.f_sortedA); (next => rfl))
  | with_reducible refine VL.f_cat ?_
  | with_reducible refine VL.f_rep ?_
  | ((with_reducible apply VL.f_sl); (next => rfl))
  | with_reducible refine VL.f_lc ?_
  | ((with_reducible apply VL.l_isiT); (next => rfl))
  | with_reducible refine VL.l_op ?_
  | with_reducible refine VL.l_un ?_
  | with_reducible refine VL.l_cb ?_
  | with_reducible refine VL.la_nil ?_
  | with_reducible refine VL.la_cons ?_
  | with_reducible refine VL.l_tup ?_
  | with_reducible refine VL.and_len (Nat.le_of_ble_eq_true rfl) ?_
  | with_reducible refine VL.l_test ?_
  | with_reducible refine VL.l_tB ?_
  | with_reducible refine VL.ex_bl ?_
  | with_reducible refine VL.ex_int ?_
  | with_reducible refine VL.ex_tup ?_
  | with_reducible refine VL.ex_two ?_
  | with_reducible refine VL.ex_one ?_
  | with_reducible refine VL.l_and ?_
  | with_reducible refine VL.l_or ?_
  | with_reducible refine VL.l_not ?_
  | with_reducible refine VL.l_andV ?_
  | with_reducible refine VL.l_orV ?_
  | with_reducible refine VL.l_notV ?_
  | with_reducible refine VL.l_chain ?_
  | with_reducible refine VL.l_yes ?_
  | with_reducible refine VL.lo_none ?_
  | with_reducible refine VL.lo_some ?_
  | with_reducible refine VL.l_sl ?_
  | ((with_reducible apply VL.l_fld); (next => rfl))
  | ((with_reducible apply VL.l_xfv); (next => rfl); (next => rfl))
  | ((with_reducible apply VL.o_I0); (next => rfl))
  | ((with_reducible apply VL.o_I); (next => walk_at "cm"); (next => rfl))
  | ((with_reducible apply VL.o_U); (next => rfl))
  | ((with_reducible apply VL.o_eqs); (next => rfl); (next => rfl); (next => rfl); (next => rfl))
  | ((with_reducible apply VL.o_nes); (next => rfl); (next => rfl); (next => rfl); (next => rfl))
  | with_reducible refine VL.o_isN ?_
  | with_reducible refine VL.o_notN ?_
  | ((with_reducible apply VL.o_ixL); (next => rfl); (next => walk_at "sq"); (next => rfl))
  | ((with_reducible apply VL.o_ixT); (next => rfl); (next => rfl))
  | ((with_reducible apply VL.o_ixQ); (next => rfl); (next => walk_at "sq"); (next => rfl))
  | ((with_reducible apply VL.l_lenSet2); (next => rfl))
  | ((with_reducible apply VL.k_repr0); (next => rfl))
  | ((with_reducible apply VL.o_inI); (next => rfl); (next => walk_at "sq"))
  | ((with_reducible apply VL.o_niI); (next => rfl); (next => walk_at "sq"))
  | ((with_reducible apply VL.k_len); (next => rfl); (next => walk_at "sq"))
  | ((with_reducible apply VL.k_allM); (next => rfl); (next => rfl))
  | ((with_reducible apply VL.k_anyM); (next => rfl); (next => rfl))
  | ((with_reducible apply VL.k_sumM); (next => rfl); (next => rfl))
  | with_reducible refine VL.ln_rg1 ?_
  | with_reducible refine VL.ex_rg (by first | exact ⟨by decide, by decide⟩ | exact ⟨by omega, by omega⟩) ?_
  | with_reducible refine VL.i_rng1 ?_
  | with_reducible refine VL.ex_r1 (by first | exact ⟨by decide, by decide⟩ | exact ⟨by omega, by omega⟩) ?_
  | ((with_reducible apply VL.l_bm); (next => rfl))
  | ((with_reducible apply VL.l_bm0); (next => rfl))
  | ((with_reducible apply VL.ex_asLB); (next => walk_at "sq"))
  | with_reducible refine VL.k_int1 ?_
  | with_reducible refine VL.k_abs ?_
  | with_reducible refine VL.k_gcd ?_
  | with_reducible refine VL.k_MM ?_
  | ((with_reducible apply VL.k_listOf); (next => rfl); (next => walk_at "sq"))
  | ((with_reducible apply VL.k_tupOf); (next => rfl); (next => walk_at "sq"))
  | ((with_reducible apply VL.k_sum); (next => rfl); (next => walk_at "sq"))
  | ((with_reducible apply VL.k_sumA); (next => rfl); (next => walk_at "sq"))
  | ((with_reducible apply VL.k_lenScr); (next => rfl))
  | with_reducible refine VL.o_isB ?_
  | ((with_reducible apply VL.k_isi); (next => rfl); (next => walk_at "ty"); (next => walk_at "kit"))
  | ((with_reducible apply VL.sl_L); (next => rfl); (next => walk_at "sq"))
  | ((with_reducible apply VL.sl_T); (next => rfl))
  | with_reducible refine VL.s_seq ?_
  | with_reducible refine VL.s_asg ?_
  | with_reducible refine VL.h_name ?_
  | with_reducible refine VL.h_sub ?_
  | with_reducible refine VL.h_nil ?_
  | with_reducible refine VL.h_cons ?_
  | ((with_reducible apply VL.h_tup); (next => rfl); (next => rfl))
  | with_reducible refine VL.g_name (by simp) ?_
  | with_reducible refine VL.g_nil ?_
  | with_reducible refine VL.g_cons ?_
  | ((with_reducible apply VL.g_tup); (next => rfl); (next => rfl))
  | ((with_reducible apply VL.t_setL); (next => walk_at "ol"); (next => rfl))
  | with_reducible refine VL.s_next ?_
  | with_reducible refine VL.s_break ?_
  | with_reducible refine VL.s_cont ?_
  | with_reducible refine VL.s_ret ?_
  | with_reducible refine VL.s_retN ?_
  | with_reducible refine VL.s_drop ?_
  | with_reducible refine VL.s_if ?_
  | with_reducible refine VL.s_par ?_
  | with_reducible refine VL.l_callN ?_
  | with_reducible refine VL.l_makeN ?_
  | with_reducible refine VL.l_calln1 ?_
  | with_reducible refine VL.l_calln2 ?_
  | with_reducible refine VL.nn0 ?_
  | with_reducible refine VL.nn1 ?_
  | with_reducible refine VL.nn2 ?_
  | with_reducible refine VL.nn3 ?_
  | with_reducible refine VL.nn4 ?_
  | with_reducible refine VL.nn5 ?_
  | with_reducible refine VL.nn6 ?_
  | with_reducible refine VL.mm0 ?_
  | with_reducible refine VL.mm1 ?_
  | with_reducible refine VL.mm2 ?_
  | with_reducible refine VL.mm3 ?_
  | with_reducible refine VL.mm4 ?_
  | with_reducible refine VL.mm5 ?_
  | with_reducible refine VL.mm6 ?_
  | with_reducible refine MB.if_nt ?_
  | with_reducible refine MB.if_nf ?_
  | with_reducible refine L2.iteF ?_
  | with_reducible refine L2.iteT ?_))
namespace K04
open PySem PySem.Spec PyProof.Rows L2 MB
def W_stir : VL.WL := fun ds O Q _ => ∃ n t : Int, ds = [.int n, .int t] ∧ ∀ r : Int, Q (.int r) O
def W_hand : VL.WL := fun ds O Q _ => ∃ ns : List Int, ds = [.scr ns] ∧ ns.length ≤ 63 ∧ ∀ p, O p = none → Q (.ref p) (VL.updO O p .hand)
def W_draw : VL.WL := fun ds O Q _ => ∃ (p : Addr) (m : Int), ds = [.ref p, .int m] ∧ O p = some .hand ∧ 0 < m ∧ m < 1073741824 ∧ ∀ d : Int, 0 ≤ d → d < m → Q (.int d) O
section
variable {P : Program} {w : World} {K : PySem.W.Frag} {mg : Str → Option Value} {base : Heap}
theorem c_l_stir (T : Txt K mg) : Cal P w K mg base CX0 1 "_law_stir" ["_law_number", "_law_turn"] [] (VL.SpL K W_stir) := by
  obtain ⟨fd, F⟩ := T.c.def_ 25 (d := dd_l_stir) rfl
  refine ⟨_, fd, [], VL.fnL' (CX := CX0) F sc_l_stir ?_ (fun cdv A outer s H E hr => ⟨_, PSs.nox (pss_cons (ps_set (i := 2) sc_l_stir.nd rfl (Or.inl rfl) (pe_op op_mod (pe_callTy MB.k_int1 rfl (T.free 1) (by decide +kernel) (pa_cons (pe_op op_add (pe_op op_add (pe_op op_mul (pv 0) pe_int) (pe_op op_mul (pv 1) pe_int)) pe_int) pa_nil)) pe_int))
 (pss_cons (ps_set (i := 3) sc_l_stir.nd rfl (Or.inl rfl) (pe_op op_mod (pe_callTy MB.k_int1 rfl (T.free 1) (by decide +kernel) (pa_cons (pe_op op_add (pe_op op_add (pe_op op_mul (pv 2) (pv 2)) (pe_op op_mul (pv 1) pe_int)) (pe_op op_fdiv (pv 2) pe_int)) pa_nil)) pe_int))
 (pss_one (ps_ret (pe_op op_fdiv (pe_op op_mod (pe_callTy MB.k_int1 rfl (T.free 1) (by decide +kernel) (pa_cons (pe_op op_add (pe_op op_mul (pv 3) pe_int) (pe_op op_fdiv (pv 2) pe_int)) pa_nil)) pe_int) pe_int))))), ?_⟩), T.glo 47, F.kp, F.bindsN fun _ _ _ _ _ _ us hl => match us, hl with | [_, _], _ => rfl, .nil⟩

  · rintro ds O Q E ⟨n, t, rfl, _⟩; rfl
  · rintro ds O Q E ⟨n, t, rfl, k⟩
    walk_at "vw"
    exact k _
theorem ints_at {ns : List Int} {i : Int} (h0 : 0 ≤ i) (h : i < (ns.map VL.D.int).length) : ∃ c, c ∈ ns ∧ atI (ns.map VL.D.int) i = some (.int c) := by
  rw [List.length_map] at h
  have e : i = ((i.toNat : Nat) : Int) := by omega
  have hl : i.toNat < ns.length := by omega
  have g : atI (ns.map VL.D.int) ((i.toNat : Nat) : Int) = some (.int ns[i.toNat]) := by
    refine atI_nat ?_
    rw [List.getElem?_map, List.getElem?_eq_getElem hl]
    rfl
  rw [← e] at g
  exact ⟨_, List.getElem_mem hl, g⟩
theorem c_l_draw (T : Txt K mg) : Cal P w K mg base CX0 2 "_law_draw" ["_law_hand_here", "_law_many"] [] (VL.SpL K W_draw) := by
  have c_l_stir := @c_l_stir P w K mg base T
  obtain ⟨fd, F⟩ := T.c.def_ 27 (d := dd_l_draw) rfl
  refine ⟨_, fd, [], VL.fnL' (CX := CX0) F sc_l_draw ?_ (fun cdv A outer s H E hr => ⟨_, PSs.nox (pss_cons (ps_if (PW.pt (pw_and (pt_cmpR (VL.op_eqX hr.units) (pe_ix ix_seq (pv 0) pe_int (fun _ _ => rfl)) pe_int (nomark _)) (pw_and1 (pt_cmpR op_lt (pe_ix ix_seq (pv 0) pe_int (fun _ _ => rfl)) (pe_callB MB.k_len rfl (T.free 3) PySem.boot_len (pa_cons (pe_ix ix_seq (pv 0) pe_int (fun _ _ => rfl)) pa_nil)) (nomark _)))))
  (pss_cons (ps_set (i := 2) sc_l_draw.nd rfl (Or.inl rfl) (pe_ix ix_seq (pe_ix ix_seq (pv 0) pe_int (fun _ _ => rfl)) (pe_ix ix_seq (pv 0) pe_int (fun _ _ => rfl)) (fun _ _ => rfl)))
 (pss_cons (ps_asg (pe_op op_add (pe_ix ix_seq (pv 0) pe_int (fun _ _ => rfl)) pe_int) (pg_sub (pv 0) pe_int set_list (by intros; rfl)))
 (pss_cons (ps_if (pt_cmpR op_lt (pv 2) (pe_op op_pow pe_int pe_int) (nomark _))
  (pss_one (ps_ret (pe_op op_mod (pe_callTy MB.k_int1 rfl (T.free 1) (by decide +kernel) (pa_cons (pe_cal c_l_stir (hr.mono (by decide)) pass0 (pa_cons (pv 2) (pa_cons (pe_ix ix_seq (pv 0) pe_int (fun _ _ => rfl)) pa_nil))) pa_nil)) (pv 1))))
  pss_nil)
 (pss_one (ps_asg (pv 2) (pg_sub (pv 0) pe_int set_list (by intros; rfl)))))))
  pss_nil)
 (pss_cons (ps_if (pt_cmpR op_gt (pe_ix ix_seq (pv 0) pe_int (fun _ _ => rfl)) pe_int (nomark _))
  (pss_cons (ps_set (i := 3) sc_l_draw.nd rfl (Or.inl rfl) (pe_ix ix_seq (pv 0) pe_int (fun _ _ => rfl)))
 (pss_cons (ps_asg (pe_op op_fdiv (pv 3) (pv 1)) (pg_sub (pv 0) pe_int set_list (by intros; rfl)))
 (pss_one (ps_ret (pe_op op_mod (pe_callTy MB.k_int1 rfl (T.free 1) (by decide +kernel) (pa_cons (pv 3) pa_nil)) (pv 1))))))
  pss_nil)
 (pss_cons (ps_asg (pe_op op_mod (pe_callTy MB.k_int1 rfl (T.free 1) (by decide +kernel) (pa_cons (pe_op op_add (pe_ix ix_seq (pv 0) pe_int (fun _ _ => rfl)) pe_int) pa_nil)) pe_int) (pg_sub (pv 0) pe_int set_list (by intros; rfl)))
 (pss_one (ps_ret (pe_op op_mod (pe_callTy MB.k_int1 rfl (T.free 1) (by decide +kernel) (pa_cons (pe_cal c_l_stir (hr.mono (by decide)) pass0 (pa_cons (pe_ix ix_seq (pv 0) pe_int (fun _ _ => rfl)) (pa_cons (pe_ix ix_seq (pv 0) pe_int (fun _ _ => rfl)) pa_nil))) pa_nil)) (pv 1))))))), ?_⟩), T.glo 49, F.kp, F.bindsN fun _ _ _ _ _ _ us hl => match us, hl with | [_, _], _ => rfl, .nil⟩

  · rintro ds O Q E ⟨p, m, rfl, _⟩; rfl
  · rintro ds O Q E ⟨p, m, rfl, hp, hm, hm2, k⟩
    refine VL.s_hand hp fun ns i rest st b => ?_
    have fin : ∀ (z i rest st : Int) (O' : VL.Oh), O' = VL.updO O p (.lst [.lst (ns.map VL.D.int), .int i, .int rest, .int st]) → 0 ≤ i → 0 ≤ rest → ∃ (ns : List Int) (i rest st : Int), O' p = some (.lst [.lst (ns.map VL.D.int), .int i, .int rest, .int st]) ∧ (0 ≤ i ∧ 0 ≤ rest ∧ (∀ n ∈ ns, 0 ≤ n) ∧ ns.length ≤ 63) ∧ Q (.int (z % m)) (VL.updO O' p .hand) := by
      rintro z i rest st O' rfl h1 h2
      refine ⟨ns, i, rest, st, VL.updO_same, ⟨h1, h2, b.2.2.1, b.2.2.2⟩, ?_⟩
      rw [VL.updO_id hp]
      exact k _ (Int.emod_nonneg _ (by omega)) (Int.emod_lt_of_pos _ hm)
    walk_at "vw"
    refine if_i (fun hr0 => ?_) (fun hr0 => ?_)
    · walk_at "vw"
      refine if_d (fun hi => ?_) (fun hi => ?_)
      · walk_at "vw"
        obtain ⟨c, hc, ea⟩ := ints_at b.1 hi
        refine VL.o_ixQ rfl rfl ea ?_
        walk_at "vw"
        refine if_d (fun hcc => ?_) (fun hcc => ?_)
        · walk_at "vw"
          refine ⟨_, _, rfl, fun r => ?_⟩
          walk_at "vw"
          exact fin r _ _ _ _ (by (repeat rw [VL.updO_updO]); try rfl) (by omega) b.2.1
        · have hc0 := b.2.2.1 c hc
          walk_at "vw"
          refine if_d (fun hc => ?_) (fun hc => ?_)
          · walk_at "vw"
            exact fin _ _ _ _ _ (by (repeat rw [VL.updO_updO]); try rfl) (by omega) (Int.ediv_nonneg hc0 (by omega))
          · walk_at "vw"
            refine ⟨_, _, rfl, fun r => ?_⟩
            walk_at "vw"
            exact fin r _ _ _ _ (by (repeat rw [VL.updO_updO]); try rfl) (by omega) hc0
      · walk_at "vw"
        refine if_d (fun hc => ?_) (fun hc => ?_)
        · walk_at "vw"
          exact fin _ _ _ _ _ (by (repeat rw [VL.updO_updO]); try rfl) b.1 (Int.ediv_nonneg b.2.1 (by omega))
        · walk_at "vw"
          refine ⟨_, _, rfl, fun r => ?_⟩
          walk_at "vw"
          exact fin r _ _ _ _ (by (repeat rw [VL.updO_updO]); try rfl) b.1 b.2.1
    · walk_at "vw"
      refine if_d (fun hc => ?_) (fun hc => ?_)
      · walk_at "vw"
        exact fin _ _ _ _ _ (by (repeat rw [VL.updO_updO]); try rfl) b.1 (Int.ediv_nonneg b.2.1 (by omega))
      · walk_at "vw"
        refine ⟨_, _, rfl, fun r => ?_⟩
        walk_at "vw"
        exact fin r _ _ _ _ (by (repeat rw [VL.updO_updO]); try rfl) b.1 b.2.1
end
end K04
namespace K04
open PySem PySem.Spec PyProof.Rows L2 MB
def W_whole : VL.WL := fun ds O Q _ => ∃ t lo hi, ds = [t, lo, hi] ∧ VL.Kn O t ∧ VL.Bd lo ∧ VL.Bd hi ∧ Q (.bl (VL.isWhole t lo hi)) O
def W_isSeq : VL.WL := fun ds O Q _ => ∃ t, ds = [t] ∧ VL.Kn O t ∧ Q (.bl (VL.asS O t).isSome) O
def W_lot : VL.WL := fun ds O Q _ => ∃ t m, ds = [t, .int m] ∧ VL.Kn O t ∧ (∀ xs, VL.asS O t = some xs → xs.length ≤ 1000 ∧ ∀ x ∈ xs, VL.Kn O x) ∧ Q (.bl (VL.isLot O t m)) O
section
variable {P : Program} {w : World} {K : PySem.W.Frag} {mg : Str → Option Value} {base : Heap}
theorem ok_is_whole (T : Txt K mg) {fd : FuncData} (F : FunD K "is_whole" "is_whole" (defArgs s_is_whole) (defBody s_is_whole) (defScope s_is_whole) [.non, .non] [] (He.ga K "is_whole") fd) : FnOk P w K mg base CX0 1 (He.ga K "is_whole") fd ["thing", "low", "high"] (VL.SpL K W_whole) := by
  refine VL.fnL' (CX := CX0) F sc_is_whole ?_ (fun cdv A outer s H E hr => ⟨_, PSs.nox (pss_cons (ps_if (PW.pt (pw_or (pt_not (pt_val (pe_callB call_isi rfl (T.free 0) (by decide +kernel) (pa_cons (pv 0) (pa_cons (pe_ty "int" rfl (T.free 1) (by decide +kernel)) pa_nil))))) (pw_or1 (pt_val (pe_callB call_isi rfl (T.free 0) (by decide +kernel) (pa_cons (pv 0) (pa_cons (pe_ty "bool" rfl (T.free 2) (by decide +kernel)) pa_nil)))))))
  (pss_one (ps_ret pe_bl))
  pss_nil)
 (pss_one (ps_ret (pe_and (pe_or (pe_cmpR MB.k_isN (pv 1) pe_non (nomark _)) (pe_one (pe_cmpR op_ge (pv 0) (pv 1) (nomark _)))) (pe_one (pe_or (pe_cmpR MB.k_isN (pv 2) pe_non (nomark _)) (pe_one (pe_cmpR op_le (pv 0) (pv 2) (nomark _))))))))), ?_⟩)
  · rintro ds O Q E ⟨t, lo, hi, rfl, _⟩; rfl
  · rintro ds O Q E ⟨t, lo, hi, rfl, ⟨n, hn, h6⟩, hlo, hhi, k⟩
    have ki := VL.kit_six_int h6
    have kb := VL.kit_six_bool h6
    walk_at "vw"
    refine VL.k_isi rfl hn ki ?_
    walk_at "vw"
    by_cases hi2 : (n == "int" || n == "bool") = true
    · rw [hi2]
      walk_at "vw"
      refine VL.k_isi rfl hn kb ?_
      walk_at "vw"
      by_cases hb2 : (n == "bool") = true
      · rw [hb2]
        walk_at "vw"
        cases eq_of_beq hb2
        have e : VL.isWhole t lo hi = false := by
          cases t with
          | int i => simp [VL.tyD] at hn
          | _ => rfl
        rw [e] at k
        exact k
      · rw [Bool.eq_false_iff.mpr hb2]
        walk_at "vw"
        have en : n = "int" := by simpa [hb2] using hi2
        subst en
        obtain ⟨i, rfl⟩ := VL.ty_int hn
        rcases hlo with rfl | ⟨l, rfl⟩
        · rcases hhi with rfl | ⟨h, rfl⟩
          · walk_at "vw"; exact k
          · walk_at "vw"; exact k
        · walk_at "vw"
          refine if_d (fun h1 => ?_) (fun h1 => ?_)
          · rcases hhi with rfl | ⟨h, rfl⟩
            · walk_at "vw"
              have e : VL.isWhole (.int i) (.int l) .non = true := by simp [VL.isWhole, VL.geB, VL.leB, h1]
              rw [e] at k; exact k
            · walk_at "vw"
              have e : VL.isWhole (.int i) (.int l) (.int h) = decide (i ≤ h) := by simp [VL.isWhole, VL.geB, VL.leB, h1]
              rw [e] at k; exact k
          · have e : VL.isWhole (.int i) (.int l) hi = false := by simp [VL.isWhole, VL.geB, h1]
            rw [e] at k; exact k
    · have hi3 := Bool.eq_false_iff.mpr hi2
      rw [hi3]
      walk_at "vw"
      have e : VL.isWhole t lo hi = false := by
        cases t with
        | int i => simp [VL.tyD] at hn; subst hn; simp at hi3
        | _ => rfl
      rw [e] at k
      exact k
theorem c_is_whole1 (T : Txt K mg) : Cal P w K mg base CX0 1 "is_whole" ["thing", "low", "high"] [.non, .non] (VL.SpL K W_whole) := by
  obtain ⟨fd, F⟩ := T.c.def_ 0 (d := dd_is_whole) rfl
  obtain ⟨ds, hd, hb⟩ := FunD.binds1 F 1 0 (List.cons_ne_nil _ _) rfl (ps := ["thing", "low", "high"]) fun _ _ _ _ _ _ _ us its hl hi => match us, its, hl, hi with | [_], [_, _], _, _ => ⟨_, rfl, rfl⟩
  exact ⟨_, fd, ds, ok_is_whole T F, T.glo 22, F.kp, hb, hd⟩
theorem c_is_whole2 (T : Txt K mg) : Cal P w K mg base CX0 1 "is_whole" ["thing", "low", "high"] [.non] (VL.SpL K W_whole) := by
  obtain ⟨fd, F⟩ := T.c.def_ 0 (d := dd_is_whole) rfl
  obtain ⟨ds, hd, hb⟩ := FunD.binds1 F 2 1 (List.cons_ne_nil _ _) rfl (ps := ["thing", "low", "high"]) fun _ _ _ _ _ _ _ us its hl hi => match us, its, hl, hi with | [_, _], [_, _], _, _ => ⟨_, rfl, rfl⟩
  exact ⟨_, fd, ds, ok_is_whole T F, T.glo 22, F.kp, hb, hd⟩
theorem c_is_whole3 (T : Txt K mg) : Cal P w K mg base CX0 1 "is_whole" ["thing", "low", "high"] [] (VL.SpL K W_whole) := by
  obtain ⟨fd, F⟩ := T.c.def_ 0 (d := dd_is_whole) rfl
  obtain ⟨ds, hd, hb⟩ := FunD.binds1 F 3 2 (List.cons_ne_nil _ _) rfl (ps := ["thing", "low", "high"]) fun _ _ _ _ _ _ _ us its hl hi => match us, its, hl, hi with | [_, _, _], [_, _], _, _ => ⟨_, rfl, rfl⟩
  exact ⟨_, fd, ds, ok_is_whole T F, T.glo 22, F.kp, hb, hd⟩
theorem c_is_sequence (T : Txt K mg) : Cal P w K mg base CX0 1 "is_sequence" ["thing"] [] (VL.SpL K W_isSeq) := by
  obtain ⟨fd, F⟩ := T.c.def_ 1 (d := dd_is_sequence) rfl
  refine ⟨_, fd, [], VL.fnL' (CX := CX0) F sc_is_sequence ?_ (fun cdv A outer s H E hr => ⟨_, PSs.nox (pss_one (ps_ret (pe_callB call_isiT rfl (T.free 0) (by decide +kernel) (pa_cons (pv 0) (pa_cons (pe_tup (pa_cons (pe_ty "list" rfl (T.free 10) (by decide +kernel)) (pa_cons (pe_ty "tuple" rfl (T.free 9) (by decide +kernel)) pa_nil))) pa_nil))))), ?_⟩), T.glo 23, F.kp, F.bindsN fun _ _ _ _ _ _ us hl => match us, hl with | [_], _ => rfl, .nil⟩

  · rintro ds O Q E ⟨t, rfl, _⟩; rfl
  · rintro ds O Q E ⟨t, rfl, ⟨n, hn, h6⟩, k⟩
    walk_at "vw"
    refine ⟨n, _, _, hn, VL.kit_six_lst h6, VL.kit_six_tup h6, ?_⟩
    rw [VL.ty_seq hn]
    exact k
end
end K04
namespace K04
open PySem PySem.Spec PyProof.Rows L2 MB
/-- a thing whose items are looked at, too -/
def W_ratio : VL.WL := fun ds O Q _ => ∃ t, ds = [t] ∧ VL.Kn O t ∧ (∀ xs, VL.asS O t = some xs → ∀ x ∈ xs, VL.Kn O x) ∧ Q (.bl (VL.isRatio t)) O
def W_share : VL.WL := fun ds O Q _ => ∃ t, ds = [t] ∧ VL.Kn O t ∧ (∀ xs, VL.asS O t = some xs → ∀ x ∈ xs, VL.Kn O x) ∧ Q (.bl (VL.isShare t)) O
def W_long : VL.WL := fun ds O Q _ => ∃ t m, ds = [t, .int m] ∧ VL.Kn O t ∧ Q (.bl (VL.longA (VL.asS O) t m)) O
def W_digits : VL.WL := fun ds O Q _ => ∃ t m, ds = [t, .int m] ∧ VL.Kn O t ∧ m ≤ 100000 ∧ (∀ xs, VL.asS O t = some xs → ∀ x ∈ xs, VL.Kn O x) ∧ Q (.bl (VL.digitsA (VL.asS O) t m)) O
section
variable {P : Program} {w : World} {K : PySem.W.Frag} {mg : Str → Option Value} {base : Heap}
theorem c_is_ratio (T : Txt K mg) : Cal P w K mg base CX0 2 "is_ratio" ["thing"] [] (VL.SpL K W_ratio) := by
  have c_is_whole1 := @c_is_whole1 P w K mg base T
  have c_is_whole2 := @c_is_whole2 P w K mg base T
  obtain ⟨fd, F⟩ := T.c.def_ 2 (d := dd_is_ratio) rfl
  refine ⟨_, fd, [], VL.fnL' (CX := CX0) F sc_is_ratio ?_ (fun cdv A outer s H E hr => ⟨_, PSs.nox (pss_cons (ps_if (PW.pt (pw_or (pt_not (pt_val (pe_callB call_isi rfl (T.free 0) (by decide +kernel) (pa_cons (pv 0) (pa_cons (pe_ty "tuple" rfl (T.free 9) (by decide +kernel)) pa_nil))))) (pw_or1 (pt_cmpR (VL.op_neX hr.units) (pe_callB MB.k_len rfl (T.free 3) PySem.boot_len (pa_cons (pv 0) pa_nil)) pe_int (nomark _)))))
  (pss_one (ps_ret pe_bl))
  pss_nil)
 (pss_cons (ps_asg (pv 0) (pg_tup rfl (pgs_cons (pg_name (i := 1) sc_is_ratio.nd rfl (Or.inl rfl)) (pgs_cons (pg_name (i := 2) sc_is_ratio.nd rfl (Or.inl rfl)) pgs_nil))))
 (pss_one (ps_ret (pe_and (pe_cal c_is_whole1 (hr.mono (by decide)) pass0 (pa_cons (pv 1) pa_nil)) (pe_and (pe_cal c_is_whole2 (hr.mono (by decide)) pass0 (pa_cons (pv 2) (pa_cons pe_int pa_nil))) (pe_one (pe_cmpR (VL.op_eqX hr.units) (pe_callBfun cr_gcd rfl (gcd_ T) (pa_cons (pv 1) (pa_cons (pv 2) pa_nil))) pe_int (nomark _))))))))), ?_⟩), T.glo 24, F.kp, F.bindsN fun _ _ _ _ _ _ us hl => match us, hl with | [_], _ => rfl, .nil⟩

  · rintro ds O Q E ⟨t, rfl, _⟩; rfl
  · rintro ds O Q E ⟨t, rfl, ⟨n, hn, h6⟩, hx, k⟩
    have kt := VL.kit_six_tup h6
    walk_at "vw"
    refine VL.k_isi rfl hn kt ?_
    walk_at "vw"
    by_cases ht : (n == "tuple") = true
    · rw [ht]
      cases eq_of_beq ht
      obtain ⟨xs, rfl⟩ := VL.ty_tup hn
      walk_at "vw"
      refine if_ni (fun h2 => ?_) (fun h2 => ?_)
      · walk_at "vw"
        have e : VL.isRatio (.tup xs) = false := by
          match xs, h2 with
          | [], _ => rfl
          | [a], _ => unfold VL.isRatio; rfl
          | [a, b], h2 => exact absurd rfl h2
          | a :: b :: c :: r, _ => unfold VL.isRatio; rfl
        rw [e] at k; exact k
      · obtain ⟨a, b, rfl⟩ : ∃ a b, xs = [a, b] := by
          match xs, h2 with
          | [a, b], _ => exact ⟨a, b, rfl⟩
        walk_at "vw"
        have ka := hx _ rfl a (by simp)
        have kb := hx _ rfl b (by simp)
        refine ⟨_, _, _, rfl, ka, .inl rfl, .inl rfl, ?_⟩
        walk_at "vw"
        refine if_b (fun wa => ?_) (fun wa => ?_)
        · walk_at "vw"
          refine ⟨_, _, _, rfl, kb, .inr ⟨1, rfl⟩, .inl rfl, ?_⟩
          walk_at "vw"
          refine if_b (fun wb => ?_) (fun wb => ?_)
          · walk_at "vw"
            obtain ⟨i, rfl⟩ := VL.whole_int wa
            obtain ⟨j, rfl⟩ := VL.whole_int wb
            walk_at "vw"
            have e : VL.isRatio (.tup [.int i, .int j]) = decide (V.int ((Nat.gcd i.natAbs j.natAbs : Nat) : Int) = V.int 1) := by
              rw [VL.isRatio_2, wa, wb, vd_int]
              show decide (Nat.gcd i.natAbs j.natAbs = 1) = _
              exact decide_eq_decide.mpr (by omega)
            rw [e] at k; exact k
          · have e : VL.isRatio (.tup [a, b]) = false := by rw [VL.isRatio_2, wa, wb]; rfl
            rw [e] at k; exact k
        · have e : VL.isRatio (.tup [a, b]) = false := by rw [VL.isRatio_2, wa]; rfl
          rw [e] at k; exact k
    · rw [Bool.eq_false_iff.mpr ht]
      walk_at "vw"
      have e : VL.isRatio t = false := by
        cases t with
        | tup xs => cases hn; exact absurd rfl ht
        | _ => rfl
      rw [e] at k; exact k
theorem c_is_share (T : Txt K mg) : Cal P w K mg base CX0 3 "is_share" ["thing"] [] (VL.SpL K W_share) := by
  have c_is_ratio := @c_is_ratio P w K mg base T
  obtain ⟨fd, F⟩ := T.c.def_ 3 (d := dd_is_share) rfl
  refine ⟨_, fd, [], VL.fnL' (CX := CX0) F sc_is_share ?_ (fun cdv A outer s H E hr => ⟨_, PSs.nox (pss_one (ps_ret (pe_and (pe_cal c_is_ratio (hr.mono (by decide)) pass0 (pa_cons (pv 0) pa_nil)) (pe_one (pe_chain op_le op_le pe_int (pe_ix ix_seq (pv 0) pe_int (fun _ _ => rfl)) (pe_ix ix_seq (pv 0) pe_int (fun _ _ => rfl))))))), ?_⟩), T.glo 25, F.kp, F.bindsN fun _ _ _ _ _ _ us hl => match us, hl with | [_], _ => rfl, .nil⟩

  · rintro ds O Q E ⟨t, rfl, _⟩; rfl
  · rintro ds O Q E ⟨t, rfl, kn, hx, k⟩
    walk_at "vw"
    refine ⟨_, rfl, kn, hx, ?_⟩
    walk_at "vw"
    refine if_b (fun h1 => ?_) (fun h1 => ?_)
    · obtain ⟨a, b, rfl, _, _⟩ := VL.ratio_ii h1
      walk_at "vw"
      rw [VL.isShare_2, h1] at k
      refine if_d (fun h2 => ?_) (fun h2 => ?_)
      · walk_at "vw"
        have e : (decide (0 ≤ VL.toI (.int a)) && decide (VL.toI (.int a) ≤ VL.toI (.int b))) = decide (a ≤ b) := by
          show (decide (0 ≤ a) && decide (a ≤ b)) = _
          rw [decide_eq_true h2]; rfl
        rw [e] at k; exact k
      · have e : (decide (0 ≤ VL.toI (.int a)) && decide (VL.toI (.int a) ≤ VL.toI (.int b))) = false := by
          show (decide (0 ≤ a) && decide (a ≤ b)) = _
          rw [decide_eq_false h2]; rfl
        rw [e] at k; exact k
    · rw [VL.isShare_no h1] at k
      exact k
theorem c_is_long (T : Txt K mg) : Cal P w K mg base CX0 2 "is_long" ["thing", "many"] [] (VL.SpL K W_long) := by
  have c_is_sequence := @c_is_sequence P w K mg base T
  obtain ⟨fd, F⟩ := T.c.def_ 9 (d := dd_is_long) rfl
  refine ⟨_, fd, [], VL.fnL' (CX := CX0) F sc_is_long ?_ (fun cdv A outer s H E hr => ⟨_, PSs.nox (pss_one (ps_ret (pe_and (pe_cal c_is_sequence (hr.mono (by decide)) pass0 (pa_cons (pv 0) pa_nil)) (pe_one (pe_cmpR (VL.op_eqX hr.units) (pe_callB MB.k_len rfl (T.free 3) PySem.boot_len (pa_cons (pv 0) pa_nil)) (pv 1) (nomark _)))))), ?_⟩), T.glo 31, F.kp, F.bindsN fun _ _ _ _ _ _ us hl => match us, hl with | [_, _], _ => rfl, .nil⟩

  · rintro ds O Q E ⟨t, m, rfl, _⟩; rfl
  · rintro ds O Q E ⟨t, m, rfl, kn, k⟩
    walk_at "vw"
    refine ⟨_, rfl, kn, ?_⟩
    walk_at "vw"
    refine if_b (fun h1 => ?_) (fun h1 => ?_)
    · obtain ⟨xs, e⟩ := Option.isSome_iff_exists.mp h1
      rw [VL.longA_some e] at k
      walk_at "vw"
      rw [vd_int]
      exact k
    · have e : VL.asS O t = none := by simpa using h1
      rw [VL.longA_none e] at k; exact k
theorem c_is_lot (T : Txt K mg) : Cal P w K mg base CX0 2 "is_lot" ["thing", "many"] [] (VL.SpL K W_lot) := by
  have c_is_sequence := @c_is_sequence P w K mg base T
  have c_is_whole3 := @c_is_whole3 P w K mg base T
  obtain ⟨fd, F⟩ := T.c.def_ 6 (d := dd_is_lot) rfl
  refine ⟨_, fd, [], VL.fnL' (CX := CX0) F sc_is_lot ?_ (fun cdv A outer s H E hr => ⟨_, PSs.nox (pss_cons (ps_if (PW.pt (pw_or (pt_not (pt_val (pe_cal c_is_sequence (hr.mono (by decide)) pass0 (pa_cons (pv 0) pa_nil)))) (pw_or1 (pt_not (pt_val (pe_callB (cr_all rfl) rfl (T.free 5) (by decide +kernel) (pa_cons (pe_lc (own := [("item", 2)]) (g := gName 2) (tt := tYes) rfl sc_is_lot.nd (VL.pi_seq (pv 0)) (blkOk_by (N := ["thing", "many", "item"]) (sc := defScope s_is_lot) (by decide +kernel)) (fun _ _ _ _ _ => (pg_name (i := 2) sc_is_lot.nd rfl (Or.inl rfl))) (fun _ _ _ _ _ => pts_nil) (fun _ _ _ _ _ => (pe_cal c_is_whole3 (hr.mono (by decide)) pass0 (pa_cons (pv 2) (pa_cons pe_int (pa_cons (pe_op op_sub (pv 1) pe_int) pa_nil)))))) pa_nil)))))))
  (pss_one (ps_ret pe_bl))
  pss_nil)
 (pss_one (ps_ret (pe_cmpR (VL.op_eqX hr.units) (VL.pe_lenSet2 rfl (T.free 3) rfl (T.free 11) (pv 0)) (pe_callB MB.k_len rfl (T.free 3) PySem.boot_len (pa_cons (pv 0) pa_nil)) (nomark _))))), ?_⟩), T.glo 28, F.kp, F.bindsN fun _ _ _ _ _ _ us hl => match us, hl with | [_, _], _ => rfl, .nil⟩

  · rintro ds O Q E ⟨t, m, rfl, _⟩; rfl
  · rintro ds O Q E ⟨t, m, rfl, kn, hx, k⟩
    walk_at "vw"
    refine ⟨_, rfl, kn, ?_⟩
    walk_at "vw"
    refine if_b (fun h1 => ?_) (fun h1 => ?_)
    · have e0 : VL.asS O t = none := by simpa using h1
      walk_at "vw"
      have e : VL.isLot O t m = false := by unfold VL.isLot; rw [e0]
      rw [e] at k; exact k
    · obtain ⟨xs, e⟩ : ∃ xs, VL.asS O t = some xs := Option.isSome_iff_exists.mp (by simpa using h1)
      obtain ⟨hl, hk⟩ := hx xs e
      walk_at "vw"
      refine VL.ln_map (fun d => .bl (VL.isWhole d (.int 0) (.int (m - 1)))) (VL.i_seq rfl ?_)
      walk_at "vw"
      refine ⟨xs, e, by omega, fun O2 x => VL.asS_ext x e, fun i d O2 hd ex => ?_, ?_⟩
      · walk_at "vw"
        exact ⟨_, _, _, rfl, (hk d (List.mem_of_getElem? hd)).ext ex, .inr ⟨_, rfl⟩, .inr ⟨_, rfl⟩, rfl, rfl⟩
      · walk_at "vw"
        refine if_b (fun h2 => ?_) (fun h2 => ?_)
        · walk_at "vw"
          have el : VL.isLot O t m = false := by
            unfold VL.isLot VL.lotB; rw [e]
            show (xs.all (fun d => VL.isWhole d (.int 0) (.int (m - 1))) && _) = false
            rw [show xs.all (fun d => VL.isWhole d (.int 0) (.int (m - 1))) = false by simpa using h2]; rfl
          rw [el] at k; exact k
        · have h3 : xs.all (fun d => VL.isWhole d (.int 0) (.int (m - 1))) = true := by simpa using h2
          obtain ⟨ns, rfl, hn⟩ := VL.ints_of_all h3
          walk_at "vw"
          refine ⟨ns, e, by rw [List.length_map] at hl; omega, ?_⟩
          walk_at "vw"
          rw [vd_int]
          have el : VL.isLot O t m = decide (((VL.ddI ns).length : Int) = ((ns.map VL.D.int).length : Nat)) := by
            unfold VL.isLot VL.lotB; rw [e]
            show ((ns.map VL.D.int).all _ && _) = _
            rw [h3, VL.intsOf_ints]
            show decide ns.Nodup = _
            refine decide_eq_decide.mpr ?_
            rw [List.length_map, ← VL.ddI_len]; omega
          rw [el] at k; exact k
end
end K04
namespace K04
open PySem PySem.Spec PyProof.Rows L2 MB
def W_Code (K : PySem.W.Frag) : VL.WL := fun ds O Q X => ∃ p b t, ds = [.ref p, b, t] ∧ O p = some (.ins (He.ga K "Code") []) ∧ VL.Kn O b ∧ VL.Look3 O t ∧ match VL.codeFault (VL.asS O) b t with
  | some (x, i) => X (He.ga K "BadCode") [("place", .int i), ("what", .str x)] O
  | none => Q .non (VL.updO O p (.ins (He.ga K "Code") [("bits", b), ("checks", .tup ((VL.itemsA (VL.asS O) t).map (VL.chkD (VL.asS O))))]))
section
variable {P : Program} {w : World} {K : PySem.W.Frag} {mg : Str → Option Value} {base : Heap}
theorem c_Code (T : Txt K mg) : VL.Mkr P w K mg base (L2.CX P w) 3 "Code" (He.ga K "Code") ["self", "bits", "checks"] (VL.SpL K (W_Code K)) := by
  obtain ⟨fI_BadCode, FI_BadCode, bI_BadCode⟩ := @FI_BadCode P w K mg base T
  have c_is_whole3 := @c_is_whole3 P w K mg base T
  have c_is_sequence := @c_is_sequence P w K mg base T
  have c_is_lot := @c_is_lot P w K mg base T
  obtain ⟨fd, F⟩ := T.c.def_ 59 (d := dd_Code___init__) rfl
  refine ⟨_, fd, VL.fnL' (CX := (L2.CX P w)) F sc_Code___init__ ?_ (fun cdv A outer s H E hr => ⟨_, (pss_cons (ps_if (pt_not (pt_val (pe_cal c_is_whole3 (hr.mono (by decide)) pass0 (pa_cons (pv 1) (pa_cons pe_int (pa_cons (VL.pe_gint rfl (T.int 78)) pa_nil))))))
  (pss_one (ps_raise rfl (takes_of rfl rfl rfl rfl) (pmk_oex (T.bo 1) (T.bi 1) (T.bt 1) FI_BadCode (hr.mono (by decide)) bI_BadCode .nil pass0 rfl (T.glo 17) (pa_cons pe_str (pa_cons (pe_un un_neg pe_int) pa_nil)))))
  pss_nil)
 (pss_cons (ps_if (PW.pt (pw_or (pt_not (pt_val (pe_cal c_is_sequence (hr.mono (by decide)) pass0 (pa_cons (pv 2) pa_nil)))) (pw_or1 (pt_cmpR op_gt (pe_callB MB.k_len rfl (T.free 3) PySem.boot_len (pa_cons (pv 2) pa_nil)) (VL.pe_gint rfl (T.int 79)) (nomark _)))))
  (pss_one (ps_raise rfl (takes_of rfl rfl rfl rfl) (pmk_oex (T.bo 1) (T.bi 1) (T.bt 1) FI_BadCode (hr.mono (by decide)) bI_BadCode .nil pass0 rfl (T.glo 17) (pa_cons pe_str (pa_cons (pe_un un_neg pe_int) pa_nil)))))
  pss_nil)
 (pss_cons (ps_for (passes_of rfl) rfl (VL.pi_enumA rfl (T.free 8) (pa_cons (pv 2) pa_nil)) (pg_tup rfl (pgs_cons (pg_name (i := 3) sc_Code___init__.nd rfl (Or.inl rfl)) (pgs_cons (pg_name (i := 4) sc_Code___init__.nd rfl (Or.inl rfl)) pgs_nil)))
  (pss_one (ps_if (PW.pt (pw_or (pt_not (pt_val (pe_cal c_is_lot (hr.mono (by decide)) pass0 (pa_cons (pv 4) (pa_cons (pv 1) pa_nil))))) (pw_or1 (pt_cmpR (VL.op_eqX hr.units) (pe_callB MB.k_len rfl (T.free 3) PySem.boot_len (pa_cons (pv 4) pa_nil)) pe_int (nomark _)))))
  (pss_one (ps_raise rfl (takes_of rfl rfl rfl rfl) (pmk_oex (T.bo 1) (T.bi 1) (T.bt 1) FI_BadCode (hr.mono (by decide)) bI_BadCode .nil pass0 rfl (T.glo 17) (pa_cons pe_str (pa_cons (pv 3) pa_nil)))))
  pss_nil)))
 (pss_cons (ps_fld (pv 0) (pv 1) rfl)
 (pss_one (ps_fld (pv 0) (pe_callTy MB.k_tupOf rfl (T.free 9) (by decide +kernel) (pa_cons (pe_lc (own := [("check", 4)]) (g := gName 4) (tt := tYes) rfl sc_Code___init__.nd (VL.pi_seq (pv 2)) (blkOk_by (N := ["self", "bits", "checks", "number", "check"]) (sc := defScope s_Code___init__) (by decide +kernel)) (fun _ _ _ _ _ => (pg_name (i := 4) sc_Code___init__.nd rfl (Or.inl rfl))) (fun _ _ _ _ _ => pts_nil) (fun _ _ _ _ _ => (pe_callTy (show CallR _ (.type "tuple") (MB.rTupOf K) from MB.k_tupOf) rfl (T.free 9) (by decide +kernel) (pa_cons (pe_callB (show CallR _ (.builtin "sorted") (VL.rSortedA K) from VL.cr_sortedA) rfl (T.free 12) (by decide +kernel) (pa_cons (pv 4) pa_nil)) pa_nil)))) pa_nil)) rfl)))))), ?_⟩), T.mkr 83, T.glo 21, F.bindsN fun _ _ _ _ _ _ us hl => match us, hl with | [_, _, _], _ => rfl⟩

  · rintro ds O Q E ⟨p, b, t, rfl, _⟩; rfl
  · rintro ds O Q E ⟨p, b, t, rfl, hp, kb, ⟨kt, hx⟩, k⟩
    walk_at "vw"
    refine ⟨_, _, _, rfl, kb, .inr ⟨1, rfl⟩, .inr ⟨10, rfl⟩, ?_⟩
    walk_at "vw"
    refine if_b (fun h1 => ?_) (fun h1 => ?_)
    · have h1' : VL.isWhole b (.int 1) (.int 10) = false := by simpa using h1
      rw [VL.cf_bits h1'] at k
      refine VL.s_raise2 (fun _ _ _ _ h => h) ?_
      walk_at "vw"
      exact k
    · have h1' : VL.isWhole b (.int 1) (.int 10) = true := by simpa using h1
      obtain ⟨n, rfl⟩ := VL.whole_int h1'
      walk_at "vw"
      refine ⟨_, rfl, kt, ?_⟩
      walk_at "vw"
      refine if_b (fun h2 => ?_) (fun h2 => ?_)
      · have e0 : VL.asS O t = none := by simpa using h2
        rw [VL.cf_seq h1' e0] at k
        walk_at "vw"
        refine VL.s_raise2 (fun _ _ _ _ h => h) ?_
        walk_at "vw"
        exact k
      · obtain ⟨xs, e0⟩ : ∃ xs, VL.asS O t = some xs := Option.isSome_iff_exists.mp (by simpa using h2)
        obtain ⟨hl, hk⟩ := hx xs e0
        walk_at "vw"
        refine if_d (fun h3 => ?_) (fun h3 => ?_)
        · rw [VL.cf_many h1' e0 h3] at k
          refine VL.s_raise2 (fun _ _ _ _ h => h) ?_
          walk_at "vw"
          exact k
        · have h3' : ¬ (xs.length : Int) > 63 := h3
          walk_at "vw"
          refine VL.s_for (VL.i_enumA rfl ?_)
          walk_at "vw"
          refine ⟨_, xs, rfl, e0, ?_⟩
          refine ⟨fun i ρ' O' => O' = O ∧ (∃ x y, ρ' = [some (.ref p), some (.int n), some t, x, y]) ∧ ∀ (j : Nat) (y : VL.D), j < i → xs[j]? = some y → VL.chkA (VL.asS O) n y = true, ⟨rfl, ⟨none, none, rfl⟩, fun j y hj => absurd hj (Nat.not_lt_zero j)⟩, ?_, ?_, ?_⟩
          · rintro i ρ' O' ⟨rfl, _⟩; exact e0
          · rintro i d ρ' O' hd ⟨rfl, ⟨x, y, rfl⟩, hb⟩
            obtain ⟨z, hz, rfl⟩ := VL.enumD_at hd
            have lz := hk z (List.mem_of_getElem? hz)
            walk_at "vw"
            refine ⟨_, _, rfl, lz.1, lz.2, ?_⟩
            walk_at "vw"
            refine if_b (fun h4 => ?_) (fun h4 => ?_)
            · have h4' : VL.isLot O' z n = false := by simpa using h4
              have h4' : VL.lotA (VL.asS O') z n = false := h4'
              rw [VL.cf_at h1' e0 h3' hz (VL.chk_lot h4') hb] at k
              walk_at "vw"
              refine VL.s_raise2 (fun _ _ _ _ h => h) ?_
              walk_at "vw"
              exact k
            · have h4' : VL.isLot O' z n = true := by simpa using h4
              have h4' : VL.lotA (VL.asS O') z n = true := h4'
              obtain ⟨ns, ez, hn⟩ := VL.lotA_seq h4'
              have hc := VL.chk_len ez h4'
              walk_at "vw"
              refine if_i (fun h5 => ?_) (fun h5 => ?_)
              · rw [decide_eq_true h5] at hc
                rw [VL.cf_at h1' e0 h3' hz hc hb] at k
                refine VL.s_raise2 (fun _ _ _ _ h => h) ?_
                walk_at "vw"
                exact k
              · rw [decide_eq_false h5] at hc
                walk_at "vw"
                refine ⟨rfl, ⟨_, _, rfl⟩, fun j y hj hy => ?_⟩
                by_cases hji : j = i
                · subst hji; rw [hz] at hy; cases hy; exact hc
                · exact hb j y (by omega) hy
          · rintro ρ' O' ⟨rfl, ⟨x, y, rfl⟩, hb⟩
            have hb' : ∀ (j : Nat) (y : VL.D), xs[j]? = some y → VL.chkA (VL.asS O') n y = true := fun j y h => hb j y (by rw [VL.enumD_len]; exact (List.getElem?_eq_some_iff.mp h).1) h
            rw [VL.cf_ok h1' e0 h3' hb'] at k
            refine VL.s_seq (VL.s_fld rfl ?_)
            walk_at "vw"
            refine ⟨p, _, [], rfl, hp, T.cls 80, T.noat 81, by decide, ?_⟩
            refine VL.s_fld rfl ?_
            walk_at "vw"
            refine VL.ln_map (VL.chkD (VL.asS O')) (VL.i_seq rfl ?_)
            walk_at "vw"
            have eA : VL.asS (VL.updO O' p (.ins (He.ga K "Code") (VL.putD "bits" (.int n) []))) = VL.asS O' := VL.asS_ins hp
            refine ⟨xs, by rw [eA]; exact e0, by omega, fun O2 x => VL.asS_ext x (by rw [eA]; exact e0), fun i d O2 hd ex => ?_, ?_⟩
            · have h6 : VL.chkA (VL.asS O') n d = true := hb' i d hd
              have h7 : VL.lotA (VL.asS O') d n = true := (Bool.and_eq_true_iff.mp h6).1
              obtain ⟨ns, ez, hn⟩ := VL.lotA_seq h7
              walk_at "vw"
              refine VL.k_sortedA rfl (VL.asS_ext ex (by rw [eA]; exact ez)) fun ms pm so => ?_
              walk_at "vw"
              refine ⟨?_, rfl⟩
              unfold VL.chkD
              rw [VL.intsA_of ez, VL.srt_uniq pm so]
            · walk_at "vw"
              refine ⟨p, _, _, rfl, VL.updO_same, T.cls 80, T.noat 82, by show 1 < 1000; decide, ?_⟩
              rw [VL.updO_updO]
              have ei : VL.itemsA (VL.asS O') t = xs := by unfold VL.itemsA; rw [e0]; rfl
              rw [ei] at k
              exact k
/-- a made code's length -/
def W_len (K : PySem.W.Frag) : VL.WL := fun ds O Q _ => ∃ n cs, ds = [VL.codeD (He.ga K "Code") n cs] ∧ Q (.int cs.length) O
theorem c_len (T : Txt K mg) : VL.Mth P w K mg base CX0 1 (He.ga K "Code") "__len__" ["self"] (VL.SpL K (W_len K)) := by
  obtain ⟨fd, F⟩ := T.c.def_ 60 (d := dd_Code___len__) rfl
  refine ⟨_, fd, VL.fnL' (CX := CX0) F sc_Code___len__ ?_ (fun cdv A outer s H E hr => ⟨_, PSs.nox (pss_one (ps_ret (pe_callB MB.k_len rfl (T.free 3) PySem.boot_len (pa_cons (pe_fld (pv 0) rfl) pa_nil)))), ?_⟩), T.meth 84, F.bindsN fun _ _ _ _ _ _ us hl => match us, hl with | [_], _ => rfl⟩

  · rintro ds O Q E ⟨n, cs, rfl, _⟩; rfl
  · rintro ds O Q E ⟨n, cs, rfl, k⟩
    walk_at "vw"
    refine ⟨_, _, _, rfl, T.cls 80, T.noat 82, rfl, ?_⟩
    walk_at "vw"
    rw [List.length_map]
    exact k
/-- a made code beside another, or beside a thing of another kind -/
def W_eq (K : PySem.W.Frag) : VL.WL := fun ds O Q _ => ∃ n cs y, ds = [VL.codeD (He.ga K "Code") n cs, y] ∧ ((∃ m es, y = VL.codeD (He.ga K "Code") m es ∧ Q (.bl (decide (n = m ∧ cs = es))) O) ∨ (VL.Kn O y ∧ Q (.bl false) O))
theorem c_eq (T : Txt K mg) : VL.Mth P w K mg base CX0 1 (He.ga K "Code") "__eq__" ["self", "other"] (VL.SpL K (W_eq K)) := by
  obtain ⟨fd, F⟩ := T.c.def_ 61 (d := dd_Code___eq__) rfl
  refine ⟨_, fd, VL.fnL' (CX := CX0) F sc_Code___eq__ ?_ (fun cdv A outer s H E hr => ⟨_, PSs.nox (pss_one (ps_ret (pe_and (pe_callB call_isi rfl (T.free 0) (by decide +kernel) (pa_cons (pv 1) (pa_cons (VL.pe_gref rfl (T.glo 21)) pa_nil))) (pe_and (pe_cmpR (VL.op_eqX hr.units) (pe_fld (pv 0) rfl) (pe_fld (pv 1) rfl) (nomark _)) (pe_one (pe_cmpR (VL.op_eqX hr.units) (pe_fld (pv 0) rfl) (pe_fld (pv 1) rfl) (nomark _))))))), ?_⟩), T.meth 85, F.bindsN fun _ _ _ _ _ _ us hl => match us, hl with | [_, _], _ => rfl⟩

  · rintro ds O Q E ⟨n, cs, y, rfl, _⟩; rfl
  · rintro ds O Q E ⟨n, cs, y, rfl, k⟩
    rcases k with ⟨m, es, rfl, k⟩ | ⟨⟨u, hu, h6⟩, k⟩
    · walk_at "vw"
      refine VL.k_isC1 rfl (is_Code T) (T.cls 80) ?_
      walk_at "vw"
      refine ⟨_, _, _, rfl, T.cls 80, T.noat 81, rfl, ?_⟩
      walk_at "vw"
      refine ⟨_, _, _, rfl, T.cls 80, T.noat 81, rfl, ?_⟩
      walk_at "vw"
      refine if_i (fun h1 => ?_) (fun h1 => ?_)
      · walk_at "vw"
        refine ⟨_, _, _, rfl, T.cls 80, T.noat 82, rfl, ?_⟩
        walk_at "vw"
        refine ⟨_, _, _, rfl, T.cls 80, T.noat 82, rfl, ?_⟩
        refine VL.o_eqD rfl (.tup (VL.pd_rowsT cs)) (.tup (VL.pd_rowsT es)) (VL.sh_rowsT cs) (VL.sh_rowsT es) ?_
        have e : PyData.eqv (.tuple (cs.map fun c => .tuple (VL.pInts c))) (.tuple (es.map fun c => .tuple (VL.pInts c))) = decide (n = m ∧ cs = es) := by
          show PyData.eqvAll _ _ = _
          rw [VL.eqv_rows]
          exact decide_eq_decide.mpr ⟨fun h => ⟨h1, h⟩, fun h => h.2⟩
        rw [e]; exact k
      · have e : decide (n = m ∧ cs = es) = false := decide_eq_false fun h => h1 h.1
        rw [e] at k; exact k
    · walk_at "vw"
      refine VL.k_isC0 rfl (is_Code T) hu h6 ?_
      walk_at "vw"
      exact k
end
end K04
namespace K04
open PySem PySem.Spec PyProof.Rows L2 MB
def W_bit (K : PySem.W.Frag) : VL.WL := fun ds O Q X => ∃ n cs b, ds = [VL.codeD (He.ga K "Code") n cs, b] ∧ VL.Kn O b ∧ if VL.isWhole b (.int 0) (.int (n - 1)) = true then Q b O else X (He.ga K "BadBit") [("bit", b)] O
def W_number (K : PySem.W.Frag) : VL.WL := fun ds O Q X => ∃ n cs b, ds = [VL.codeD (He.ga K "Code") n cs, b] ∧ VL.Kn O b ∧ cs.length ≤ 1000 ∧ if VL.isWhole b (.int 0) (.int ((cs.length : Int) - 1)) = true then Q b O else X (He.ga K "NoCheck") [("number", b)] O
def W_clot (K : PySem.W.Frag) : VL.WL := fun ds O Q X => ∃ n cs t, ds = [VL.codeD (He.ga K "Code") n cs, t] ∧ VL.Look2 O t ∧ if VL.isLot O t n = true then Q (VL.chkD (VL.asS O) t) O else X (He.ga K "BadLot") [] O
def priceOk (x : VL.D) : Bool := VL.isWhole x (.int (-99)) (.int 99)
def W_prices (K : PySem.W.Frag) : VL.WL := fun ds O Q X => ∃ n cs t, ds = [VL.codeD (He.ga K "Code") n cs, t] ∧ VL.Kn O t ∧ (∀ xs, VL.asS O t = some xs → ∀ x ∈ xs, VL.Kn O x) ∧ match VL.rowFault priceOk (VL.asS O) t n with
  | some i => X (He.ga K "BadPrices") [("place", .int i)] O
  | none => Q (.tup (VL.itemsA (VL.asS O) t)) O
def W_crow (K : PySem.W.Frag) : VL.WL := fun ds O Q X => ∃ n cs t, ds = [VL.codeD (He.ga K "Code") n cs, t] ∧ VL.Kn O t ∧ (∀ xs, VL.asS O t = some xs → ∀ x ∈ xs, VL.Kn O x ∧ ∀ ys, VL.asS O x = some ys → ∀ y ∈ ys, VL.Kn O y) ∧ match VL.rowFault VL.isShare (VL.asS O) t n with
  | some i => X (He.ga K "BadRow") [("place", .int i)] O
  | none => Q (.tup (VL.itemsA (VL.asS O) t)) O
def W_cdig (K : PySem.W.Frag) : VL.WL := fun ds O Q X => ∃ n cs t, ds = [VL.codeD (He.ga K "Code") n cs, t] ∧ n ≤ 1000 ∧ VL.Kn O t ∧ (∀ xs, VL.asS O t = some xs → ∀ x ∈ xs, VL.Kn O x) ∧ if VL.digitsA (VL.asS O) t n = true then Q (.tup (VL.itemsA (VL.asS O) t)) O else X (He.ga K "BadWord") [("number", .int (-1))] O
section
variable {P : Program} {w : World} {K : PySem.W.Frag} {mg : Str → Option Value} {base : Heap}
theorem c_check_number (T : Txt K mg) : Cal P w K mg base (L2.CX P w) 4 "check_number" ["code", "number"] [] (VL.SpL K (W_number K)) := by
  obtain ⟨fI_NoCheck, FI_NoCheck, bI_NoCheck⟩ := @FI_NoCheck P w K mg base T
  have c_is_whole3 := @c_is_whole3 P w K mg base T
  obtain ⟨fd, F⟩ := T.c.def_ 7 (d := dd_check_number) rfl
  refine ⟨_, fd, [], VL.fnL' (CX := (L2.CX P w)) F sc_check_number ?_ (fun cdv A outer s H E hr => ⟨_, (pss_cons (ps_if (pt_not (pt_val (pe_cal c_is_whole3 (hr.mono (by decide)) pass0 (pa_cons (pv 1) (pa_cons pe_int (pa_cons (pe_op op_sub (pe_callB (VL.cr_lenM (c_len T) (hr.mono (by decide)) pass0) rfl (T.free 3) PySem.boot_len (pa_cons (pv 0) pa_nil)) pe_int) pa_nil))))))
  (pss_one (ps_raise rfl (takes_of rfl rfl rfl rfl) (pmk_oex (T.bo 2) (T.bi 2) (T.bt 2) FI_NoCheck (hr.mono (by decide)) bI_NoCheck .nil pass0 rfl (T.glo 18) (pa_cons (pv 1) pa_nil))))
  pss_nil)
 (pss_one (ps_ret (pv 1)))), ?_⟩), T.glo 29, F.kp, F.bindsN fun _ _ _ _ _ _ us hl => match us, hl with | [_, _], _ => rfl, .nil⟩

  · rintro ds O Q E ⟨n, cs, b, rfl, _⟩; rfl
  · rintro ds O Q E ⟨n, cs, b, rfl, kb, hc, k⟩
    walk_at "vw"
    refine VL.k_lenO ⟨_, _, rfl, _, rfl, by omega, by omega, ?_⟩
    walk_at "vw"
    refine ⟨_, _, _, rfl, kb, .inr ⟨_, rfl⟩, .inr ⟨_, rfl⟩, ?_⟩
    walk_at "vw"
    refine if_b (fun h1 => ?_) (fun h1 => ?_)
    · rw [if_neg (by simpa using h1)] at k
      refine VL.s_raise1 (fun _ _ _ _ h => h) ?_
      walk_at "vw"
      exact k
    · rw [if_pos (by simpa using h1)] at k
      walk_at "vw"
      exact k
theorem c_check_lot (T : Txt K mg) : Cal P w K mg base (L2.CX P w) 4 "check_lot" ["code", "lot"] [] (VL.SpL K (W_clot K)) := by
  have c_is_lot := @c_is_lot P w K mg base T
  obtain ⟨fd, F⟩ := T.c.def_ 8 (d := dd_check_lot) rfl
  refine ⟨_, fd, [], VL.fnL' (CX := (L2.CX P w)) F sc_check_lot ?_ (fun cdv A outer s H E hr => ⟨_, (pss_cons (ps_if (pt_not (pt_val (pe_cal c_is_lot (hr.mono (by decide)) pass0 (pa_cons (pv 1) (pa_cons (pe_fld (pv 0) rfl) pa_nil)))))
  (pss_one (ps_raise rfl (takes_of rfl rfl rfl rfl) (pmk_own0 PySem.F.excBase_ValueError (T.de 3).1 (T.glo 19) (T.de 3).2.1 (raises_own (T.de 3).2.2.1 (T.de 3).2.2.2) rfl)))
  pss_nil)
 (pss_one (ps_ret (pe_callTy MB.k_tupOf rfl (T.free 9) (by decide +kernel) (pa_cons (pe_callB VL.cr_sortedA rfl (T.free 12) (by decide +kernel) (pa_cons (pv 1) pa_nil)) pa_nil))))), ?_⟩), T.glo 30, F.kp, F.bindsN fun _ _ _ _ _ _ us hl => match us, hl with | [_, _], _ => rfl, .nil⟩

  · rintro ds O Q E ⟨n, cs, t, rfl, _⟩; rfl
  · rintro ds O Q E ⟨n, cs, t, rfl, ⟨kt, hx⟩, k⟩
    walk_at "vw"
    refine ⟨_, _, _, rfl, T.cls 80, T.noat 81, rfl, ?_⟩
    walk_at "vw"
    refine ⟨_, _, rfl, kt, hx, ?_⟩
    walk_at "vw"
    refine if_b (fun h1 => ?_) (fun h1 => ?_)
    · rw [if_neg (by simpa using h1)] at k
      exact VL.s_raise0 (fun _ _ _ _ h => h) k
    · have h1' : VL.isLot O t n = true := by simpa using h1
      rw [if_pos h1'] at k
      obtain ⟨ns, e0, hn⟩ := VL.lotA_seq h1'
      walk_at "vw"
      refine VL.k_sortedA rfl e0 fun ms pm so => ?_
      walk_at "vw"
      unfold VL.chkD at k
      rw [VL.intsA_of e0, ← VL.srt_uniq pm so] at k
      exact k
end
end K04
namespace K04
open PySem PySem.Spec PyProof.Rows L2 MB
def W_lwhole : VL.WL := fun ds O Q _ => ∃ t, ds = [t] ∧ VL.Kn O t ∧ Q (.bl (VL.isInt t)) O
def wholesD (t : VL.D) (m : Int) : Bool := match t with
  | .tup xs => decide ((xs.length : Int) = m) && xs.all VL.isInt
  | _ => false
theorem wholes_ints (ns : List Int) : wholesD (.tup (ns.map VL.D.int)) ns.length = true := by
  show (decide (((ns.map VL.D.int).length : Int) = _) && _) = true
  rw [List.length_map, decide_eq_true rfl, List.all_map]
  exact List.all_eq_true.mpr fun _ _ => rfl
def W_wholes : VL.WL := fun ds O Q _ => ∃ t m, ds = [t, .int m] ∧ VL.Kn O t ∧ (∀ xs, t = .tup xs → xs.length ≤ 1000 ∧ ∀ x ∈ xs, VL.Kn O x) ∧ Q (.bl (wholesD t m)) O
def W_part : VL.WL := fun ds O Q _ => ∃ a b : Int, ds = [.int a, .int b] ∧ a.natAbs < 2 ^ 400 ∧ b.natAbs < 2 ^ 400 ∧ Q (.int (K00.gd a b)) O
/-- lowest terms, a bottom that is small and above 0 -/
def lowD (t b : Int) : VL.D := .tup [.int (t.fdiv (K00.gd t b)), .int (b.fdiv (K00.gd t b))]
def W_lratio : VL.WL := fun ds O Q _ => ∃ t b : Int, ds = [.int t, .int b] ∧ 0 < b ∧ t.natAbs < 2 ^ 400 ∧ b < 2 ^ 400 ∧ Q (lowD t b) O
def W_llot : VL.WL := fun ds O Q _ => ∃ (p : Addr) (n m : Int), ds = [.ref p, .int n, .int m] ∧ O p = some .hand ∧ 0 ≤ n ∧ n ≤ 1000 ∧ (0 ≤ m ∧ m ≤ 1000) ∧ ∀ ms, VL.Lot n ms → (ms.length : Int) = (if n < m then n else m) → Q (.tup (ms.map VL.D.int)) O
theorem gd_ne {t b : Int} (h : 0 < b) : K00.gd t b ≠ 0 := by
  unfold K00.gd
  have : 0 < Nat.gcd t.natAbs b.natAbs := Nat.gcd_pos_of_pos_right _ (by omega)
  omega
set_option exponentiation.threshold 10000 in
theorem gd_log {t b : Int} (h : 0 < b) (h2 : b < 2 ^ 400) : (K00.gd t b).natAbs.log2 < 9000 := by
  have h3 : Nat.gcd t.natAbs b.natAbs ≤ b.natAbs := Nat.le_of_dvd (by omega) (Nat.gcd_dvd_right _ _)
  have e : (K00.gd t b).natAbs = Nat.gcd t.natAbs b.natAbs := by unfold K00.gd; omega
  rw [e]
  have h4 : Nat.gcd t.natAbs b.natAbs < 2 ^ 9000 := Nat.lt_of_le_of_lt h3 (by
    have : b.natAbs < 2 ^ 400 := by omega
    exact Nat.lt_of_lt_of_le this (Nat.pow_le_pow_right (by decide) (by decide)))
  exact (Nat.log2_lt (by have : 0 < Nat.gcd t.natAbs b.natAbs := Nat.gcd_pos_of_pos_right _ (by omega); omega)).mpr h4
theorem perm_sum {a b : List Int} (h : a.Perm b) : a.sum = b.sum := by induction h <;> simp_all <;> omega
theorem sum_nonneg : ∀ {es : List Int}, (∀ e ∈ es, 0 ≤ e) → 0 ≤ es.sum
  | [], _ => by simp
  | e :: es, h => by
    rw [List.sum_cons]
    have := h e (List.mem_cons_self ..)
    have := sum_nonneg (es := es) fun x hx => h x (List.mem_cons_of_mem _ hx)
    omega
section
variable {P : Program} {w : World} {K : PySem.W.Frag} {mg : Str → Option Value} {base : Heap}
theorem c_l_hand (T : Txt K mg) : Cal P w K mg base CX0 1 "_law_hand" ["_law_script"] [] (VL.SpL K W_hand) := by
  obtain ⟨fd, F⟩ := T.c.def_ 26 (d := dd_l_hand) rfl
  refine ⟨_, fd, [], VL.fnL' (CX := CX0) F sc_l_hand ?_ (fun cdv A outer s H E hr => ⟨_, PSs.nox (pss_cons (ps_set (i := 1) sc_l_hand.nd rfl (Or.inl rfl) pe_int)
 (pss_cons (ps_for PassesOwn.never rfl (pi_enum rfl (T.free 8) (pa_cons (pv 0) pa_nil)) (pg_tup rfl (pgs_cons (pg_name (i := 2) sc_l_hand.nd rfl (Or.inl rfl)) (pgs_cons (pg_name (i := 3) sc_l_hand.nd rfl (Or.inl rfl)) pgs_nil)))
  (pss_one (ps_set (i := 1) sc_l_hand.nd rfl (Or.inl rfl) (pe_op op_mod (pe_callTy MB.k_int1 rfl (T.free 1) (by decide +kernel) (pa_cons (pe_op op_add (pe_op op_add (pe_op op_mul (pv 1) pe_int) (pe_op op_mul (pe_callTy MB.k_int1 rfl (T.free 1) (by decide +kernel) (pa_cons (pv 3) pa_nil)) (pe_op op_add (pe_op op_mul pe_int (pv 2)) pe_int))) pe_int) pa_nil)) pe_int))))
 (pss_one (ps_ret (VL.pe_own (pe_lst (pa_cons (pe_lc (own := [("_law_cell", 3)]) (g := gName 3) (tt := tYes) rfl sc_l_hand.nd (pi_list (pv 0)) (blkOk_by (N := ["_law_script", "_law_state", "_law_place", "_law_cell"]) (sc := defScope s_l_hand) (by decide +kernel)) (fun _ _ _ _ _ => (pg_name (i := 3) sc_l_hand.nd rfl (Or.inl rfl))) (fun _ _ _ _ _ => pts_nil) (fun _ _ _ _ _ => (pe_callB MB.k_abs rfl (T.free 4) (by decide +kernel) (pa_cons (pe_callTy MB.k_int1 rfl (T.free 1) (by decide +kernel) (pa_cons (pv 3) pa_nil)) pa_nil)))) (pa_cons pe_int (pa_cons pe_int (pa_cons (pv 1) pa_nil)))))))))), ?_⟩), T.glo 48, F.kp, F.bindsN fun _ _ _ _ _ _ us hl => match us, hl with | [_], _ => rfl, .nil⟩

  · rintro ds O Q E ⟨ns, rfl, _⟩; rfl
  · rintro ds O Q E ⟨ns, rfl, hl, k⟩
    walk_at "vw"
    refine VL.s_for (VL.i_enumS rfl ?_)
    walk_at "vw"
    refine ⟨ns, rfl, ?_⟩
    refine ⟨fun i ρ' O' => O' = O ∧ (∃ st x y, ρ' = [some (.scr ns), some (.int st), x, y]), ⟨rfl, ⟨7, none, none, rfl⟩⟩, fun _ _ _ _ => trivial, ?_, ?_⟩
    · rintro i d ρ' O' hd ⟨rfl, ⟨st, x, y, rfl⟩⟩
      obtain ⟨z, hz, rfl⟩ := VL.enumD_at hd
      obtain ⟨c, hc, rfl⟩ := VL.map_int_at hz
      have hi : i < ns.length := (List.getElem?_eq_some_iff.mp hc).1
      walk_at "vw"
      exact ⟨rfl, _, _, _, rfl⟩
    · rintro ρ' O' ⟨rfl, ⟨st, x, y, rfl⟩⟩
      refine VL.s_newHand ?_
      walk_at "vw"
      refine VL.ln_map (fun d => .int (if VL.toI d < 0 then -VL.toI d else VL.toI d)) (VL.i_scr rfl ?_)
      walk_at "vw"
      refine ⟨ns, rfl, by rw [List.length_map]; omega, fun _ _ => trivial, fun j d O2 hd ex => ?_, ?_⟩
      · obtain ⟨b, hb1, rfl⟩ := VL.map_int_at hd
        walk_at "vw"
        exact ⟨rfl, rfl⟩
      · walk_at "vw"
        intro p hp
        refine ⟨p, ns.map (fun n => if n < 0 then -n else n), 0, 0, st, rfl, ?_, ⟨by decide, by decide, ?_, by rw [List.length_map]; exact hl⟩, ?_⟩
        · rw [VL.updO_same, List.map_map, List.map_map]; rfl
        · intro n hn
          obtain ⟨m, _, rfl⟩ := List.mem_map.mp hn
          show 0 ≤ (if m < 0 then -m else m)
          split <;> omega
        · rw [VL.updO_updO]; exact k p hp
theorem c_l_whole (T : Txt K mg) : Cal P w K mg base CX0 1 "_law_whole" ["_law_thing"] [] (VL.SpL K W_lwhole) := by
  obtain ⟨fd, F⟩ := T.c.def_ 28 (d := dd_l_whole) rfl
  refine ⟨_, fd, [], VL.fnL' (CX := CX0) F sc_l_whole ?_ (fun cdv A outer s H E hr => ⟨_, PSs.nox (pss_one (ps_ret (pe_and (pe_callB call_isi rfl (T.free 0) (by decide +kernel) (pa_cons (pv 0) (pa_cons (pe_ty "int" rfl (T.free 1) (by decide +kernel)) pa_nil))) (pe_one (pe_not (pe_callB call_isi rfl (T.free 0) (by decide +kernel) (pa_cons (pv 0) (pa_cons (pe_ty "bool" rfl (T.free 2) (by decide +kernel)) pa_nil)))))))), ?_⟩), T.glo 50, F.kp, F.bindsN fun _ _ _ _ _ _ us hl => match us, hl with | [_], _ => rfl, .nil⟩

  · rintro ds O Q E ⟨t, rfl, _⟩; rfl
  · rintro ds O Q E ⟨t, rfl, ⟨n, hn, h6⟩, k⟩
    have ki := VL.kit_six_int h6
    have kb := VL.kit_six_bool h6
    walk_at "vw"
    refine VL.k_isi rfl hn ki ?_
    walk_at "vw"
    by_cases hi2 : (n == "int" || n == "bool") = true
    · rw [hi2]
      walk_at "vw"
      refine VL.k_isi rfl hn kb ?_
      walk_at "vw"
      have e : VL.isInt t = !(n == "bool") := by
        rcases Bool.or_eq_true_iff.mp hi2 with h | h
        · cases eq_of_beq h; obtain ⟨i, rfl⟩ := VL.ty_int hn; rfl
        · cases eq_of_beq h
          cases t with
          | int i => simp [VL.tyD] at hn
          | _ => rfl
      rw [e] at k; exact k
    · rw [Bool.eq_false_iff.mpr hi2]
      walk_at "vw"
      have e : VL.isInt t = false := by
        cases t with
        | int i => cases hn; exact absurd rfl hi2
        | _ => rfl
      rw [e] at k; exact k
theorem c_l_wholes (T : Txt K mg) : Cal P w K mg base CX0 2 "_law_wholes" ["_law_thing", "_law_many"] [] (VL.SpL K W_wholes) := by
  have c_l_whole := @c_l_whole P w K mg base T
  obtain ⟨fd, F⟩ := T.c.def_ 29 (d := dd_l_wholes) rfl
  refine ⟨_, fd, [], VL.fnL' (CX := CX0) F sc_l_wholes ?_ (fun cdv A outer s H E hr => ⟨_, PSs.nox (pss_cons (ps_if (PW.pt (pw_or (pt_not (pt_val (pe_callB call_isi rfl (T.free 0) (by decide +kernel) (pa_cons (pv 0) (pa_cons (pe_ty "tuple" rfl (T.free 9) (by decide +kernel)) pa_nil))))) (pw_or1 (pt_cmpR (VL.op_neX hr.units) (pe_callB MB.k_len rfl (T.free 3) PySem.boot_len (pa_cons (pv 0) pa_nil)) (pv 1) (nomark _)))))
  (pss_one (ps_ret pe_bl))
  pss_nil)
 (pss_one (ps_ret (pe_callB (cr_all rfl) rfl (T.free 5) (by decide +kernel) (pa_cons (pe_lc (own := [("_law_part_here", 2)]) (g := gName 2) (tt := tYes) rfl sc_l_wholes.nd (VL.pi_seq (pv 0)) (blkOk_by (N := ["_law_thing", "_law_many", "_law_part_here"]) (sc := defScope s_l_wholes) (by decide +kernel)) (fun _ _ _ _ _ => (pg_name (i := 2) sc_l_wholes.nd rfl (Or.inl rfl))) (fun _ _ _ _ _ => pts_nil) (fun _ _ _ _ _ => (pe_cal c_l_whole (hr.mono (by decide)) pass0 (pa_cons (pv 2) pa_nil)))) pa_nil))))), ?_⟩), T.glo 51, F.kp, F.bindsN fun _ _ _ _ _ _ us hl => match us, hl with | [_, _], _ => rfl, .nil⟩

  · rintro ds O Q E ⟨t, m, rfl, _⟩; rfl
  · rintro ds O Q E ⟨t, m, rfl, ⟨n, hn, h6⟩, hx, k⟩
    have kt := VL.kit_six_tup h6
    walk_at "vw"
    refine VL.k_isi rfl hn kt ?_
    walk_at "vw"
    by_cases ht : (n == "tuple") = true
    · rw [ht]
      cases eq_of_beq ht
      obtain ⟨xs, rfl⟩ := VL.ty_tup hn
      obtain ⟨hl, hk⟩ := hx xs rfl
      walk_at "vw"
      refine if_ni (fun h2 => ?_) (fun h2 => ?_)
      · walk_at "vw"
        have e : wholesD (.tup xs) m = false := by
          show (decide ((xs.length : Int) = m) && _) = false
          rw [decide_eq_false h2]; rfl
        rw [e] at k; exact k
      · walk_at "vw"
        refine VL.ln_map (fun d => .bl (VL.isInt d)) (VL.i_seq rfl ?_)
        walk_at "vw"
        refine ⟨xs, rfl, by omega, fun _ _ => rfl, fun i d O2 hd ex => ?_, ?_⟩
        · walk_at "vw"
          exact ⟨_, rfl, (hk d (List.mem_of_getElem? hd)).ext ex, rfl, rfl⟩
        · walk_at "vw"
          have e : wholesD (.tup xs) m = xs.all VL.isInt := by
            show (decide ((xs.length : Int) = m) && _) = _
            rw [decide_eq_true h2]; rfl
          rw [e] at k; exact k
    · rw [Bool.eq_false_iff.mpr ht]
      walk_at "vw"
      have e : wholesD t m = false := by
        cases t with
        | tup xs => cases hn; exact absurd rfl ht
        | _ => rfl
      rw [e] at k; exact k
theorem c_l_part (T : Txt K mg) : Cal P w K mg base CX0 1 "_law_part" ["_law_one", "_law_other"] [] (VL.SpL K W_part) := by
  obtain ⟨fd, F⟩ := T.c.def_ 30 (d := dd_l_part) rfl
  refine ⟨_, fd, [], VL.fnL' (CX := CX0) F sc_l_part ?_ (fun cdv A outer s H E hr => ⟨_, PSs.nox (pss_cons (ps_set (i := 2) sc_l_part.nd rfl (Or.inl rfl) (pe_callB MB.k_abs rfl (T.free 4) (by decide +kernel) (pa_cons (pv 0) pa_nil)))
 (pss_cons (ps_set (i := 3) sc_l_part.nd rfl (Or.inl rfl) (pe_callB MB.k_abs rfl (T.free 4) (by decide +kernel) (pa_cons (pv 1) pa_nil)))
 (pss_cons (ps_for PassesOwn.never rfl (pi_range1 rfl (T.free 7) (pa_cons pe_int pa_nil)) (pg_name (i := 4) sc_l_part.nd rfl (Or.inl rfl))
  (pss_cons (ps_if (pt_cmpR (VL.op_eqX hr.units) (pv 3) pe_int (nomark _))
  (pss_one ps_break)
  pss_nil)
 (pss_one (ps_par (i := 2) (j := 3) rfl sc_l_part.nd rfl rfl (by decide) rfl rfl (pa_cons (pv 3) (pa_cons (pe_op op_mod (pe_callTy MB.k_int1 rfl (T.free 1) (by decide +kernel) (pa_cons (pv 2) pa_nil)) (pv 3)) pa_nil)) rfl))))
 (pss_one (ps_ret (pv 2)))))), ?_⟩), T.glo 52, F.kp, F.bindsN fun _ _ _ _ _ _ us hl => match us, hl with | [_, _], _ => rfl, .nil⟩

  · rintro ds O Q E ⟨t, b, rfl, _⟩; rfl
  · rintro ds O Q E ⟨t, b, rfl, ht, hb, k⟩
    walk_at "vw"
    rw [VL.abs_nat, VL.abs_nat]
    refine VL.s_for (VL.i_rng1 ?_)
    walk_at "vw"
    refine ⟨fun i ρ' O' => O' = O ∧ i ≤ 900 ∧ ∃ (a c : Nat) (x : Option VL.D), K00.Euc (Nat.gcd t.natAbs b.natAbs) i a c ∧ ρ' = [some (.int t), some (.int b), some (.int a), some (.int c), x], ⟨rfl, by omega, _, _, none, ⟨rfl, .inl ⟨rfl, ht, hb⟩⟩, rfl⟩, fun _ _ _ _ => trivial, ?_, ?_⟩
    · rintro i d ρ' O' hd ⟨rfl, hi, a, c, x, hE, rfl⟩
      obtain ⟨_, rfl⟩ := VL.rngD_at hd
      walk_at "vw"
      refine if_i (fun h0 => ?_) (fun h0 => ?_)
      · walk_at "vw"
        have hc : c = 0 := by omega
        subst hc
        rw [K00.euc_done hE]
        exact k
      · have hc : c ≠ 0 := fun z => h0 (by omega)
        have h9 : i < 900 := by
          by_cases z : i = 900
          · subst z; exact absurd (K00.euc_end hE) hc
          · omega
        walk_at "vw"
        refine ⟨rfl, by omega, c, a % c, some (.int (0 + (i : Int))), K00.euc_step hc hE, ?_⟩
        rw [Int.natCast_emod]
        rfl
    · rintro ρ' O' ⟨rfl, hi, _⟩
      exact absurd hi (by rw [VL.rngD_len]; decide)
theorem c_l_ratio (T : Txt K mg) : Cal P w K mg base CX0 2 "_law_ratio" ["_law_top", "_law_bottom"] [] (VL.SpL K W_lratio) := by
  have c_l_part := @c_l_part P w K mg base T
  obtain ⟨fd, F⟩ := T.c.def_ 31 (d := dd_l_ratio) rfl
  refine ⟨_, fd, [], VL.fnL' (CX := CX0) F sc_l_ratio ?_ (fun cdv A outer s H E hr => ⟨_, PSs.nox (pss_cons (ps_set (i := 2) sc_l_ratio.nd rfl (Or.inl rfl) (pe_cal c_l_part (hr.mono (by decide)) pass0 (pa_cons (pv 0) (pa_cons (pv 1) pa_nil))))
 (pss_one (ps_ret (pe_tup (pa_cons (pe_op K00.op_fdivZ (pv 0) (pv 2)) (pa_cons (pe_op K00.op_fdivZ (pv 1) (pv 2)) pa_nil)))))), ?_⟩), T.glo 53, F.kp, F.bindsN fun _ _ _ _ _ _ us hl => match us, hl with | [_, _], _ => rfl, .nil⟩

  · rintro ds O Q E ⟨a, b, rfl, _⟩; rfl
  · rintro ds O Q E ⟨t, b, rfl, hb, ht, hb2, k⟩
    walk_at "vw"
    refine ⟨_, _, rfl, ht, by omega, ?_⟩
    walk_at "vw"
    refine VL.o_I ⟨gd_ne hb, gd_log hb hb2⟩ rfl ?_
    walk_at "vw"
    refine VL.o_I ⟨gd_ne hb, gd_log hb hb2⟩ rfl ?_
    walk_at "vw"
    exact k
theorem c_l_lot (T : Txt K mg) : Cal P w K mg base CX0 3 "_law_lot" ["_law_hand_here", "_law_bits", "_law_size"] [] (VL.SpL K W_llot) := by
  have c_l_draw := @c_l_draw P w K mg base T
  obtain ⟨fd, F⟩ := T.c.def_ 34 (d := dd_l_lot) rfl
  refine ⟨_, fd, [], VL.fnL' (CX := CX0) F sc_l_lot ?_ (fun cdv A outer s H E hr => ⟨_, PSs.nox (pss_cons (ps_set (i := 3) sc_l_lot.nd rfl (Or.inl rfl) (VL.pe_own (pe_listRg rfl rfl (T.free 10) (prg_1 rfl (T.free 7) (pv 1)))))
 (pss_cons (ps_set (i := 4) sc_l_lot.nd rfl (Or.inl rfl) (VL.pe_own (pe_lst pa_nil)))
 (pss_cons (ps_for PassesOwn.never rfl (pi_range1 rfl (T.free 7) (pa_cons (pe_callB (VL.k_min2 rfl) rfl (T.free 13) (by decide +kernel) (pa_cons (pv 2) (pa_cons (pv 1) pa_nil))) pa_nil)) (pg_name (i := 5) sc_l_lot.nd rfl (Or.inl rfl))
  (pss_one (ps_expr (pe_bm PySem.F.plainAttrs_list PySem.F.slot_list_append PySem.F.type_list_append mt_append (pv 4) (pa_cons (pe_bm PySem.F.plainAttrs_list PySem.F.slot_list_pop PySem.F.type_list_pop mt_popAt (pv 3) (pa_cons (pe_cal c_l_draw (hr.mono (by decide)) pass0 (pa_cons (pv 0) (pa_cons (pe_callB MB.k_len rfl (T.free 3) PySem.boot_len (pa_cons (pv 3) pa_nil)) pa_nil))) pa_nil)) pa_nil)))))
 (pss_one (ps_ret (pe_callTy MB.k_tupOf rfl (T.free 9) (by decide +kernel) (pa_cons (pe_callB VL.cr_sortedA rfl (T.free 12) (by decide +kernel) (pa_cons (pv 4) pa_nil)) pa_nil))))))), ?_⟩), T.glo 56, F.kp, F.bindsN fun _ _ _ _ _ _ us hl => match us, hl with | [_, _, _], _ => rfl, .nil⟩

  · rintro ds O Q E ⟨p, n, m, rfl, _⟩; rfl
  · rintro ds O Q E ⟨p, n, m, rfl, hp, hn0, hn, hm, k⟩
    walk_at "vw"
    refine ⟨⟨hn0, by omega⟩, fun q hq => ?_⟩
    have npq := VL.ne_of hp hq
    rw [VL.rngD_ints]
    walk_at "vw"
    intro r hr1
    have nrq := VL.new_ne hr1
    have npr := VL.ne_of hp (VL.new_old hr1)
    walk_at "vw"
    refine VL.s_for ?_
    walk_at "vw"
    refine ⟨fun i ρ' O' => ∃ (pool out : List Int) (x : Option VL.D), O' = VL.updO (VL.updO O q (.lst (pool.map VL.D.int))) r (.lst (out.map VL.D.int)) ∧ ρ' = [some (.ref p), some (.int n), some (.int m), some (.ref q), some (.ref r), x] ∧ VL.Drawn n.toNat pool out i,
      ⟨_, [], none, rfl, rfl, VL.Drawn.start _⟩, fun _ _ _ _ => trivial, ?_, ?_⟩
    · rintro i d ρ' O' hd ⟨pool, out, x, rfl, rfl, hdr⟩
      obtain ⟨hi, rfl⟩ := VL.rngD_at hd
      have ht := hdr.total
      have hlo := hdr.len
      have hpool : 0 < (pool.length : Int) := by split at hi <;> omega
      walk_at "vw"
      refine ⟨p, _, rfl, ?_, ?_, ?_, fun j hj0 hj1 => ?_⟩
      · walk_at "ol"
      · rw [List.length_map]; omega
      · rw [List.length_map]; omega
      · rw [List.length_map] at hj1
        have hj2 : j.toNat < pool.length := by omega
        walk_at "vw"
        have e1 : seqIndex? j (pool.map VL.D.int).length = some j.toNat := VL.seqIx hj0 (by rw [List.length_map]; exact hj1)
        have e2 : (pool.map VL.D.int)[j.toNat]? = some (.int pool[j.toNat]) := by rw [List.getElem?_map, List.getElem?_eq_getElem hj2]; rfl
        refine VL.m_popAt (by walk_at "ol") ⟨by omega, by omega⟩ e1 e2 ?_
        walk_at "vw"
        refine VL.m_append (xs := out.map VL.D.int) (by walk_at "ol") (VL.lt_line (by rw [List.length_map]; omega)) ?_
        refine ⟨pool.eraseIdx j.toNat, out ++ [pool[j.toNat]], _, ?_, rfl, hdr.step (List.getElem?_eq_getElem hj2)⟩
        rw [VL.updO_comm nrq, VL.updO_updO, VL.updO_updO, List.map_append, VL.map_erase]
        rfl
    · rintro ρ' O' ⟨pool, out, x, rfl, rfl, hdr⟩
      rw [VL.rngD_len] at hdr
      refine VL.s_ret (VL.l_del q (VL.l_del r ?_))
      walk_at "vw"
      refine VL.k_sortedA (ns := out) rfl (VL.asS_own (by walk_at "ol")) fun ms pm so => ?_
      walk_at "vw"
      rw [VL.delO_updO (show VL.updO O q _ r = none by rw [VL.updO_ne nrq]; exact VL.new_old hr1), VL.delO_updO hq]
      refine k ms (by have := hdr.lot pm so; rwa [Int.toNat_of_nonneg hn0] at this) ?_
      rw [pm.length_eq, hdr.len]
      split <;> omega
end
end K04
namespace K04
open PySem PySem.Spec PyProof.Rows L2 MB
def W_lrow : VL.WL := fun ds O Q _ => ∃ (p : Addr) (n : Int), ds = [.ref p, .int n] ∧ O p = some .hand ∧ 0 ≤ n ∧ n ≤ 1000 ∧ ∀ rs : List (Int × Int), (rs.length : Int) = n → (∀ r ∈ rs, VL.isShare (VL.ratD r) = true) → Q (.lst (rs.map VL.ratD)) O
def W_made (K : PySem.W.Frag) : VL.WL := fun ds O Q _ => ∃ (n : Int) (cs : List (List Int)), ds = [.int n, .lst (cs.map fun c => .tup (c.map VL.D.int))] ∧ (1 ≤ n ∧ n ≤ 10) ∧ cs.length ≤ 63 ∧ (∀ c ∈ cs, VL.Lot n c ∧ c ≠ []) ∧ Q (VL.codeD (He.ga K "Code") n cs) O
section
variable {P : Program} {w : World} {K : PySem.W.Frag} {mg : Str → Option Value} {base : Heap}
theorem code_new {O : VL.Oh} {t : VL.D} {n : Int} {cs : List (List Int)} {Q : VL.D → VL.Oh → Prop} (h : VL.Rows O t cs) (hn : 1 ≤ n ∧ n ≤ 10) (hl : cs.length ≤ 63) (g : VL.Good n cs) (q : Q (VL.codeD (He.ga K "Code") n (cs.map VL.srt)) O) : VL.newW (W_Code K) (He.ga K "Code") [.int n, t] O Q fun _ => VL.noX := fun p hp => by
  have hx := h.ext (VL.ext_new (o := .ins (He.ga K "Code") []) hp)
  refine ⟨p, _, t, rfl, VL.updO_same, VL.kn_int, hx.look (by omega) (fun c hc => ?_), ?_⟩
  · obtain ⟨_, g2, g3⟩ := g c hc
    have := VL.nodup_len g2 g3 (by omega)
    omega
  · rw [hx.fault hn hl g, hx.chks]
    refine ⟨rfl, _, VL.updO_same, ?_⟩
    rw [VL.updO_updO, VL.delO_updO hp]
    exact q
theorem srt_lots {n : Int} {cs : List (List Int)} (h : ∀ c ∈ cs, VL.Lot n c ∧ c ≠ []) : cs.map VL.srt = cs := by
  induction cs with
  | nil => rfl
  | cons c cs ih =>
    rw [List.map_cons, ih fun d hd => h d (List.mem_cons_of_mem _ hd), VL.srt_sorted ((h c (List.mem_cons_self ..)).1.1.imp fun h => Int.le_of_lt h)]
end
end K04
namespace K04
open PySem PySem.Spec PyProof.Rows L2 MB
abbrev rowsT (cs : List (List Int)) : List VL.D := cs.map fun c => .tup (c.map VL.D.int)
def W_free : VL.WL := fun ds O Q _ => ∃ (p : Addr) (n m wd : Int), ds = [.ref p, .int n, .int m, .int wd] ∧ O p = some .hand ∧ (1 ≤ n ∧ n ≤ 10) ∧ (0 ≤ m ∧ m ≤ 63) ∧ (1 ≤ wd ∧ wd ≤ 10) ∧ ∀ cs : List (List Int), (cs.length : Int) = m → (∀ c ∈ cs, VL.Lot n c ∧ c ≠ []) → Q (.lst (rowsT cs)) O
section
variable {P : Program} {w : World} {K : PySem.W.Frag} {mg : Str → Option Value} {base : Heap}
theorem c_l_free_checks (T : Txt K mg) : Cal P w K mg base CX0 4 "_law_free_checks" ["_law_hand_here", "_law_bits", "_law_many", "_law_widest"] [] (VL.SpL K W_free) := by
  have c_l_draw := @c_l_draw P w K mg base T
  have c_l_lot := @c_l_lot P w K mg base T
  obtain ⟨fd, F⟩ := T.c.def_ 37 (d := dd_l_free_checks) rfl
  refine ⟨_, fd, [], VL.fnL' (CX := CX0) F sc_l_free_checks ?_ (fun cdv A outer s H E hr => ⟨_, PSs.nox (pss_cons (ps_set (i := 4) sc_l_free_checks.nd rfl (Or.inl rfl) (VL.pe_own (pe_lst pa_nil)))
 (pss_cons (ps_for PassesOwn.never rfl (pi_range1 rfl (T.free 7) (pa_cons (pv 2) pa_nil)) (pg_name (i := 5) sc_l_free_checks.nd rfl (Or.inl rfl))
  (pss_cons (ps_set (i := 6) sc_l_free_checks.nd rfl (Or.inl rfl) (pe_cal c_l_draw (hr.mono (by decide)) pass0 (pa_cons (pv 0) (pa_cons pe_int pa_nil))))
 (pss_cons (ps_set (i := 7) sc_l_free_checks.nd rfl (Or.inl rfl) (pe_op op_add pe_int (pe_cal c_l_draw (hr.mono (by decide)) pass0 (pa_cons (pv 0) (pa_cons (pe_callB (VL.k_max2 rfl) rfl (T.free 14) (by decide +kernel) (pa_cons pe_int (pa_cons (pe_op op_sub (pe_callB (VL.k_min2 rfl) rfl (T.free 13) (by decide +kernel) (pa_cons (pv 3) (pa_cons (pv 1) pa_nil))) pe_int) pa_nil))) pa_nil)))))
 (pss_cons (ps_if (pt_cmpR (VL.op_eqX hr.units) (pv 6) pe_int (nomark _))
  (pss_one (ps_set (i := 7) sc_l_free_checks.nd rfl (Or.inl rfl) pe_int))
  pss_nil)
 (pss_one (ps_if (PW.pt (pw_and (pt_cmpR (VL.op_eqX hr.units) (pv 6) pe_int (nomark _)) (pw_and1 (pt_cmpR op_gt (pe_callB MB.k_len rfl (T.free 3) PySem.boot_len (pa_cons (pv 4) pa_nil)) pe_int (nomark _)))))
  (pss_one (ps_expr (pe_bm PySem.F.plainAttrs_list PySem.F.slot_list_append PySem.F.type_list_append mt_append (pv 4) (pa_cons (pe_ix ix_seq (pv 4) (pe_cal c_l_draw (hr.mono (by decide)) pass0 (pa_cons (pv 0) (pa_cons (pe_callB MB.k_len rfl (T.free 3) PySem.boot_len (pa_cons (pv 4) pa_nil)) pa_nil))) (fun _ _ => rfl)) pa_nil))))
  (pss_one (ps_expr (pe_bm PySem.F.plainAttrs_list PySem.F.slot_list_append PySem.F.type_list_append mt_append (pv 4) (pa_cons (pe_cal c_l_lot (hr.mono (by decide)) pass0 (pa_cons (pv 0) (pa_cons (pv 1) (pa_cons (pe_callB (VL.k_min2 rfl) rfl (T.free 13) (by decide +kernel) (pa_cons (pv 7) (pa_cons (pv 1) pa_nil))) pa_nil)))) pa_nil))))))))))
 (pss_one (ps_ret (pv 4))))), ?_⟩), T.glo 59, F.kp, F.bindsN fun _ _ _ _ _ _ us hl => match us, hl with | [_, _, _, _], _ => rfl, .nil⟩

  · rintro ds O Q E ⟨p, n, m, wd, rfl, _⟩; rfl
  · rintro ds O Q E ⟨p, n, m, wd, rfl, hp, hn, hm, hwd, k⟩
    walk_at "vw"
    intro r hr1
    have npr := VL.ne_of hp hr1
    walk_at "vw"
    refine VL.s_for (VL.i_rng1 ?_)
    walk_at "vw"
    refine ⟨fun i ρ' O2 => ∃ (cs : List (List Int)) (x y z : Option VL.D), O2 = VL.updO O r (.lst (rowsT cs)) ∧ cs.length = i ∧ (∀ c ∈ cs, VL.Lot n c ∧ c ≠ []) ∧ ρ' = [some (.ref p), some (.int n), some (.int m), some (.int wd), some (.ref r), x, y, z],
      ⟨[], none, none, none, rfl, rfl, (fun c h => by cases h), rfl⟩, fun _ _ _ _ => trivial, ?_, ?_⟩
    · rintro i d ρ' O2 hd ⟨cs, x, y, z, rfl, hcl, hcs, rfl⟩
      obtain ⟨hi, rfl⟩ := VL.rngD_at hd
      walk_at "vw"
      refine ⟨p, 12, rfl, by walk_at "ol", by decide, by decide, fun pick hk0 hk1 => ?_⟩
      walk_at "vw"
      refine ⟨p, _, rfl, by walk_at "ol", by split <;> split <;> omega, by split <;> split <;> omega, fun s hs0 hs1 => ?_⟩
      have hs2 : s ≤ 10 := by split at hs1 <;> split at hs1 <;> omega
      refine VL.o_I0 rfl ?_
      refine VL.h_name ?_
      refine VL.s_cut (fun ρ' O2 => O2 = VL.updO O r (.lst (rowsT cs)) ∧ ∃ (s : Int), 1 ≤ s ∧ s ≤ 12 ∧ ρ' = [some (.ref p), some (.int n), some (.int m), some (.int wd), some (.ref r), some (.int (0 + (i : Int))), some (.int pick), some (.int s)]) ?_ ?_
      · walk_at "vw"
        refine if_i (fun _ => ?_) (fun _ => ?_)
        · walk_at "vw"
          exact ⟨rfl, 1, by omega, by omega, rfl⟩
        · walk_at "vw"
          exact ⟨rfl, 2 + s, by omega, by omega, rfl⟩
      · rintro ρ' O2 ⟨rfl, s, hs0, hs1, rfl⟩
        walk_at "vw"
        refine if_i (fun _ => ?_) (fun _ => ?_)
        · walk_at "vw"
          refine if_d (fun hpos => ?_) (fun _ => ?_)
          · walk_at "vw"
            refine ⟨p, _, rfl, by walk_at "ol", hpos, by rw [List.length_map]; omega, fun b hb0 hb1 => ?_⟩
            rw [List.length_map] at hb1
            have hb2 : b.toNat < cs.length := by omega
            have hat0 : atI (rowsT cs) ((b.toNat : Nat) : Int) = some (.tup (cs[b.toNat].map VL.D.int)) := atI_nat (by rw [List.getElem?_map, List.getElem?_eq_getElem hb2]; rfl)
            have hat : atI (rowsT cs) b = some (.tup (cs[b.toNat].map VL.D.int)) := (congrArg (atI (rowsT cs)) (show b = ((b.toNat : Nat) : Int) by omega)).trans hat0
            refine VL.o_ixQ rfl (VL.asS_own VL.updO_same) hat ?_
            walk_at "vw"
            refine VL.m_append VL.updO_same (VL.lt_line (by rw [List.length_map]; omega)) ?_
            rw [VL.updO_updO]
            refine ⟨cs ++ [cs[b.toNat]], _, _, _, by rw [rowsT, rowsT, List.map_append]; rfl, by rw [List.length_append, hcl]; rfl, fun c hc => ?_, rfl⟩
            rcases List.mem_append.mp hc with h | h
            · exact hcs c h
            · rw [List.mem_singleton] at h; subst h
              exact hcs _ (List.getElem_mem hb2)
          · walk_at "vw"
            refine ⟨p, n, _, rfl, by walk_at "ol", by omega, by omega, ⟨by split <;> omega, by split <;> omega⟩, fun ms hms hml => ?_⟩
            walk_at "vw"
            refine VL.m_append VL.updO_same (VL.lt_line (by rw [List.length_map]; omega)) ?_
            rw [VL.updO_updO]
            refine ⟨cs ++ [ms], _, _, _, by rw [rowsT, rowsT, List.map_append]; rfl, by rw [List.length_append, hcl]; rfl, fun c hc => ?_, rfl⟩
            rcases List.mem_append.mp hc with h | h
            · exact hcs c h
            · rw [List.mem_singleton] at h; subst h
              refine ⟨hms, fun z => ?_⟩
              subst z
              simp at hml
              split at hml <;> (try split at hml) <;> omega
        · walk_at "vw"
          refine ⟨p, n, _, rfl, by walk_at "ol", by omega, by omega, ⟨by split <;> omega, by split <;> omega⟩, fun ms hms hml => ?_⟩
          walk_at "vw"
          refine VL.m_append VL.updO_same (VL.lt_line (by rw [List.length_map]; omega)) ?_
          rw [VL.updO_updO]
          refine ⟨cs ++ [ms], _, _, _, by rw [rowsT, rowsT, List.map_append]; rfl, by rw [List.length_append, hcl]; rfl, fun c hc => ?_, rfl⟩
          rcases List.mem_append.mp hc with h | h
          · exact hcs c h
          · rw [List.mem_singleton] at h; subst h
            refine ⟨hms, fun z => ?_⟩
            subst z
            simp at hml
            split at hml <;> (try split at hml) <;> omega
    · rintro ρ' O2 ⟨cs, x, y, z, rfl, hcl, hcs, rfl⟩
      rw [VL.rngD_len] at hcl
      refine VL.s_freeze (i := 4) (p := r) rfl VL.updO_same ?_
      rw [VL.delO_updO hr1]
      walk_at "vw"
      exact k cs (by omega) hcs
end
end K04
namespace K04
open PySem PySem.Spec PyProof.Rows L2 MB
def W_tie : VL.WL := fun ds O Q _ => ∃ (p : Addr) (n m : Int), ds = [.ref p, .int n, .int m] ∧ O p = some .hand ∧ (1 ≤ n ∧ n ≤ 10) ∧ (2 ≤ m ∧ m ≤ 10) ∧ ∀ cs : List (List Int), (cs.length : Int) ≤ m → (∀ c ∈ cs, VL.Lot n c ∧ c ≠ []) → Q (.lst (rowsT cs)) O
def prD (q : Int × Int) : VL.D := .tup [.int q.1, .int q.2]
def inE (es : List (Int × Int)) (m : Int) (b : Int) : Bool := match es[b.toNat]? with
  | some q => decide (m ∈ [q.1, q.2])
  | none => false
theorem inE_lot (es : List (Int × Int)) (m : Int) (n : Nat) : ∃ c : List Int, ((VL.rngD 0 n).filter fun d => inE es m (VL.toI d)).map id = c.map VL.D.int ∧ VL.Lot n c := by
  refine ⟨((List.range n).map fun (k : Nat) => (k : Int)).filter (inE es m), ?_, ?_, ?_⟩
  · rw [List.map_id, VL.rngD_ints, List.filter_map]
    rfl
  · refine List.Pairwise.filter _ (List.pairwise_map.mpr ?_)
    exact List.pairwise_lt_range.imp fun h => by omega
  · intro b hb
    obtain ⟨k, hk, rfl⟩ := List.mem_map.mp (List.mem_filter.mp hb).1
    have := List.mem_range.mp hk
    omega
def neD : VL.D → Bool
  | .tup xs => !xs.isEmpty
  | _ => false
theorem ne_filter (cs : List (List Int)) : ((rowsT cs).filter neD).map id = rowsT (cs.filter fun c => !c.isEmpty) := by
  rw [List.map_id, rowsT, rowsT, List.filter_map]
  congr 1
  refine List.filter_congr fun c _ => ?_
  show (!(c.map VL.D.int).isEmpty) = _
  cases c <;> rfl
section
variable {P : Program} {w : World} {K : PySem.W.Frag} {mg : Str → Option Value} {base : Heap}
theorem c_l_tie_checks (T : Txt K mg) : Cal P w K mg base CX0 3 "_law_tie_checks" ["_law_hand_here", "_law_bits", "_law_posts"] [] (VL.SpL K W_tie) := by
  have c_l_draw := @c_l_draw P w K mg base T
  obtain ⟨fd, F⟩ := T.c.def_ 38 (d := dd_l_tie_checks) rfl
  refine ⟨_, fd, [], VL.fnL' (CX := CX0) F sc_l_tie_checks ?_ (fun cdv A outer s H E hr => ⟨_, PSs.nox (pss_cons (ps_set (i := 3) sc_l_tie_checks.nd rfl (Or.inr rfl) (VL.pe_own (pe_lst pa_nil)))
 (pss_cons (ps_for PassesOwn.never rfl (pi_range1 rfl (T.free 7) (pa_cons (pv 1) pa_nil)) (pg_name (i := 4) sc_l_tie_checks.nd rfl (Or.inl rfl))
  (pss_cons (ps_set (i := 5) sc_l_tie_checks.nd rfl (Or.inl rfl) (pe_cal c_l_draw (hr.mono (by decide)) pass0 (pa_cons (pv 0) (pa_cons (pv 2) pa_nil))))
 (pss_cons (ps_set (i := 6) sc_l_tie_checks.nd rfl (Or.inl rfl) (pe_op op_mod (pe_callTy MB.k_int1 rfl (T.free 1) (by decide +kernel) (pa_cons (pe_op op_add (pe_op op_add (pv 5) pe_int) (pe_cal c_l_draw (hr.mono (by decide)) pass0 (pa_cons (pv 0) (pa_cons (pe_op op_sub (pv 2) pe_int) pa_nil)))) pa_nil)) (pv 2)))
 (pss_one (ps_expr (pe_bm PySem.F.plainAttrs_list PySem.F.slot_list_append PySem.F.type_list_append mt_append (pv 3) (pa_cons (pe_tup (pa_cons (pv 5) (pa_cons (pv 6) pa_nil))) pa_nil)))))))
 (pss_cons (ps_setLc (i := 7) (own := [("_law_post", 8)]) (g := gName 8) (tt := tYes) rfl sc_l_tie_checks.nd rfl rfl (sw_true rfl rfl rfl (by decide +kernel)) (pi_range1 rfl (T.free 7) (pa_cons (pv 2) pa_nil)) (blkOk_by (N := ["_law_hand_here", "_law_bits", "_law_posts", "_law_ends", "_law_bit", "_law_low", "_law_high", "_law_rows", "_law_post", "_law_row"]) (sc := defScope s_l_tie_checks) (by decide +kernel)) (fun _ _ _ _ _ => (pg_name (i := 8) sc_l_tie_checks.nd rfl (Or.inr rfl))) (fun _ _ _ _ _ => pts_nil) (fun _ _ _ _ _ => (pe_callTy (show CallR _ (.type "tuple") (MB.rTupOf K) from MB.k_tupOf) rfl (T.free 9) (by decide +kernel) (pa_cons (pe_lc (own := [("_law_bit", 4)]) (g := gName 4) rfl sc_l_tie_checks.nd (pi_range1 rfl (T.free 7) (pa_cons (pv 1) pa_nil)) (by dsimp only [Cx.blk, compEnvC]; rw [VL.relabel_rl]; exact (show BlkOk ["_law_hand_here", "_law_bits", "_law_posts", "_law_ends", "_law_bit", "_law_low", "_law_high", "_law_rows", "_law_post", "_law_row"] (VL.rl _ (defScope s_l_tie_checks)) _ _ from blkOk_by (by decide +kernel))) (fun _ _ _ _ _ => (pg_name (i := 4) sc_l_tie_checks.nd rfl (Or.inl rfl))) (fun _ _ _ _ _ => pts_one (pt_cmpR (show OpR _ (compareOp .In) (rIn K false) from op_in_seq) (pv 8) (pe_ix (show IxR _ (rIx K) from ix_seq) (pv 3) (pv 4) (fun _ _ => rfl)) rfl)) (fun _ _ _ _ _ => (pv 4))) pa_nil))))
 (pss_one (ps_ret (pe_lc (own := [("_law_row", 9)]) (g := gName 9) rfl sc_l_tie_checks.nd (VL.pi_seq (pv 7)) (blkOk_by (N := ["_law_hand_here", "_law_bits", "_law_posts", "_law_ends", "_law_bit", "_law_low", "_law_high", "_law_rows", "_law_post", "_law_row"]) (sc := defScope s_l_tie_checks) (by decide +kernel)) (fun _ _ _ _ _ => (pg_name (i := 9) sc_l_tie_checks.nd rfl (Or.inl rfl))) (fun _ _ _ _ _ => pts_one (pt_cmpR op_gt (pe_callB (show CallR _ (.builtin "len") (MB.rLenQ K) from MB.k_len) rfl (T.free 3) PySem.boot_len (pa_cons (pv 9) pa_nil)) pe_int (nomark _))) (fun _ _ _ _ _ => (pv 9)))))))), ?_⟩), T.glo 60, F.kp, F.bindsN fun _ _ _ _ _ _ us hl => match us, hl with | [_, _, _], _ => rfl, .nil⟩

  · rintro ds O Q E ⟨p, n, m, rfl, _⟩; rfl
  · rintro ds O Q E ⟨p, n, m, rfl, hp, hn, hm, k⟩
    walk_at "vw"
    intro r hr
    have npr := VL.ne_of hp hr
    walk_at "vw"
    refine VL.s_for (VL.i_rng1 ?_)
    walk_at "vw"
    refine ⟨fun i ρ' O2 => ∃ (es : List (Int × Int)) (x y z : Option VL.D), O2 = VL.updO O r (.lst (es.map prD)) ∧ es.length = i ∧ ρ' = [some (.ref p), some (.int n), some (.int m), some (.ref r), x, y, z, none, none, none],
      ⟨[], none, none, none, rfl, rfl, rfl⟩, fun _ _ _ _ => trivial, ?_, ?_⟩
    · rintro i d ρ' O2 hd ⟨es, x, y, z, rfl, hel, rfl⟩
      obtain ⟨hi, rfl⟩ := VL.rngD_at hd
      walk_at "vw"
      refine ⟨p, m, rfl, by walk_at "ol", by omega, by omega, fun lo hl0 hl1 => ?_⟩
      walk_at "vw"
      refine ⟨p, _, rfl, by walk_at "ol", by omega, by omega, fun hg hg0 hg1 => ?_⟩
      walk_at "vw"
      refine VL.m_append VL.updO_same (VL.lt_line (by rw [List.length_map]; omega)) ?_
      rw [VL.updO_updO]
      exact ⟨es ++ [(lo, (lo + 1 + hg) % m)], _, _, _, by rw [List.map_append]; rfl, by rw [List.length_append, hel]; rfl, rfl⟩
    · rintro ρ' O2 ⟨es, x, y, z, rfl, hel, rfl⟩
      rw [VL.rngD_len] at hel
      have hO : VL.updO O r (.lst (es.map prD)) r = some (.lst (es.map prD)) := VL.updO_same
      walk_at "vw"
      refine VL.ln_rel (fun _ _ y => ∃ c : List Int, VL.Lot n c ∧ y = .tup (c.map VL.D.int)) (VL.i_rng1 ?_)
      walk_at "vw"
      refine ⟨by rw [VL.rngD_len]; omega, fun _ _ => trivial, fun j d O3 hd ex => ?_, fun ys hl hy => ?_⟩
      · obtain ⟨hj, rfl⟩ := VL.rngD_at hd
        have hO3 := ex r _ hO
        walk_at "vw"
        refine VL.ln_lcP (fun d => inE es (0 + (j : Int)) (VL.toI d)) id (VL.i_rng1 ?_)
        walk_at "vw"
        refine ⟨by rw [VL.rngD_len]; exact VL.le_line (by omega), fun _ _ _ => trivial, fun i2 d L acc hd2 hL => ?_, ?_⟩
        · obtain ⟨hi2, rfl⟩ := VL.rngD_at hd2
          have hi3 : i2 < es.length := by omega
          have hO4 := VL.ext_new (o := VL.OD.lst acc) hL r _ hO3
          have hat : atI (es.map prD) (0 + (i2 : Int)) = some (prD es[i2]) := by
            rw [Int.zero_add]; exact atI_nat (by rw [List.getElem?_map, List.getElem?_eq_getElem hi3]; rfl)
          walk_at "vw"
          refine VL.o_ixQ rfl (VL.asS_own hO4) hat ?_
          refine VL.o_inI (ns := [es[i2].1, es[i2].2]) rfl rfl ?_
          walk_at "vw"
          refine ⟨⟨?_, rfl⟩, fun _ => ?_⟩
          · unfold inE
            show _ = match es[(0 + (i2 : Int)).toNat]? with | some q => decide ((0 + (j : Int)) ∈ [q.1, q.2]) | none => false
            rw [show (0 + (i2 : Int)).toNat = i2 by omega, List.getElem?_eq_getElem hi3]
          · walk_at "vw"
            exact ⟨rfl, rfl⟩
        · obtain ⟨c, hc, hL⟩ := inE_lot es (0 + (j : Int)) n.toNat
          rw [hc]
          walk_at "vw"
          rw [Int.toNat_of_nonneg (by omega)] at hL
          exact ⟨⟨c, hL, rfl⟩, rfl⟩
      · obtain ⟨cs, rfl, hcs⟩ := VL.rel_list (P := fun c => VL.Lot n c) (f := fun c : List Int => VL.D.tup (c.map VL.D.int)) (VL.rel_mem hl hy fun _ _ _ _ h => h)
        rw [List.length_map, VL.rngD_len] at hl
        refine VL.h_name ?_
        refine VL.s_ret (VL.l_del r ?_)
        walk_at "vw"
        refine VL.ln_lcP neD id (VL.i_seq rfl ?_)
        walk_at "vw"
        refine ⟨_, rfl, by rw [List.length_map]; exact VL.le_line (by omega), fun _ _ _ => rfl, fun j d L acc hd hL => ?_, ?_⟩
        · obtain ⟨c, hc, rfl⟩ := VL.rows_at hd
          walk_at "vw"
          refine ⟨⟨?_, rfl⟩, fun _ => ?_⟩
          · show decide (0 < (((c.map VL.D.int).length : Nat) : Int)) = !(c.map VL.D.int).isEmpty
            cases c with
            | nil => rfl
            | cons a c => exact decide_eq_true (by rw [List.length_map, List.length_cons]; omega)
          · walk_at "vw"
            exact ⟨rfl, rfl⟩
        · have e : ((cs.map fun c : List Int => VL.D.tup (c.map VL.D.int)).filter neD).map id = rowsT (cs.filter fun c => !c.isEmpty) := ne_filter cs
          rw [e, VL.delO_updO hr]
          have := List.length_filter_le (fun c : List Int => !c.isEmpty) cs
          refine k _ (by omega) fun c hc => ?_
          obtain ⟨h1, h2⟩ := List.mem_filter.mp hc
          exact ⟨hcs c h1, fun z => by subst z; cases h2⟩
def W_ringless : VL.WL := fun ds O Q _ => ∃ (p : Addr) (n m : Int), ds = [.ref p, .int n, .int m] ∧ O p = some .hand ∧ (1 ≤ n ∧ n ≤ 10) ∧ (2 ≤ m ∧ m ≤ 10) ∧ ∀ cs : List (List Int), (cs.length : Int) ≤ n → (∀ c ∈ cs, VL.Lot n c ∧ c ≠ []) → Q (.lst (rowsT cs)) O
def rgI (a b : Nat) : List Int := (List.range' a b).map fun (k : Nat) => (k : Int)
theorem rng_ints (a : Int) (n : Nat) (h : 0 ≤ a) : VL.rngD a n = (rgI a.toNat n).map VL.D.int := by
  unfold VL.rngD rgI
  rw [List.map_map, List.range'_eq_map_range, List.map_map]
  refine List.map_congr_left fun k _ => ?_
  show VL.D.int (a + k) = .int (((a.toNat + k : Nat)) : Int)
  congr 1
  omega
end
end K04
namespace K04
open PySem PySem.Spec PyProof.Rows L2 MB
abbrev upD (t : Nat) : List VL.D := (rgI 0 t).map VL.D.int
theorem rgI_len (a b : Nat) : (rgI a b).length = b := by unfold rgI; rw [List.length_map, List.length_range']
theorem rgI_app (t s : Nat) : rgI 0 t ++ rgI t s = rgI 0 (t + s) := by
  unfold rgI
  rw [← List.map_append]
  congr 1
  have := List.range'_append (s := 0) (m := t) (n := s) (step := 1)
  simpa using this
theorem rgI_at {t j : Nat} (h : j < t) : (rgI 0 t)[j]? = some (j : Int) := by
  unfold rgI
  rw [List.getElem?_map, List.getElem?_range' h]
  simp
theorem rgI_mem {t s : Nat} {x : Int} : x ∈ rgI t s ↔ (t : Int) ≤ x ∧ x < (t : Int) + s := by
  unfold rgI
  rw [List.mem_map]
  constructor
  · rintro ⟨k, hk, rfl⟩
    have := List.mem_range'_1.mp hk
    omega
  · rintro ⟨h1, h2⟩
    exact ⟨x.toNat, List.mem_range'_1.mpr (by omega), by omega⟩
theorem rgI_nodup (t s : Nat) : (rgI t s).Nodup := by
  unfold rgI
  exact (List.pairwise_map.mpr ((List.nodup_range' (step := 1)).imp fun h => by omega))
theorem lot_fresh {n : Int} {t s : Nat} {o : Int} {ms : List Int} (ho0 : 0 ≤ o) (ho : o < t) (hn : (t : Int) + s ≤ n) (pm : ms.Perm (o :: rgI t s)) (so : ms.Pairwise (· ≤ ·)) : VL.Lot n ms ∧ ms ≠ [] := by
  have nd : (o :: rgI t s).Nodup := List.nodup_cons.mpr ⟨fun h => by have := rgI_mem.mp h; omega, rgI_nodup t s⟩
  refine ⟨⟨VL.lt_of_le_nodup so (pm.nodup_iff.mpr nd), fun b hb => ?_⟩, fun z => ?_⟩
  · rcases List.mem_cons.mp (pm.mem_iff.mp hb) with h | h
    · omega
    · have := rgI_mem.mp h; omega
  · have := pm.length_eq
    rw [z] at this
    simp at this
section
variable {P : Program} {w : World} {K : PySem.W.Frag} {mg : Str → Option Value} {base : Heap}
def W_code : VL.WL := fun ds O Q _ => ∃ (p : Addr) (lo hi wd : Int), ds = [.ref p, .int lo, .int hi, .int wd] ∧ O p = some .hand ∧ (1 ≤ lo ∧ lo ≤ hi ∧ hi ≤ 10) ∧ (2 ≤ wd ∧ wd ≤ 10) ∧ ∀ (n : Int) (cs : List (List Int)), (lo ≤ n ∧ n ≤ hi) → (cs.length : Int) ≤ 10 → (∀ c ∈ cs, VL.Lot n c ∧ c ≠ []) → Q (.lst [.int n, .lst (rowsT cs)]) O
theorem c_l_code (T : Txt K mg) : Cal P w K mg base CX0 5 "_law_code" ["_law_hand_here", "_law_low", "_law_high", "_law_widest"] [] (VL.SpL K W_code) := by
  have c_l_draw := @c_l_draw P w K mg base T
  have c_l_free_checks := @c_l_free_checks P w K mg base T
  have c_l_tie_checks := @c_l_tie_checks P w K mg base T
  have c_l_lot := @c_l_lot P w K mg base T
  obtain ⟨fd, F⟩ := T.c.def_ 39 (d := dd_l_code) rfl
  refine ⟨_, fd, [], VL.fnL' (CX := CX0) F sc_l_code ?_ (fun cdv A outer s H E hr => ⟨_, PSs.nox (pss_cons (ps_set (i := 4) sc_l_code.nd rfl (Or.inl rfl) (pe_op op_add (pv 1) (pe_cal c_l_draw (hr.mono (by decide)) pass0 (pa_cons (pv 0) (pa_cons (pe_op op_add (pe_op op_sub (pv 2) (pv 1)) pe_int) pa_nil)))))
 (pss_cons (ps_set (i := 5) sc_l_code.nd rfl (Or.inl rfl) (pe_cal c_l_draw (hr.mono (by decide)) pass0 (pa_cons (pv 0) (pa_cons pe_int pa_nil))))
 (pss_cons (ps_if (pt_cmpR (VL.op_eqX hr.units) (pv 5) pe_int (nomark _))
  (pss_one (ps_ret (pe_lst (pa_cons (pv 4) (pa_cons (pe_lst (pa_cons (pe_cal c_l_lot (hr.mono (by decide)) pass0 (pa_cons (pv 0) (pa_cons (pv 4) (pa_cons (pv 3) pa_nil)))) pa_nil)) pa_nil)))))
  pss_nil)
 (pss_cons (ps_if (PW.pt (pw_and (pt_cmpR op_lt (pv 5) pe_int (nomark _)) (pw_and1 (pt_cmpR op_gt (pv 4) pe_int (nomark _)))))
  (pss_one (ps_ret (pe_lst (pa_cons (pv 4) (pa_cons (pe_cal c_l_tie_checks (hr.mono (by decide)) pass0 (pa_cons (pv 0) (pa_cons (pv 4) (pa_cons (pe_op op_add pe_int (pe_cal c_l_draw (hr.mono (by decide)) pass0 (pa_cons (pv 0) (pa_cons pe_int pa_nil)))) pa_nil)))) pa_nil)))))
  pss_nil)
 (pss_one (ps_ret (pe_lst (pa_cons (pv 4) (pa_cons (pe_cal c_l_free_checks (hr.mono (by decide)) pass0 (pa_cons (pv 0) (pa_cons (pv 4) (pa_cons (pe_ifExp (pt_cmpR (VL.op_eqX hr.units) (pv 5) pe_int (nomark _)) (pe_cal c_l_draw (hr.mono (by decide)) pass0 (pa_cons (pv 0) (pa_cons pe_int pa_nil))) (pe_op op_add pe_int (pe_cal c_l_draw (hr.mono (by decide)) pass0 (pa_cons (pv 0) (pa_cons pe_int pa_nil))))) (pa_cons (pv 3) pa_nil))))) pa_nil))))))))), ?_⟩), T.glo 61, F.kp, F.bindsN fun _ _ _ _ _ _ us hl => match us, hl with | [_, _, _, _], _ => rfl, .nil⟩

  · rintro ds O Q E ⟨p, lo, hi, wd, rfl, _⟩; rfl
  · rintro ds O Q E ⟨p, lo, hi, wd, rfl, hp, hlo, hwd, k⟩
    walk_at "vw"
    refine ⟨p, _, rfl, by walk_at "ol", by omega, by omega, fun b hb0 hb1 => ?_⟩
    walk_at "vw"
    refine ⟨p, 8, rfl, by walk_at "ol", by decide, by decide, fun pk hk0 hk1 => ?_⟩
    walk_at "vw"
    refine if_i (fun _ => ?_) (fun _ => ?_)
    · walk_at "vw"
      refine ⟨p, lo + b, wd, rfl, by walk_at "ol", by omega, by omega, ⟨by omega, by omega⟩, fun ms hm hl => ?_⟩
      walk_at "vw"
      refine k (lo + b) [ms] ⟨by omega, by omega⟩ (by simp) fun c hc => ?_
      rw [List.mem_singleton.mp hc]
      refine ⟨hm, fun z => ?_⟩
      subst z
      rw [List.length_nil] at hl
      split at hl <;> omega
    · walk_at "vw"
      refine if_d (fun _ => ?_) (fun _ => ?_)
      · walk_at "vw"
        refine if_d (fun _ => ?_) (fun _ => ?_)
        · walk_at "vw"
          refine ⟨p, _, rfl, by walk_at "ol", by omega, by omega, fun mm h0 h1 => ?_⟩
          walk_at "vw"
          refine ⟨p, lo + b, 2 + mm, rfl, by walk_at "ol", ⟨by omega, by omega⟩, ⟨by omega, by omega⟩, fun cs hcl hcs => ?_⟩
          walk_at "vw"
          exact k (lo + b) cs ⟨by omega, by omega⟩ (by omega) hcs
        · walk_at "vx"
          refine VL.l_post (fun y O2 => O2 = O ∧ ∃ mm : Int, 0 ≤ mm ∧ mm ≤ 5 ∧ y = .int mm) ?_ ?_
          · walk_at "vw"
            refine if_i (fun _ => ?_) (fun _ => ?_)
            · walk_at "vw"
              refine ⟨p, _, rfl, by walk_at "ol", by omega, by omega, fun mm h0 h1 => ?_⟩
              walk_at "vw"
              exact ⟨rfl, mm, by omega, by omega, rfl⟩
            · walk_at "vw"
              refine ⟨p, _, rfl, by walk_at "ol", by omega, by omega, fun mm h0 h1 => ?_⟩
              walk_at "vw"
              exact ⟨rfl, 2 + mm, by omega, by omega, rfl⟩
          · rintro y O2 ⟨rfl, mm, h0, h1, rfl⟩
            walk_at "vw"
            refine ⟨p, lo + b, mm, wd, rfl, by walk_at "ol", ⟨by omega, by omega⟩, ⟨by omega, by omega⟩, ⟨by omega, by omega⟩, fun cs hcl hcs => ?_⟩
            walk_at "vw"
            exact k (lo + b) cs ⟨by omega, by omega⟩ (by omega) hcs
      · walk_at "vx"
        refine VL.l_post (fun y O2 => O2 = O ∧ ∃ mm : Int, 0 ≤ mm ∧ mm ≤ 5 ∧ y = .int mm) ?_ ?_
        · walk_at "vw"
          refine if_i (fun _ => ?_) (fun _ => ?_)
          · walk_at "vw"
            refine ⟨p, _, rfl, by walk_at "ol", by omega, by omega, fun mm h0 h1 => ?_⟩
            walk_at "vw"
            exact ⟨rfl, mm, by omega, by omega, rfl⟩
          · walk_at "vw"
            refine ⟨p, _, rfl, by walk_at "ol", by omega, by omega, fun mm h0 h1 => ?_⟩
            walk_at "vw"
            exact ⟨rfl, 2 + mm, by omega, by omega, rfl⟩
        · rintro y O2 ⟨rfl, mm, h0, h1, rfl⟩
          walk_at "vw"
          refine ⟨p, lo + b, mm, wd, rfl, by walk_at "ol", ⟨by omega, by omega⟩, ⟨by omega, by omega⟩, ⟨by omega, by omega⟩, fun cs hcl hcs => ?_⟩
          walk_at "vw"
          exact k (lo + b) cs ⟨by omega, by omega⟩ (by omega) hcs
end
end K04
namespace K04
open PySem PySem.Spec PyProof.Rows L2 MB
def W_ckrow (K : PySem.W.Frag) : VL.WL := fun ds O Q X => ∃ n cs t, ds = [VL.codeD (He.ga K "Code") n cs, t] ∧ VL.Kn O t ∧ (∀ xs, VL.asS O t = some xs → ∀ x ∈ xs, VL.Kn O x ∧ ∀ ys, VL.asS O x = some ys → ∀ y ∈ ys, VL.Kn O y) ∧ match VL.rowFault VL.isShare (VL.asS O) t n with
  | some i => X (He.ga K "BadRow") [("place", .int i)] O
  | none => Q (.tup (VL.itemsA (VL.asS O) t)) O
section
variable {P : Program} {w : World} {K : PySem.W.Frag} {mg : Str → Option Value} {base : Heap}
theorem c_check_row (T : Txt K mg) : Cal P w K mg base (L2.CX P w) 4 "check_row" ["code", "row"] [] (VL.SpL K (W_ckrow K)) := by
  obtain ⟨fI_BadRow, FI_BadRow, bI_BadRow⟩ := @FI_BadRow P w K mg base T
  have c_is_long := @c_is_long P w K mg base T
  have c_is_share := @c_is_share P w K mg base T
  obtain ⟨fd, F⟩ := T.c.def_ 10 (d := dd_check_row) rfl
  refine ⟨_, fd, [], VL.fnL' (CX := (L2.CX P w)) F sc_check_row ?_ (fun cdv A outer s H E hr => ⟨_, (pss_cons (ps_if (pt_not (pt_val (pe_cal c_is_long (hr.mono (by decide)) pass0 (pa_cons (pv 1) (pa_cons (pe_fld (pv 0) rfl) pa_nil)))))
  (pss_one (ps_raise rfl (takes_of rfl rfl rfl rfl) (pmk_oex (T.bo 4) (T.bi 4) (T.bt 4) FI_BadRow (hr.mono (by decide)) bI_BadRow .nil pass0 rfl (T.glo 20) (pa_cons (pe_un un_neg pe_int) pa_nil))))
  pss_nil)
 (pss_cons (ps_for (passes_of rfl) rfl (VL.pi_enumA rfl (T.free 8) (pa_cons (pv 1) pa_nil)) (pg_tup rfl (pgs_cons (pg_name (i := 2) sc_check_row.nd rfl (Or.inl rfl)) (pgs_cons (pg_name (i := 3) sc_check_row.nd rfl (Or.inl rfl)) pgs_nil)))
  (pss_one (ps_if (pt_not (pt_val (pe_cal c_is_share (hr.mono (by decide)) pass0 (pa_cons (pv 3) pa_nil))))
  (pss_one (ps_raise rfl (takes_of rfl rfl rfl rfl) (pmk_oex (T.bo 4) (T.bi 4) (T.bt 4) FI_BadRow (hr.mono (by decide)) bI_BadRow .nil pass0 rfl (T.glo 20) (pa_cons (pv 2) pa_nil))))
  pss_nil)))
 (pss_one (ps_ret (pe_callTy MB.k_tupOf rfl (T.free 9) (by decide +kernel) (pa_cons (pv 1) pa_nil)))))), ?_⟩), T.glo 32, F.kp, F.bindsN fun _ _ _ _ _ _ us hl => match us, hl with | [_, _], _ => rfl, .nil⟩

  · rintro ds O Q E ⟨n, cs, t, rfl, _⟩; rfl
  · rintro ds O Q E ⟨n, cs, t, rfl, kt, hx, k⟩
    walk_at "vw"
    refine ⟨_, _, _, rfl, T.cls 80, T.noat 81, rfl, ?_⟩
    walk_at "vw"
    refine ⟨_, _, rfl, kt, ?_⟩
    walk_at "vw"
    refine if_b (fun h1 => ?_) (fun h1 => ?_)
    · rw [VL.rf_form (VL.nb1 h1)] at k
      refine VL.s_raise1 (fun _ _ _ _ h => h) ?_
      walk_at "vw"
      exact k
    · obtain ⟨xs, e0, hl⟩ := VL.rf_len (a := VL.asS O) (t := t) (n := n) (VL.nb0 h1)
      have hk := hx xs e0
      walk_at "vw"
      refine VL.s_for (VL.i_enumA rfl ?_)
      walk_at "vw"
      refine ⟨_, xs, rfl, e0, ?_⟩
      refine ⟨fun i ρ' O' => O' = O ∧ (∃ x y, ρ' = [some (VL.codeD (He.ga K "Code") n cs), some t, x, y]) ∧ ∀ (j : Nat) (y : VL.D), j < i → xs[j]? = some y → VL.isShare y = true, ⟨rfl, ⟨none, none, rfl⟩, fun j y hj => absurd hj (Nat.not_lt_zero j)⟩, ?_, ?_, ?_⟩
      · rintro i ρ' O' ⟨rfl, _⟩; exact e0
      · rintro i d ρ' O' hd ⟨rfl, ⟨x, y, rfl⟩, hb⟩
        obtain ⟨z, hz, rfl⟩ := VL.enumD_at hd
        have lz := hk z (List.mem_of_getElem? hz)
        walk_at "vw"
        refine ⟨_, rfl, lz.1, lz.2, ?_⟩
        walk_at "vw"
        refine if_b (fun h4 => ?_) (fun h4 => ?_)
        · have h4' : VL.isShare z = false := by simpa using h4
          rw [VL.rf_at e0 hl hz h4' hb] at k
          refine VL.s_raise1 (fun _ _ _ _ h => h) ?_
          walk_at "vw"
          exact k
        · have h4' : VL.isShare z = true := by simpa using h4
          walk_at "vw"
          refine ⟨rfl, ⟨_, _, rfl⟩, fun j y hj hy => ?_⟩
          by_cases hji : j = i
          · subst hji; rw [hz] at hy; cases hy; exact h4'
          · exact hb j y (by omega) hy
      · rintro ρ' O' ⟨rfl, ⟨x, y, rfl⟩, hb⟩
        rw [VL.rf_ok e0 hl fun j y h => hb j y (by rw [VL.enumD_len]; exact (List.getElem?_eq_some_iff.mp h).1) h] at k
        walk_at "vw"
        have ei : VL.itemsA (VL.asS O') t = xs := by unfold VL.itemsA; rw [e0]; rfl
        rw [ei] at k
        exact k
end
end K04
namespace K04
open PySem PySem.Spec PyProof.Rows L2 MB
/-- the shares of a row -/
def Shr (rs : List (Int × Int)) : Prop := rs.length ≤ 10 ∧ ∀ r ∈ rs, VL.isShare (VL.ratD r) = true ∧ r.2 < 2 ^ 500
theorem shr_at {rs : List (Int × Int)} (h : Shr rs) {r : Int × Int} (hr : r ∈ rs) : 1 ≤ r.2 ∧ 0 ≤ r.1 ∧ r.1 ≤ r.2 ∧ r.2 < 2 ^ 500 := by
  obtain ⟨h1, h2⟩ := h.2 r hr
  have h1 : VL.isShare (.tup [.int r.1, .int r.2]) = true := h1
  rw [VL.isShare_ii] at h1
  simp only [Bool.and_eq_true, decide_eq_true_eq] at h1
  omega
theorem ratD_at {rs : List (Int × Int)} {i : Nat} {d : VL.D} (h : (rs.map VL.ratD)[i]? = some d) : ∃ r, rs[i]? = some r ∧ d = .tup [.int r.1, .int r.2] := by
  rw [List.getElem?_map] at h
  cases e : rs[i]? with
  | none => rw [e] at h; cases h
  | some r => rw [e] at h; cases h; exact ⟨r, rfl, rfl⟩
def W_oob : VL.WL := fun ds O Q _ => ∃ t rs, ds = [t] ∧ VL.asS O t = some (rs.map VL.ratD) ∧ Shr rs ∧ Q (.tup [.tup ((VL.topsL rs (VL.lcms rs)).map VL.D.int), .int (VL.lcms rs : Nat)]) O
def W_best : VL.WL := fun ds O Q _ => ∃ t gs odd, ds = [t, .int odd] ∧ VL.asL O t = some (gs.map VL.D.int) ∧ gs ≠ [] ∧ gs.length ≤ 1000 ∧ (odd = 0 ∨ odd = 1) ∧ Q (.lst ((VL.bestP gs odd).map VL.D.int)) O
def W_wplaces : VL.WL := fun ds O Q _ => ∃ t ts b, ds = [t, .int b] ∧ VL.asL O t = some (ts.map VL.D.int) ∧ ts ≠ [] ∧ ts.length ≤ 1000 ∧ Q (.tup [.lst ((VL.bestP (VL.gains ts b) 1).map VL.D.int), .int ((VL.ats (VL.gains ts b) (VL.bestP (VL.gains ts b) 1)).sum - ts.sum + b)]) O
def W_won : VL.WL := fun ds O Q _ => ∃ (c : List Int) (e : VL.D) (ts : List Int) (b : Int), ds = [.tup (c.map VL.D.int), e, .int b] ∧ VL.asS O e = some (ts.map VL.D.int) ∧ c ≠ [] ∧ c.length ≤ 1000 ∧ (∀ x ∈ c, 0 ≤ x ∧ x < (ts.length : Int)) ∧ Q (.tup [.tup ((VL.wLot ts b c).map VL.D.int), .int (VL.wTop ts b c)]) O
def letD : Option (Nat × List Int) → VL.D
  | none => .non
  | some (i, l) => .tup [.int (i : Nat), .tup (l.map VL.D.int)]
def RowIts (O : VL.Oh) (t : VL.D) : Prop := VL.Kn O t ∧ ∀ xs, VL.asS O t = some xs → ∀ x ∈ xs, VL.Kn O x ∧ ∀ ys, VL.asS O x = some ys → ∀ y ∈ ys, VL.Kn O y
def ChkN (n : Int) (cs : List (List Int)) : Prop := VL.Chk n cs ∧ n ≤ 10 ∧ ∀ c ∈ cs, c ≠ []
def letR (rs : List (Int × Int)) (cs : List (List Int)) : Option (Nat × List Int) := VL.letX (VL.topsL rs (VL.lcms rs)) (VL.lcms rs) cs
def W_letf (K : PySem.W.Frag) : VL.WL := fun ds O Q X => ∃ n cs t, ds = [VL.codeD (He.ga K "Code") n cs, t] ∧ ChkN n cs ∧ RowIts O t ∧ match VL.rowFault VL.isShare (VL.asS O) t n with
  | some i => X (He.ga K "BadRow") [("place", .int i)] O
  | none => ∃ rs, VL.asS O t = some (rs.map VL.ratD) ∧ (rs.length : Int) = n ∧ Shr rs ∧ Q (letD (letR rs cs)) O
def W_isLet (K : PySem.W.Frag) : VL.WL := fun ds O Q X => ∃ n cs t, ds = [VL.codeD (He.ga K "Code") n cs, t] ∧ ChkN n cs ∧ RowIts O t ∧ match VL.rowFault VL.isShare (VL.asS O) t n with
  | some i => X (He.ga K "BadRow") [("place", .int i)] O
  | none => ∃ rs, VL.asS O t = some (rs.map VL.ratD) ∧ (rs.length : Int) = n ∧ Shr rs ∧ Q (.bl (letR rs cs).isNone) O
theorem at_ints {gs : List Int} {b : Int} (h0 : 0 ≤ b) (h1 : b < (gs.length : Int)) : atI (gs.map VL.D.int) b = some (.int (VL.dig gs b)) := VL.dig_at h0 h1
theorem at_last {S : List Int} (h : S ≠ []) : atI (S.map VL.D.int) (-1) = some (.int (S.getLastD 0)) := by
  have hl : 0 < S.length := List.length_pos_iff.mpr h
  unfold atI ixN
  rw [List.length_map, if_neg (by decide), if_pos (by omega)]
  show (S.map VL.D.int)[(-1 + (S.length : Int)).toNat]? = _
  rw [show (-1 + (S.length : Int)).toNat = S.length - 1 by omega, List.getElem?_map, List.getLastD_eq_getLast?, List.getLast?_eq_getElem?, List.getElem?_eq_getElem (by omega)]
  rfl
theorem at_head {S : List Int} (h : S ≠ []) : atI (S.map VL.D.int) 0 = some (.int (S.headD 0)) := by
  cases S with
  | nil => exact absurd rfl h
  | cons a l => exact atI_nat (j := 0) rfl
section
variable {P : Program} {w : World} {K : PySem.W.Frag} {mg : Str → Option Value} {base : Heap}
set_option exponentiation.threshold 20000 in
theorem c_over_one_bottom (T : Txt K mg) : Cal P w K mg base CX0 1 "over_one_bottom" ["ratios"] [] (VL.SpL K W_oob) := by
  obtain ⟨fd, F⟩ := T.c.def_ 5 (d := dd_over_one_bottom) rfl
  refine ⟨_, fd, [], VL.fnL' (CX := CX0) F sc_over_one_bottom ?_ (fun cdv A outer s H E hr => ⟨_, PSs.nox (pss_cons (ps_set (i := 1) sc_over_one_bottom.nd rfl (Or.inr rfl) pe_int)
 (pss_cons (ps_for PassesOwn.never rfl (VL.pi_seq (pv 0)) (pg_name (i := 2) sc_over_one_bottom.nd rfl (Or.inl rfl))
  (pss_one (ps_set (i := 1) sc_over_one_bottom.nd rfl (Or.inr rfl) (pe_callBfun VL.cr_lcm rfl (lcm_ T) (pa_cons (pv 1) (pa_cons (pe_ix ix_seq (pv 2) pe_int (fun _ _ => rfl)) pa_nil))))))
 (pss_one (ps_ret (pe_tup (pa_cons (pe_callTy MB.k_tupOf rfl (T.free 9) (by decide +kernel) (pa_cons (pe_lc (own := [("ratio", 2)]) (g := gName 2) (tt := tYes) rfl sc_over_one_bottom.nd (VL.pi_seq (pv 0)) (blkOk_by (N := ["ratios", "bottom", "ratio"]) (sc := defScope s_over_one_bottom) (by decide +kernel)) (fun _ _ _ _ _ => (pg_name (i := 2) sc_over_one_bottom.nd rfl (Or.inl rfl))) (fun _ _ _ _ _ => pts_nil) (fun _ _ _ _ _ => (pe_op op_mulX (pe_ix (show IxR _ (rIx K) from ix_seq) (pv 2) pe_int (fun _ _ => rfl)) (pe_op K00.op_fdivZ (pv 1) (pe_ix (show IxR _ (rIx K) from ix_seq) (pv 2) pe_int (fun _ _ => rfl)))))) pa_nil)) (pa_cons (pv 1) pa_nil))))))), ?_⟩), T.glo 27, F.kp, F.bindsN fun _ _ _ _ _ _ us hl => match us, hl with | [_], _ => rfl, .nil⟩

  · rintro ds O Q E ⟨t, rs, rfl, _⟩; rfl
  · rintro ds O Q E ⟨t, rs, rfl, ht, hS, k⟩
    have hlt := VL.lcms_lt (rs := rs) fun r hr => (hS.2 r hr).2
    have hL : VL.lcms rs < 2 ^ 5001 := by
      have := hlt rs.length (Nat.le_refl _)
      rw [List.take_length] at this
      exact Nat.lt_of_lt_of_le this (Nat.pow_le_pow_right (by decide) (by have := hS.1; omega))
    walk_at "vw"
    refine VL.s_for (VL.i_seq rfl ?_)
    walk_at "vw"
    refine ⟨_, ht, ?_⟩
    refine ⟨fun i ρ' O' => O' = O ∧ ∃ x, ρ' = [some t, some (.int (VL.lcms (rs.take i) : Nat)), x], ⟨rfl, none, rfl⟩, ?_, ?_, ?_⟩
    · rintro i ρ' O' ⟨rfl, _⟩; exact ht
    · rintro i d ρ' O' hd ⟨rfl, x, rfl⟩
      obtain ⟨r, hr, rfl⟩ := ratD_at hd
      have hi : i < rs.length := (List.getElem?_eq_some_iff.mp hr).1
      obtain ⟨r1, r2, r3, r4⟩ := shr_at hS (List.mem_of_getElem? hr)
      have hb : VL.lcms (rs.take i) < 2 ^ 6000 := Nat.lt_of_lt_of_le (hlt i (by omega)) (Nat.pow_le_pow_right (by decide) (by have := hS.1; omega))
      have e : VL.D.int r.2 = .int ((r.2.toNat : Nat) : Int) := by rw [Int.toNat_of_nonneg (by omega)]
      walk_at "vw"
      rw [e]
      refine VL.k_lcm hb (Nat.lt_of_lt_of_le (show r.2.toNat < 2 ^ 500 by omega) (Nat.pow_le_pow_right (by decide) (by decide))) ?_
      walk_at "vw"
      exact ⟨rfl, _, by rw [VL.lcms_step hr]; rfl⟩
    · rintro ρ' O' ⟨rfl, x, rfl⟩
      rw [List.length_map, List.take_length]
      walk_at "vw"
      refine VL.ln_map (fun d => .int (VL.toI (VL.fstD d) * (VL.lcms rs : Int).fdiv (VL.toI (VL.sndD d)))) (VL.i_seq rfl ?_)
      walk_at "vw"
      refine ⟨_, ht, by rw [List.length_map]; have := hS.1; omega, fun O2 x => VL.asS_ext x ht, fun j d O2 hd ex => ?_, ?_⟩
      · obtain ⟨r, hr, rfl⟩ := ratD_at hd
        obtain ⟨r1, r2, r3, r4⟩ := shr_at hS (List.mem_of_getElem? hr)
        have h1 : r.2.natAbs < 2 ^ 500 := by omega
        have h2 : ((VL.lcms rs : Nat) : Int).fdiv r.2 ≤ VL.lcms rs := by
          rw [Int.fdiv_eq_ediv_of_nonneg _ (by omega)]
          exact Int.ediv_le_self _ (by omega)
        have h3 : 0 ≤ ((VL.lcms rs : Nat) : Int).fdiv r.2 := by
          rw [Int.fdiv_eq_ediv_of_nonneg _ (by omega)]
          exact Int.ediv_nonneg (by omega) (by omega)
        walk_at "vw"
        refine VL.o_I (d := .int ((VL.lcms rs : Int).fdiv r.2)) ?_ ?_ ?_
        · refine ⟨by omega, ?_⟩
          exact (Nat.log2_lt (by omega)).mpr (Nat.lt_of_lt_of_le h1 (Nat.pow_le_pow_right (by decide) (by decide)))
        · rfl
        · refine VL.o_I (d := .int (r.1 * (VL.lcms rs : Int).fdiv r.2)) ?_ ?_ ?_
          · exact mulx_ok (a := 500) (b := 5001) (by omega) (by omega) (by decide)
          · rfl
          · exact ⟨rfl, rfl⟩
      · walk_at "vw"
        have e : (rs.map VL.ratD).map (fun d => VL.D.int (VL.toI (VL.fstD d) * (VL.lcms rs : Int).fdiv (VL.toI (VL.sndD d)))) = (VL.topsL rs (VL.lcms rs)).map VL.D.int := by
          unfold VL.topsL
          rw [List.map_map, List.map_map]
          rfl
        rw [e]
        exact k
theorem c_best_places (T : Txt K mg) : Cal P w K mg base CX0 1 "best_places" ["gains", "odd"] [] (VL.SpL K W_best) := by
  obtain ⟨fd, F⟩ := T.c.def_ 18 (d := dd_best_places) rfl
  refine ⟨_, fd, [], VL.fnL' (CX := CX0) F sc_best_places ?_ (fun cdv A outer s H E hr => ⟨_, PSs.nox (pss_cons (ps_setLc (i := 2) (own := [("place", 6), ("gain", 7)]) rfl sc_best_places.nd rfl rfl (sw_true rfl rfl rfl (by decide +kernel)) (VL.pi_enumA rfl (T.free 8) (pa_cons (pv 0) pa_nil)) (blkOk_by (N := ["gains", "odd", "best", "least", "spare", "more", "place", "gain"]) (sc := defScope s_best_places) (by decide +kernel)) (fun _ _ _ _ _ => (show PG _ _ (gTup K 2 _) from pg_tup rfl (pgs_cons (pg_name (i := 6) sc_best_places.nd rfl (Or.inl rfl)) (pgs_cons (pg_name (i := 7) sc_best_places.nd rfl (Or.inl rfl)) pgs_nil)))) (fun _ _ _ _ _ => pts_one (pt_cmpR op_gt (pv 7) pe_int (nomark _))) (fun _ _ _ _ _ => (pv 6)))
 (pss_cons (ps_if (pt_cmpR (VL.op_eqX hr.units) (pe_op op_mod (pe_callB MB.k_len rfl (T.free 3) PySem.boot_len (pa_cons (pv 2) pa_nil)) pe_int) (pv 1) (nomark _))
  (pss_one (ps_ret (pv 2)))
  pss_nil)
 (pss_cons (ps_set (i := 3) sc_best_places.nd rfl (Or.inr rfl) (pe_callB (cr_min rfl) rfl (T.free 13) (by decide +kernel) (pa_cons (pe_lc (own := [("gain", 7)]) (g := gName 7) (tt := tYes) rfl sc_best_places.nd (VL.pi_seq (pv 0)) (blkOk_by (N := ["gains", "odd", "best", "least", "spare", "more", "place", "gain"]) (sc := defScope s_best_places) (by decide +kernel)) (fun _ _ _ _ _ => (pg_name (i := 7) sc_best_places.nd rfl (Or.inl rfl))) (fun _ _ _ _ _ => pts_nil) (fun _ _ _ _ _ => (pe_callB MB.k_abs rfl (T.free 4) (by decide +kernel) (pa_cons (pv 7) pa_nil)))) pa_nil)))
 (pss_cons (ps_set (i := 4) sc_best_places.nd rfl (Or.inr rfl) (pe_lc (own := [("place", 6)]) (g := gName 6) rfl sc_best_places.nd (VL.pi_seq (pv 2)) (blkOk_by (N := ["gains", "odd", "best", "least", "spare", "more", "place", "gain"]) (sc := defScope s_best_places) (by decide +kernel)) (fun _ _ _ _ _ => (pg_name (i := 6) sc_best_places.nd rfl (Or.inl rfl))) (fun _ _ _ _ _ => pts_one (pt_cmpR (show OpR _ (compareOp .Eq) (VL.rEqX K) from VL.op_eqX hr.units) (pe_ix (show IxR _ (rIx K) from ix_seq) (pv 0) (pv 6) (fun _ _ => rfl)) (pv 3) (nomark _))) (fun _ _ _ _ _ => (pv 6))))
 (pss_cons (ps_if (pt_cmpR op_gt (pe_callB MB.k_len rfl (T.free 3) PySem.boot_len (pa_cons (pv 4) pa_nil)) pe_int (nomark _))
  (pss_one (ps_ret (pe_lc (own := [("place", 6)]) (g := gName 6) rfl sc_best_places.nd (VL.pi_seq (pv 2)) (blkOk_by (N := ["gains", "odd", "best", "least", "spare", "more", "place", "gain"]) (sc := defScope s_best_places) (by decide +kernel)) (fun _ _ _ _ _ => (pg_name (i := 6) sc_best_places.nd rfl (Or.inl rfl))) (fun _ _ _ _ _ => pts_one (pt_cmpR (show OpR _ (compareOp .NotEq) (VL.rNeX K) from VL.op_neX hr.units) (pv 6) (pe_ix (show IxR _ (rIx K) from ix_seq) (pv 4) (pe_un un_neg pe_int) (fun _ _ => rfl)) (nomark _))) (fun _ _ _ _ _ => (pv 6)))))
  pss_nil)
 (pss_cons (ps_setLc (i := 5) (own := [("place", 6), ("gain", 7)]) rfl sc_best_places.nd rfl rfl (sw_true rfl rfl rfl (by decide +kernel)) (VL.pi_enumA rfl (T.free 8) (pa_cons (pv 0) pa_nil)) (blkOk_by (N := ["gains", "odd", "best", "least", "spare", "more", "place", "gain"]) (sc := defScope s_best_places) (by decide +kernel)) (fun _ _ _ _ _ => (show PG _ _ (gTup K 2 _) from pg_tup rfl (pgs_cons (pg_name (i := 6) sc_best_places.nd rfl (Or.inl rfl)) (pgs_cons (pg_name (i := 7) sc_best_places.nd rfl (Or.inl rfl)) pgs_nil)))) (fun _ _ _ _ _ => pts_one (pt_cmpR (show OpR _ (compareOp .Eq) (VL.rEqX K) from VL.op_eqX hr.units) (pv 7) (pe_un un_neg (pv 3)) (nomark _))) (fun _ _ _ _ _ => (pv 6)))
 (pss_one (ps_ret (pe_callB VL.cr_sortedA rfl (T.free 12) (by decide +kernel) (pa_cons (pe_lst (VL.pa_star (pv 2) (pa_cons (pe_ix ix_seq (pv 5) pe_int (fun _ _ => rfl)) pa_nil))) pa_nil)))))))))), ?_⟩), T.glo 40, F.kp, F.bindsN fun _ _ _ _ _ _ us hl => match us, hl with | [_, _], _ => rfl, .nil⟩

  · rintro ds O Q E ⟨t, gs, odd, rfl, _⟩; rfl
  · rintro ds O Q E ⟨t, gs, odd, rfl, ht, hne, hl, ho, k⟩
    have hts := VL.asS_asL ht
    have hP := VL.idxs_lot (fun g => decide (g > 0)) gs
    have hPl := hP.len (by omega)
    have k : Q (.lst ((VL.bestQ gs odd (VL.mabs gs)).map VL.D.int)) O := k
    unfold VL.bestQ at k
    walk_at "vw"
    refine VL.ln_lcP (fun d => decide (VL.toI (VL.sndD d) > 0)) VL.fstD (VL.i_enumA rfl ?_)
    walk_at "vw"
    refine ⟨t, _, rfl, hts, by rw [VL.enumD_len, List.length_map]; exact VL.le_line (by omega), fun L acc hL => VL.asS_ext (VL.ext_new hL) hts, fun i d L acc hd hL => ?_, ?_⟩
    · obtain ⟨z, hz, rfl⟩ := VL.enumD_at hd
      obtain ⟨g, hg, rfl⟩ := VL.map_int_at hz
      walk_at "vw"
      refine ⟨⟨rfl, rfl⟩, fun _ => ?_⟩
      walk_at "vw"
      exact ⟨rfl, rfl⟩
    · rw [VL.kept_idx (fun g => decide (g > 0)) gs]
      have hmn : ((VL.idxs (fun g => decide (g > 0)) gs).filter fun i => decide (VL.dig gs i = VL.mabs gs)) = [] → VL.idxs (fun g => decide (g = -VL.mabs gs)) gs ≠ [] := VL.more_ne hne
      generalize VL.idxs (fun g => decide (g > 0)) gs = P at *
      walk_at "vw"
      rw [List.length_map]
      refine if_i (fun h1 => ?_) (fun h1 => ?_)
      · rw [if_pos h1] at k
        walk_at "vw"
        exact k
      · rw [if_neg h1] at k
        walk_at "vw"
        refine VL.ln_map (fun d => .int (VL.iabs (VL.toI d))) (VL.i_seq rfl ?_)
        walk_at "vw"
        refine ⟨_, hts, by rw [List.length_map]; omega, fun O2 x => VL.asS_ext x hts, fun j d O2 hd ex => ?_, ?_⟩
        · obtain ⟨g, hg, rfl⟩ := VL.map_int_at hd
          walk_at "vw"
          exact ⟨rfl, rfl⟩
        · walk_at "vw"
          have e : (gs.map VL.D.int).map (fun d => VL.D.int (VL.iabs (VL.toI d))) = (gs.map VL.iabs).map VL.D.int := by rw [List.map_map, List.map_map]; rfl
          rw [e]
          refine VL.k_min rfl rfl (fun z => hne (List.map_eq_nil_iff.mp z)) fun M hM1 hM2 => ?_
          have hM : M = VL.mabs gs := VL.IsMin.uniq ⟨hM1, hM2⟩ (VL.mabs_min hne)
          subst hM
          walk_at "vw"
          refine VL.ln_lcP (fun d => decide (VL.dig gs (VL.toI d) = VL.mabs gs)) id (VL.i_seq rfl ?_)
          walk_at "vw"
          refine ⟨_, rfl, by rw [List.length_map]; exact VL.le_line (by omega), fun _ _ _ => rfl, fun j d L acc hd hL => ?_, ?_⟩
          · obtain ⟨b, hb, rfl⟩ := VL.map_int_at hd
            have hb2 := hP.2 b (List.mem_of_getElem? hb)
            walk_at "vw"
            refine VL.o_ixQ rfl (VL.asS_ext (VL.ext_new hL) hts) (at_ints hb2.1 hb2.2) ?_
            walk_at "vw"
            refine ⟨⟨decide_eq_decide.mpr ⟨fun h => by injection h, fun h => congrArg V.int h⟩, rfl⟩, fun _ => ?_⟩
            walk_at "vw"
            exact ⟨rfl, rfl⟩
          · have e2 : (((P.map VL.D.int).filter fun d => decide (VL.dig gs (VL.toI d) = VL.mabs gs)).map id) = (P.filter fun i => decide (VL.dig gs i = VL.mabs gs)).map VL.D.int := by
              rw [List.map_id, List.filter_map]; rfl
            rw [e2]
            walk_at "vw"
            rw [List.length_map]
            refine if_d (fun h2 => ?_) (fun h2 => ?_)
            · have hS : (P.filter fun i => decide (VL.dig gs i = VL.mabs gs)) ≠ [] := fun z => by rw [z] at h2; exact absurd h2 (by decide)
              rw [if_pos hS] at k
              walk_at "vw"
              refine VL.ln_lcP (fun d => decide (VL.toI d ≠ (P.filter fun i => decide (VL.dig gs i = VL.mabs gs)).getLastD 0)) id (VL.i_seq rfl ?_)
              walk_at "vw"
              refine ⟨_, rfl, by rw [List.length_map]; exact VL.le_line (by omega), fun _ _ _ => rfl, fun j d L acc hd hL => ?_, ?_⟩
              · obtain ⟨b, hb, rfl⟩ := VL.map_int_at hd
                walk_at "vw"
                refine VL.o_ixQ rfl rfl (at_last hS) ?_
                walk_at "vw"
                refine ⟨⟨?_, rfl⟩, fun _ => ?_⟩
                · rw [vd_int, ← decide_not]; rfl
                · walk_at "vw"
                  exact ⟨rfl, rfl⟩
              · have e3 : (((P.map VL.D.int).filter fun d => decide (VL.toI d ≠ (P.filter fun i => decide (VL.dig gs i = VL.mabs gs)).getLastD 0)).map id) = (P.filter fun i => decide (i ≠ (P.filter fun i => decide (VL.dig gs i = VL.mabs gs)).getLastD 0)).map VL.D.int := by
                  rw [List.map_id, List.filter_map]; rfl
                rw [e3]
                exact k
            · have hS : (P.filter fun i => decide (VL.dig gs i = VL.mabs gs)) = [] := List.length_eq_zero_iff.mp (by omega)
              rw [if_neg (fun z => z hS)] at k
              walk_at "vw"
              refine VL.ln_lcP (fun d => decide (VL.toI (VL.sndD d) = -VL.mabs gs)) VL.fstD (VL.i_enumA rfl ?_)
              walk_at "vw"
              refine ⟨t, _, rfl, hts, by rw [VL.enumD_len, List.length_map]; exact VL.le_line (by omega), fun L acc hL => VL.asS_ext (VL.ext_new hL) hts, fun i d L acc hd hL => ?_, ?_⟩
              · obtain ⟨z, hz, rfl⟩ := VL.enumD_at hd
                obtain ⟨g, hg, rfl⟩ := VL.map_int_at hz
                walk_at "vw"
                refine ⟨⟨by rw [vd_int]; rfl, rfl⟩, fun _ => ?_⟩
                walk_at "vw"
                exact ⟨rfl, rfl⟩
              · rw [VL.kept_idx (fun g => decide (g = -VL.mabs gs)) gs]
                have hmore : VL.idxs (fun g => decide (g = -VL.mabs gs)) gs ≠ [] := hmn hS
                walk_at "vw"
                refine VL.la_star rfl ?_
                walk_at "vw"
                refine ⟨_, rfl, ?_⟩
                walk_at "vw"
                refine VL.o_ixQ rfl rfl (at_head hmore) ?_
                walk_at "vw"
                refine ⟨VL.le_line (by rw [List.length_append, List.length_map]; show _ + 1 ≤ _; omega), ?_⟩
                walk_at "vw"
                refine VL.k_sortedA (ns := P ++ [(VL.idxs (fun g => decide (g = -VL.mabs gs)) gs).headD 0]) rfl (by rw [List.map_append]; rfl) fun ms pm so => ?_
                rw [VL.srt_uniq pm so]
                exact k
theorem c_worst_places (T : Txt K mg) : Cal P w K mg base CX0 2 "worst_places" ["tops", "bottom"] [] (VL.SpL K W_wplaces) := by
  have c_best_places := @c_best_places P w K mg base T
  obtain ⟨fd, F⟩ := T.c.def_ 19 (d := dd_worst_places) rfl
  refine ⟨_, fd, [], VL.fnL' (CX := CX0) F sc_worst_places ?_ (fun cdv A outer s H E hr => ⟨_, PSs.nox (pss_cons (ps_set (i := 2) sc_worst_places.nd rfl (Or.inr rfl) (pe_lc (own := [("top", 4)]) (g := gName 4) (tt := tYes) rfl sc_worst_places.nd (VL.pi_seq (pv 0)) (blkOk_by (N := ["tops", "bottom", "gains", "places", "top", "place"]) (sc := defScope s_worst_places) (by decide +kernel)) (fun _ _ _ _ _ => (pg_name (i := 4) sc_worst_places.nd rfl (Or.inl rfl))) (fun _ _ _ _ _ => pts_nil) (fun _ _ _ _ _ => (pe_op op_sub (pe_op op_mul pe_int (pv 4)) (pv 1)))))
 (pss_cons (ps_set (i := 3) sc_worst_places.nd rfl (Or.inl rfl) (pe_cal c_best_places (hr.mono (by decide)) pass0 (pa_cons (pv 2) (pa_cons pe_int pa_nil))))
 (pss_one (ps_ret (pe_tup (pa_cons (pv 3) (pa_cons (pe_op op_add (pe_op op_sub (pe_callB (cr_sum rfl) rfl (T.free 6) (by decide +kernel) (pa_cons (pe_lc (own := [("place", 5)]) (g := gName 5) (tt := tYes) rfl sc_worst_places.nd (VL.pi_seq (pv 3)) (blkOk_by (N := ["tops", "bottom", "gains", "places", "top", "place"]) (sc := defScope s_worst_places) (by decide +kernel)) (fun _ _ _ _ _ => (pg_name (i := 5) sc_worst_places.nd rfl (Or.inl rfl))) (fun _ _ _ _ _ => pts_nil) (fun _ _ _ _ _ => (pe_ix (show IxR _ (rIx K) from ix_seq) (pv 2) (pv 5) (fun _ _ => rfl)))) pa_nil)) (pe_callB (cr_sum rfl) rfl (T.free 6) (by decide +kernel) (pa_cons (pv 0) pa_nil))) (pv 1)) pa_nil))))))), ?_⟩), T.glo 41, F.kp, F.bindsN fun _ _ _ _ _ _ us hl => match us, hl with | [_, _], _ => rfl, .nil⟩

  · rintro ds O Q E ⟨t, ts, b, rfl, _⟩; rfl
  · rintro ds O Q E ⟨t, ts, b, rfl, ht, hne, hl, k⟩
    have hts := VL.asS_asL ht
    have hgl : (VL.gains ts b).length = ts.length := List.length_map _
    have hgn : VL.gains ts b ≠ [] := fun z => hne (List.length_eq_zero_iff.mp (by rw [← hgl, z]; rfl))
    have hP := (VL.bestP_ok (gs := VL.gains ts b) hgn (.inr rfl)).1
    have hPl := hP.len (by omega)
    walk_at "vw"
    refine VL.ln_map (fun d => .int (2 * VL.toI d - b)) (VL.i_seq rfl ?_)
    walk_at "vw"
    refine ⟨_, hts, by rw [List.length_map]; omega, fun O2 x => VL.asS_ext x hts, fun j d O2 hd ex => ?_, ?_⟩
    · obtain ⟨g, hg, rfl⟩ := VL.map_int_at hd
      walk_at "vw"
      exact ⟨rfl, rfl⟩
    · have e : (ts.map VL.D.int).map (fun d => VL.D.int (2 * VL.toI d - b)) = (VL.gains ts b).map VL.D.int := by unfold VL.gains; rw [List.map_map, List.map_map]; rfl
      rw [e]
      walk_at "vw"
      refine ⟨_, _, 1, rfl, rfl, hgn, by omega, .inr rfl, ?_⟩
      walk_at "vw"
      refine VL.ln_map (fun d => .int (VL.dig (VL.gains ts b) (VL.toI d))) (VL.i_seq rfl ?_)
      walk_at "vw"
      refine ⟨_, rfl, by rw [List.length_map]; omega, fun O2 x => rfl, fun j d O2 hd ex => ?_, ?_⟩
      · obtain ⟨g, hg, rfl⟩ := VL.map_int_at hd
        have hb2 := hP.2 g (List.mem_of_getElem? hg)
        walk_at "vw"
        refine VL.o_ixQ rfl rfl (at_ints hb2.1 hb2.2) ?_
        exact ⟨rfl, rfl⟩
      · walk_at "vw"
        have e2 : (((VL.bestP (VL.gains ts b) 1).map VL.D.int).map fun d => VL.dig (VL.gains ts b) (VL.toI d)).sum = (VL.ats (VL.gains ts b) (VL.bestP (VL.gains ts b) 1)).sum := by
          unfold VL.ats; rw [List.map_map]; rfl
        rw [e2]
        exact k
theorem c_worst_on (T : Txt K mg) : Cal P w K mg base CX0 3 "worst_on" ["check", "tops", "bottom"] [] (VL.SpL K W_won) := by
  have c_worst_places := @c_worst_places P w K mg base T
  obtain ⟨fd, F⟩ := T.c.def_ 20 (d := dd_worst_on) rfl
  refine ⟨_, fd, [], VL.fnL' (CX := CX0) F sc_worst_on ?_ (fun cdv A outer s H E hr => ⟨_, PSs.nox (pss_cons (ps_asg (pe_cal c_worst_places (hr.mono (by decide)) pass0 (pa_cons (pe_lc (own := [("bit", 5)]) (g := gName 5) (tt := tYes) rfl sc_worst_on.nd (VL.pi_seq (pv 0)) (blkOk_by (N := ["check", "tops", "bottom", "places", "top", "bit", "place"]) (sc := defScope s_worst_on) (by decide +kernel)) (fun _ _ _ _ _ => (pg_name (i := 5) sc_worst_on.nd rfl (Or.inl rfl))) (fun _ _ _ _ _ => pts_nil) (fun _ _ _ _ _ => (pe_ix (show IxR _ (rIx K) from ix_seq) (pv 1) (pv 5) (fun _ _ => rfl)))) (pa_cons (pv 2) pa_nil))) (pg_tup rfl (pgs_cons (pg_name (i := 3) sc_worst_on.nd rfl (Or.inl rfl)) (pgs_cons (pg_name (i := 4) sc_worst_on.nd rfl (Or.inl rfl)) pgs_nil))))
 (pss_one (ps_ret (pe_tup (pa_cons (pe_callTy MB.k_tupOf rfl (T.free 9) (by decide +kernel) (pa_cons (pe_lc (own := [("place", 6)]) (g := gName 6) (tt := tYes) rfl sc_worst_on.nd (VL.pi_seq (pv 3)) (blkOk_by (N := ["check", "tops", "bottom", "places", "top", "bit", "place"]) (sc := defScope s_worst_on) (by decide +kernel)) (fun _ _ _ _ _ => (pg_name (i := 6) sc_worst_on.nd rfl (Or.inl rfl))) (fun _ _ _ _ _ => pts_nil) (fun _ _ _ _ _ => (pe_ix (show IxR _ (rIx K) from ix_seq) (pv 0) (pv 6) (fun _ _ => rfl)))) pa_nil)) (pa_cons (pv 4) pa_nil)))))), ?_⟩), T.glo 42, F.kp, F.bindsN fun _ _ _ _ _ _ us hl => match us, hl with | [_, _, _], _ => rfl, .nil⟩

  · rintro ds O Q E ⟨c, e, ts, b, rfl, _⟩; rfl
  · rintro ds O Q E ⟨c, e, ts, b, rfl, he, hne, hl, hc, k⟩
    have hal := VL.ats_len ts c
    have hgl : (VL.gains (VL.ats ts c) b).length = c.length := by unfold VL.gains; rw [List.length_map, hal]
    have hgn : VL.gains (VL.ats ts c) b ≠ [] := fun z => hne (List.length_eq_zero_iff.mp (by rw [← hgl, z]; rfl))
    have hP := (VL.bestP_ok (gs := VL.gains (VL.ats ts c) b) hgn (.inr rfl)).1
    have hPl := hP.len (by omega)
    walk_at "vw"
    refine VL.ln_map (fun d => .int (VL.dig ts (VL.toI d))) (VL.i_seq rfl ?_)
    walk_at "vw"
    refine ⟨_, rfl, by rw [List.length_map]; omega, fun O2 x => rfl, fun j d O2 hd ex => ?_, ?_⟩
    · obtain ⟨g, hg, rfl⟩ := VL.map_int_at hd
      have hb2 := hc g (List.mem_of_getElem? hg)
      walk_at "vw"
      refine VL.o_ixQ rfl (VL.asS_ext ex he) (at_ints hb2.1 hb2.2) ?_
      exact ⟨rfl, rfl⟩
    · have e2 : (c.map VL.D.int).map (fun d => VL.D.int (VL.dig ts (VL.toI d))) = (VL.ats ts c).map VL.D.int := by unfold VL.ats; rw [List.map_map, List.map_map]; rfl
      rw [e2]
      walk_at "vw"
      refine ⟨_, VL.ats ts c, b, rfl, rfl, fun z => hne (List.length_eq_zero_iff.mp (by rw [← hal, z]; rfl)), by omega, ?_⟩
      walk_at "vw"
      refine VL.ln_map (fun d => .int (VL.dig c (VL.toI d))) (VL.i_seq rfl ?_)
      walk_at "vw"
      refine ⟨_, rfl, by rw [List.length_map]; omega, fun O2 x => rfl, fun j d O2 hd ex => ?_, ?_⟩
      · obtain ⟨g, hg, rfl⟩ := VL.map_int_at hd
        have hb2 := hP.2 g (List.mem_of_getElem? hg)
        walk_at "vw"
        refine VL.o_ixQ rfl rfl (at_ints hb2.1 (by omega)) ?_
        exact ⟨rfl, rfl⟩
      · walk_at "vw"
        have e3 : ((VL.bestP (VL.gains (VL.ats ts c) b) 1).map VL.D.int).map (fun d => VL.D.int (VL.dig c (VL.toI d))) = (VL.wLot ts b c).map VL.D.int := by
          unfold VL.wLot VL.ats; rw [List.map_map, List.map_map]; rfl
        rw [e3]
        exact k
theorem c_let_fault (T : Txt K mg) : Cal P w K mg base (L2.CX P w) 5 "let_fault" ["code", "row"] [] (VL.SpL K (W_letf K)) := by
  have c_over_one_bottom := @c_over_one_bottom P w K mg base T
  have c_check_row := @c_check_row P w K mg base T
  have c_worst_on := @c_worst_on P w K mg base T
  obtain ⟨fd, F⟩ := T.c.def_ 22 (d := dd_let_fault) rfl
  refine ⟨_, fd, [], VL.fnL' (CX := (L2.CX P w)) F sc_let_fault ?_ (fun cdv A outer s H E hr => ⟨_, (pss_cons (ps_asg (pe_cal c_over_one_bottom (hr.mono (by decide)) pass0 (pa_cons (pe_cal c_check_row (hr.mono (by decide)) (passes_call (takes_of rfl rfl rfl rfl) (fun _ _ _ _ h => h)) (pa_cons (pv 0) (pa_cons (pv 1) pa_nil))) pa_nil)) (pg_tup rfl (pgs_cons (pg_name (i := 2) sc_let_fault.nd rfl (Or.inl rfl)) (pgs_cons (pg_name (i := 3) sc_let_fault.nd rfl (Or.inl rfl)) pgs_nil))))
 (pss_cons (ps_for (passes_of rfl) rfl (VL.pi_enumA rfl (T.free 8) (pa_cons (pe_fld (pv 0) rfl) pa_nil)) (pg_tup rfl (pgs_cons (pg_name (i := 4) sc_let_fault.nd rfl (Or.inl rfl)) (pgs_cons (pg_name (i := 5) sc_let_fault.nd rfl (Or.inl rfl)) pgs_nil)))
  (pss_cons (ps_asg (pe_cal c_worst_on (hr.mono (by decide)) pass0 (pa_cons (pv 5) (pa_cons (pv 2) (pa_cons (pv 3) pa_nil)))) (pg_tup rfl (pgs_cons (pg_name (i := 6) sc_let_fault.nd rfl (Or.inl rfl)) (pgs_cons (pg_name (i := 7) sc_let_fault.nd rfl (Or.inl rfl)) pgs_nil))))
 (pss_one (ps_if (pt_cmpR op_gt (pv 7) pe_int (nomark _))
  (pss_one (ps_ret (pe_tup (pa_cons (pv 4) (pa_cons (pv 6) pa_nil)))))
  pss_nil))))
 (pss_one (ps_ret pe_non)))), ?_⟩), T.glo 44, F.kp, F.bindsN fun _ _ _ _ _ _ us hl => match us, hl with | [_, _], _ => rfl, .nil⟩

  · rintro ds O Q E ⟨n, cs, t, rfl, _⟩; rfl
  · rintro ds O Q E ⟨n, cs, t, rfl, ⟨hC, hn, hcn⟩, ⟨kt, hx⟩, k⟩
    refine VL.s_seq (VL.s_asg (VL.l_callN ?_))
    refine VL.la_cons (VL.l_callX (dds := []) (fun _ => rfl) (fun _ => .nil) ?_)
    walk_at "vw"
    refine ⟨n, cs, t, rfl, kt, hx, ?_⟩
    cases e : VL.rowFault VL.isShare (VL.asS O) t n with
    | some i => rw [e] at k; exact k
    | none =>
      rw [e] at k
      obtain ⟨rs, ht, hl, hS, k⟩ := k
      have ei : VL.itemsA (VL.asS O) t = rs.map VL.ratD := by unfold VL.itemsA; rw [ht]; rfl
      rw [ei]
      show VL.LA _ _ _ _ _
      walk_at "vw"
      refine ⟨_, rs, rfl, rfl, hS, ?_⟩
      have htl : (VL.topsL rs (VL.lcms rs)).length = rs.length := List.length_map _
      unfold letR VL.letX at k
      walk_at "vw"
      generalize hts : VL.topsL rs (VL.lcms rs) = ts at *
      generalize hL : ((VL.lcms rs : Nat) : Int) = L at *
      refine VL.s_for (VL.i_enumA rfl ?_)
      walk_at "vw"
      refine ⟨_, _, _, rfl, T.cls 80, T.noat 82, rfl, ?_⟩
      walk_at "vw"
      refine ⟨_, _, rfl, rfl, ?_⟩
      refine ⟨fun i ρ' O' => O' = O ∧ (∃ x y z u, ρ' = [some (VL.codeD (He.ga K "Code") n cs), some t, some (.tup (ts.map VL.D.int)), some (.int L), x, y, z, u]) ∧ ∀ (j : Nat) (c' : List Int), j < i → cs[j]? = some c' → decide (VL.wTop ts L c' > 0) = false, ⟨rfl, ⟨none, none, none, none, rfl⟩, fun j y hj => absurd hj (Nat.not_lt_zero j)⟩, ?_, ?_, ?_⟩
      · rintro i ρ' O' ⟨rfl, _⟩; rfl
      · rintro i d ρ' O' hd ⟨rfl, ⟨x, y, z, u, rfl⟩, pv⟩
        obtain ⟨r, hr, rfl⟩ := VL.enumD_at hd
        obtain ⟨c, hc, rfl⟩ := VL.rows_at hr
        have hcm := List.mem_of_getElem? hc
        obtain ⟨hcl, hcb⟩ := hC.2 c hcm
        walk_at "vw"
        refine ⟨c, _, ts, L, rfl, rfl, hcn c hcm, by omega, fun b hb => by have := hcb b hb; omega, ?_⟩
        walk_at "vw"
        refine if_d (fun h => ?_) (fun h => ?_)
        · walk_at "vw"
          rw [VL.fi_some hc (decide_eq_true h) pv] at k
          have ec : cs.getD i [] = c := by rw [List.getD_eq_getElem?_getD, hc]; rfl
          have k : Q (letD (some (i, VL.wLot ts L (cs.getD i [])))) O' := k
          rw [ec] at k
          exact k
        · walk_at "vw"
          refine ⟨rfl, ⟨_, _, _, _, rfl⟩, fun j c' hj hc' => ?_⟩
          by_cases hji : j = i
          · subst hji; rw [hc] at hc'; cases hc'; exact decide_eq_false h
          · exact pv j c' (by omega) hc'
      · rintro ρ' O' ⟨rfl, ⟨x, y, z, u, rfl⟩, pv⟩
        walk_at "vw"
        rw [VL.fi_none fun j c' h => pv j c' (by rw [VL.enumD_len, List.length_map]; exact (List.getElem?_eq_some_iff.mp h).1) h] at k
        exact k
theorem c_is_let (T : Txt K mg) : Cal P w K mg base (L2.CX P w) 6 "is_let" ["code", "row"] [] (VL.SpL K (W_isLet K)) := by
  have c_let_fault := @c_let_fault P w K mg base T
  obtain ⟨fd, F⟩ := T.c.def_ 23 (d := dd_is_let) rfl
  refine ⟨_, fd, [], VL.fnL' (CX := (L2.CX P w)) F sc_is_let ?_ (fun cdv A outer s H E hr => ⟨_, (pss_one (ps_ret (pe_cmpR MB.k_isN (pe_cal c_let_fault (hr.mono (by decide)) (passes_call (takes_of rfl rfl rfl rfl) (fun _ _ _ _ h => h)) (pa_cons (pv 0) (pa_cons (pv 1) pa_nil))) pe_non (nomark _)))), ?_⟩), T.glo 45, F.kp, F.bindsN fun _ _ _ _ _ _ us hl => match us, hl with | [_, _], _ => rfl, .nil⟩

  · rintro ds O Q E ⟨n, cs, t, rfl, _⟩; rfl
  · rintro ds O Q E ⟨n, cs, t, rfl, hC, hR, k⟩
    refine VL.s_ret (VL.l_op (VL.l_callX (dds := []) (fun _ => rfl) (fun _ => .nil) ?_))
    walk_at "vw"
    refine ⟨n, cs, t, rfl, hC, hR, ?_⟩
    cases e : VL.rowFault VL.isShare (VL.asS O) t n with
    | some i => rw [e] at k; exact k
    | none =>
      rw [e] at k
      obtain ⟨rs, ht, hl, hS, k⟩ := k
      refine ⟨rs, ht, hl, hS, ?_⟩
      show VL.LE _ _ _ _ _
      walk_at "vw"
      cases hx : letR rs cs with
      | none => rw [hx] at k; exact k
      | some q => obtain ⟨i, l⟩ := q; rw [hx] at k; exact k
end
end K04
namespace K04
open PySem PySem.Spec PyProof.Rows L2 MB
def W_low : VL.WL := fun ds O Q _ => ∃ t b : Int, ds = [.int t, .int b] ∧ 0 < b ∧ b < 2 ^ 400 ∧ Q (lowD t b) O
def W_lord : VL.WL := fun ds O Q _ => ∃ ns : List Int, ds = [VL.lotD ns] ∧ Q (VL.lotKd (VL.lotD ns)) O
def InR (c : List Int) (n : Int) : Prop := ∀ x ∈ c, 0 ≤ x ∧ x < n
def excT (ts : List Int) (b : Int) (c l : List Int) : Int := 2 * (VL.ats ts l).sum - (VL.ats ts c).sum - b * ((l.length : Int) - 1)
def W_etop : VL.WL := fun ds O Q _ => ∃ (c l : List Int) (e : VL.D) (ts : List Int) (b : Int), ds = [VL.lotD c, VL.lotD l, e, .int b] ∧ VL.asS O e = some (ts.map VL.D.int) ∧ c.length ≤ 1000 ∧ l.length ≤ 1000 ∧ InR c ts.length ∧ InR l ts.length ∧ b.natAbs < 2 ^ 400 ∧ Q (.int (excT ts b c l)) O
section
variable {P : Program} {w : World} {K : PySem.W.Frag} {mg : Str → Option Value} {base : Heap}
theorem c_lowest (T : Txt K mg) : Cal P w K mg base CX0 1 "lowest" ["top", "bottom"] [] (VL.SpL K W_low) := by
  obtain ⟨fd, F⟩ := T.c.def_ 4 (d := dd_lowest) rfl
  refine ⟨_, fd, [], VL.fnL' (CX := CX0) F sc_lowest ?_ (fun cdv A outer s H E hr => ⟨_, PSs.nox (pss_cons (ps_set (i := 2) sc_lowest.nd rfl (Or.inl rfl) (pe_callBfun cr_gcd rfl (gcd_ T) (pa_cons (pv 0) (pa_cons (pv 1) pa_nil))))
 (pss_cons (ps_if (pt_cmpR op_lt (pv 1) pe_int (nomark _))
  (pss_one (ps_set (i := 2) sc_lowest.nd rfl (Or.inl rfl) (pe_un un_neg (pv 2))))
  pss_nil)
 (pss_one (ps_ret (pe_tup (pa_cons (pe_op K00.op_fdivZ (pv 0) (pv 2)) (pa_cons (pe_op K00.op_fdivZ (pv 1) (pv 2)) pa_nil))))))), ?_⟩), T.glo 26, F.kp, F.bindsN fun _ _ _ _ _ _ us hl => match us, hl with | [_, _], _ => rfl, .nil⟩

  · rintro ds O Q E ⟨t, b, rfl, _⟩; rfl
  · rintro ds O Q E ⟨t, b, rfl, hb, hb2, k⟩
    walk_at "vw"
    refine if_d (fun h => absurd h (by omega)) (fun _ => ?_)
    walk_at "vw"
    refine VL.o_I ⟨gd_ne hb, gd_log hb hb2⟩ rfl ?_
    walk_at "vw"
    refine VL.o_I ⟨gd_ne hb, gd_log hb hb2⟩ rfl ?_
    walk_at "vw"
    exact k
theorem c_lot_order (T : Txt K mg) : Cal P w K mg base CX0 1 "lot_order" ["lot"] [] (VL.SpL K W_lord) := by
  obtain ⟨fd, F⟩ := T.c.def_ 11 (d := dd_lot_order) rfl
  refine ⟨_, fd, [], VL.fnL' (CX := CX0) F sc_lot_order ?_ (fun cdv A outer s H E hr => ⟨_, PSs.nox (pss_one (ps_ret (pe_tup (pa_cons (pe_callB MB.k_len rfl (T.free 3) PySem.boot_len (pa_cons (pv 0) pa_nil)) (pa_cons (pv 0) pa_nil))))), ?_⟩), T.glo 33, F.kp, F.bindsN fun _ _ _ _ _ _ us hl => match us, hl with | [_], _ => rfl, .nil⟩

  · rintro ds O Q E ⟨ns, rfl, _⟩; rfl
  · rintro ds O Q E ⟨ns, rfl, k⟩
    walk_at "vw"
    exact k
theorem c_excess_top (T : Txt K mg) : Cal P w K mg base CX0 1 "excess_top" ["check", "lot", "tops", "bottom"] [] (VL.SpL K W_etop) := by
  obtain ⟨fd, F⟩ := T.c.def_ 16 (d := dd_excess_top) rfl
  refine ⟨_, fd, [], VL.fnL' (CX := CX0) F sc_excess_top ?_ (fun cdv A outer s H E hr => ⟨_, PSs.nox (pss_cons (ps_set (i := 4) sc_excess_top.nd rfl (Or.inl rfl) (pe_callB (cr_sum rfl) rfl (T.free 6) (by decide +kernel) (pa_cons (pe_lc (own := [("bit", 5)]) (g := gName 5) (tt := tYes) rfl sc_excess_top.nd (VL.pi_seq (pv 1)) (blkOk_by (N := ["check", "lot", "tops", "bottom", "inside", "bit"]) (sc := defScope s_excess_top) (by decide +kernel)) (fun _ _ _ _ _ => (pg_name (i := 5) sc_excess_top.nd rfl (Or.inl rfl))) (fun _ _ _ _ _ => pts_nil) (fun _ _ _ _ _ => (pe_ix (show IxR _ (rIx K) from ix_seq) (pv 2) (pv 5) (fun _ _ => rfl)))) pa_nil)))
 (pss_one (ps_ret (pe_op op_sub (pe_op op_sub (pe_op op_mul pe_int (pv 4)) (pe_callB (cr_sum rfl) rfl (T.free 6) (by decide +kernel) (pa_cons (pe_lc (own := [("bit", 5)]) (g := gName 5) (tt := tYes) rfl sc_excess_top.nd (VL.pi_seq (pv 0)) (blkOk_by (N := ["check", "lot", "tops", "bottom", "inside", "bit"]) (sc := defScope s_excess_top) (by decide +kernel)) (fun _ _ _ _ _ => (pg_name (i := 5) sc_excess_top.nd rfl (Or.inl rfl))) (fun _ _ _ _ _ => pts_nil) (fun _ _ _ _ _ => (pe_ix (show IxR _ (rIx K) from ix_seq) (pv 2) (pv 5) (fun _ _ => rfl)))) pa_nil))) (pe_op op_mulX (pv 3) (pe_op op_sub (pe_callB MB.k_len rfl (T.free 3) PySem.boot_len (pa_cons (pv 1) pa_nil)) pe_int)))))), ?_⟩), T.glo 38, F.kp, F.bindsN fun _ _ _ _ _ _ us hl => match us, hl with | [_, _, _, _], _ => rfl, .nil⟩

  · rintro ds O Q E ⟨c, l, e, ts, b, rfl, _⟩; rfl
  · rintro ds O Q E ⟨c, l, e, ts, b, rfl, he, hc, hl, hcr, hlr, hb, k⟩
    have part : ∀ m : List Int, InR m ts.length → ∀ (j : Nat) (d : VL.D), (m.map VL.D.int)[j]? = some d → ∃ x, d = .int x ∧ 0 ≤ x ∧ x < (ts.length : Int) := fun m hm j d hd => by
      obtain ⟨x, hx, rfl⟩ := VL.map_int_at hd
      obtain ⟨h1, h2⟩ := hm x (List.mem_of_getElem? hx)
      exact ⟨x, rfl, h1, h2⟩
    walk_at "vw"
    refine VL.ln_map (fun d => .int (VL.dig ts (VL.toI d))) (VL.i_seq rfl ?_)
    walk_at "vw"
    refine ⟨_, rfl, by rw [List.length_map]; omega, fun _ _ => rfl, fun j d O2 hd ex => ?_, ?_⟩
    · obtain ⟨x, rfl, h1, h2⟩ := part l hlr j d hd
      walk_at "vw"
      exact VL.o_ixQ rfl (VL.asS_ext ex he) (VL.dig_at h1 h2) ⟨rfl, rfl⟩
    · walk_at "vw"
      refine VL.ln_map (fun d => .int (VL.dig ts (VL.toI d))) (VL.i_seq rfl ?_)
      walk_at "vw"
      refine ⟨_, rfl, by rw [List.length_map]; omega, fun _ _ => rfl, fun j d O2 hd ex => ?_, ?_⟩
      · obtain ⟨x, rfl, h1, h2⟩ := part c hcr j d hd
        walk_at "vw"
        exact VL.o_ixQ rfl (VL.asS_ext ex he) (VL.dig_at h1 h2) ⟨rfl, rfl⟩
      · walk_at "vw"
        have e1 : ∀ m : List Int, (m.map VL.D.int).map (fun d => VL.dig ts (VL.toI d)) = VL.ats ts m := fun m => by
          rw [List.map_map]; rfl
        rw [e1, e1, List.length_map]
        refine VL.o_I (mulx_ok (a := 400) (b := 400) hb (Nat.lt_of_lt_of_le (show ((l.length : Int) - 1).natAbs < 2 ^ 10 by omega) (Nat.pow_le_pow_right (by decide) (by decide))) (by decide)) rfl ?_
        walk_at "vw"
        exact k
end
end K04
namespace K04
open PySem PySem.Spec PyProof.Rows L2 MB
def lotI : VL.D → List Int
  | .tup xs => xs.map VL.toI
  | _ => []
theorem lotI_lot (w : List Int) : lotI (VL.lotD w) = w := VL.toI_ints w
theorem filter_lots (p : List Int → Bool) (ws : List (List Int)) : (((ws.map VL.lotD).filter fun d => p (lotI d)).map id) = (ws.filter p).map VL.lotD := by
  rw [List.map_id, List.filter_map]
  refine congrArg _ (List.filter_congr fun w _ => ?_)
  show p (lotI (VL.lotD w)) = p w
  rw [lotI_lot]
theorem lots_at {ws : List (List Int)} {i : Nat} {d : VL.D} (h : (ws.map VL.lotD)[i]? = some d) : ∃ w, ws[i]? = some w ∧ d = VL.lotD w := by
  rw [List.getElem?_map] at h
  cases e : ws[i]? with
  | none => rw [e] at h; cases h
  | some w => rw [e] at h; cases h; exact ⟨w, rfl, rfl⟩
def longer (ws : List (List Int)) : List (List Int) := ws.flatMap fun r => [r ++ [0], r ++ [1]]
theorem longer_take {ws : List (List Int)} {i : Nat} {w : List Int} (h : ws[i]? = some w) : longer (ws.take (i + 1)) = longer (ws.take i) ++ [w ++ [0]] ++ [w ++ [1]] := by
  unfold longer
  rw [List.take_add_one, h, List.flatMap_append]
  simp
theorem longer_len (ws : List (List Int)) : (longer ws).length = 2 * ws.length := by
  unfold longer
  induction ws with
  | nil => rfl
  | cons x L ih => rw [List.flatMap_cons, List.length_append, ih, List.length_cons, List.length_cons, List.length_cons, List.length_nil]; omega
def W_longer : VL.WL := fun ds O Q _ => ∃ (e : VL.D) (ws : List (List Int)), ds = [e] ∧ VL.asS O e = some (ws.map VL.lotD) ∧ ws.length ≤ 40000 ∧ (∀ w ∈ ws, w.length ≤ 1000) ∧ Q (.lst ((longer ws).map VL.lotD)) O
def W_digs : VL.WL := fun ds O Q _ => ∃ n : Nat, ds = [.int (n : Nat)] ∧ n ≤ 12 ∧ Q (.lst ((VL.digs n).map VL.lotD)) O
def evenOn (w : List Int) (cs : List (List Int)) : Bool := cs.all fun c => decide ((VL.ats w c).sum % 2 = 0)
def W_even : VL.WL := fun ds O Q _ => ∃ (t : VL.D) (cs : List (List Int)) (w : List Int), ds = [t, VL.lotD w] ∧ VL.asS O t = some (cs.map VL.lotD) ∧ (∀ c ∈ cs, InR c w.length ∧ c.length ≤ 1000) ∧ Q (.bl (evenOn w cs)) O
def W_words : VL.WL := fun ds O Q _ => ∃ (t : VL.D) (cs : List (List Int)) (n : Nat), ds = [.int (n : Nat), t] ∧ n ≤ 10 ∧ VL.asS O t = some (cs.map VL.lotD) ∧ (∀ c ∈ cs, InR c n ∧ c.length ≤ 1000) ∧ Q (.lst (((VL.digs n).filter fun w => evenOn w cs).map VL.lotD)) O
section
variable {P : Program} {w : World} {K : PySem.W.Frag} {mg : Str → Option Value} {base : Heap}
theorem c_l_longer (T : Txt K mg) : Cal P w K mg base CX0 1 "_law_longer" ["_law_rows"] [] (VL.SpL K W_longer) := by
  obtain ⟨fd, F⟩ := T.c.def_ 40 (d := dd_l_longer) rfl
  refine ⟨_, fd, [], VL.fnL' (CX := CX0) F sc_l_longer ?_ (fun cdv A outer s H E hr => ⟨_, PSs.nox (pss_cons (ps_set (i := 1) sc_l_longer.nd rfl (Or.inl rfl) (VL.pe_own (pe_lst pa_nil)))
 (pss_cons (ps_for PassesOwn.never rfl (VL.pi_seq (pv 0)) (pg_name (i := 2) sc_l_longer.nd rfl (Or.inl rfl))
  (pss_cons (ps_expr (pe_bm PySem.F.plainAttrs_list PySem.F.slot_list_append PySem.F.type_list_append mt_append (pv 1) (pa_cons (pe_op op_catA (pv 2) (pe_tup (pa_cons pe_int pa_nil))) pa_nil)))
 (pss_one (ps_expr (pe_bm PySem.F.plainAttrs_list PySem.F.slot_list_append PySem.F.type_list_append mt_append (pv 1) (pa_cons (pe_op op_catA (pv 2) (pe_tup (pa_cons pe_int pa_nil))) pa_nil))))))
 (pss_one (ps_ret (pv 1))))), ?_⟩), T.glo 62, F.kp, F.bindsN fun _ _ _ _ _ _ us hl => match us, hl with | [_], _ => rfl, .nil⟩

  · rintro ds O Q E ⟨e, ws, rfl, _⟩; rfl
  · rintro ds O Q E ⟨e, ws, rfl, he, hn, hw, k⟩
    walk_at "vw"
    intro r hr
    walk_at "vw"
    refine VL.s_for (VL.i_seq rfl ?_)
    walk_at "vw"
    have he2 : ∀ es, VL.asS (VL.updO O r (.lst es)) e = some (ws.map VL.lotD) := fun es => VL.asS_ext (VL.ext_new hr) he
    refine ⟨_, he2 [], ?_⟩
    refine ⟨fun i ρ' O' => O' = VL.updO O r (.lst ((longer (ws.take i)).map VL.lotD)) ∧ ∃ x, ρ' = [some e, some (.ref r), x], ⟨rfl, none, rfl⟩, fun i ρ' O' ⟨h, _⟩ => h ▸ he2 _, ?_, ?_⟩
    · rintro i d ρ' O' hd ⟨rfl, x, rfl⟩
      obtain ⟨w0, hw0, rfl⟩ := lots_at hd
      have hi : i < ws.length := (List.getElem?_eq_some_iff.mp hw0).1
      have hwl := hw w0 (List.mem_of_getElem? hw0)
      have hl1 := longer_len (ws.take i)
      rw [List.length_take] at hl1
      walk_at "vw"
      refine VL.o_catT rfl (by rw [List.length_map]; exact VL.le_line (by simp; omega)) ?_
      refine VL.la_nil ?_
      refine VL.m_append VL.updO_same (VL.lt_line (show ((longer (ws.take i)).map VL.lotD).length < 100000 by rw [List.length_map]; omega)) ?_
      rw [VL.updO_updO]
      walk_at "vw"
      refine VL.o_catT rfl (by rw [List.length_map]; exact VL.le_line (by simp; omega)) ?_
      refine VL.la_nil ?_
      refine VL.m_append VL.updO_same (VL.lt_line (show ((longer (ws.take i)).map VL.lotD ++ [VL.D.tup (w0.map VL.D.int ++ [VL.D.int 0])]).length < 100000 by rw [List.length_append, List.length_map]; show _ + 1 < _; omega)) ?_
      rw [VL.updO_updO]
      refine ⟨?_, _, rfl⟩
      rw [longer_take hw0, List.map_append, List.map_append]
      show VL.updO _ _ _ = VL.updO _ _ (VL.OD.lst (_ ++ [VL.lotD (w0 ++ [0])] ++ [VL.lotD (w0 ++ [1])]))
      rw [show VL.lotD (w0 ++ [0]) = VL.D.tup (w0.map VL.D.int ++ [VL.D.int 0]) from congrArg VL.D.tup (by rw [List.map_append]; rfl), show VL.lotD (w0 ++ [1]) = VL.D.tup (w0.map VL.D.int ++ [VL.D.int 1]) from congrArg VL.D.tup (by rw [List.map_append]; rfl)]
    · rintro ρ' O' ⟨rfl, x, rfl⟩
      rw [List.length_map, List.take_length]
      refine VL.s_ret (VL.l_freeze (VL.l_var rfl ⟨r, _, rfl, VL.updO_same, ?_⟩))
      rw [VL.delO_updO hr]
      exact k
theorem c_l_digits (T : Txt K mg) : Cal P w K mg base CX0 2 "_law_digits" ["_law_many"] [] (VL.SpL K W_digs) := by
  have c_l_longer := @c_l_longer P w K mg base T
  obtain ⟨fd, F⟩ := T.c.def_ 41 (d := dd_l_digits) rfl
  refine ⟨_, fd, [], VL.fnL' (CX := CX0) F sc_l_digits ?_ (fun cdv A outer s H E hr => ⟨_, PSs.nox (pss_cons (ps_set (i := 1) sc_l_digits.nd rfl (Or.inl rfl) (pe_lst (pa_cons (pe_tup pa_nil) pa_nil)))
 (pss_cons (ps_for PassesOwn.never rfl (pi_range1 rfl (T.free 7) (pa_cons (pv 0) pa_nil)) (pg_name (i := 2) sc_l_digits.nd rfl (Or.inl rfl))
  (pss_one (ps_set (i := 1) sc_l_digits.nd rfl (Or.inl rfl) (pe_cal c_l_longer (hr.mono (by decide)) pass0 (pa_cons (pv 1) pa_nil)))))
 (pss_one (ps_ret (pv 1))))), ?_⟩), T.glo 63, F.kp, F.bindsN fun _ _ _ _ _ _ us hl => match us, hl with | [_], _ => rfl, .nil⟩

  · rintro ds O Q E ⟨n, rfl, _⟩; rfl
  · rintro ds O Q E ⟨n, rfl, hn, k⟩
    walk_at "vw"
    refine VL.s_for (VL.i_rng1 ?_)
    walk_at "vw"
    refine ⟨fun i ρ' O' => O' = O ∧ ∃ x, ρ' = [some (.int (n : Nat)), some (.lst ((VL.digs i).map VL.lotD)), x], ⟨rfl, none, rfl⟩, fun _ _ _ _ => trivial, ?_, ?_⟩
    · rintro i d ρ' O' hd ⟨rfl, x, rfl⟩
      obtain ⟨hi, rfl⟩ := VL.rngD_at hd
      walk_at "vw"
      have h2 : 2 ^ i ≤ 2 ^ 12 := Nat.pow_le_pow_right (by decide) (by omega)
      refine ⟨_, _, rfl, rfl, by rw [VL.digs_len]; omega, fun w0 h0 => by have := (VL.digs_mem i w0 h0).1; omega, ?_⟩
      walk_at "vw"
      exact ⟨rfl, _, rfl⟩
    · rintro ρ' O' ⟨rfl, x, rfl⟩
      rw [VL.rngD_len]
      walk_at "vw"
      rw [show ((n : Int)).toNat = n from Int.toNat_natCast n]
      exact k
theorem c_l_even (T : Txt K mg) : Cal P w K mg base CX0 1 "_law_even" ["_law_checks", "_law_row"] [] (VL.SpL K W_even) := by
  obtain ⟨fd, F⟩ := T.c.def_ 42 (d := dd_l_even) rfl
  refine ⟨_, fd, [], VL.fnL' (CX := CX0) F sc_l_even ?_ (fun cdv A outer s H E hr => ⟨_, PSs.nox (pss_cons (ps_for PassesOwn.never rfl (VL.pi_seq (pv 0)) (pg_name (i := 2) sc_l_even.nd rfl (Or.inl rfl))
  (pss_one (ps_if (pt_cmpR (VL.op_eqX hr.units) (pe_op op_mod (pe_callTy MB.k_int1 rfl (T.free 1) (by decide +kernel) (pa_cons (pe_callB (cr_sum rfl) rfl (T.free 6) (by decide +kernel) (pa_cons (pe_lc (own := [("_law_bit", 3)]) (g := gName 3) (tt := tYes) rfl sc_l_even.nd (VL.pi_seq (pv 2)) (blkOk_by (N := ["_law_checks", "_law_row", "_law_lot_here", "_law_bit"]) (sc := defScope s_l_even) (by decide +kernel)) (fun _ _ _ _ _ => (pg_name (i := 3) sc_l_even.nd rfl (Or.inl rfl))) (fun _ _ _ _ _ => pts_nil) (fun _ _ _ _ _ => (pe_ix (show IxR _ (rIx K) from ix_seq) (pv 1) (pv 3) (fun _ _ => rfl)))) pa_nil)) pa_nil)) pe_int) pe_int (nomark _))
  (pss_one (ps_ret pe_bl))
  pss_nil)))
 (pss_one (ps_ret pe_bl))), ?_⟩), T.glo 64, F.kp, F.bindsN fun _ _ _ _ _ _ us hl => match us, hl with | [_, _], _ => rfl, .nil⟩

  · rintro ds O Q E ⟨t, cs, w0, rfl, _⟩; rfl
  · rintro ds O Q E ⟨t, cs, w0, rfl, ht, hcs, k⟩
    walk_at "vw"
    refine VL.s_for (VL.i_seq rfl ?_)
    walk_at "vw"
    refine ⟨_, ht, ?_⟩
    refine ⟨fun i ρ' O' => O' = O ∧ evenOn w0 (cs.take i) = true ∧ ∃ x y, ρ' = [some t, some (VL.lotD w0), x, y], ⟨rfl, rfl, none, none, rfl⟩, fun i ρ' O' ⟨h, _⟩ => h ▸ ht, ?_, ?_⟩
    · rintro i d ρ' O' hd ⟨rfl, hev, x, y, rfl⟩
      obtain ⟨c, hc, rfl⟩ := lots_at hd
      obtain ⟨h1, h2⟩ := hcs c (List.mem_of_getElem? hc)
      walk_at "vw"
      refine VL.ln_map (fun d => .int (VL.dig w0 (VL.toI d))) (VL.i_seq rfl ?_)
      walk_at "vw"
      refine ⟨_, rfl, by rw [List.length_map]; omega, fun _ _ => rfl, fun j d O2 hd2 ex => ?_, ?_⟩
      · obtain ⟨b, hb, rfl⟩ := VL.map_int_at hd2
        obtain ⟨b1, b2⟩ := h1 b (List.mem_of_getElem? hb)
        walk_at "vw"
        exact VL.o_ixQ rfl rfl (VL.dig_at b1 b2) ⟨rfl, rfl⟩
      · walk_at "vw"
        have e1 : (c.map VL.D.int).map (fun d => VL.dig w0 (VL.toI d)) = VL.ats w0 c := by rw [List.map_map]; rfl
        rw [e1]
        refine if_i (fun h => ?_) (fun h => ?_)
        · walk_at "vw"
          have e : evenOn w0 cs = false := by
            unfold evenOn
            rw [List.all_eq_false]
            exact ⟨c, List.mem_of_getElem? hc, by rw [decide_eq_true_eq]; omega⟩
          rw [e] at k
          exact k
        · walk_at "vw"
          refine ⟨rfl, ?_, _, _, rfl⟩
          unfold evenOn at hev ⊢
          rw [List.take_add_one, hc, List.all_append, hev]
          simp
          omega
    · rintro ρ' O' ⟨rfl, hev, x, y, rfl⟩
      rw [List.length_map, List.take_length] at hev
      rw [hev] at k
      walk_at "vw"
      exact k
theorem c_l_words (T : Txt K mg) : Cal P w K mg base CX0 3 "_law_words" ["_law_bits", "_law_checks"] [] (VL.SpL K W_words) := by
  have c_l_digits := @c_l_digits P w K mg base T
  have c_l_even := @c_l_even P w K mg base T
  obtain ⟨fd, F⟩ := T.c.def_ 43 (d := dd_l_words) rfl
  refine ⟨_, fd, [], VL.fnL' (CX := CX0) F sc_l_words ?_ (fun cdv A outer s H E hr => ⟨_, PSs.nox (pss_one (ps_ret (pe_lc (own := [("_law_row", 2)]) (g := gName 2) rfl sc_l_words.nd (VL.pi_seq (pe_cal c_l_digits (hr.mono (by decide)) pass0 (pa_cons (pv 0) pa_nil))) (blkOk_by (N := ["_law_bits", "_law_checks", "_law_row"]) (sc := defScope s_l_words) (by decide +kernel)) (fun _ _ _ _ _ => (pg_name (i := 2) sc_l_words.nd rfl (Or.inl rfl))) (fun _ _ _ _ _ => pts_one (pt_val (pe_cal c_l_even (hr.mono (by decide)) pass0 (pa_cons (pv 1) (pa_cons (pv 2) pa_nil))))) (fun _ _ _ _ _ => (pv 2))))), ?_⟩), T.glo 65, F.kp, F.bindsN fun _ _ _ _ _ _ us hl => match us, hl with | [_, _], _ => rfl, .nil⟩

  · rintro ds O Q E ⟨t, cs, n, rfl, _⟩; rfl
  · rintro ds O Q E ⟨t, cs, n, rfl, hn, ht, hcs, k⟩
    walk_at "vw"
    refine VL.ln_lcP (fun d => evenOn (lotI d) cs) id (VL.i_seq rfl ?_)
    walk_at "vw"
    refine ⟨n, rfl, by omega, ?_⟩
    refine ⟨_, rfl, by rw [List.length_map, VL.digs_len]; exact VL.le_line (Nat.le_trans (Nat.pow_le_pow_right (by decide) hn) (by decide)), fun _ _ _ => rfl, fun j d L acc hd hL => ?_, ?_⟩
    · obtain ⟨w0, hw0, rfl⟩ := lots_at hd
      have hwl := (VL.digs_mem n w0 (List.mem_of_getElem? hw0)).1
      rw [lotI_lot]
      walk_at "vw"
      refine ⟨t, cs, w0, rfl, VL.asS_ext (VL.ext_new hL) ht, fun c hc => by rw [hwl]; exact hcs c hc, ?_⟩
      walk_at "vw"
      exact ⟨⟨rfl, rfl⟩, fun _ => VL.l_var rfl ⟨rfl, rfl⟩⟩
    · rw [filter_lots (fun w => evenOn w cs)]
      exact k
end
end K04
namespace K04
open PySem PySem.Spec PyProof.Rows L2 MB
def W_oddl : VL.WL := fun ds O Q _ => ∃ c : List Int, ds = [VL.lotD c] ∧ c.length ≤ 12 ∧ Q (.lst ((VL.odds c).map VL.lotD)) O
def WLam_l_lots : VL.WL := fun ds O Q _ => ∃ ns : List Int, ds = [VL.lotD ns] ∧ Q (VL.lotKd (VL.lotD ns)) O
def W_lots (K : PySem.W.Frag) : VL.WL := fun ds O Q _ => ∃ c : List Int, ds = [VL.lotD c] ∧ c.length ≤ 12 ∧ O (He.cT K ("_law_lots", none)).2 = some (.tbl ("_law_lots" ++ ".<locals>." ++ "<lambda>")) ∧ Q (.lst ((VL.lots c).map VL.lotD)) O
theorem subs_step {c : List Int} {i : Nat} {b : Int} (h : c[i]? = some b) : VL.subsL (c.take (i + 1)) = VL.subsL (c.take i) ++ (VL.subsL (c.take i)).map (· ++ [b]) := by
  rw [List.take_add_one, h]
  exact VL.subsL_app _ _
theorem subs_le {c : List Int} (h : c.length ≤ 12) (i : Nat) : (VL.subsL (c.take i)).length ≤ 4096 := by
  rw [VL.subsL_len, List.length_take]
  exact Nat.pow_le_pow_right (n := 2) (by decide) (show min i c.length ≤ 12 by omega)
theorem subs_mem {c l : List Int} (h : c.length ≤ 12) (i : Nat) (hl : l ∈ VL.subsL (c.take i)) : l.length ≤ 12 := by
  have := (VL.subsL_mem.mp hl).length_le
  rw [List.length_take] at this
  omega
section
variable {P : Program} {w : World} {K : PySem.W.Frag} {mg : Str → Option Value} {base : Heap}
theorem c_odd_lots_of (T : Txt K mg) : Cal P w K mg base CX0 4 "odd_lots_of" ["check"] [] (VL.SpL K W_oddl) := by
  have c_lot_order := @c_lot_order P w K mg base T
  obtain ⟨fd, F⟩ := T.c.def_ 13 (d := dd_odd_lots_of) rfl
  refine ⟨_, fd, [], VL.fnL' (CX := CX0) F sc_odd_lots_of ?_ (fun cdv A outer s H E hr => ⟨_, PSs.nox (pss_cons (ps_set (i := 1) sc_odd_lots_of.nd rfl (Or.inl rfl) (pe_lst (pa_cons (pe_tup pa_nil) pa_nil)))
 (pss_cons (ps_for PassesOwn.never rfl (VL.pi_seq (pv 0)) (pg_name (i := 2) sc_odd_lots_of.nd rfl (Or.inr rfl))
  (pss_one (ps_set (i := 1) sc_odd_lots_of.nd rfl (Or.inl rfl) (pe_op op_cat (pv 1) (pe_lc (own := [("lot", 3)]) (g := gName 3) (tt := tYes) rfl sc_odd_lots_of.nd (VL.pi_seq (pv 1)) (blkOk_by (N := ["check", "lots", "bit", "lot"]) (sc := defScope s_odd_lots_of) (by decide +kernel)) (fun _ _ _ _ _ => (pg_name (i := 3) sc_odd_lots_of.nd rfl (Or.inl rfl))) (fun _ _ _ _ _ => pts_nil) (fun _ _ _ _ _ => (pe_tup (show PA _ _ (VL.tStar K _ _) from VL.pa_star (pv 3) (pa_cons (pv 2) pa_nil)))))))))
 (pss_one (ps_ret (VL.pe_sortDef c_lot_order (hr.mono (by decide)) rfl (T.free 12) (pa_cons (pe_lc (own := [("lot", 3)]) (g := gName 3) rfl sc_odd_lots_of.nd (VL.pi_seq (pv 1)) (blkOk_by (N := ["check", "lots", "bit", "lot"]) (sc := defScope s_odd_lots_of) (by decide +kernel)) (fun _ _ _ _ _ => (pg_name (i := 3) sc_odd_lots_of.nd rfl (Or.inl rfl))) (fun _ _ _ _ _ => pts_one (pt_cmpR (show OpR _ (compareOp .Eq) (VL.rEqX K) from VL.op_eqX hr.units) (pe_op op_mod (pe_callB (show CallR _ (.builtin "len") (MB.rLenQ K) from MB.k_len) rfl (T.free 3) PySem.boot_len (pa_cons (pv 3) pa_nil)) pe_int) pe_int (nomark _))) (fun _ _ _ _ _ => (pv 3))) pa_nil)))))), ?_⟩), T.glo 35, F.kp, F.bindsN fun _ _ _ _ _ _ us hl => match us, hl with | [_], _ => rfl, .nil⟩

  · rintro ds O Q E ⟨c, rfl, _⟩; rfl
  · rintro ds O Q E ⟨c, rfl, hc, k⟩
    walk_at "vw"
    refine VL.s_for (VL.i_seq rfl ?_)
    walk_at "vw"
    refine ⟨_, rfl, ?_⟩
    refine ⟨fun i ρ' O' => O' = O ∧ ∃ x, ρ' = [some (VL.lotD c), some (.lst ((VL.subsL (c.take i)).map VL.lotD)), x, none], ⟨rfl, none, rfl⟩, fun _ _ _ _ => rfl, ?_, ?_⟩
    · rintro i d ρ' O' hd ⟨rfl, x, rfl⟩
      obtain ⟨b, hb, rfl⟩ := VL.map_int_at hd
      have hle := subs_le hc i
      walk_at "vw"
      refine VL.ln_map (fun d => VL.lotD (lotI d ++ [b])) (VL.i_seq rfl ?_)
      walk_at "vw"
      refine ⟨_, rfl, by rw [List.length_map]; omega, fun _ _ => rfl, fun j d O2 hd2 ex => ?_, ?_⟩
      · obtain ⟨l, hl, rfl⟩ := lots_at hd2
        walk_at "vw"
        refine VL.la_star rfl ?_
        walk_at "vw"
        refine ⟨_, rfl, ?_⟩
        walk_at "vw"
        have hl2 := subs_mem hc i (List.mem_of_getElem? hl)
        refine ⟨by rw [List.length_append, List.length_map]; exact VL.le_line (by simp; omega), ?_, rfl⟩
        rw [lotI_lot]
        show _ = VL.D.tup _
        rw [List.map_append]; rfl
      · refine VL.o_cat rfl rfl (by rw [List.length_map, List.length_map, List.length_map]; exact VL.le_line (by omega)) ?_
        walk_at "vw"
        refine ⟨rfl, some (.int b), ?_⟩
        rw [subs_step hb, List.map_append, List.map_map, List.map_map]
        have e : (VL.subsL (c.take i)).map ((fun d => VL.lotD (lotI d ++ [b])) ∘ VL.lotD) = (VL.subsL (c.take i)).map (VL.lotD ∘ fun x => x ++ [b]) := List.map_congr_left fun l _ => by
          show VL.lotD (lotI (VL.lotD l) ++ [b]) = _
          rw [lotI_lot]; rfl
        rw [e]
        rfl
    · rintro ρ' O' ⟨rfl, x, rfl⟩
      rw [List.length_map, List.take_length]
      have hle := subs_le hc c.length
      rw [List.take_length] at hle
      refine VL.s_ret (VL.l_sortD rfl (VL.f_lc (VL.ln_lcP (fun d => VL.oddL (lotI d)) id (VL.i_seq rfl ?_))))
      walk_at "vw"
      refine ⟨_, rfl, by rw [List.length_map]; exact VL.le_line (by omega), fun _ _ _ => rfl, fun j d L acc hd2 hL => ?_, ?_⟩
      · obtain ⟨l, hl, rfl⟩ := lots_at hd2
        have hl2 := subs_mem hc c.length (by rw [List.take_length]; exact List.mem_of_getElem? hl)
        rw [lotI_lot]
        walk_at "vw"
        refine ⟨⟨?_, rfl⟩, fun _ => VL.l_var rfl ⟨rfl, rfl⟩⟩
        unfold VL.oddL
        rw [vd_int, List.length_map]
      · rw [filter_lots VL.oddL]
        refine ⟨_, VL.lotKd, VL.lotKp, rfl, fun d hd => ?_, VL.lot_alike _, VL.lot_sortable _, VL.lot_depth, fun d hd Q' q => ?_, ?_⟩
        · obtain ⟨l, _, rfl⟩ := List.mem_map.mp hd
          exact VL.lot_pd _ l
        · obtain ⟨l, _, rfl⟩ := List.mem_map.mp hd
          exact ⟨l, rfl, q⟩
        · rw [VL.lots_sort]
          exact k
theorem c_l_lots (T : Txt K mg) (B : LamX.TabB base mg (He.cT K ("_law_lots", none)).1 (He.cT K ("_law_lots", none)).2) : Cal P w K mg base CX0 4 "_law_lots" ["_law_bits"] [] (VL.SpL K (W_lots K)) := by
  obtain ⟨fd, F⟩ := T.c.def_ 44 (d := dd_l_lots) rfl
  refine ⟨_, fd, [], VL.fnLT (CX := CX0) F sc_l_lots ?_ (fun cdv hcdv A outer s H E hr => ⟨_, PSs.nox (pss_cons (ps_set (i := 1) sc_l_lots.nd rfl (Or.inl rfl) (pe_lst (pa_cons (pe_tup pa_nil) pa_nil)))
 (pss_cons (ps_for PassesOwn.never rfl (VL.pi_seq (pv 0)) (pg_name (i := 2) sc_l_lots.nd rfl (Or.inr rfl))
  (pss_one (ps_set (i := 1) sc_l_lots.nd rfl (Or.inl rfl) (pe_op op_cat (pv 1) (pe_lc (own := [("_law_lot_here", 3)]) (g := gName 3) (tt := tYes) rfl sc_l_lots.nd (VL.pi_seq (pv 1)) (blkOk_by (N := ["_law_bits", "_law_out", "_law_bit", "_law_lot_here"]) (sc := defScope s_l_lots) (by decide +kernel)) (fun _ _ _ _ _ => (pg_name (i := 3) sc_l_lots.nd rfl (Or.inl rfl))) (fun _ _ _ _ _ => pts_nil) (fun _ _ _ _ _ => (pe_op (show OpR _ (binaryOp .Add) (rCatA K) from op_catA) (pv 3) (pe_tup (pa_cons (pv 2) pa_nil)))))))))
 (pss_one (ps_ret (VL.pe_sortLamb (k := 0) (N := ["_law_lot_here"]) (a := "_law_lot_here") (W := WLam_l_lots) B hcdv (NdefX.nscope_by (by decide +kernel)) rfl (fun _ _ _ _ _ => rfl) (fun f c' A outer s H hr => by refine ⟨_, (pe_tup (pa_cons (pe_callB MB.k_len rfl (T.free 3) PySem.boot_len (pa_cons (pv 0) pa_nil)) (pa_cons (pv 0) pa_nil))), ?_⟩; rintro d O Qd Ed ⟨ns, hd, q⟩; cases hd; walk_at "vw"; exact q) (hr.mono (by decide)) rfl (T.free 12) (pa_cons (pv 1) pa_nil)))))), ?_⟩), T.glo 66, F.kp, F.bindsN fun _ _ _ _ _ _ us hl => match us, hl with | [_], _ => rfl, .nil⟩

  · rintro ds O Q E ⟨c, rfl, _⟩; rfl
  · rintro ds O Q E ⟨c, rfl, hc, hO, k⟩
    walk_at "vw"
    refine VL.s_for (VL.i_seq rfl ?_)
    walk_at "vw"
    refine ⟨_, rfl, ?_⟩
    refine ⟨fun i ρ' O' => O' = O ∧ ∃ x, ρ' = [some (VL.lotD c), some (.lst ((VL.subsL (c.take i)).map VL.lotD)), x, none], ⟨rfl, none, rfl⟩, fun _ _ _ _ => rfl, ?_, ?_⟩
    · rintro i d ρ' O' hd ⟨rfl, x, rfl⟩
      obtain ⟨b, hb, rfl⟩ := VL.map_int_at hd
      have hle := subs_le hc i
      walk_at "vw"
      refine VL.ln_map (fun d => VL.lotD (lotI d ++ [b])) (VL.i_seq rfl ?_)
      walk_at "vw"
      refine ⟨_, rfl, by rw [List.length_map]; omega, fun _ _ => rfl, fun j d O2 hd2 ex => ?_, ?_⟩
      · obtain ⟨l, hl, rfl⟩ := lots_at hd2
        have hl2 := subs_mem hc i (List.mem_of_getElem? hl)
        walk_at "vw"
        refine VL.o_catT rfl (by rw [List.length_map]; exact VL.le_line (by simp; omega)) ?_
        refine ⟨?_, rfl⟩
        rw [lotI_lot]
        show _ = VL.D.tup _
        rw [List.map_append]; rfl
      · refine VL.o_cat rfl rfl (by rw [List.length_map, List.length_map, List.length_map]; exact VL.le_line (by omega)) ?_
        walk_at "vw"
        refine ⟨rfl, some (.int b), ?_⟩
        rw [subs_step hb, List.map_append, List.map_map, List.map_map]
        have e : (VL.subsL (c.take i)).map ((fun d => VL.lotD (lotI d ++ [b])) ∘ VL.lotD) = (VL.subsL (c.take i)).map (VL.lotD ∘ fun x => x ++ [b]) := List.map_congr_left fun l _ => by
          show VL.lotD (lotI (VL.lotD l) ++ [b]) = _
          rw [lotI_lot]; rfl
        rw [e]
        rfl
    · rintro ρ' O' ⟨rfl, x, rfl⟩
      rw [List.length_map, List.take_length]
      refine VL.s_ret (VL.l_sortLamF rfl (fun _ => ⟨rfl, rfl⟩) ?_)
      walk_at "vw"
      refine ⟨hO, _, VL.lotKd, VL.lotKp, rfl, fun d hd => ?_, VL.lot_alike _, VL.lot_sortable _, VL.lot_depth, fun d hd Q' q => ?_, ?_⟩
      · obtain ⟨l, _, rfl⟩ := List.mem_map.mp hd
        exact VL.lot_pd _ l
      · obtain ⟨l, _, rfl⟩ := List.mem_map.mp hd
        exact ⟨l, rfl, q⟩
      · rw [VL.lots_sort]
        exact k
end
end K04
namespace K04
open PySem PySem.Spec PyProof.Rows L2 MB
def Sml (rs : List (Int × Int)) : Prop := rs.length ≤ 10 ∧ ∀ r ∈ rs, VL.isShare (VL.ratD r) = true ∧ r.2 < 2 ^ 30
theorem Sml.shr {rs : List (Int × Int)} (h : Sml rs) : Shr rs := ⟨h.1, fun r hr => ⟨(h.2 r hr).1, Int.lt_trans (h.2 r hr).2 (by decide)⟩⟩
theorem sml_at {rs : List (Int × Int)} (h : Sml rs) {r : Int × Int} (hr : r ∈ rs) : 1 ≤ r.2 ∧ 0 ≤ r.1 ∧ r.1 ≤ r.2 ∧ r.2 < 2 ^ 30 := by
  obtain ⟨h1, h2, h3, _⟩ := shr_at h.shr hr
  exact ⟨h1, h2, h3, (h.2 r hr).2⟩
theorem sml_lcm {rs : List (Int × Int)} (h : Sml rs) {i : Nat} (hi : i ≤ rs.length) : VL.lcms (rs.take i) < 2 ^ 301 := by
  have := VL.lcms_ltK (K := 30) (fun r hr => (h.2 r hr).2) i hi
  exact Nat.lt_of_lt_of_le this (Nat.pow_le_pow_right (by decide) (by have := h.1; omega))
theorem lcm_fdiv {B : Nat} {b : Int} (hB : 0 < B) (hb : 1 ≤ b) : ((B : Int) * b).fdiv (K00.gd (B : Int) b) = ((Nat.lcm B b.toNat : Nat) : Int) := by
  have e : b = ((b.toNat : Nat) : Int) := by omega
  have g : K00.gd (B : Int) b = ((Nat.gcd B b.toNat : Nat) : Int) := by
    unfold K00.gd
    rw [Int.natAbs_natCast, show b.natAbs = b.toNat by omega]
  rw [g, Int.fdiv_eq_ediv_of_nonneg _ (by omega)]
  unfold Nat.lcm
  rw [Int.natCast_ediv, Int.natCast_mul, ← e]
theorem low_ok {t b : Int} (hb : 0 < b) : K00.gd (t.fdiv (K00.gd t b)) (b.fdiv (K00.gd t b)) = 1 ∧ 1 ≤ b.fdiv (K00.gd t b) ∧ (t.fdiv (K00.gd t b)).natAbs ≤ t.natAbs ∧ (b.fdiv (K00.gd t b)).natAbs ≤ b.natAbs := by
  have g0 : 0 < Nat.gcd t.natAbs b.natAbs := Nat.gcd_pos_of_pos_right _ (by omega)
  obtain ⟨x, hx⟩ : ((Nat.gcd t.natAbs b.natAbs : Nat) : Int) ∣ t := Int.ofNat_dvd_left.mpr (Nat.gcd_dvd_left _ _)
  obtain ⟨y, hy⟩ : ((Nat.gcd t.natAbs b.natAbs : Nat) : Int) ∣ b := Int.ofNat_dvd_left.mpr (Nat.gcd_dvd_right _ _)
  have ex : t.fdiv (K00.gd t b) = x := by
    unfold K00.gd
    rw [Int.fdiv_eq_ediv_of_nonneg _ (by omega)]
    exact Int.ediv_eq_of_eq_mul_right (by omega) hx
  have ey : b.fdiv (K00.gd t b) = y := by
    unfold K00.gd
    rw [Int.fdiv_eq_ediv_of_nonneg _ (by omega)]
    exact Int.ediv_eq_of_eq_mul_right (by omega) hy
  rw [ex, ey]
  have h1 : t.natAbs = Nat.gcd t.natAbs b.natAbs * x.natAbs := by
    have := congrArg Int.natAbs hx
    rwa [Int.natAbs_mul, Int.natAbs_natCast] at this
  have h2 : b.natAbs = Nat.gcd t.natAbs b.natAbs * y.natAbs := by
    have := congrArg Int.natAbs hy
    rwa [Int.natAbs_mul, Int.natAbs_natCast] at this
  generalize hgg : Nat.gcd t.natAbs b.natAbs = g at *
  refine ⟨?_, ?_, ?_, ?_⟩
  · unfold K00.gd
    have e : g = g * Nat.gcd x.natAbs y.natAbs := by
      rw [← Nat.gcd_mul_left, ← h1, ← h2]
      exact hgg.symm
    have : Nat.gcd x.natAbs y.natAbs = 1 := Nat.eq_of_mul_eq_mul_left g0 (by omega)
    rw [this]; rfl
  · by_cases h : 1 ≤ y
    · exact h
    · have : (g : Int) * y ≤ 0 := Int.mul_nonpos_of_nonneg_of_nonpos (by omega) (by omega)
      omega
  · rw [h1]; exact Nat.le_mul_of_pos_left _ g0
  · rw [h2]; exact Nat.le_mul_of_pos_left _ g0

def W_lisr : VL.WL := fun ds O Q _ => ∃ t b : Int, ds = [lowD t b] ∧ 0 < b ∧ t.natAbs < 2 ^ 400 ∧ b < 2 ^ 400 ∧ Q (.bl true) O
def W_tops : VL.WL := fun ds O Q _ => ∃ (e : VL.D) (rs : List (Int × Int)), ds = [e] ∧ VL.asS O e = some (rs.map VL.ratD) ∧ Sml rs ∧ Q (.lst [.int (VL.lcms rs : Nat), .lst ((VL.topsL rs (VL.lcms rs)).map VL.D.int)]) O
def W_far : VL.WL := fun ds O Q _ => ∃ (c l : List Int) (e : VL.D) (ts : List Int) (B : Int), ds = [VL.lotD c, VL.lotD l, .int B, e] ∧ VL.asS O e = some (ts.map VL.D.int) ∧ c.length ≤ 12 ∧ l.length ≤ 12 ∧ InR c ts.length ∧ Q (.int (VL.far B ts c l)) O
def W_odds (K : PySem.W.Frag) : VL.WL := fun ds O Q _ => ∃ (c : List Int) (e : VL.D) (ts : List Int) (B : Int), ds = [VL.lotD c, .int B, e] ∧ VL.asS O e = some (ts.map VL.D.int) ∧ c.length ≤ 12 ∧ InR c ts.length ∧ O (He.cT K ("_law_lots", none)).2 = some (.tbl ("_law_lots" ++ ".<locals>." ++ "<lambda>")) ∧ Q (.lst ((VL.odds c).map fun l => .lst [VL.lotD l, .int (VL.far B ts c l)])) O
section
variable {P : Program} {w : World} {K : PySem.W.Frag} {mg : Str → Option Value} {base : Heap}
theorem c_l_is_ratio (T : Txt K mg) : Cal P w K mg base CX0 3 "_law_is_ratio" ["_law_thing"] [] (VL.SpL K W_lisr) := by
  have c_l_part := @c_l_part P w K mg base T
  have c_l_wholes := @c_l_wholes P w K mg base T
  obtain ⟨fd, F⟩ := T.c.def_ 32 (d := dd_l_is_ratio) rfl
  refine ⟨_, fd, [], VL.fnL' (CX := CX0) F sc_l_is_ratio ?_ (fun cdv A outer s H E hr => ⟨_, PSs.nox (pss_cons (ps_if (PW.pt (pw_or (pt_not (pt_val (pe_cal c_l_wholes (hr.mono (by decide)) pass0 (pa_cons (pv 0) (pa_cons pe_int pa_nil))))) (pw_or1 (pt_cmpR op_lt (pe_ix ix_seq (pv 0) pe_int (fun _ _ => rfl)) pe_int (nomark _)))))
  (pss_one (ps_ret pe_bl))
  pss_nil)
 (pss_one (ps_ret (pe_cmpR (VL.op_eqX hr.units) (pe_cal c_l_part (hr.mono (by decide)) pass0 (pa_cons (pe_ix ix_seq (pv 0) pe_int (fun _ _ => rfl)) (pa_cons (pe_ix ix_seq (pv 0) pe_int (fun _ _ => rfl)) pa_nil))) pe_int (nomark _))))), ?_⟩), T.glo 54, F.kp, F.bindsN fun _ _ _ _ _ _ us hl => match us, hl with | [_], _ => rfl, .nil⟩

  · rintro ds O Q E ⟨t, b, rfl, _⟩; rfl
  · rintro ds O Q E ⟨t, b, rfl, hb, ht, hb2, k⟩
    obtain ⟨g1, g2, g3, g4⟩ := low_ok (t := t) hb
    walk_at "vw"
    refine ⟨_, 2, rfl, VL.kn_tup, fun xs h => ?_, ?_⟩
    · cases h
      refine ⟨by simp, fun x hx => ?_⟩
      simp only [List.mem_cons, List.not_mem_nil, or_false] at hx
      rcases hx with rfl | rfl <;> exact VL.kn_int
    · rw [show wholesD (lowD t b) 2 = true from rfl]
      dsimp only [lowD]
      walk_at "vw"
      refine if_d (fun h => absurd h (by omega)) (fun _ => ?_)
      walk_at "vw"
      refine ⟨_, _, rfl, by omega, by omega, ?_⟩
      rw [g1]
      walk_at "vw"
      exact k
theorem c_l_far (T : Txt K mg) : Cal P w K mg base CX0 1 "_law_far" ["_law_bits", "_law_lot_here", "_law_bottom", "_law_tops_here"] [] (VL.SpL K W_far) := by
  obtain ⟨fd, F⟩ := T.c.def_ 45 (d := dd_l_far) rfl
  refine ⟨_, fd, [], VL.fnL' (CX := CX0) F sc_l_far ?_ (fun cdv A outer s H E hr => ⟨_, PSs.nox (pss_cons (ps_set (i := 4) sc_l_far.nd rfl (Or.inl rfl) pe_int)
 (pss_cons (ps_for PassesOwn.never rfl (VL.pi_seq (pv 0)) (pg_name (i := 5) sc_l_far.nd rfl (Or.inl rfl))
  (pss_one (ps_set (i := 4) sc_l_far.nd rfl (Or.inl rfl) (pe_op op_add (pv 4) (pe_ifExp (pt_cmpR op_in_seq (pv 5) (pv 1) rfl) (pe_op op_sub (pv 2) (pe_ix ix_seq (pv 3) (pv 5) (fun _ _ => rfl))) (pe_ix ix_seq (pv 3) (pv 5) (fun _ _ => rfl)))))))
 (pss_one (ps_ret (pv 4))))), ?_⟩), T.glo 67, F.kp, F.bindsN fun _ _ _ _ _ _ us hl => match us, hl with | [_, _, _, _], _ => rfl, .nil⟩

  · rintro ds O Q E ⟨c, l, e, ts, B, rfl, _⟩; rfl
  · rintro ds O Q E ⟨c, l, e, ts, B, rfl, he, hc, hl, hcr, k⟩
    walk_at "vw"
    refine VL.s_for (VL.i_seq rfl ?_)
    walk_at "vw"
    refine ⟨_, rfl, ?_⟩
    refine ⟨fun i ρ' O' => O' = O ∧ ∃ x, ρ' = [some (VL.lotD c), some (VL.lotD l), some (.int B), some e, some (.int (VL.far B ts (c.take i) l)), x], ⟨rfl, none, rfl⟩, fun _ _ _ _ => rfl, ?_, ?_⟩
    · rintro i d ρ' O' hd ⟨rfl, x, rfl⟩
      obtain ⟨b, hb, rfl⟩ := VL.map_int_at hd
      obtain ⟨b1, b2⟩ := hcr b (List.mem_of_getElem? hb)
      have est : VL.far B ts (c.take (i + 1)) l = VL.far B ts (c.take i) l + (if b ∈ l then B - VL.dig ts b else VL.dig ts b) := by
        unfold VL.far
        rw [List.take_add_one, hb, List.map_append, List.sum_append]
        simp
      walk_at "vw"
      refine if_d (fun h => ?_) (fun h => ?_)
      · rw [if_pos h] at est
        walk_at "vw"
        refine VL.o_ixQ rfl he (VL.dig_at b1 b2) ?_
        walk_at "vw"
        refine ⟨rfl, some (.int b), ?_⟩
        rw [est]; rfl
      · rw [if_neg h] at est
        walk_at "vw"
        refine VL.o_ixQ rfl he (VL.dig_at b1 b2) ?_
        walk_at "vw"
        refine ⟨rfl, some (.int b), ?_⟩
        rw [est]; rfl
    · rintro ρ' O' ⟨rfl, x, rfl⟩
      rw [List.length_map, List.take_length]
      walk_at "vw"
      exact k
theorem c_l_tops (T : Txt K mg) : Cal P w K mg base CX0 2 "_law_tops" ["_law_row"] [] (VL.SpL K W_tops) := by
  have c_l_part := @c_l_part P w K mg base T
  obtain ⟨fd, F⟩ := T.c.def_ 33 (d := dd_l_tops) rfl
  refine ⟨_, fd, [], VL.fnL' (CX := CX0) F sc_l_tops ?_ (fun cdv A outer s H E hr => ⟨_, PSs.nox (pss_cons (ps_set (i := 1) sc_l_tops.nd rfl (Or.inr rfl) pe_int)
 (pss_cons (ps_for PassesOwn.never rfl (VL.pi_seq (pv 0)) (pg_name (i := 2) sc_l_tops.nd rfl (Or.inl rfl))
  (pss_one (ps_set (i := 1) sc_l_tops.nd rfl (Or.inr rfl) (pe_op K00.op_fdivZ (pe_op op_mulX (pv 1) (pe_ix ix_seq (pv 2) pe_int (fun _ _ => rfl))) (pe_cal c_l_part (hr.mono (by decide)) pass0 (pa_cons (pv 1) (pa_cons (pe_ix ix_seq (pv 2) pe_int (fun _ _ => rfl)) pa_nil)))))))
 (pss_one (ps_ret (pe_lst (pa_cons (pv 1) (pa_cons (pe_lc (own := [("_law_share", 2)]) (g := gName 2) (tt := tYes) rfl sc_l_tops.nd (VL.pi_seq (pv 0)) (blkOk_by (N := ["_law_row", "_law_bottom", "_law_share"]) (sc := defScope s_l_tops) (by decide +kernel)) (fun _ _ _ _ _ => (pg_name (i := 2) sc_l_tops.nd rfl (Or.inl rfl))) (fun _ _ _ _ _ => pts_nil) (fun _ _ _ _ _ => (pe_op op_mulX (pe_ix (show IxR _ (rIx K) from ix_seq) (pv 2) pe_int (fun _ _ => rfl)) (pe_op K00.op_fdivZ (pv 1) (pe_ix (show IxR _ (rIx K) from ix_seq) (pv 2) pe_int (fun _ _ => rfl)))))) pa_nil))))))), ?_⟩), T.glo 55, F.kp, F.bindsN fun _ _ _ _ _ _ us hl => match us, hl with | [_], _ => rfl, .nil⟩

  · rintro ds O Q E ⟨e, rs, rfl, _⟩; rfl
  · rintro ds O Q E ⟨e, rs, rfl, he, hS, k⟩
    have hn10 := hS.1
    walk_at "vw"
    refine VL.s_for (VL.i_seq rfl ?_)
    walk_at "vw"
    refine ⟨_, he, ?_⟩
    refine ⟨fun j ρ' O2 => O2 = O ∧ ∃ x, ρ' = [some e, some (.int (VL.lcms (rs.take j) : Nat)), x], ⟨rfl, _, rfl⟩, fun j ρ' O2 ⟨h, _⟩ => h ▸ he, ?_, ?_⟩
    · rintro j d ρ' O2 hd2 ⟨rfl, x, rfl⟩
      obtain ⟨r, hr, rfl⟩ := ratD_at hd2
      obtain ⟨r1, r2, r3, r4⟩ := sml_at hS (List.mem_of_getElem? hr)
      have hj : j < rs.length := (List.getElem?_eq_some_iff.mp hr).1
      have hlt := sml_lcm hS (i := j) (by omega)
      have hpos : 0 < VL.lcms (rs.take j) := VL.lcms_pos fun r hr => (sml_at hS (List.mem_of_mem_take hr)).1
      have hst := VL.lcms_step hr
      walk_at "vw"
      refine VL.o_I (mulx_ok (a := 301) (b := 30) (by omega) (by omega) (by decide)) rfl ?_
      walk_at "vw"
      refine ⟨_, _, rfl, Nat.lt_of_lt_of_le (show (((VL.lcms (rs.take j) : Nat) : Int)).natAbs < 2 ^ 301 by omega) (Nat.pow_le_pow_right (by decide) (by decide)), Nat.lt_of_lt_of_le (show r.2.natAbs < 2 ^ 30 by omega) (Nat.pow_le_pow_right (by decide) (by decide)), ?_⟩
      refine VL.o_I ⟨gd_ne (by omega), gd_log (by omega) (Int.lt_trans r4 (by decide))⟩ rfl ?_
      rw [lcm_fdiv hpos r1, ← hst]
      walk_at "vw"
      exact ⟨rfl, _, rfl⟩
    · rintro ρ' O2 ⟨rfl, x, rfl⟩
      rw [List.length_map, List.take_length]
      have hlt := sml_lcm hS (i := rs.length) (Nat.le_refl _)
      rw [List.take_length] at hlt
      walk_at "vw"
      refine VL.ln_map (fun d => .int (VL.toI (VL.fstD d) * (VL.lcms rs : Int).fdiv (VL.toI (VL.sndD d)))) (VL.i_seq rfl ?_)
      walk_at "vw"
      refine ⟨_, he, by rw [List.length_map]; omega, fun O3 x => VL.asS_ext x he, fun j d O3 hd3 ex => ?_, ?_⟩
      · obtain ⟨r, hr, rfl⟩ := ratD_at hd3
        obtain ⟨r1, r2, r3, r4⟩ := sml_at hS (List.mem_of_getElem? hr)
        have h2 : ((VL.lcms rs : Nat) : Int).fdiv r.2 ≤ VL.lcms rs := by
          rw [Int.fdiv_eq_ediv_of_nonneg _ (by omega)]
          exact Int.ediv_le_self _ (by omega)
        have h3 : 0 ≤ ((VL.lcms rs : Nat) : Int).fdiv r.2 := by
          rw [Int.fdiv_eq_ediv_of_nonneg _ (by omega)]
          exact Int.ediv_nonneg (by omega) (by omega)
        walk_at "vw"
        refine VL.o_I (d := .int ((VL.lcms rs : Int).fdiv r.2)) ⟨by omega, (Nat.log2_lt (by omega)).mpr (Nat.lt_of_lt_of_le (show r.2.natAbs < 2 ^ 30 by omega) (Nat.pow_le_pow_right (by decide) (by decide)))⟩ rfl ?_
        refine VL.o_I (d := .int (r.1 * (VL.lcms rs : Int).fdiv r.2)) (mulx_ok (a := 30) (b := 301) (by omega) (by omega) (by decide)) rfl ?_
        exact ⟨rfl, rfl⟩
      · walk_at "vw"
        have e : (rs.map VL.ratD).map (fun d => VL.D.int (VL.toI (VL.fstD d) * (VL.lcms rs : Int).fdiv (VL.toI (VL.sndD d)))) = (VL.topsL rs (VL.lcms rs)).map VL.D.int := by
          unfold VL.topsL
          rw [List.map_map, List.map_map]
          rfl
        rw [e]
        exact k
theorem c_l_odds (T : Txt K mg) (B : LamX.TabB base mg (He.cT K ("_law_lots", none)).1 (He.cT K ("_law_lots", none)).2) : Cal P w K mg base CX0 5 "_law_odds" ["_law_lot_here", "_law_bottom", "_law_tops_here"] [] (VL.SpL K (W_odds K)) := by
  have c_l_lots := @c_l_lots P w K mg base T B
  have c_l_far := @c_l_far P w K mg base T
  obtain ⟨fd, F⟩ := T.c.def_ 51 (d := dd_l_odds) rfl
  refine ⟨_, fd, [], VL.fnL' (CX := CX0) F sc_l_odds ?_ (fun cdv A outer s H E hr => ⟨_, PSs.nox (pss_cons (ps_setLc (i := 3) (own := [("_law_part_here", 4)]) (g := gName 4) rfl sc_l_odds.nd rfl rfl (sw_true rfl rfl rfl (by decide +kernel)) (VL.pi_seq (pe_cal c_l_lots (hr.mono (by decide)) pass0 (pa_cons (pv 0) pa_nil))) (blkOk_by (N := ["_law_lot_here", "_law_bottom", "_law_tops_here", "_law_parts", "_law_part_here"]) (sc := defScope s_l_odds) (by decide +kernel)) (fun _ _ _ _ _ => (pg_name (i := 4) sc_l_odds.nd rfl (Or.inl rfl))) (fun _ _ _ _ _ => pts_one (pt_cmpR (show OpR _ (compareOp .Eq) (VL.rEqX K) from VL.op_eqX hr.units) (pe_op op_mod (pe_callTy MB.k_int1 rfl (T.free 1) (by decide +kernel) (pa_cons (pe_callB (show CallR _ (.builtin "len") (MB.rLenQ K) from MB.k_len) rfl (T.free 3) PySem.boot_len (pa_cons (pv 4) pa_nil)) pa_nil)) pe_int) pe_int (nomark _))) (fun _ _ _ _ _ => (pv 4)))
 (pss_one (ps_ret (pe_lc (own := [("_law_part_here", 4)]) (g := gName 4) (tt := tYes) rfl sc_l_odds.nd (VL.pi_seq (pv 3)) (blkOk_by (N := ["_law_lot_here", "_law_bottom", "_law_tops_here", "_law_parts", "_law_part_here"]) (sc := defScope s_l_odds) (by decide +kernel)) (fun _ _ _ _ _ => (pg_name (i := 4) sc_l_odds.nd rfl (Or.inl rfl))) (fun _ _ _ _ _ => pts_nil) (fun _ _ _ _ _ => (pe_lst (pa_cons (pv 4) (pa_cons (pe_cal c_l_far (hr.mono (by decide)) pass0 (pa_cons (pv 0) (pa_cons (pv 4) (pa_cons (pv 1) (pa_cons (pv 2) pa_nil))))) pa_nil)))))))), ?_⟩), T.glo 73, F.kp, F.bindsN fun _ _ _ _ _ _ us hl => match us, hl with | [_, _, _], _ => rfl, .nil⟩

  · rintro ds O Q E ⟨c, e, ts, B, rfl, _⟩; rfl
  · rintro ds O Q E ⟨c, e, ts, B, rfl, he, hc, hcr, hO, k⟩
    walk_at "vw"
    refine VL.ln_lcP (fun d => VL.oddL (lotI d)) id (VL.i_seq rfl ?_)
    walk_at "vw"
    refine ⟨c, rfl, hc, hO, ?_⟩
    have hll : (VL.lots c).length ≤ 4096 := by
      unfold VL.lots
      rw [List.length_mergeSort, VL.subsL_len]
      exact Nat.pow_le_pow_right (n := 2) (by decide) hc
    have hol : (VL.odds c).length ≤ 4096 := by
      rw [← VL.odds_lots]
      exact Nat.le_trans (List.length_filter_le _ _) hll
    have hlm : ∀ l ∈ VL.lots c, l.length ≤ 12 := fun l hl => by
      unfold VL.lots at hl
      exact Nat.le_trans (VL.subsL_mem.mp (List.mem_mergeSort.mp hl)).length_le hc
    refine ⟨_, rfl, by rw [List.length_map]; exact VL.le_line (by omega), fun _ _ _ => rfl, fun j d L acc hd2 hL => ?_, ?_⟩
    · obtain ⟨l, hl, rfl⟩ := lots_at hd2
      have hl2 := hlm l (List.mem_of_getElem? hl)
      rw [lotI_lot]
      walk_at "vw"
      refine ⟨⟨?_, rfl⟩, fun _ => VL.l_var rfl ⟨rfl, rfl⟩⟩
      unfold VL.oddL
      rw [vd_int, List.length_map]
    · rw [filter_lots VL.oddL, VL.odds_lots]
      walk_at "vw"
      refine VL.ln_map (fun d => .lst [d, .int (VL.far B ts c (lotI d))]) (VL.i_seq rfl ?_)
      walk_at "vw"
      refine ⟨_, rfl, by rw [List.length_map]; omega, fun _ _ => rfl, fun j d O2 hd2 ex => ?_, ?_⟩
      · obtain ⟨l, hl, rfl⟩ := lots_at hd2
        have hl2 : l.length ≤ 12 := Nat.le_trans (VL.odds_mem.mp (List.mem_of_getElem? hl)).1.length_le hc
        rw [lotI_lot]
        walk_at "vw"
        refine ⟨c, l, e, ts, B, rfl, VL.asS_ext ex he, hc, hl2, hcr, ?_⟩
        walk_at "vw"
        exact ⟨rfl, rfl⟩
      · have e1 : ((VL.odds c).map VL.lotD).map (fun d => VL.D.lst [d, .int (VL.far B ts c (lotI d))]) = (VL.odds c).map fun l => VL.D.lst [VL.lotD l, .int (VL.far B ts c l)] := by
          rw [List.map_map]
          exact List.map_congr_left fun l _ => by show VL.D.lst [_, .int (VL.far B ts c (lotI (VL.lotD l)))] = _; rw [lotI_lot]
        rw [e1]
        walk_at "vw"
        exact k
end
end K04
namespace K04
open PySem PySem.Spec PyProof.Rows L2 MB
theorem whole_in {i m : Int} (h : 0 ≤ i) (h2 : i < m) : VL.isWhole (.int i) (.int 0) (.int (m - 1)) = true := by
  show (decide (0 ≤ i) && decide (i ≤ m - 1)) = true
  rw [decide_eq_true h, decide_eq_true (by omega)]; rfl
theorem longer_fl2 (ws : List (List Int)) : VL.fl2 (fun _ => [.int 0, .int 1]) (fun d e => VL.lotD (lotI d ++ [VL.toI e])) (ws.map VL.lotD) = (longer ws).map VL.lotD := by
  unfold VL.fl2 longer
  rw [List.flatMap_map, List.map_flatMap]
  refine congrArg (fun f => List.flatMap f ws) (funext fun w => ?_)
  show [VL.lotD (lotI (VL.lotD w) ++ [0]), VL.lotD (lotI (VL.lotD w) ++ [1])] = _
  rw [lotI_lot]; rfl
/-- a check of a code, by its number -/
def At (cs : List (List Int)) (i : Int) (c : List Int) : Prop := 0 ≤ i ∧ cs[i.toNat]? = some c
theorem At.lt {cs : List (List Int)} {i : Int} {c : List Int} (h : At cs i c) : i < (cs.length : Int) := by
  have := (List.getElem?_eq_some_iff.mp h.2).1
  have := h.1
  omega
theorem At.row {cs : List (List Int)} {i : Int} {c : List Int} (h : At cs i c) : atI (cs.map fun c => VL.D.tup (c.map VL.D.int)) i = some (VL.lotD c) := by
  have h2 := h.lt
  unfold atI ixN
  rw [if_pos h.1, List.length_map, if_pos (by omega)]
  show (cs.map _)[i.toNat]? = _
  rw [List.getElem?_map, h.2]
  rfl
theorem cut1 (x : VL.D) (xs : List VL.D) : VL.cutD (x :: xs) (some 1) none = xs := by
  unfold VL.cutD
  simp [HT.sIx]
theorem share_row {O : VL.Oh} {d : VL.D} {n : Int} {rs : List (Int × Int)} (h : VL.asS O d = some (rs.map VL.ratD)) (hl : (rs.length : Int) = n) (hs : Shr rs) : VL.rowFault VL.isShare (VL.asS O) d n = none :=
  VL.rf_ok h (by rw [List.length_map]; exact hl) fun j y hy => by
    obtain ⟨r, hr, e⟩ := ratD_at hy
    rw [e]
    exact (hs.2 r (List.mem_of_getElem? hr)).1
theorem row_its {O : VL.Oh} {d : VL.D} {rs : List (Int × Int)} (hk : VL.Kn O d) (h : VL.asS O d = some (rs.map VL.ratD)) : RowIts O d := ⟨hk, fun xs hx x hm => by
  rw [h] at hx; cases hx
  obtain ⟨r, _, rfl⟩ := List.mem_map.mp hm
  refine ⟨VL.kn_tup, fun ys hy y hm => ?_⟩
  cases hy
  simp only [List.mem_cons, List.not_mem_nil, or_false] at hm
  rcases hm with rfl | rfl <;> exact VL.kn_int⟩
/-- a row of shares that is given -/
def Given (O : VL.Oh) (d : VL.D) (n : Int) (rs : List (Int × Int)) : Prop := VL.Kn O d ∧ VL.asS O d = some (rs.map VL.ratD) ∧ (rs.length : Int) = n ∧ Sml rs
theorem Given.items {O : VL.Oh} {d : VL.D} {n : Int} {rs : List (Int × Int)} (h : Given O d n rs) : VL.itemsA (VL.asS O) d = rs.map VL.ratD := by unfold VL.itemsA; rw [h.2.1]; rfl
def tightN (ts : List Int) (L : Int) (cs : List (List Int)) : Nat → List VL.D
  | 0 => []
  | i + 1 => tightN ts L cs i ++ ((VL.odds (cs.getD i [])).filter fun l => decide (excT ts L (cs.getD i []) l = 0)).map fun l => .tup [.int (i : Nat), VL.lotD l]
theorem odds_le {c : List Int} (h : c.length ≤ 10) : (VL.odds c).length ≤ 1024 := by
  rw [← VL.odds_lots]
  refine Nat.le_trans (List.length_filter_le _ _) ?_
  unfold VL.lots
  rw [List.length_mergeSort, VL.subsL_len]
  exact Nat.pow_le_pow_right (n := 2) (by decide) h
theorem tight_len {ts : List Int} {L : Int} {cs : List (List Int)} (h : ∀ c ∈ cs, c.length ≤ 10) : ∀ i, (tightN ts L cs i).length ≤ 1024 * i
  | 0 => Nat.zero_le _
  | i + 1 => by
    have ih := tight_len (ts := ts) (L := L) h i
    have h2 : (cs.getD i []).length ≤ 10 := by
      rw [List.getD_eq_getElem?_getD]
      cases e : cs[i]? with
      | none => exact Nat.zero_le _
      | some c => exact h c (List.mem_of_getElem? e)
    have h3 := List.length_filter_le (fun l => decide (excT ts L (cs.getD i []) l = 0)) (VL.odds (cs.getD i []))
    have h4 := odds_le h2
    show (tightN ts L cs i ++ _).length ≤ _
    rw [List.length_append, List.length_map]
    omega
def W_coddl (K : PySem.W.Frag) : VL.WL := fun ds O Q _ => ∃ n cs i c t ms l, ds = [VL.codeD (He.ga K "Code") n cs, .int i, t] ∧ ChkN n cs ∧ At cs i c ∧ c.Pairwise (· < ·) ∧ VL.Kn O t ∧ VL.asS O t = some (ms.map VL.D.int) ∧ List.Perm ms l ∧ l ∈ VL.odds c ∧ Q (VL.lotD l) O
def W_excess (K : PySem.W.Frag) : VL.WL := fun ds O Q _ => ∃ n cs i c t ms l d rs, ds = [VL.codeD (He.ga K "Code") n cs, .int i, t, d] ∧ ChkN n cs ∧ At cs i c ∧ c.Pairwise (· < ·) ∧ VL.Kn O t ∧ VL.asS O t = some (ms.map VL.D.int) ∧ List.Perm ms l ∧ l ∈ VL.odds c ∧ Given O d n rs ∧ Q (lowD (excT (VL.topsL rs (VL.lcms rs)) (VL.lcms rs) c l) (VL.lcms rs)) O
def W_worstl (K : PySem.W.Frag) : VL.WL := fun ds O Q _ => ∃ n cs i c d rs, ds = [VL.codeD (He.ga K "Code") n cs, .int i, d] ∧ ChkN n cs ∧ At cs i c ∧ Given O d n rs ∧ Q (.tup [VL.lotD (VL.wLot (VL.topsL rs (VL.lcms rs)) (VL.lcms rs) c), lowD (VL.wTop (VL.topsL rs (VL.lcms rs)) (VL.lcms rs) c) (VL.lcms rs)]) O
def W_tight (K : PySem.W.Frag) : VL.WL := fun ds O Q _ => ∃ n cs d rs, ds = [VL.codeD (He.ga K "Code") n cs, d] ∧ ChkN n cs ∧ Given O d n rs ∧ Q (.tup (tightN (VL.topsL rs (VL.lcms rs)) (VL.lcms rs) cs cs.length)) O
def W_evenr (K : PySem.W.Frag) : VL.WL := fun ds O Q _ => ∃ n cs i c, ds = [VL.codeD (He.ga K "Code") n cs, .int i] ∧ ChkN n cs ∧ At cs i c ∧ Q (.tup (((VL.digs c.length).filter VL.evenL).map VL.lotD)) O
section
variable {P : Program} {w : World} {K : PySem.W.Frag} {mg : Str → Option Value} {base : Heap}
theorem c_even_rows (T : Txt K mg) : Cal P w K mg base CX0 5 "even_rows" ["code", "number"] [] (VL.SpL K (W_evenr K)) := by
  have c_check_number := @c_check_number P w K mg base T
  obtain ⟨fd, F⟩ := T.c.def_ 12 (d := dd_even_rows) rfl
  refine ⟨_, fd, [], VL.fnL' (CX := CX0) F sc_even_rows ?_ (fun cdv A outer s H E hr => ⟨_, PSs.nox (pss_cons (ps_set (i := 2) sc_even_rows.nd rfl (Or.inl rfl) (pe_ix ix_seq (pe_fld (pv 0) rfl) (pe_cal c_check_number (hr.mono (by decide)) passL (pa_cons (pv 0) (pa_cons (pv 1) pa_nil))) (fun _ _ => rfl)))
 (pss_cons (ps_set (i := 3) sc_even_rows.nd rfl (Or.inl rfl) (pe_lst (pa_cons (pe_tup pa_nil) pa_nil)))
 (pss_cons (ps_for PassesOwn.never rfl (VL.pi_seq (pe_slice sl_tupA (pv 2) (po_some pe_int) po_none)) (pg_name (i := 4) sc_even_rows.nd rfl (Or.inl rfl))
  (pss_one (ps_setLc2 (i := 3) (own := [("row", 5), ("digit", 6)]) (vs1 := [6]) (tt := tYes) (tt1 := tYes) rfl sc_even_rows.nd rfl rfl (sw_true rfl rfl rfl (by decide +kernel)) (VL.pi_seq (pv 3)) (blkOk_by (N := ["code", "number", "check", "rows", "_", "row", "digit"]) (sc := defScope s_even_rows) (by decide +kernel)) (by decide) (fun _ _ _ _ _ => (pg_name (i := 5) sc_even_rows.nd rfl (Or.inl rfl))) (fun _ _ _ _ _ => pts_nil) (fun _ _ _ _ _ => (show PI _ _ _ (VL.iSeq K _) from VL.pi_seq (pe_tup (pa_cons pe_int (pa_cons pe_int pa_nil))))) (fun _ _ _ _ _ => (pg_name (i := 6) sc_even_rows.nd rfl (Or.inl rfl))) (fun _ _ _ _ _ => pts_nil) (fun _ _ _ _ _ => (pe_tup (show PA _ _ (VL.tStar K _ _) from VL.pa_star (pv 5) (pa_cons (pv 6) pa_nil)))))))
 (pss_one (ps_ret (pe_callTy MB.k_tupOf rfl (T.free 9) (by decide +kernel) (pa_cons (pe_lc (own := [("row", 5)]) (g := gName 5) (tt := tYes) rfl sc_even_rows.nd (VL.pi_seq (pv 3)) (blkOk_by (N := ["code", "number", "check", "rows", "_", "row", "digit"]) (sc := defScope s_even_rows) (by decide +kernel)) (fun _ _ _ _ _ => (pg_name (i := 5) sc_even_rows.nd rfl (Or.inl rfl))) (fun _ _ _ _ _ => pts_nil) (fun _ _ _ _ _ => (pe_tup (show PA _ _ (VL.tStar K _ _) from VL.pa_star (pv 5) (pa_cons (pe_op op_mod (pe_callB (show CallR _ (.builtin "sum") (VL.rSumA K) from VL.cr_sumA rfl) rfl (T.free 6) (by decide +kernel) (pa_cons (pv 5) pa_nil)) pe_int) pa_nil))))) pa_nil))))))), ?_⟩), T.glo 34, F.kp, F.bindsN fun _ _ _ _ _ _ us hl => match us, hl with | [_, _], _ => rfl, .nil⟩

  · rintro ds O Q E ⟨n, cs, i, c, rfl, _⟩; rfl
  · rintro ds O Q E ⟨n, cs, i, c, rfl, ⟨hC, hn, hcn⟩, hA, k⟩
    have hcm := List.mem_of_getElem? hA.2
    have hcne := hcn c hcm
    have hcl := (hC.2 c hcm).1
    walk_at "vw"
    refine ⟨_, _, _, rfl, T.cls 80, T.noat 82, rfl, ?_⟩
    walk_at "vw"
    refine ⟨n, cs, .int i, rfl, VL.kn_int, by have := hC.1; omega, ?_⟩
    rw [if_pos (whole_in hA.1 hA.lt)]
    refine VL.o_ixQ rfl rfl hA.row ?_
    walk_at "vw"
    refine VL.s_for (VL.i_seq rfl ?_)
    walk_at "vw"
    obtain ⟨b, r, rfl⟩ := List.exists_cons_of_ne_nil hcne
    have hrl : r.length ≤ 9 := by simpa using hcl
    rw [List.map_cons, cut1]
    refine ⟨_, rfl, ?_⟩
    refine ⟨fun j ρ' O' => O' = O ∧ ∃ x y z, ρ' = [some (VL.codeD (He.ga K "Code") n cs), some (.int i), some (VL.lotD (b :: r)), some (.lst ((VL.digs j).map VL.lotD)), x, y, z], ⟨rfl, none, none, none, rfl⟩, fun _ _ _ _ => rfl, ?_, ?_⟩
    · rintro j d ρ' O' hd ⟨rfl, x, y, z, rfl⟩
      have hj : j < r.length := by
        have := (List.getElem?_eq_some_iff.mp hd).1
        rwa [List.length_map] at this
      have h2 : 2 ^ j ≤ 2 ^ 9 := Nat.pow_le_pow_right (by decide) (by omega)
      walk_at "vw"
      refine VL.l_frz (VL.ln_map2 (fun _ => [.int 0, .int 1]) (fun d e => VL.lotD (lotI d ++ [VL.toI e])) (VL.i_seq rfl ?_))
      walk_at "vw"
      refine ⟨_, rfl, ?_⟩
      rw [longer_fl2]
      refine ⟨by rw [List.length_map, longer_len, VL.digs_len]; omega, fun _ _ => rfl, fun m d O2 hd2 ex => ?_, ?_⟩
      · obtain ⟨l, hl, rfl⟩ := lots_at hd2
        have hll := (VL.digs_mem _ _ (List.mem_of_getElem? hl)).1
        walk_at "vw"
        refine VL.i_seq rfl ?_
        walk_at "vw"
        refine ⟨_, rfl, rfl, rfl, fun _ _ => rfl, fun m2 e O5 he ex2 => ?_⟩
        have he' : ∃ v : Int, e = .int v := by
          match m2, he with
          | 0, he => cases he; exact ⟨0, rfl⟩
          | 1, he => cases he; exact ⟨1, rfl⟩
          | k + 2, he => simp at he
        obtain ⟨v, rfl⟩ := he'
        walk_at "vw"
        refine VL.la_star rfl ?_
        walk_at "vw"
        refine ⟨_, rfl, ?_⟩
        walk_at "vw"
        refine ⟨by rw [List.length_append, List.length_map]; exact VL.le_line (by simp; omega), ?_, rfl⟩
        rw [lotI_lot]
        show _ = VL.D.tup _
        rw [List.map_append]; rfl
      · walk_at "vw"
        exact ⟨rfl, _, _, _, rfl⟩
    · rintro ρ' O' ⟨rfl, x, y, z, rfl⟩
      rw [List.length_map]
      have h2 : 2 ^ r.length ≤ 2 ^ 9 := Nat.pow_le_pow_right (by decide) (by omega)
      walk_at "vw"
      refine VL.ln_map (fun d => VL.lotD (lotI d ++ [(lotI d).sum % 2])) (VL.i_seq rfl ?_)
      walk_at "vw"
      refine ⟨_, rfl, by rw [List.length_map, VL.digs_len]; omega, fun _ _ => rfl, fun m d O2 hd2 ex => ?_, ?_⟩
      · obtain ⟨l, hl, rfl⟩ := lots_at hd2
        have hll := (VL.digs_mem _ _ (List.mem_of_getElem? hl)).1
        walk_at "vw"
        refine VL.la_star rfl ?_
        walk_at "vw"
        refine ⟨_, rfl, ?_⟩
        walk_at "vw"
        refine ⟨by rw [List.length_append, List.length_map]; exact VL.le_line (by simp; omega), ?_, rfl⟩
        rw [lotI_lot]
        show _ = VL.D.tup _
        rw [List.map_append]; rfl
      · have e : ((VL.digs r.length).map VL.lotD).map (fun d => VL.lotD (lotI d ++ [(lotI d).sum % 2])) = ((VL.digs (r.length + 1)).filter VL.evenL).map VL.lotD := by
          rw [VL.digs_even, List.map_map, List.map_map]
          exact List.map_congr_left fun l _ => by
            show VL.lotD (lotI (VL.lotD l) ++ [(lotI (VL.lotD l)).sum % 2]) = _
            rw [lotI_lot]; rfl
        rw [e]
        walk_at "vw"
        exact k
end
end K04
namespace K04
open PySem PySem.Spec PyProof.Rows L2 MB
theorem odd_lot {n : Int} {c ms l : List Int} {cs : List (List Int)} {i : Int} (hC : ChkN n cs) (hA : At cs i c) (hs : c.Pairwise (· < ·)) (hp : List.Perm ms l) (hl : l ∈ VL.odds c) {O : VL.Oh} {t : VL.D} (ht : VL.asS O t = some (ms.map VL.D.int)) :
    VL.isLot O t n = true ∧ VL.chkD (VL.asS O) t = VL.lotD l ∧ l.length ≤ 10 ∧ ms.length ≤ 10 ∧ InR l n ∧ (∀ b ∈ l, b ∈ c) := by
  obtain ⟨h1, h2⟩ := VL.odds_mem.mp hl
  have hcm := List.mem_of_getElem? hA.2
  obtain ⟨hcl, hcb⟩ := hC.1.2 c hcm
  have hls : l.Pairwise (· < ·) := hs.sublist h1
  have hll := h1.length_le
  have hin : ∀ b ∈ l, b ∈ c := fun b hb => h1.subset hb
  refine ⟨?_, ?_, by omega, by rw [hp.length_eq]; omega, fun b hb => hcb b (hin b hb), hin⟩
  · unfold VL.isLot
    rw [ht]
    show VL.lotB _ _ = true
    rw [VL.lotB_ints]
    refine decide_eq_true ⟨fun b hb => hcb b (hin b (hp.subset hb)), hp.symm.nodup (hls.imp fun h => by omega)⟩
  · unfold VL.chkD
    rw [VL.intsA_of ht, VL.srt_congr hp, VL.srt_sorted (hls.imp fun h => Int.le_of_lt h)]
def WG_odd (K : PySem.W.Frag) : VL.WLG := fun ds O Q => ∃ n cs i c, ds = [VL.codeD (He.ga K "Code") n cs, .int i] ∧ ChkN n cs ∧ At cs i c ∧ Q ((VL.odds c).map VL.lotD) O
section
variable {P : Program} {w : World} {K : PySem.W.Frag} {mg : Str → Option Value} {base : Heap}
theorem c_check_odd_lot (T : Txt K mg) : Cal P w K mg base (L2.CX P w) 5 "check_odd_lot" ["code", "number", "lot"] [] (VL.SpL K (W_coddl K)) := by
  have c_check_lot := @c_check_lot P w K mg base T
  obtain ⟨fd, F⟩ := T.c.def_ 15 (d := dd_check_odd_lot) rfl
  refine ⟨_, fd, [], VL.fnL' (CX := (L2.CX P w)) F sc_check_odd_lot ?_ (fun cdv A outer s H E hr => ⟨_, (pss_cons (ps_set (i := 3) sc_check_odd_lot.nd rfl (Or.inl rfl) (pe_cal c_check_lot (hr.mono (by decide)) (passes_call (takes_of rfl rfl rfl rfl) (fun _ _ _ _ h => h)) (pa_cons (pv 0) (pa_cons (pv 2) pa_nil))))
 (pss_cons (ps_if (PW.pt (pw_or (pt_cmpR (VL.op_eqX hr.units) (pe_op op_mod (pe_callB MB.k_len rfl (T.free 3) PySem.boot_len (pa_cons (pv 3) pa_nil)) pe_int) pe_int (nomark _)) (pw_or1 (pt_not (pt_val (pe_callB (cr_all rfl) rfl (T.free 5) (by decide +kernel) (pa_cons (pe_lc (own := [("bit", 4)]) (g := gName 4) (tt := tYes) rfl sc_check_odd_lot.nd (VL.pi_seq (pv 3)) (blkOk_by (N := ["code", "number", "lot", "bits", "bit"]) (sc := defScope s_check_odd_lot) (by decide +kernel)) (fun _ _ _ _ _ => (pg_name (i := 4) sc_check_odd_lot.nd rfl (Or.inl rfl))) (fun _ _ _ _ _ => pts_nil) (fun _ _ _ _ _ => (pe_cmpR (show OpR _ (compareOp .In) (rIn K false) from op_in_seq) (pv 4) (pe_ix (show IxR _ (rIx K) from ix_seq) (show PE _ _ (tFld K _ _) from (pe_fld (pv 0) rfl)) (pv 1) (fun _ _ => rfl)) rfl))) pa_nil)))))))
  (pss_one (ps_raise rfl (takes_of rfl rfl rfl rfl) (pmk_own0 PySem.F.excBase_ValueError (T.de 3).1 (T.glo 19) (T.de 3).2.1 (raises_own (T.de 3).2.2.1 (T.de 3).2.2.2) rfl)))
  pss_nil)
 (pss_one (ps_ret (pv 3))))), ?_⟩), T.glo 37, F.kp, F.bindsN fun _ _ _ _ _ _ us hl => match us, hl with | [_, _, _], _ => rfl, .nil⟩

  · rintro ds O Q E ⟨n, cs, i, c, t, ms, l, rfl, _⟩; rfl
  · rintro ds O Q E ⟨n, cs, i, c, t, ms, l, rfl, hC, hA, hs, hkt, ht, hp, hl, k⟩
    obtain ⟨o1, o2, o3, o4, o5, o6⟩ := odd_lot hC hA hs hp hl ht
    have o7 := (VL.odds_mem.mp hl).2
    refine VL.s_seq (VL.s_asg (VL.l_callX (dds := []) (fun _ => rfl) (fun _ => .nil) ?_))
    walk_at "vw"
    refine ⟨n, cs, t, rfl, ⟨hkt, fun xs hx => ?_⟩, ?_⟩
    · rw [ht] at hx; cases hx
      refine ⟨by rw [List.length_map]; omega, fun x hx => ?_⟩
      obtain ⟨b, _, rfl⟩ := List.mem_map.mp hx
      exact VL.kn_int
    rw [if_pos o1, o2]
    walk_at "vw"
    refine if_i (fun h => absurd h (by rw [List.length_map]; omega)) (fun _ => ?_)
    walk_at "vw"
    refine VL.ln_map (fun _ => .bl true) (VL.i_seq rfl ?_)
    walk_at "vw"
    refine ⟨_, rfl, by rw [List.length_map]; omega, fun _ _ => rfl, fun j d O2 hd2 ex => ?_, ?_⟩
    · obtain ⟨b, hb, rfl⟩ := VL.map_int_at hd2
      walk_at "vw"
      refine ⟨_, _, _, rfl, T.cls 80, T.noat 82, rfl, ?_⟩
      walk_at "vw"
      refine VL.o_ixQ rfl rfl hA.row ?_
      walk_at "vw"
      exact ⟨by rw [decide_eq_true (o6 b (List.mem_of_getElem? hb))], rfl⟩
    · walk_at "vw"
      rw [List.all_eq_true.mpr fun _ _ => rfl]
      walk_at "vw"
      exact k
theorem c_excess_of (T : Txt K mg) : Cal P w K mg base CX0 6 "excess_of" ["code", "number", "lot", "row"] [] (VL.SpL K (W_excess K)) := by
  have c_check_odd_lot := @c_check_odd_lot P w K mg base T
  have c_over_one_bottom := @c_over_one_bottom P w K mg base T
  have c_lowest := @c_lowest P w K mg base T
  have c_check_number := @c_check_number P w K mg base T
  have c_check_row := @c_check_row P w K mg base T
  have c_excess_top := @c_excess_top P w K mg base T
  obtain ⟨fd, F⟩ := T.c.def_ 17 (d := dd_excess_of) rfl
  refine ⟨_, fd, [], VL.fnL' (CX := CX0) F sc_excess_of ?_ (fun cdv A outer s H E hr => ⟨_, PSs.nox (pss_cons (ps_set (i := 4) sc_excess_of.nd rfl (Or.inl rfl) (pe_ix ix_seq (pe_fld (pv 0) rfl) (pe_cal c_check_number (hr.mono (by decide)) passL (pa_cons (pv 0) (pa_cons (pv 1) pa_nil))) (fun _ _ => rfl)))
 (pss_cons (ps_set (i := 5) sc_excess_of.nd rfl (Or.inl rfl) (pe_cal c_check_odd_lot (hr.mono (by decide)) passL (pa_cons (pv 0) (pa_cons (pv 1) (pa_cons (pv 2) pa_nil)))))
 (pss_cons (ps_asg (pe_cal c_over_one_bottom (hr.mono (by decide)) pass0 (pa_cons (pe_cal c_check_row (hr.mono (by decide)) passL (pa_cons (pv 0) (pa_cons (pv 3) pa_nil))) pa_nil)) (pg_tup rfl (pgs_cons (pg_name (i := 6) sc_excess_of.nd rfl (Or.inl rfl)) (pgs_cons (pg_name (i := 7) sc_excess_of.nd rfl (Or.inl rfl)) pgs_nil))))
 (pss_one (ps_ret (pe_cal c_lowest (hr.mono (by decide)) pass0 (pa_cons (pe_cal c_excess_top (hr.mono (by decide)) pass0 (pa_cons (pv 4) (pa_cons (pv 5) (pa_cons (pv 6) (pa_cons (pv 7) pa_nil))))) (pa_cons (pv 7) pa_nil)))))))), ?_⟩), T.glo 39, F.kp, F.bindsN fun _ _ _ _ _ _ us hl => match us, hl with | [_, _, _, _], _ => rfl, .nil⟩

  · rintro ds O Q E ⟨n, cs, i, c, t, ms, l, d, rs, rfl, _⟩; rfl
  · rintro ds O Q E ⟨n, cs, i, c, t, ms, l, d, rs, rfl, hC, hA, hs, hkt, ht, hp, hl, ⟨hkd, hd, hrl, hS⟩, k⟩
    have hcm := List.mem_of_getElem? hA.2
    obtain ⟨hcl, hcb⟩ := hC.1.2 c hcm
    obtain ⟨o1, o2, o3, o4, o5, o6⟩ := odd_lot hC hA hs hp hl ht
    have hlt := sml_lcm hS (i := rs.length) (Nat.le_refl _)
    rw [List.take_length] at hlt
    have hpos : 0 < VL.lcms rs := VL.lcms_pos fun r hr => (sml_at hS hr).1
    have htl : (VL.topsL rs (VL.lcms rs)).length = rs.length := List.length_map _
    walk_at "vw"
    refine ⟨_, _, _, rfl, T.cls 80, T.noat 82, rfl, ?_⟩
    walk_at "vw"
    refine ⟨n, cs, .int i, rfl, VL.kn_int, by have := hC.1.1; omega, ?_⟩
    rw [if_pos (whole_in hA.1 hA.lt)]
    refine VL.o_ixQ rfl rfl hA.row ?_
    walk_at "vw"
    refine ⟨n, cs, i, c, t, ms, l, rfl, hC, hA, hs, hkt, ht, hp, hl, ?_⟩
    walk_at "vw"
    refine ⟨n, cs, d, rfl, hkd, (row_its hkd hd).2, ?_⟩
    rw [share_row hd hrl hS.shr]
    rw [show VL.itemsA (VL.asS O) d = rs.map VL.ratD from by unfold VL.itemsA; rw [hd]; rfl]
    show VL.LA _ _ _ _ _
    walk_at "vw"
    refine ⟨_, rs, rfl, rfl, hS.shr, ?_⟩
    walk_at "vw"
    refine ⟨c, l, _, VL.topsL rs (VL.lcms rs), _, rfl, rfl, by omega, by omega, fun b hb => ?_, fun b hb => ?_, Nat.lt_of_lt_of_le (show (((VL.lcms rs : Nat) : Int)).natAbs < 2 ^ 301 by omega) (Nat.pow_le_pow_right (by decide) (by decide)), ?_⟩
    · have := hcb b hb; omega
    · have := o5 b hb; omega
    · walk_at "vw"
      refine ⟨_, _, rfl, by omega, Int.lt_trans (show ((VL.lcms rs : Nat) : Int) < 2 ^ 301 by omega) (by decide), ?_⟩
      walk_at "vw"
      exact k
theorem c_worst_lot (T : Txt K mg) : Cal P w K mg base CX0 5 "worst_lot" ["code", "number", "row"] [] (VL.SpL K (W_worstl K)) := by
  have c_over_one_bottom := @c_over_one_bottom P w K mg base T
  have c_worst_on := @c_worst_on P w K mg base T
  have c_check_number := @c_check_number P w K mg base T
  have c_check_row := @c_check_row P w K mg base T
  have c_lowest := @c_lowest P w K mg base T
  obtain ⟨fd, F⟩ := T.c.def_ 21 (d := dd_worst_lot) rfl
  refine ⟨_, fd, [], VL.fnL' (CX := CX0) F sc_worst_lot ?_ (fun cdv A outer s H E hr => ⟨_, PSs.nox (pss_cons (ps_set (i := 3) sc_worst_lot.nd rfl (Or.inl rfl) (pe_ix ix_seq (pe_fld (pv 0) rfl) (pe_cal c_check_number (hr.mono (by decide)) passL (pa_cons (pv 0) (pa_cons (pv 1) pa_nil))) (fun _ _ => rfl)))
 (pss_cons (ps_asg (pe_cal c_over_one_bottom (hr.mono (by decide)) pass0 (pa_cons (pe_cal c_check_row (hr.mono (by decide)) passL (pa_cons (pv 0) (pa_cons (pv 2) pa_nil))) pa_nil)) (pg_tup rfl (pgs_cons (pg_name (i := 4) sc_worst_lot.nd rfl (Or.inl rfl)) (pgs_cons (pg_name (i := 5) sc_worst_lot.nd rfl (Or.inl rfl)) pgs_nil))))
 (pss_cons (ps_asg (pe_cal c_worst_on (hr.mono (by decide)) pass0 (pa_cons (pv 3) (pa_cons (pv 4) (pa_cons (pv 5) pa_nil)))) (pg_tup rfl (pgs_cons (pg_name (i := 6) sc_worst_lot.nd rfl (Or.inl rfl)) (pgs_cons (pg_name (i := 7) sc_worst_lot.nd rfl (Or.inl rfl)) pgs_nil))))
 (pss_one (ps_ret (pe_tup (pa_cons (pv 6) (pa_cons (pe_cal c_lowest (hr.mono (by decide)) pass0 (pa_cons (pv 7) (pa_cons (pv 5) pa_nil))) pa_nil)))))))), ?_⟩), T.glo 43, F.kp, F.bindsN fun _ _ _ _ _ _ us hl => match us, hl with | [_, _, _], _ => rfl, .nil⟩

  · rintro ds O Q E ⟨n, cs, i, c, d, rs, rfl, _⟩; rfl
  · rintro ds O Q E ⟨n, cs, i, c, d, rs, rfl, hC, hA, ⟨hkd, hd, hrl, hS⟩, k⟩
    have hcm := List.mem_of_getElem? hA.2
    obtain ⟨hcl, hcb⟩ := hC.1.2 c hcm
    have hlt := sml_lcm hS (i := rs.length) (Nat.le_refl _)
    rw [List.take_length] at hlt
    have hpos : 0 < VL.lcms rs := VL.lcms_pos fun r hr => (sml_at hS hr).1
    have htl : (VL.topsL rs (VL.lcms rs)).length = rs.length := List.length_map _
    walk_at "vw"
    refine ⟨_, _, _, rfl, T.cls 80, T.noat 82, rfl, ?_⟩
    walk_at "vw"
    refine ⟨n, cs, .int i, rfl, VL.kn_int, by have := hC.1.1; omega, ?_⟩
    rw [if_pos (whole_in hA.1 hA.lt)]
    refine VL.o_ixQ rfl rfl hA.row ?_
    walk_at "vw"
    refine ⟨n, cs, d, rfl, hkd, (row_its hkd hd).2, ?_⟩
    rw [share_row hd hrl hS.shr]
    rw [show VL.itemsA (VL.asS O) d = rs.map VL.ratD from by unfold VL.itemsA; rw [hd]; rfl]
    show VL.LA _ _ _ _ _
    walk_at "vw"
    refine ⟨_, rs, rfl, rfl, hS.shr, ?_⟩
    walk_at "vw"
    refine ⟨c, _, VL.topsL rs (VL.lcms rs), _, rfl, rfl, hC.2.2 c hcm, by omega, fun b hb => ?_, ?_⟩
    · have := hcb b hb; omega
    · walk_at "vw"
      refine ⟨_, _, rfl, by omega, Int.lt_trans (show ((VL.lcms rs : Nat) : Int) < 2 ^ 301 by omega) (by decide), ?_⟩
      walk_at "vw"
      exact k
theorem c_tight_lots (T : Txt K mg) : Cal P w K mg base CX0 5 "tight_lots" ["code", "row"] [] (VL.SpL K (W_tight K)) := by
  have c_over_one_bottom := @c_over_one_bottom P w K mg base T
  have c_check_row := @c_check_row P w K mg base T
  have c_odd_lots_of := @c_odd_lots_of P w K mg base T
  have c_excess_top := @c_excess_top P w K mg base T
  obtain ⟨fd, F⟩ := T.c.def_ 24 (d := dd_tight_lots) rfl
  refine ⟨_, fd, [], VL.fnL' (CX := CX0) F sc_tight_lots ?_ (fun cdv A outer s H E hr => ⟨_, PSs.nox (pss_cons (ps_asg (pe_cal c_over_one_bottom (hr.mono (by decide)) pass0 (pa_cons (pe_cal c_check_row (hr.mono (by decide)) passL (pa_cons (pv 0) (pa_cons (pv 1) pa_nil))) pa_nil)) (pg_tup rfl (pgs_cons (pg_name (i := 2) sc_tight_lots.nd rfl (Or.inl rfl)) (pgs_cons (pg_name (i := 3) sc_tight_lots.nd rfl (Or.inl rfl)) pgs_nil))))
 (pss_cons (ps_set (i := 4) sc_tight_lots.nd rfl (Or.inl rfl) (VL.pe_own (pe_lst pa_nil)))
 (pss_cons (ps_for PassesOwn.never rfl (VL.pi_enumA rfl (T.free 8) (pa_cons (pe_fld (pv 0) rfl) pa_nil)) (pg_tup rfl (pgs_cons (pg_name (i := 5) sc_tight_lots.nd rfl (Or.inl rfl)) (pgs_cons (pg_name (i := 6) sc_tight_lots.nd rfl (Or.inl rfl)) pgs_nil)))
  (pss_one (ps_for PassesOwn.never rfl (VL.pi_seq (pe_cal c_odd_lots_of (hr.mono (by decide)) pass0 (pa_cons (pv 6) pa_nil))) (pg_name (i := 7) sc_tight_lots.nd rfl (Or.inl rfl))
  (pss_one (ps_if (pt_cmpR (VL.op_eqX hr.units) (pe_cal c_excess_top (hr.mono (by decide)) pass0 (pa_cons (pv 6) (pa_cons (pv 7) (pa_cons (pv 2) (pa_cons (pv 3) pa_nil))))) pe_int (nomark _))
  (pss_one (ps_expr (pe_bm PySem.F.plainAttrs_list PySem.F.slot_list_append PySem.F.type_list_append mt_append (pv 4) (pa_cons (pe_tup (pa_cons (pv 5) (pa_cons (pv 7) pa_nil))) pa_nil))))
  pss_nil)))))
 (pss_one (ps_ret (pe_callTy MB.k_tupOf rfl (T.free 9) (by decide +kernel) (pa_cons (pv 4) pa_nil))))))), ?_⟩), T.glo 46, F.kp, F.bindsN fun _ _ _ _ _ _ us hl => match us, hl with | [_, _], _ => rfl, .nil⟩

  · rintro ds O Q E ⟨n, cs, d, rs, rfl, _⟩; rfl
  · rintro ds O Q E ⟨n, cs, d, rs, rfl, hC, ⟨hkd, hd, hrl, hS⟩, k⟩
    have hlt := sml_lcm hS (i := rs.length) (Nat.le_refl _)
    rw [List.take_length] at hlt
    have htl : (VL.topsL rs (VL.lcms rs)).length = rs.length := List.length_map _
    have hc10 : ∀ c ∈ cs, c.length ≤ 10 := fun c hc => (hC.1.2 c hc).1
    have h63 := hC.1.1
    walk_at "vw"
    refine ⟨n, cs, d, rfl, hkd, (row_its hkd hd).2, ?_⟩
    rw [share_row hd hrl hS.shr]
    rw [show VL.itemsA (VL.asS O) d = rs.map VL.ratD from by unfold VL.itemsA; rw [hd]; rfl]
    show VL.LA _ _ _ _ _
    walk_at "vw"
    refine ⟨_, rs, rfl, rfl, hS.shr, ?_⟩
    walk_at "vw"
    generalize hts : VL.topsL rs (VL.lcms rs) = ts at *
    generalize hL : ((VL.lcms rs : Nat) : Int) = L at *
    intro r hr
    walk_at "vw"
    refine VL.s_for (VL.i_enumA rfl ?_)
    walk_at "vw"
    refine ⟨_, _, _, rfl, T.cls 80, T.noat 82, rfl, ?_⟩
    walk_at "vw"
    refine ⟨_, _, rfl, rfl, ?_⟩
    refine ⟨fun i ρ' O' => O' = VL.updO O r (.lst (tightN ts L cs i)) ∧ ∃ x y z, ρ' = [some (VL.codeD (He.ga K "Code") n cs), some d, some (.tup (ts.map VL.D.int)), some (.int L), some (.ref r), x, y, z], ⟨rfl, none, none, none, rfl⟩, fun _ _ _ _ => rfl, ?_, ?_⟩
    · rintro i d0 ρ' O' hd0 ⟨rfl, x, y, z, rfl⟩
      obtain ⟨q, hq, rfl⟩ := VL.enumD_at hd0
      obtain ⟨c, hc, rfl⟩ := VL.rows_at hq
      have hcm := List.mem_of_getElem? hc
      obtain ⟨hcl, hcb⟩ := hC.1.2 c hcm
      have hi : i < cs.length := (List.getElem?_eq_some_iff.mp hc).1
      have hg : cs.getD i [] = c := by rw [List.getD_eq_getElem?_getD, hc]; rfl
      have hsz := tight_len (ts := ts) (L := L) hc10 i
      have hol := odds_le hcl
      walk_at "vw"
      refine VL.s_for (VL.i_seq rfl ?_)
      walk_at "vw"
      refine ⟨c, rfl, by omega, ?_⟩
      refine ⟨_, rfl, ?_⟩
      refine ⟨fun j ρ' O' => O' = VL.updO O r (.lst (tightN ts L cs i ++ (((VL.odds c).take j).filter fun l => decide (excT ts L c l = 0)).map fun l => .tup [.int (i : Nat), VL.lotD l])) ∧ ∃ z, ρ' = [some (VL.codeD (He.ga K "Code") n cs), some d, some (.tup (ts.map VL.D.int)), some (.int L), some (.ref r), some (.int (i : Nat)), some (VL.lotD c), z], ⟨by simp, z, rfl⟩, fun _ _ _ _ => rfl, ?_, ?_⟩
      · rintro j d1 ρ' O' hd1 ⟨rfl, z, rfl⟩
        obtain ⟨l, hl, rfl⟩ := lots_at hd1
        have hll := (VL.odds_mem.mp (List.mem_of_getElem? hl)).1
        have hl10 := hll.length_le
        have hsz2 := List.length_filter_le (fun l => decide (excT ts L c l = 0)) ((VL.odds c).take j)
        rw [List.length_take] at hsz2
        walk_at "vw"
        refine ⟨c, l, _, ts, L, rfl, rfl, by omega, by omega, fun b hb => ?_, fun b hb => ?_, Nat.lt_of_lt_of_le (show L.natAbs < 2 ^ 301 by omega) (Nat.pow_le_pow_right (by decide) (by decide)), ?_⟩
        · have := hcb b hb; omega
        · have := hcb b (hll.subset hb); omega
        walk_at "vw"
        refine if_i (fun h => ?_) (fun h => ?_)
        · walk_at "vw"
          refine VL.m_append VL.updO_same (VL.lt_line (show (tightN ts L cs i ++ (((VL.odds c).take j).filter fun l => decide (excT ts L c l = 0)).map fun l => VL.D.tup [.int (i : Nat), VL.lotD l]).length < 100000 by rw [List.length_append, List.length_map]; omega)) ?_
          rw [VL.updO_updO]
          walk_at "vw"
          refine ⟨?_, _, rfl⟩
          rw [List.take_add_one, hl, List.filter_append, List.map_append, ← List.append_assoc]
          simp [h]
        · walk_at "vw"
          refine ⟨?_, _, rfl⟩
          rw [List.take_add_one, hl, List.filter_append, List.map_append, ← List.append_assoc]
          simp [h]
      · rintro ρ' O' ⟨rfl, z, rfl⟩
        rw [List.length_map, List.take_length]
        walk_at "vw"
        refine ⟨?_, _, _, _, rfl⟩
        show _ = VL.updO O r (.lst (tightN ts L cs i ++ _))
        rw [hg]
    · rintro ρ' O' ⟨rfl, x, y, z, rfl⟩
      rw [VL.enumD_len, List.length_map]
      refine VL.s_ret (VL.l_del r ?_)
      walk_at "vw"
      rw [VL.delO_updO hr]
      exact k
theorem c_odd_lots (T : Txt K mg) : VL.GCal P w K mg base 6 "odd_lots" ["code", "number"] (WG_odd K) := by
  have c_odd_lots_of := @c_odd_lots_of P w K mg base T
  have c_check_number := @c_check_number P w K mg base T
  obtain ⟨fd, F⟩ := T.c.def_ 14 (d := dd_odd_lots) rfl
  refine ⟨_, fd, VL.gfnL F sc_odd_lots ?_ (fun cdv A outer s H E pn hr => ⟨_, (gss_cons (gs_yieldFrom (VL.yf_lst (pe_cal c_odd_lots_of (hr.mono (by decide)) pass0 (pa_cons (pe_ix ix_seq (pe_fld (pv 0) rfl) (pe_cal c_check_number (hr.mono (by decide)) passL (pa_cons (pv 0) (pa_cons (pv 1) pa_nil))) (fun _ _ => rfl)) pa_nil))) hr.hd) gss_nil), ?_⟩), T.glo 36, F.kp, F.bindsN fun _ _ _ _ _ _ us hl => match us, hl with | [_, _], _ => rfl⟩

  · rintro ds O Q ⟨n, cs, i, c, rfl, _⟩; rfl
  · rintro ds O Q ⟨n, cs, i, c, rfl, hC, hA, k⟩
    have hcl := (hC.1.2 c (List.mem_of_getElem? hA.2)).1
    refine VL.lgn_fromL ?_
    walk_at "vw"
    refine ⟨_, _, _, rfl, T.cls 80, T.noat 82, rfl, ?_⟩
    walk_at "vw"
    refine ⟨n, cs, .int i, rfl, VL.kn_int, by have := hC.1.1; omega, ?_⟩
    rw [if_pos (whole_in hA.1 hA.lt)]
    refine VL.o_ixQ rfl rfl hA.row ?_
    walk_at "vw"
    refine ⟨c, rfl, by omega, ?_⟩
    have hol := odds_le hcl
    exact ⟨_, rfl, by rw [List.length_map]; omega, k⟩
end
end K04
namespace K04
open PySem PySem.Spec PyProof.Rows L2 MB
def lowP (t b : Int) : Int × Int := (t.fdiv (K00.gd t b), b.fdiv (K00.gd t b))
theorem lowD_P (t b : Int) : lowD t b = VL.ratD (lowP t b) := rfl
theorem lowP_eq {t b : Int} (hb : 0 < b) : ∃ g : Nat, 0 < g ∧ g = Nat.gcd t.natAbs b.natAbs ∧ lowP t b = (t / (g : Int), b / (g : Int)) := by
  have hg : 0 < Nat.gcd t.natAbs b.natAbs := Nat.gcd_pos_of_pos_right _ (by omega)
  refine ⟨_, hg, rfl, ?_⟩
  unfold lowP K00.gd
  rw [Int.fdiv_eq_ediv_of_nonneg _ (by omega), Int.fdiv_eq_ediv_of_nonneg _ (by omega)]
theorem lowP_share {t b : Int} (h0 : 0 ≤ t) (h1 : t ≤ b) (hb : 0 < b) : VL.isShare (VL.ratD (lowP t b)) = true ∧ (lowP t b).2 ≤ b := by
  obtain ⟨g, hg, e, h⟩ := lowP_eq (t := t) hb
  rw [h]
  refine ⟨?_, Int.ediv_le_self _ (by omega)⟩
  have := VL.low_share h0 h1 hb
  rw [← e] at this
  exact this
theorem perm_erase {α : Type} : ∀ (l : List α) (i : Nat) (h : i < l.length), (l[i] :: l.eraseIdx i).Perm l
  | _ :: _, 0, _ => List.Perm.refl _
  | a :: l, i + 1, h => (List.Perm.swap a (l[i]'(by simpa using h)) (l.eraseIdx i)).trans (List.Perm.cons a (perm_erase l i (by simpa using h)))
def W_within : VL.WL := fun ds O Q _ => ∃ (p : Addr) (t : VL.D) (ns : List Int), ds = [.ref p, t] ∧ O p = some .hand ∧ VL.asS O t = some (ns.map VL.D.int) ∧ ns.length ≤ 100 ∧ ∀ ms : List Int, ms.length ≤ ns.length → Q (.tup (ms.map VL.D.int)) O
def W_shuf : VL.WL := fun ds O Q _ => ∃ (p : Addr) (ns : List Int), ds = [.ref p, VL.lotD ns] ∧ O p = some .hand ∧ ns.length ≤ 1000 ∧ ∀ ms : List Int, ms.Perm ns → Q (.lst (ms.map VL.D.int)) O
def W_given : VL.WL := fun ds O Q _ => ∃ (p : Addr) (t : VL.D) (xs : List VL.D), ds = [.ref p, t] ∧ O p = some .hand ∧ VL.asS O t = some xs ∧ Q (.lst xs) O ∧ Q (.tup xs) O
def W_gchecks : VL.WL := fun ds O Q _ => ∃ (p : Addr) (t : VL.D) (cs : List (List Int)), ds = [.ref p, t] ∧ O p = some .hand ∧ VL.asS O t = some (cs.map VL.lotD) ∧ cs.length ≤ 1000 ∧ (∀ c ∈ cs, c.length ≤ 1000) ∧ ∀ es : List VL.D, es.length = cs.length → (∀ (i : Nat) (e : VL.D) (c : List Int), es[i]? = some e → cs[i]? = some c → ∃ m : List Int, m.Perm c ∧ (e = .lst (m.map VL.D.int) ∨ e = .tup (m.map VL.D.int))) → Q (.lst es) O
def W_stop : VL.WL := fun ds O Q _ => ∃ (t u : VL.D) (cs : List (List Int)) (ns : List Int), ds = [t, u] ∧ VL.asS O t = some (cs.map VL.lotD) ∧ cs.length ≤ 63 ∧ (∀ c ∈ cs, c.length ≤ 10) ∧ VL.asS O u = some (ns.map VL.D.int) ∧ ns.length ≤ 10 ∧ ∀ ms : List Int, ms.length ≤ 10 → Q (.tup (ms.map VL.D.int)) O
section
variable {P : Program} {w : World} {K : PySem.W.Frag} {mg : Str → Option Value} {base : Heap}
theorem c_l_within (T : Txt K mg) : Cal P w K mg base CX0 3 "_law_within" ["_law_hand_here", "_law_bits"] [] (VL.SpL K W_within) := by
  have c_l_draw := @c_l_draw P w K mg base T
  obtain ⟨fd, F⟩ := T.c.def_ 35 (d := dd_l_within) rfl
  refine ⟨_, fd, [], VL.fnL' (CX := CX0) F sc_l_within ?_ (fun cdv A outer s H E hr => ⟨_, PSs.nox (pss_one (ps_ret (pe_callTy MB.k_tupOf rfl (T.free 9) (by decide +kernel) (pa_cons (pe_lc (own := [("_law_bit", 2)]) (g := gName 2) rfl sc_l_within.nd (VL.pi_seq (pv 1)) (blkOk_by (N := ["_law_hand_here", "_law_bits", "_law_bit"]) (sc := defScope s_l_within) (by decide +kernel)) (fun _ _ _ _ _ => (pg_name (i := 2) sc_l_within.nd rfl (Or.inl rfl))) (fun _ _ _ _ _ => pts_one (pt_cmpR (show OpR _ (compareOp .Eq) (VL.rEqX K) from VL.op_eqX hr.units) (pe_cal c_l_draw (hr.mono (by decide)) pass0 (pa_cons (pv 0) (pa_cons pe_int pa_nil))) pe_int (nomark _))) (fun _ _ _ _ _ => (pv 2))) pa_nil)))), ?_⟩), T.glo 57, F.kp, F.bindsN fun _ _ _ _ _ _ us hl => match us, hl with | [_, _], _ => rfl, .nil⟩

  · rintro ds O Q E ⟨p, t, ns, rfl, _⟩; rfl
  · rintro ds O Q E ⟨p, t, ns, rfl, hp, ht, hn, k⟩
    walk_at "vw"
    refine VL.ln_sub (VL.i_seq rfl ?_)
    walk_at "vw"
    refine ⟨_, ht, by rw [List.length_map]; omega, fun O2 x => VL.asS_ext x ht, fun j d O2 hd ex => ?_, fun ys hy => ?_⟩
    · walk_at "vw"
      refine ⟨p, 2, rfl, ex p _ hp, by decide, by decide, fun v h0 h1 => ?_⟩
      walk_at "vw"
      exact ⟨rfl, VL.l_var rfl ⟨rfl, rfl⟩⟩
    · obtain ⟨ms, hm, rfl⟩ := List.sublist_map_iff.mp hy
      walk_at "vw"
      exact k ms hm.length_le
theorem c_l_shuffled (T : Txt K mg) : Cal P w K mg base CX0 3 "_law_shuffled" ["_law_hand_here", "_law_things"] [] (VL.SpL K W_shuf) := by
  have c_l_draw := @c_l_draw P w K mg base T
  obtain ⟨fd, F⟩ := T.c.def_ 36 (d := dd_l_shuffled) rfl
  refine ⟨_, fd, [], VL.fnL' (CX := CX0) F sc_l_shuffled ?_ (fun cdv A outer s H E hr => ⟨_, PSs.nox (pss_cons (ps_set (i := 2) sc_l_shuffled.nd rfl (Or.inl rfl) (VL.pe_own (pe_callTy MB.k_listOf rfl (T.free 10) (by decide +kernel) (pa_cons (pv 1) pa_nil))))
 (pss_cons (ps_set (i := 3) sc_l_shuffled.nd rfl (Or.inl rfl) (VL.pe_own (pe_lst pa_nil)))
 (pss_cons (ps_for PassesOwn.never rfl (pi_range1 rfl (T.free 7) (pa_cons (pe_callB MB.k_len rfl (T.free 3) PySem.boot_len (pa_cons (pv 1) pa_nil)) pa_nil)) (pg_name (i := 4) sc_l_shuffled.nd rfl (Or.inl rfl))
  (pss_one (ps_expr (pe_bm PySem.F.plainAttrs_list PySem.F.slot_list_append PySem.F.type_list_append mt_append (pv 3) (pa_cons (pe_bm PySem.F.plainAttrs_list PySem.F.slot_list_pop PySem.F.type_list_pop mt_popAt (pv 2) (pa_cons (pe_cal c_l_draw (hr.mono (by decide)) pass0 (pa_cons (pv 0) (pa_cons (pe_callB MB.k_len rfl (T.free 3) PySem.boot_len (pa_cons (pv 2) pa_nil)) pa_nil))) pa_nil)) pa_nil)))))
 (pss_one (ps_ret (pv 3)))))), ?_⟩), T.glo 58, F.kp, F.bindsN fun _ _ _ _ _ _ us hl => match us, hl with | [_, _], _ => rfl, .nil⟩

  · rintro ds O Q E ⟨p, ns, rfl, _⟩; rfl
  · rintro ds O Q E ⟨p, ns, rfl, hp, hn, k⟩
    walk_at "vw"
    intro q hq
    have npq := VL.ne_of hp hq
    walk_at "vw"
    intro r hr1
    have nrq := VL.new_ne hr1
    have npr := VL.ne_of hp (VL.new_old hr1)
    walk_at "vw"
    refine VL.s_for (VL.i_rng1 ?_)
    walk_at "vw"
    refine VL.ex_r1 ⟨by rw [List.length_map]; omega, by rw [List.length_map]; omega⟩ ?_
    refine ⟨fun i ρ' O' => ∃ (pool out : List Int) (x : Option VL.D), O' = VL.updO (VL.updO O q (.lst (pool.map VL.D.int))) r (.lst (out.map VL.D.int)) ∧ ρ' = [some (.ref p), some (VL.lotD ns), some (.ref q), some (.ref r), x] ∧ (pool ++ out).Perm ns ∧ out.length = i,
      ⟨ns, [], none, rfl, rfl, by rw [List.append_nil], rfl⟩, fun _ _ _ _ => trivial, ?_, ?_⟩
    · rintro i d ρ' O' hd ⟨pool, out, x, rfl, rfl, hpm, hol⟩
      obtain ⟨hi, rfl⟩ := VL.rngD_at hd
      have htl := hpm.length_eq
      rw [List.length_append] at htl
      rw [List.length_map] at hi
      have hpool : 0 < (pool.length : Int) := by omega
      walk_at "vw"
      refine ⟨p, _, rfl, ?_, ?_, ?_, fun j hj0 hj1 => ?_⟩
      · walk_at "ol"
      · rw [List.length_map]; omega
      · rw [List.length_map]; omega
      · rw [List.length_map] at hj1
        have hj2 : j.toNat < pool.length := by omega
        walk_at "vw"
        have e1 : seqIndex? j (pool.map VL.D.int).length = some j.toNat := VL.seqIx hj0 (by rw [List.length_map]; exact hj1)
        have e2 : (pool.map VL.D.int)[j.toNat]? = some (.int pool[j.toNat]) := by rw [List.getElem?_map, List.getElem?_eq_getElem hj2]; rfl
        refine VL.m_popAt (by walk_at "ol") ⟨by omega, by omega⟩ e1 e2 ?_
        walk_at "vw"
        refine VL.m_append (xs := out.map VL.D.int) (by walk_at "ol") (VL.lt_line (by rw [List.length_map]; omega)) ?_
        refine ⟨pool.eraseIdx j.toNat, out ++ [pool[j.toNat]], _, ?_, rfl, ?_, ?_⟩
        · rw [VL.updO_comm nrq, VL.updO_updO, VL.updO_updO, List.map_append, VL.map_erase]
          rfl
        · refine List.Perm.trans ?_ hpm
          rw [← List.append_assoc]
          refine (List.perm_append_comm).trans ?_
          show (pool[j.toNat] :: (pool.eraseIdx j.toNat ++ out)).Perm _
          rw [← List.cons_append]
          refine List.Perm.append_right _ ?_
          exact perm_erase _ _ hj2
        · rw [List.length_append, hol]; rfl
    · rintro ρ' O' ⟨pool, out, x, rfl, rfl, hpm, hol⟩
      rw [VL.rngD_len, List.length_map, Int.toNat_natCast] at hol
      have htl := hpm.length_eq
      rw [List.length_append] at htl
      have hp0 : pool = [] := List.length_eq_zero_iff.mp (by omega)
      subst hp0
      refine VL.s_ret (VL.l_del q (VL.l_freeze (VL.l_var rfl ⟨r, _, rfl, VL.updO_same, ?_⟩)))
      rw [VL.delO_updO (show VL.updO O q _ r = none by rw [VL.updO_ne nrq]; exact VL.new_old hr1), VL.delO_updO hq]
      exact k out hpm
theorem c_l_given (T : Txt K mg) : Cal P w K mg base CX0 3 "_law_given" ["_law_hand_here", "_law_things"] [] (VL.SpL K W_given) := by
  have c_l_draw := @c_l_draw P w K mg base T
  obtain ⟨fd, F⟩ := T.c.def_ 49 (d := dd_l_given) rfl
  refine ⟨_, fd, [], VL.fnL' (CX := CX0) F sc_l_given ?_ (fun cdv A outer s H E hr => ⟨_, PSs.nox (pss_cons (ps_if (pt_cmpR (VL.op_eqX hr.units) (pe_cal c_l_draw (hr.mono (by decide)) pass0 (pa_cons (pv 0) (pa_cons pe_int pa_nil))) pe_int (nomark _))
  (pss_one (ps_ret (pe_callTy MB.k_listOf rfl (T.free 10) (by decide +kernel) (pa_cons (pv 1) pa_nil))))
  pss_nil)
 (pss_one (ps_ret (pe_callTy MB.k_tupOf rfl (T.free 9) (by decide +kernel) (pa_cons (pv 1) pa_nil))))), ?_⟩), T.glo 71, F.kp, F.bindsN fun _ _ _ _ _ _ us hl => match us, hl with | [_, _], _ => rfl, .nil⟩

  · rintro ds O Q E ⟨p, t, xs, rfl, _⟩; rfl
  · rintro ds O Q E ⟨p, t, xs, rfl, hp, ht, k1, k2⟩
    walk_at "vw"
    refine ⟨p, 2, rfl, hp, by decide, by decide, fun v h0 h1 => ?_⟩
    walk_at "vw"
    refine if_i (fun _ => ?_) (fun _ => ?_)
    · walk_at "vw"
      exact k1
    · walk_at "vw"
      exact k2
theorem c_l_given_checks (T : Txt K mg) : Cal P w K mg base CX0 4 "_law_given_checks" ["_law_hand_here", "_law_checks"] [] (VL.SpL K W_gchecks) := by
  have c_l_given := @c_l_given P w K mg base T
  have c_l_shuffled := @c_l_shuffled P w K mg base T
  obtain ⟨fd, F⟩ := T.c.def_ 50 (d := dd_l_given_checks) rfl
  refine ⟨_, fd, [], VL.fnL' (CX := CX0) F sc_l_given_checks ?_ (fun cdv A outer s H E hr => ⟨_, PSs.nox (pss_one (ps_ret (pe_lc (own := [("_law_lot_here", 2)]) (g := gName 2) (tt := tYes) rfl sc_l_given_checks.nd (VL.pi_seq (pv 1)) (blkOk_by (N := ["_law_hand_here", "_law_checks", "_law_lot_here"]) (sc := defScope s_l_given_checks) (by decide +kernel)) (fun _ _ _ _ _ => (pg_name (i := 2) sc_l_given_checks.nd rfl (Or.inl rfl))) (fun _ _ _ _ _ => pts_nil) (fun _ _ _ _ _ => (pe_cal c_l_given (hr.mono (by decide)) pass0 (pa_cons (pv 0) (pa_cons (pe_cal c_l_shuffled (hr.mono (by decide)) pass0 (pa_cons (pv 0) (pa_cons (pv 2) pa_nil))) pa_nil))))))), ?_⟩), T.glo 72, F.kp, F.bindsN fun _ _ _ _ _ _ us hl => match us, hl with | [_, _], _ => rfl, .nil⟩

  · rintro ds O Q E ⟨p, t, cs, rfl, _⟩; rfl
  · rintro ds O Q E ⟨p, t, cs, rfl, hp, ht, hcl, hc, k⟩
    walk_at "vw"
    refine VL.ln_rel (fun i _ y => ∀ c, cs[i]? = some c → ∃ m : List Int, m.Perm c ∧ (y = .lst (m.map VL.D.int) ∨ y = .tup (m.map VL.D.int))) (VL.i_seq rfl ?_)
    walk_at "vw"
    refine ⟨_, ht, by rw [List.length_map]; omega, fun O2 x => VL.asS_ext x ht, fun j d O2 hd ex => ?_, fun ys hl hy => ?_⟩
    · obtain ⟨c, hc2, rfl⟩ := lots_at hd
      have hcc := hc c (List.mem_of_getElem? hc2)
      walk_at "vw"
      refine ⟨p, c, rfl, ex p _ hp, by omega, fun ms hm => ?_⟩
      walk_at "vw"
      refine ⟨p, _, _, rfl, ex p _ hp, rfl, ?_, ?_⟩
      · exact ⟨fun c' hc' => by rw [hc2] at hc'; cases hc'; exact ⟨ms, hm, .inl rfl⟩, rfl⟩
      · exact ⟨fun c' hc' => by rw [hc2] at hc'; cases hc'; exact ⟨ms, hm, .inr rfl⟩, rfl⟩
    · walk_at "vw"
      rw [List.length_map] at hl
      refine k ys hl fun i e c he hci => ?_
      exact hy i (VL.lotD c) e (by rw [List.getElem?_map, hci]; rfl) he c hci
theorem c_l_stop (T : Txt K mg) : Cal P w K mg base CX0 1 "_law_stop" ["_law_checks", "_law_lot_here"] [] (VL.SpL K W_stop) := by
  obtain ⟨fd, F⟩ := T.c.def_ 46 (d := dd_l_stop) rfl
  refine ⟨_, fd, [], VL.fnL' (CX := CX0) F sc_l_stop ?_ (fun cdv A outer s H E hr => ⟨_, PSs.nox (pss_cons (ps_set (i := 2) sc_l_stop.nd rfl (Or.inr rfl) (pe_callTy MB.k_listOf rfl (T.free 10) (by decide +kernel) (pa_cons (pv 1) pa_nil)))
 (pss_cons (ps_for PassesOwn.never rfl (pi_range1 rfl (T.free 7) (pa_cons pe_int pa_nil)) (pg_name (i := 3) sc_l_stop.nd rfl (Or.inl rfl))
  (pss_cons (ps_set (i := 4) sc_l_stop.nd rfl (Or.inr rfl) (VL.pe_own (pe_lst pa_nil)))
 (pss_cons (ps_for PassesOwn.never rfl (VL.pi_seq (pv 0)) (pg_name (i := 5) sc_l_stop.nd rfl (Or.inl rfl))
  (pss_cons (ps_setLc (i := 6) (own := [("_law_bit", 7)]) (g := gName 7) rfl sc_l_stop.nd rfl rfl (sw_true rfl rfl rfl (by decide +kernel)) (VL.pi_seq (pv 5)) (blkOk_by (N := ["_law_checks", "_law_lot_here", "_law_left", "_law_turn", "_law_told", "_law_check", "_law_seen", "_law_bit"]) (sc := defScope s_l_stop) (by decide +kernel)) (fun _ _ _ _ _ => (pg_name (i := 7) sc_l_stop.nd rfl (Or.inl rfl))) (fun _ _ _ _ _ => pts_one (pt_cmpR (show OpR _ (compareOp .In) (rIn K false) from op_in_seq) (pv 7) (pv 2) rfl)) (fun _ _ _ _ _ => (pv 7)))
 (pss_one (ps_if (pt_cmpR (VL.op_eqX hr.units) (pe_callB MB.k_len rfl (T.free 3) PySem.boot_len (pa_cons (pv 6) pa_nil)) pe_int (nomark _))
  (pss_one (ps_expr (pe_bm PySem.F.plainAttrs_list PySem.F.slot_list_append PySem.F.type_list_append mt_append (pv 4) (pa_cons (pe_ix ix_seq (pv 6) pe_int (fun _ _ => rfl)) pa_nil))))
  pss_nil))))
 (pss_cons (ps_if (pt_cmpR (VL.op_eqX hr.units) (pv 4) (pe_lst pa_nil) (nomark _))
  (pss_one ps_break)
  pss_nil)
 (pss_one (ps_set (i := 2) sc_l_stop.nd rfl (Or.inr rfl) (pe_lc (own := [("_law_bit", 7)]) (g := gName 7) rfl sc_l_stop.nd (VL.pi_seq (pv 2)) (blkOk_by (N := ["_law_checks", "_law_lot_here", "_law_left", "_law_turn", "_law_told", "_law_check", "_law_seen", "_law_bit"]) (sc := defScope s_l_stop) (by decide +kernel)) (fun _ _ _ _ _ => (pg_name (i := 7) sc_l_stop.nd rfl (Or.inl rfl))) (fun _ _ _ _ _ => pts_one (pt_cmpR (show OpR _ (compareOp .NotIn) (rIn K true) from op_notIn_seq) (pv 7) (pv 4) rfl)) (fun _ _ _ _ _ => (pv 7)))))))))
 (pss_one (ps_ret (pe_callTy MB.k_tupOf rfl (T.free 9) (by decide +kernel) (pa_cons (pv 2) pa_nil)))))), ?_⟩), T.glo 68, F.kp, F.bindsN fun _ _ _ _ _ _ us hl => match us, hl with | [_, _], _ => rfl, .nil⟩

  · rintro ds O Q E ⟨t, u, cs, ns, rfl, _⟩; rfl
  · rintro ds O Q E ⟨t, u, cs, ns, rfl, ht, hcl, hc, hu, hn, k⟩
    walk_at "vw"
    refine VL.s_for (VL.i_rng1 ?_)
    walk_at "vw"
    refine ⟨fun i ρ' O' => O' = O ∧ ∃ (ls : List Int) (x y z v a : Option VL.D), ls.length ≤ 10 ∧ ρ' = [some t, some u, some (.lst (ls.map VL.D.int)), x, y, z, v, a], ⟨rfl, ns, none, none, none, none, none, hn, rfl⟩, fun _ _ _ _ => trivial, ?_, ?_⟩
    · rintro i d ρ' O' hd ⟨rfl, ls, x, y, z, v, a, hls, rfl⟩
      obtain ⟨_, rfl⟩ := VL.rngD_at hd
      walk_at "vw"
      intro r hr
      walk_at "vw"
      have ht2 : ∀ es, VL.asS (VL.updO O' r (.lst es)) t = some (cs.map VL.lotD) := fun es => VL.asS_ext (VL.ext_new hr) ht
      refine VL.s_for (VL.i_seq rfl ?_)
      walk_at "vw"
      refine ⟨_, ht2 [], ?_⟩
      refine ⟨fun j ρ' O2 => ∃ (ts : List Int) (z v a : Option VL.D), ts.length ≤ j ∧ O2 = VL.updO O' r (.lst (ts.map VL.D.int)) ∧ ρ' = [some t, some u, some (.lst (ls.map VL.D.int)), some (.int (0 + (i : Int))), some (.ref r), z, v, a], ⟨[], z, v, a, Nat.le_refl 0, rfl, rfl⟩, ?_, ?_, ?_⟩
      · rintro j ρ' O2 ⟨ts, _, _, _, _, rfl, _⟩; exact ht2 _
      · rintro j d ρ' O2 hd2 ⟨ts, z, v, a, htl, rfl, rfl⟩
        obtain ⟨c, hc2, rfl⟩ := lots_at hd2
        have hcc := hc c (List.mem_of_getElem? hc2)
        have hj : j < cs.length := (List.getElem?_eq_some_iff.mp hc2).1
        walk_at "vw"
        refine VL.ln_lcP (fun d => decide (VL.toI d ∈ ls)) id (VL.i_seq rfl ?_)
        walk_at "vw"
        refine ⟨_, rfl, by rw [List.length_map]; exact VL.le_line (by omega), fun _ _ _ => rfl, fun m d L acc hd3 hL => ?_, ?_⟩
        · obtain ⟨b, hb, rfl⟩ := VL.map_int_at hd3
          walk_at "vw"
          exact ⟨⟨rfl, rfl⟩, fun _ => VL.l_var rfl ⟨rfl, rfl⟩⟩
        · rw [show (((c.map VL.D.int).filter fun d => decide (VL.toI d ∈ ls)).map id) = (c.filter fun b => decide (b ∈ ls)).map VL.D.int from by rw [List.map_id, List.filter_map]; rfl]
          generalize hss : (c.filter fun b => decide (b ∈ ls)) = ss
          walk_at "vw"
          refine if_i (fun h => ?_) (fun h => ?_)
          · rw [List.length_map] at h
            obtain ⟨s0, rfl⟩ : ∃ s0, ss = [s0] := List.length_eq_one_iff.mp (by omega)
            walk_at "vw"
            refine VL.m_append VL.updO_same (VL.lt_line (show (ts.map VL.D.int).length < 100000 by rw [List.length_map]; omega)) ?_
            rw [VL.updO_updO]
            refine ⟨ts ++ [s0], _, _, _, by rw [List.length_append]; exact Nat.succ_le_succ htl, by rw [List.map_append]; rfl, rfl⟩
          · walk_at "vw"
            exact ⟨ts, _, _, _, by omega, rfl, rfl⟩
      · rintro ρ' O2 ⟨ts, z, v, a, htl, rfl, rfl⟩
        walk_at "vw"
        refine VL.o_eqD rfl (.own VL.updO_same (VL.pd_ints ts)) (.lst (VL.pd_ints [])) (VL.sh_ints ts) (VL.sh_ints []) ?_
        refine ⟨_, rfl, ?_⟩
        refine MB.if_b (fun _ => ?_) (fun _ => ?_)
        · refine VL.s_break ?_
          show VL.LS _ _ _ _ _
          refine VL.s_del r ?_
          rw [VL.delO_updO hr]
          walk_at "vw"
          exact k ls hls
        · refine VL.s_next ?_
          show VL.LS _ _ _ _ _
          refine VL.s_asg (VL.l_del r (VL.f_lc (VL.ln_lcP (fun d => !decide (VL.toI d ∈ ts)) id (VL.i_seq rfl ?_))))
          walk_at "vw"
          refine ⟨_, rfl, by rw [List.length_map]; exact VL.le_line (by omega), fun _ _ _ => rfl, fun m d L acc hd3 hL => ?_, ?_⟩
          · obtain ⟨b, hb, rfl⟩ := VL.map_int_at hd3
            have hrL : VL.updO (VL.updO O' r (.lst (ts.map VL.D.int))) L (.lst acc) r = some (.lst (ts.map VL.D.int)) := (VL.updO_ne (fun z => by subst z; rw [VL.updO_same] at hL; cases hL)).trans VL.updO_same
            walk_at "vw"
            exact ⟨⟨rfl, rfl⟩, fun _ => VL.l_var rfl ⟨rfl, rfl⟩⟩
          · rw [show (((ls.map VL.D.int).filter fun d => !decide (VL.toI d ∈ ts)).map id) = (ls.filter fun b => !decide (b ∈ ts)).map VL.D.int from by rw [List.map_id, List.filter_map]; rfl]
            rw [VL.delO_updO hr]
            refine VL.h_name ?_
            refine ⟨rfl, _, _, _, _, _, _, Nat.le_trans (List.length_filter_le _ _) hls, rfl⟩
    · rintro ρ' O' ⟨rfl, ls, x, y, z, v, a, hls, rfl⟩
      walk_at "vw"
      exact k ls hls
end
end K04
namespace K04
open PySem PySem.Spec PyProof.Rows L2 MB
/-- words that are drawn from -/
def Wds (n : Int) (ws : List (List Int)) : Prop := ws ≠ [] ∧ ws.length ≤ 1024 ∧ ∀ w ∈ ws, (w.length : Int) = n ∧ ∀ d ∈ w, d = 0 ∨ d = 1
def CsOk (n : Int) (cs : List (List Int)) : Prop := cs.length ≤ 63 ∧ ∀ c ∈ cs, c.length ≤ 10 ∧ InR c n
def W_lshares : VL.WL := fun ds O Q _ => ∃ (p : Addr) (n : Int) (t e : VL.D) (cs ws : List (List Int)), ds = [.ref p, .int n, t, e] ∧ O p = some .hand ∧ (1 ≤ n ∧ n ≤ 10) ∧ VL.asS O t = some (cs.map VL.lotD) ∧ CsOk n cs ∧ VL.asS O e = some (ws.map VL.lotD) ∧ Wds n ws ∧ ∀ rs : List (Int × Int), (rs.length : Int) = n → Sml rs → Q (.lst (rs.map VL.ratD)) O
theorem dig01 {w : List Int} {b : Int} (h : ∀ d ∈ w, d = 0 ∨ d = 1) (h0 : 0 ≤ b) (h1 : b < (w.length : Int)) : 0 ≤ VL.dig w b ∧ VL.dig w b ≤ 1 := by
  have hl : b.toNat < w.length := by omega
  have : VL.dig w b ∈ w := by
    unfold VL.dig
    rw [List.getD_eq_getElem?_getD, List.getElem?_eq_getElem hl]
    exact List.getElem_mem hl
  rcases h _ this with z | z <;> omega
theorem picks_sum {n b : Int} {ws : List (List Int)} (hw : ∀ w ∈ ws, (w.length : Int) = n ∧ ∀ d ∈ w, d = 0 ∨ d = 1) (h0 : 0 ≤ b) (h1 : b < n) : ∀ ps : List (List Int), (∀ w ∈ ps, w ∈ ws) → 0 ≤ (ps.map fun w => VL.dig w b).sum ∧ (ps.map fun w => VL.dig w b).sum ≤ ps.length
  | [], _ => ⟨Int.le_refl _, Int.le_refl _⟩
  | w :: ps, h => by
    obtain ⟨i1, i2⟩ := picks_sum hw h0 h1 ps fun x hx => h x (List.mem_cons_of_mem _ hx)
    obtain ⟨a1, a2⟩ := hw w (h w (List.mem_cons_self ..))
    obtain ⟨d1, d2⟩ := dig01 a2 h0 (by omega)
    rw [List.map_cons, List.sum_cons, List.length_cons]
    omega
/-- the rows that are made by drawn ratios -/
theorem rats_of {n : Int} {ys : List VL.D} (hn : 1 ≤ n ∧ n ≤ 10) (hl : (ys.length : Int) = n) (h : ∀ y ∈ ys, ∃ r, (VL.isShare (VL.ratD r) = true ∧ r.2 < 2 ^ 30) ∧ y = VL.ratD r) : ∃ rs : List (Int × Int), ys = rs.map VL.ratD ∧ (rs.length : Int) = n ∧ Sml rs := by
  obtain ⟨rs, rfl, hrs⟩ := VL.rel_list (P := fun r => VL.isShare (VL.ratD r) = true ∧ r.2 < 2 ^ 30) (f := VL.ratD) h
  rw [List.length_map] at hl
  exact ⟨rs, rfl, hl, by omega, hrs⟩
section
variable {P : Program} {w : World} {K : PySem.W.Frag} {mg : Str → Option Value} {base : Heap}
theorem c_l_let_shares (T : Txt K mg) : Cal P w K mg base CX0 4 "_law_let_shares" ["_law_hand_here", "_law_bits", "_law_checks", "_law_words_here"] [] (VL.SpL K W_lshares) := by
  have c_l_draw := @c_l_draw P w K mg base T
  have c_l_stop := @c_l_stop P w K mg base T
  have c_l_ratio := @c_l_ratio P w K mg base T
  have c_l_within := @c_l_within P w K mg base T
  obtain ⟨fd, F⟩ := T.c.def_ 48 (d := dd_l_let_shares) rfl
  refine ⟨_, fd, [], VL.fnL' (CX := CX0) F sc_l_let_shares ?_ (fun cdv A outer s H E hr => ⟨_, PSs.nox (pss_cons (ps_set (i := 4) sc_l_let_shares.nd rfl (Or.inl rfl) (pe_cal c_l_draw (hr.mono (by decide)) pass0 (pa_cons (pv 0) (pa_cons pe_int pa_nil))))
 (pss_cons (ps_if (pt_cmpR op_lt (pv 4) pe_int (nomark _))
  (pss_cons (ps_set (i := 5) sc_l_let_shares.nd rfl (Or.inr rfl) (pe_op op_add pe_int (pe_cal c_l_draw (hr.mono (by decide)) pass0 (pa_cons (pv 0) (pa_cons pe_int pa_nil)))))
 (pss_cons (ps_set (i := 6) sc_l_let_shares.nd rfl (Or.inr rfl) (pe_lc (own := [("_law_k", 11)]) (g := gName 11) (tt := tYes) rfl sc_l_let_shares.nd (pi_range1 rfl (T.free 7) (pa_cons (pv 5) pa_nil)) (blkOk_by (N := ["_law_hand_here", "_law_bits", "_law_checks", "_law_words_here", "_law_pick", "_law_many", "_law_picks", "_law_stop_here", "_law_word", "_law_share", "_law_bit", "_law_k"]) (sc := defScope s_l_let_shares) (by decide +kernel)) (fun _ _ _ _ _ => (pg_name (i := 11) sc_l_let_shares.nd rfl (Or.inl rfl))) (fun _ _ _ _ _ => pts_nil) (fun _ _ _ _ _ => (pe_ix (show IxR _ (rIx K) from ix_seq) (pv 3) (pe_cal c_l_draw (hr.mono (by decide)) pass0 (pa_cons (pv 0) (pa_cons (pe_callB (show CallR _ (.builtin "len") (MB.rLenQ K) from MB.k_len) rfl (T.free 3) PySem.boot_len (pa_cons (pv 3) pa_nil)) pa_nil))) (fun _ _ => rfl)))))
 (pss_one (ps_ret (pe_lc (own := [("_law_bit", 10)]) (g := gName 10) (tt := tYes) rfl sc_l_let_shares.nd (pi_range1 rfl (T.free 7) (pa_cons (pv 1) pa_nil)) (blkOk_by (N := ["_law_hand_here", "_law_bits", "_law_checks", "_law_words_here", "_law_pick", "_law_many", "_law_picks", "_law_stop_here", "_law_word", "_law_share", "_law_bit", "_law_k"]) (sc := defScope s_l_let_shares) (by decide +kernel)) (fun _ _ _ _ _ => (pg_name (i := 10) sc_l_let_shares.nd rfl (Or.inr rfl))) (fun _ _ _ _ _ => pts_nil) (fun _ _ _ _ _ => (pe_cal c_l_ratio (hr.mono (by decide)) pass0 (pa_cons (pe_callB (show CallR _ (.builtin "sum") (rSum K) from cr_sum rfl) rfl (T.free 6) (by decide +kernel) (pa_cons (pe_lc (own := [("_law_word", 8)]) (g := gName 8) (tt := tYes) rfl sc_l_let_shares.nd (show PI _ _ _ (VL.iSeq K _) from VL.pi_seq (pv 6)) (by dsimp only [Cx.blk, compEnvC]; rw [VL.relabel_rl]; exact (show BlkOk ["_law_hand_here", "_law_bits", "_law_checks", "_law_words_here", "_law_pick", "_law_many", "_law_picks", "_law_stop_here", "_law_word", "_law_share", "_law_bit", "_law_k"] (VL.rl _ (defScope s_l_let_shares)) _ _ from blkOk_by (by decide +kernel))) (fun _ _ _ _ _ => (pg_name (i := 8) sc_l_let_shares.nd rfl (Or.inl rfl))) (fun _ _ _ _ _ => pts_nil) (fun _ _ _ _ _ => (pe_ix (show IxR _ (rIx K) from ix_seq) (pv 8) (pv 10) (fun _ _ => rfl)))) pa_nil)) (pa_cons (pv 5) pa_nil)))))))))
  pss_nil)
 (pss_cons (ps_set (i := 7) sc_l_let_shares.nd rfl (Or.inr rfl) (pe_cal c_l_stop (hr.mono (by decide)) pass0 (pa_cons (pv 2) (pa_cons (pe_ifExp (pt_cmpR op_lt (pv 4) pe_int (nomark _)) (pe_cal c_l_within (hr.mono (by decide)) pass0 (pa_cons (pv 0) (pa_cons (pe_listRg rfl rfl (T.free 10) (prg_1 rfl (T.free 7) (pv 1))) pa_nil))) (pe_listRg rfl rfl (T.free 10) (prg_1 rfl (T.free 7) (pv 1)))) pa_nil))))
 (pss_cons (ps_set (i := 8) sc_l_let_shares.nd rfl (Or.inr rfl) (pe_ix ix_seq (pv 3) (pe_cal c_l_draw (hr.mono (by decide)) pass0 (pa_cons (pv 0) (pa_cons (pe_callB MB.k_len rfl (T.free 3) PySem.boot_len (pa_cons (pv 3) pa_nil)) pa_nil))) (fun _ _ => rfl)))
 (pss_cons (ps_set (i := 9) sc_l_let_shares.nd rfl (Or.inr rfl) (pe_ifExp (pt_cmpR (VL.op_eqX hr.units) (pv 4) pe_int (nomark _)) pe_int (pe_op op_add pe_int (pe_cal c_l_draw (hr.mono (by decide)) pass0 (pa_cons (pv 0) (pa_cons pe_int pa_nil))))))
 (pss_one (ps_ret (pe_lc (own := [("_law_bit", 10)]) (g := gName 10) (tt := tYes) rfl sc_l_let_shares.nd (pi_range1 rfl (T.free 7) (pa_cons (pv 1) pa_nil)) (blkOk_by (N := ["_law_hand_here", "_law_bits", "_law_checks", "_law_words_here", "_law_pick", "_law_many", "_law_picks", "_law_stop_here", "_law_word", "_law_share", "_law_bit", "_law_k"]) (sc := defScope s_l_let_shares) (by decide +kernel)) (fun _ _ _ _ _ => (pg_name (i := 10) sc_l_let_shares.nd rfl (Or.inl rfl))) (fun _ _ _ _ _ => pts_nil) (fun _ _ _ _ _ => (pe_cal c_l_ratio (hr.mono (by decide)) pass0 (pa_cons (pe_op op_add (pe_callTy MB.k_int1 rfl (T.free 1) (by decide +kernel) (pa_cons (pe_cmpR (show OpR _ (compareOp .In) (rIn K false) from op_in_seq) (pv 10) (pv 7) rfl) pa_nil)) (pe_op op_mul (pe_op op_mul pe_int (pe_op op_sub (pv 9) pe_int)) (pe_ix (show IxR _ (rIx K) from ix_seq) (pv 8) (pv 10) (fun _ _ => rfl)))) (pa_cons (pe_op op_mul pe_int (pv 9)) pa_nil)))))))))))), ?_⟩), T.glo 70, F.kp, F.bindsN fun _ _ _ _ _ _ us hl => match us, hl with | [_, _, _, _], _ => rfl, .nil⟩

  · rintro ds O Q E ⟨p, n, t, e, cs, ws, rfl, _⟩; rfl
  · rintro ds O Q E ⟨p, n, t, e, cs, ws, rfl, hp, hn, ht, ⟨hc1, hc2⟩, he, ⟨hw0, hwl, hw⟩, k⟩
    have hwp : 0 < ws.length := List.length_pos_iff.mpr hw0
    walk_at "vw"
    refine ⟨p, 6, rfl, hp, by decide, by decide, fun pk h0 h1 => ?_⟩
    walk_at "vw"
    refine if_d (fun _ => ?_) (fun _ => ?_)
    · walk_at "vw"
      refine ⟨p, 5, rfl, hp, by decide, by decide, fun m m0 m1 => ?_⟩
      walk_at "vw"
      refine VL.ln_rel (fun _ _ y => ∃ w0, w0 ∈ ws ∧ y = VL.lotD w0) (VL.i_rng1 ?_)
      walk_at "vw"
      refine ⟨by rw [VL.rngD_len]; omega, fun _ _ => trivial, fun j d O2 hd ex => ?_, fun ys hl hy => ?_⟩
      · have he2 := VL.asS_ext ex he
        walk_at "vw"
        refine ⟨p, _, rfl, ex p _ hp, by rw [List.length_map]; omega, by rw [List.length_map]; omega, fun v v0 v1 => ?_⟩
        obtain ⟨x, hx, _, ha⟩ := VL.at_in (xs := ws.map VL.lotD) v0 v1
        obtain ⟨w0, hw0', rfl⟩ := List.mem_map.mp hx
        exact VL.o_ixQ rfl he2 ha ⟨⟨w0, hw0', rfl⟩, rfl⟩
      · rw [VL.rngD_len] at hl
        obtain ⟨ps, rfl, hps⟩ := VL.rel_list (P := fun w0 => w0 ∈ ws) (f := VL.lotD) (VL.rel_mem (by rw [VL.rngD_len]; exact hl) hy fun _ _ _ _ h => h)
        rw [List.length_map] at hl
        walk_at "vw"
        refine VL.ln_rel (fun _ _ y => ∃ r, (VL.isShare (VL.ratD r) = true ∧ r.2 < 2 ^ 30) ∧ y = VL.ratD r) (VL.i_rng1 ?_)
        walk_at "vw"
        refine ⟨by rw [VL.rngD_len]; omega, fun _ _ => trivial, fun j d O2 hd ex => ?_, fun ys hl2 hy2 => ?_⟩
        · obtain ⟨hj, rfl⟩ := VL.rngD_at hd
          have hjn : (j : Int) < n := by omega
          walk_at "vw"
          refine VL.ln_map (fun d => .int (VL.dig (lotI d) (0 + (j : Int)))) (VL.i_seq rfl ?_)
          walk_at "vw"
          refine ⟨_, rfl, by rw [List.length_map]; omega, fun _ _ => rfl, fun i d O3 hd3 ex3 => ?_, ?_⟩
          · obtain ⟨w1, hw1, rfl⟩ := lots_at hd3
            have hw2 := hw w1 (hps w1 (List.mem_of_getElem? hw1))
            rw [lotI_lot]
            walk_at "vw"
            exact VL.o_ixQ rfl rfl (VL.dig_at (by omega) (by omega)) ⟨rfl, rfl⟩
          · walk_at "vw"
            rw [show (ps.map VL.lotD).map (fun d => VL.dig (lotI d) (0 + (j : Int))) = ps.map fun w0 => VL.dig w0 (j : Int) from by
              rw [List.map_map]
              exact List.map_congr_left fun w0 _ => by show VL.dig (lotI (VL.lotD w0)) _ = _; rw [lotI_lot, Int.zero_add]]
            obtain ⟨s0, s1⟩ := picks_sum hw (b := (j : Int)) (by omega) hjn ps hps
            generalize (ps.map fun w0 => VL.dig w0 (j : Int)).sum = S at *
            have h5 : (5 : Int) < 2 ^ 400 := by decide
            refine ⟨S, 1 + m, rfl, by omega, Nat.lt_of_lt_of_le (show S.natAbs < 2 ^ 30 by omega) (Nat.pow_le_pow_right (by decide) (by decide)), by omega, ?_⟩
            obtain ⟨q1, q2⟩ := lowP_share (t := S) (b := 1 + m) s0 (by omega) (by omega)
            exact ⟨⟨lowP S (1 + m), ⟨q1, by omega⟩, rfl⟩, rfl⟩
        · walk_at "vw"
          have hl3 := hl2
          rw [VL.rngD_len] at hl3
          obtain ⟨rs, rfl, r1, r2⟩ := rats_of hn (by omega) (VL.rel_mem hl2 hy2 fun _ _ _ _ h => h)
          exact k rs r1 r2
    · walk_at "vx"
      refine VL.l_post (fun y O2 => O2 = O ∧ ∃ ms : List Int, ms.length ≤ 10 ∧ VL.asS O y = some (ms.map VL.D.int)) ?_ ?_
      · refine VL.l_if ?_
        walk_at "vw"
        refine if_d (fun _ => ?_) (fun _ => ?_)
        · walk_at "vw"
          refine VL.l_frz (VL.ln_rg1 ?_)
          walk_at "vw"
          refine ⟨⟨by omega, by omega⟩, ?_⟩
          rw [VL.rngD_ints]
          walk_at "vw"
          refine ⟨p, _, _, rfl, hp, rfl, by rw [List.length_map, List.length_range]; omega, fun ms hm => ?_⟩
          rw [List.length_map, List.length_range] at hm
          exact ⟨rfl, ms, by omega, rfl⟩
        · refine VL.l_frz (VL.ln_rg1 ?_)
          walk_at "vw"
          refine ⟨⟨by omega, by omega⟩, ?_⟩
          rw [VL.rngD_ints]
          exact ⟨rfl, (List.range n.toNat).map fun (k : Nat) => (k : Int), by rw [List.length_map, List.length_range]; omega, rfl⟩
      · rintro y O2 ⟨rfl, ms, hm, hy⟩
        walk_at "vw"
        refine ⟨t, y, cs, ms, rfl, ht, hc1, fun c hc => (hc2 c hc).1, hy, hm, fun ns hns => ?_⟩
        walk_at "vw"
        refine ⟨p, _, rfl, hp, by rw [List.length_map]; omega, by rw [List.length_map]; omega, fun v v0 v1 => ?_⟩
        obtain ⟨x, hx, _, ha⟩ := VL.at_in (xs := ws.map VL.lotD) v0 v1
        obtain ⟨w0, hw0', rfl⟩ := List.mem_map.mp hx
        obtain ⟨hwn, hwd⟩ := hw w0 hw0'
        refine VL.o_ixQ rfl he ha ?_
        walk_at "vx"
        refine VL.l_post (fun y O3 => O3 = O2 ∧ ∃ q : Int, 1 ≤ q ∧ q ≤ 4 ∧ y = .int q) ?_ ?_
        · refine VL.l_if ?_
          walk_at "vw"
          refine if_i (fun _ => ?_) (fun _ => ?_)
          · walk_at "vw"
            exact ⟨rfl, 1, by decide, by decide, rfl⟩
          · walk_at "vw"
            refine ⟨p, 4, rfl, hp, by decide, by decide, fun v v0 v1 => ?_⟩
            walk_at "vw"
            exact ⟨rfl, 1 + v, by omega, by omega, rfl⟩
        · rintro y2 O3 ⟨rfl, q, q0, q1, rfl⟩
          walk_at "vw"
          refine VL.ln_rel (fun _ _ y => ∃ r, (VL.isShare (VL.ratD r) = true ∧ r.2 < 2 ^ 30) ∧ y = VL.ratD r) (VL.i_rng1 ?_)
          walk_at "vw"
          refine ⟨by rw [VL.rngD_len]; omega, fun _ _ => trivial, fun j d O4 hd ex => ?_, fun ys hl2 hy2 => ?_⟩
          · obtain ⟨hj, rfl⟩ := VL.rngD_at hd
            obtain ⟨d0, d1⟩ := dig01 (w := w0) (b := 0 + (j : Int)) hwd (by omega) (by omega)
            walk_at "vw"
            refine VL.k_int1b ?_
            walk_at "vw"
            refine VL.o_ixQ rfl rfl (VL.dig_at (by omega) (by omega)) ?_
            generalize VL.dig w0 (0 + (j : Int)) = D at *
            have hD : D = 0 ∨ D = 1 := by omega
            have hT : 0 ≤ (if decide (0 + (j : Int) ∈ ns) = true then (1 : Int) else 0) + 2 * (q - 1) * D ∧ (if decide (0 + (j : Int) ∈ ns) = true then (1 : Int) else 0) + 2 * (q - 1) * D ≤ 2 * q := by
              rcases hD with rfl | rfl
              · split <;> omega
              · split <;> omega
            generalize (if decide (0 + (j : Int) ∈ ns) = true then (1 : Int) else 0) = I at *
            refine VL.o_I (Or.inr ⟨by omega, by omega⟩) rfl ?_
            walk_at "vw"
            generalize I + 2 * (q - 1) * D = S at *
            refine ⟨S, 2 * q, rfl, by omega, Nat.lt_of_lt_of_le (show S.natAbs < 2 ^ 30 by omega) (Nat.pow_le_pow_right (by decide) (by decide)), Int.lt_trans (show 2 * q < 2 ^ 30 by omega) (by decide), ?_⟩
            obtain ⟨z1, z2⟩ := lowP_share (t := S) (b := 2 * q) hT.1 hT.2 (by omega)
            exact ⟨⟨lowP S (2 * q), ⟨z1, by omega⟩, rfl⟩, rfl⟩
          · walk_at "vw"
            have hl3 := hl2
            rw [VL.rngD_len] at hl3
            obtain ⟨rs, rfl, r1, r2⟩ := rats_of hn (by omega) (VL.rel_mem hl2 hy2 fun _ _ _ _ h => h)
            exact k rs r1 r2
theorem c_l_shares (T : Txt K mg) : Cal P w K mg base CX0 5 "_law_shares" ["_law_hand_here", "_law_bits", "_law_checks", "_law_words_here"] [] (VL.SpL K W_lshares) := by
  have c_l_draw := @c_l_draw P w K mg base T
  have c_l_let_shares := @c_l_let_shares P w K mg base T
  have c_l_ratio := @c_l_ratio P w K mg base T
  obtain ⟨fd, F⟩ := T.c.def_ 47 (d := dd_l_shares) rfl
  refine ⟨_, fd, [], VL.fnL' (CX := CX0) F sc_l_shares ?_ (fun cdv A outer s H E hr => ⟨_, PSs.nox (pss_cons (ps_set (i := 4) sc_l_shares.nd rfl (Or.inl rfl) (pe_cal c_l_draw (hr.mono (by decide)) pass0 (pa_cons (pv 0) (pa_cons pe_int pa_nil))))
 (pss_cons (ps_if (pt_cmpR op_lt (pv 4) pe_int (nomark _))
  (pss_cons (ps_set (i := 5) sc_l_shares.nd rfl (Or.inr rfl) (pe_ix ix_seq (pe_tup (pa_cons pe_int (pa_cons pe_int (pa_cons pe_int (pa_cons pe_int (pa_cons pe_int (pa_cons pe_int (pa_cons pe_int (pa_cons pe_int pa_nil))))))))) (pe_cal c_l_draw (hr.mono (by decide)) pass0 (pa_cons (pv 0) (pa_cons pe_int pa_nil))) (fun _ _ => rfl)))
 (pss_one (ps_ret (pe_lc (own := [("_law_bit", 6)]) (g := gName 6) (tt := tYes) rfl sc_l_shares.nd (pi_range1 rfl (T.free 7) (pa_cons (pv 1) pa_nil)) (blkOk_by (N := ["_law_hand_here", "_law_bits", "_law_checks", "_law_words_here", "_law_pick", "_law_bottom", "_law_bit"]) (sc := defScope s_l_shares) (by decide +kernel)) (fun _ _ _ _ _ => (pg_name (i := 6) sc_l_shares.nd rfl (Or.inl rfl))) (fun _ _ _ _ _ => pts_nil) (fun _ _ _ _ _ => (pe_cal c_l_ratio (hr.mono (by decide)) pass0 (pa_cons (pe_cal c_l_draw (hr.mono (by decide)) pass0 (pa_cons (pv 0) (pa_cons (pe_op op_add (pv 5) pe_int) pa_nil))) (pa_cons (pv 5) pa_nil))))))))
  pss_nil)
 (pss_cons (ps_if (pt_cmpR (VL.op_eqX hr.units) (pv 4) pe_int (nomark _))
  (pss_cons (ps_set (i := 5) sc_l_shares.nd rfl (Or.inr rfl) (pe_op op_add pe_int (pe_cal c_l_draw (hr.mono (by decide)) pass0 (pa_cons (pv 0) (pa_cons (pe_op op_pow pe_int pe_int) pa_nil)))))
 (pss_one (ps_ret (pe_lc (own := [("_law_bit", 6)]) (g := gName 6) (tt := tYes) rfl sc_l_shares.nd (pi_range1 rfl (T.free 7) (pa_cons (pv 1) pa_nil)) (blkOk_by (N := ["_law_hand_here", "_law_bits", "_law_checks", "_law_words_here", "_law_pick", "_law_bottom", "_law_bit"]) (sc := defScope s_l_shares) (by decide +kernel)) (fun _ _ _ _ _ => (pg_name (i := 6) sc_l_shares.nd rfl (Or.inl rfl))) (fun _ _ _ _ _ => pts_nil) (fun _ _ _ _ _ => (pe_cal c_l_ratio (hr.mono (by decide)) pass0 (pa_cons (pe_cal c_l_draw (hr.mono (by decide)) pass0 (pa_cons (pv 0) (pa_cons (pe_op op_add (pv 5) pe_int) pa_nil))) (pa_cons (pv 5) pa_nil))))))))
  pss_nil)
 (pss_one (ps_ret (pe_cal c_l_let_shares (hr.mono (by decide)) pass0 (pa_cons (pv 0) (pa_cons (pv 1) (pa_cons (pv 2) (pa_cons (pv 3) pa_nil)))))))))), ?_⟩), T.glo 69, F.kp, F.bindsN fun _ _ _ _ _ _ us hl => match us, hl with | [_, _, _, _], _ => rfl, .nil⟩

  · rintro ds O Q E ⟨p, n, t, e, cs, ws, rfl, _⟩; rfl
  · rintro ds O Q E ⟨p, n, t, e, cs, ws, rfl, hp, hn, ht, hc, he, hw, k⟩
    walk_at "vw"
    refine ⟨p, 8, rfl, hp, by decide, by decide, fun pk h0 h1 => ?_⟩
    walk_at "vw"
    refine if_d (fun _ => ?_) (fun _ => ?_)
    · walk_at "vw"
      refine ⟨p, 8, rfl, hp, by decide, by decide, fun d5 h50 h51 => ?_⟩
      refine VL.o_ixTi rfl [2, 2, 3, 4, 6, 1, 5, 12] rfl h50 h51 fun v hv => ?_
      have hv1 : 1 ≤ v ∧ v ≤ 12 := by
        simp only [List.mem_cons, List.not_mem_nil, or_false] at hv
        rcases hv with rfl | rfl | rfl | rfl | rfl | rfl | rfl | rfl <;> decide
      walk_at "vw"
      refine VL.ln_rel (fun _ _ y => ∃ r, (VL.isShare (VL.ratD r) = true ∧ r.2 < 2 ^ 30) ∧ y = VL.ratD r) (VL.i_rng1 ?_)
      walk_at "vw"
      refine ⟨by rw [VL.rngD_len]; omega, fun _ _ => trivial, fun j d O4 hd ex => ?_, fun ys hl2 hy2 => ?_⟩
      · walk_at "vw"
        refine ⟨p, _, rfl, ex p _ hp, by omega, by omega, fun S s0 s1 => ?_⟩
        walk_at "vw"
        refine ⟨S, v, rfl, by omega, Nat.lt_of_lt_of_le (show S.natAbs < 2 ^ 30 by omega) (Nat.pow_le_pow_right (by decide) (by decide)), Int.lt_trans (show v < 2 ^ 30 by omega) (by decide), ?_⟩
        obtain ⟨z1, z2⟩ := lowP_share (t := S) (b := v) s0 (by omega) (by omega)
        exact ⟨⟨lowP S v, ⟨z1, by omega⟩, rfl⟩, rfl⟩
      · walk_at "vw"
        have hl3 := hl2
        rw [VL.rngD_len] at hl3
        obtain ⟨rs, rfl, r1, r2⟩ := rats_of hn (by omega) (VL.rel_mem hl2 hy2 fun _ _ _ _ h => h)
        exact k rs r1 r2
    · walk_at "vw"
      refine if_i (fun _ => ?_) (fun _ => ?_)
      · walk_at "vw"
        refine ⟨p, _, rfl, hp, by decide, by decide, fun u u0 u1 => ?_⟩
        have u2 : u < 1000000000 := u1
        walk_at "vw"
        refine VL.ln_rel (fun _ _ y => ∃ r, (VL.isShare (VL.ratD r) = true ∧ r.2 < 2 ^ 30) ∧ y = VL.ratD r) (VL.i_rng1 ?_)
        walk_at "vw"
        refine ⟨by rw [VL.rngD_len]; omega, fun _ _ => trivial, fun j d O4 hd ex => ?_, fun ys hl2 hy2 => ?_⟩
        · walk_at "vw"
          refine ⟨p, _, rfl, ex p _ hp, by omega, by omega, fun S s0 s1 => ?_⟩
          walk_at "vw"
          refine ⟨S, 2 + u, rfl, by omega, Nat.lt_of_lt_of_le (show S.natAbs < 2 ^ 30 by omega) (Nat.pow_le_pow_right (by decide) (by decide)), Int.lt_trans (show 2 + u < 2 ^ 30 by omega) (by decide), ?_⟩
          obtain ⟨z1, z2⟩ := lowP_share (t := S) (b := 2 + u) s0 (by omega) (by omega)
          exact ⟨⟨lowP S (2 + u), ⟨z1, by omega⟩, rfl⟩, rfl⟩
        · walk_at "vw"
          have hl3 := hl2
          rw [VL.rngD_len] at hl3
          obtain ⟨rs, rfl, r1, r2⟩ := rats_of hn (by omega) (VL.rel_mem hl2 hy2 fun _ _ _ _ h => h)
          exact k rs r1 r2
      · walk_at "vw"
        refine ⟨p, n, t, e, cs, ws, rfl, hp, hn, ht, hc, he, hw, fun rs r1 r2 => ?_⟩
        walk_at "vw"
        exact k rs r1 r2
end
end K04
namespace K04
open PySem PySem.Spec PyProof.Rows L2 MB
def oddD (B : Int) (ts c : List Int) : VL.D := .lst ((VL.odds c).map fun l => .lst [VL.lotD l, .int (VL.far B ts c l)])
theorem odd_at {B : Int} {ts c : List Int} {i : Nat} {d : VL.D} (h : ((VL.odds c).map fun l => VL.D.lst [VL.lotD l, .int (VL.far B ts c l)])[i]? = some d) : ∃ l, (VL.odds c)[i]? = some l ∧ d = .lst [VL.lotD l, .int (VL.far B ts c l)] := by
  rw [List.getElem?_map] at h
  cases e : (VL.odds c)[i]? with
  | none => rw [e] at h; cases h
  | some l => rw [e] at h; cases h; exact ⟨l, rfl, rfl⟩
def fst2 : VL.D → VL.D
  | .lst [a, _] => a
  | _ => .non
def snd2 : VL.D → VL.D
  | .lst [_, b] => b
  | _ => .non
theorem sh_rowsM (cs : List (List Int)) : SeqAt.shaped (.list (cs.map fun c => .tuple (VL.pInts c))) = true := by
  unfold SeqAt.shaped
  rw [show PyData.canLay0 (.list (cs.map fun c => .tuple (VL.pInts c))) = true from VL.lay_map (g := fun c => .tuple (VL.pInts c)) (fun c => VL.lay_ints c) cs]
  have : PyData.depthAll (cs.map fun c => .tuple (VL.pInts c)) ≤ 1 := VL.depth_map (g := fun c => .tuple (VL.pInts c)) (fun c => Nat.succ_le_succ (VL.depth_ints c)) cs
  exact decide_eq_true (by show PyData.depthAll (cs.map fun c => .tuple (VL.pInts c)) + 1 ≤ 64; omega)
def W_lists (K : PySem.W.Frag) : VL.WL := fun ds O Q _ => ∃ n cs i c B ts, ds = [VL.codeD (He.ga K "Code") n cs, .int i, VL.lotD c, oddD B ts c] ∧ ChkN n cs ∧ At cs i c ∧ Q (.bl true) O
section
variable {P : Program} {w : World} {K : PySem.W.Frag} {mg : Str → Option Value} {base : Heap}
theorem c_l_lists_hold (T : Txt K mg) : Cal P w K mg base CX0 12 "_law_lists_hold" ["_law_code_here", "_law_number", "_law_lot_here", "_law_odds_here"] [] (VL.SpL K (W_lists K)) := by
  have c_even_rows := @c_even_rows P w K mg base T
  have c_odd_lots := @c_odd_lots P w K mg base T
  have c_l_wholes := @c_l_wholes P w K mg base T
  have c_l_digits := @c_l_digits P w K mg base T
  obtain ⟨fd, F⟩ := T.c.def_ 52 (d := dd_l_lists_hold) rfl
  refine ⟨_, fd, [], VL.fnL' (CX := CX0) F sc_l_lists_hold ?_ (fun cdv A outer s H E hr => ⟨_, PSs.nox (pss_cons (ps_set (i := 4) sc_l_lists_hold.nd rfl (Or.inl rfl) (VL.pe_listGL c_odd_lots (hr.mono (by decide)) rfl (T.free 10) (pa_cons (pv 0) (pa_cons (pv 1) pa_nil)) passL))
 (pss_cons (ps_if (pt_cmpR (VL.op_neX hr.units) (pv 4) (pe_lc (own := [("_law_odd", 6)]) (g := gName 6) (tt := tYes) rfl sc_l_lists_hold.nd (VL.pi_seq (pv 3)) (blkOk_by (N := ["_law_code_here", "_law_number", "_law_lot_here", "_law_odds_here", "_law_told", "_law_rows", "_law_odd", "_law_digits_here", "_law_part_here"]) (sc := defScope s_l_lists_hold) (by decide +kernel)) (fun _ _ _ _ _ => (pg_name (i := 6) sc_l_lists_hold.nd rfl (Or.inl rfl))) (fun _ _ _ _ _ => pts_nil) (fun _ _ _ _ _ => (pe_ix (show IxR _ (rIx K) from ix_seq) (pv 6) pe_int (fun _ _ => rfl)))) (nomark _))
  (pss_one (ps_ret pe_bl))
  pss_nil)
 (pss_cons (ps_if (pt_not (pt_val (pe_callB (cr_all rfl) rfl (T.free 5) (by decide +kernel) (pa_cons (pe_lc (own := [("_law_part_here", 8)]) (g := gName 8) (tt := tYes) rfl sc_l_lists_hold.nd (VL.pi_seq (pv 4)) (blkOk_by (N := ["_law_code_here", "_law_number", "_law_lot_here", "_law_odds_here", "_law_told", "_law_rows", "_law_odd", "_law_digits_here", "_law_part_here"]) (sc := defScope s_l_lists_hold) (by decide +kernel)) (fun _ _ _ _ _ => (pg_name (i := 8) sc_l_lists_hold.nd rfl (Or.inl rfl))) (fun _ _ _ _ _ => pts_nil) (fun _ _ _ _ _ => (pe_cal c_l_wholes (hr.mono (by decide)) pass0 (pa_cons (pv 8) (pa_cons (pe_callB (show CallR _ (.builtin "len") (MB.rLenQ K) from MB.k_len) rfl (T.free 3) PySem.boot_len (pa_cons (pv 8) pa_nil)) pa_nil))))) pa_nil))))
  (pss_one (ps_ret pe_bl))
  pss_nil)
 (pss_cons (ps_set (i := 5) sc_l_lists_hold.nd rfl (Or.inl rfl) (pe_cal c_even_rows (hr.mono (by decide)) pass0 (pa_cons (pv 0) (pa_cons (pv 1) pa_nil))))
 (pss_cons (ps_if (PW.pt (pw_or (pt_not (pt_val (pe_callB call_isi rfl (T.free 0) (by decide +kernel) (pa_cons (pv 5) (pa_cons (pe_ty "tuple" rfl (T.free 9) (by decide +kernel)) pa_nil))))) (pw_or1 (pt_not (pt_val (pe_callB (cr_all rfl) rfl (T.free 5) (by decide +kernel) (pa_cons (pe_lc (own := [("_law_digits_here", 7)]) (g := gName 7) (tt := tYes) rfl sc_l_lists_hold.nd (VL.pi_seq (pv 5)) (blkOk_by (N := ["_law_code_here", "_law_number", "_law_lot_here", "_law_odds_here", "_law_told", "_law_rows", "_law_odd", "_law_digits_here", "_law_part_here"]) (sc := defScope s_l_lists_hold) (by decide +kernel)) (fun _ _ _ _ _ => (pg_name (i := 7) sc_l_lists_hold.nd rfl (Or.inl rfl))) (fun _ _ _ _ _ => pts_nil) (fun _ _ _ _ _ => (pe_cal c_l_wholes (hr.mono (by decide)) pass0 (pa_cons (pv 7) (pa_cons (pe_callB (show CallR _ (.builtin "len") (MB.rLenQ K) from MB.k_len) rfl (T.free 3) PySem.boot_len (pa_cons (pv 2) pa_nil)) pa_nil))))) pa_nil)))))))
  (pss_one (ps_ret pe_bl))
  pss_nil)
 (pss_one (ps_ret (pe_cmpR (VL.op_eqX hr.units) (pe_callTy MB.k_listOf rfl (T.free 10) (by decide +kernel) (pa_cons (pv 5) pa_nil)) (pe_lc (own := [("_law_digits_here", 7)]) (g := gName 7) rfl sc_l_lists_hold.nd (VL.pi_seq (pe_cal c_l_digits (hr.mono (by decide)) pass0 (pa_cons (pe_callB MB.k_len rfl (T.free 3) PySem.boot_len (pa_cons (pv 2) pa_nil)) pa_nil))) (blkOk_by (N := ["_law_code_here", "_law_number", "_law_lot_here", "_law_odds_here", "_law_told", "_law_rows", "_law_odd", "_law_digits_here", "_law_part_here"]) (sc := defScope s_l_lists_hold) (by decide +kernel)) (fun _ _ _ _ _ => (pg_name (i := 7) sc_l_lists_hold.nd rfl (Or.inl rfl))) (fun _ _ _ _ _ => pts_one (pt_cmpR (show OpR _ (compareOp .Eq) (VL.rEqX K) from VL.op_eqX hr.units) (pe_op op_mod (pe_callTy MB.k_int1 rfl (T.free 1) (by decide +kernel) (pa_cons (pe_callB (show CallR _ (.builtin "sum") (VL.rSumA K) from VL.cr_sumA rfl) rfl (T.free 6) (by decide +kernel) (pa_cons (pv 7) pa_nil)) pa_nil)) pe_int) pe_int (nomark _))) (fun _ _ _ _ _ => (pv 7))) (nomark _))))))))), ?_⟩), T.glo 74, F.kp, F.bindsN fun _ _ _ _ _ _ us hl => match us, hl with | [_, _, _, _], _ => rfl, .nil⟩

  · rintro ds O Q E ⟨n, cs, i, c, B, ts, rfl, _⟩; rfl
  · rintro ds O Q E ⟨n, cs, i, c, B, ts, rfl, hC, hA, k⟩
    have hcl := (hC.1.2 c (List.mem_of_getElem? hA.2)).1
    have hol := odds_le hcl
    walk_at "vw"
    refine VL.l_frz (VL.ln_listG rfl ?_)
    walk_at "vw"
    refine ⟨n, cs, i, c, rfl, hC, hA, ?_⟩
    walk_at "vw"
    unfold oddD
    refine VL.ln_map fst2 (VL.i_seq rfl ?_)
    walk_at "vw"
    refine ⟨_, rfl, by rw [List.length_map]; omega, fun _ _ => rfl, fun j d O2 hd ex => ?_, ?_⟩
    · obtain ⟨l, hl, rfl⟩ := odd_at hd
      walk_at "vw"
      exact ⟨rfl, rfl⟩
    · rw [show (((VL.odds c).map fun l => VL.D.lst [VL.lotD l, .int (VL.far B ts c l)]).map fst2) = (VL.odds c).map VL.lotD from by rw [List.map_map]; rfl]
      walk_at "vw"
      refine VL.o_neD rfl (.lst (VL.pd_rowsT (VL.odds c))) (.lst (VL.pd_rowsT (VL.odds c))) (sh_rowsM (VL.odds c)) (sh_rowsM (VL.odds c)) ?_
      rw [show PyData.eqv (.list ((VL.odds c).map fun c => .tuple (VL.pInts c))) (.list ((VL.odds c).map fun c => .tuple (VL.pInts c))) = true from (VL.eqv_rows (VL.odds c) (VL.odds c)).trans (decide_eq_true rfl)]
      walk_at "vw"
      refine VL.ln_map (fun _ => .bl true) (VL.i_seq rfl ?_)
      walk_at "vw"
      refine ⟨_, rfl, by rw [List.length_map]; omega, fun _ _ => rfl, fun j d O2 hd ex => ?_, ?_⟩
      · obtain ⟨l, hl, rfl⟩ := lots_at hd
        have hl2 := (VL.odds_mem.mp (List.mem_of_getElem? hl)).1.length_le
        walk_at "vw"
        refine ⟨_, _, rfl, VL.kn_tup, fun xs h => ?_, ?_⟩
        · cases h
          refine ⟨by rw [List.length_map]; omega, fun x hx => ?_⟩
          obtain ⟨b, _, rfl⟩ := List.mem_map.mp hx
          exact VL.kn_int
        · rw [List.length_map, wholes_ints]
          exact ⟨rfl, rfl⟩
      · walk_at "vw"
        rw [List.all_eq_true.mpr fun _ _ => rfl]
        walk_at "vw"
        refine ⟨n, cs, i, c, rfl, hC, hA, ?_⟩
        walk_at "vw"
        have hEl : ((VL.digs c.length).filter VL.evenL).length ≤ 1024 := Nat.le_trans (List.length_filter_le _ _) (by rw [VL.digs_len]; exact Nat.pow_le_pow_right (n := 2) (by decide) hcl)
        have hEm : ∀ r ∈ (VL.digs c.length).filter VL.evenL, r.length = c.length := fun r hr => (VL.digs_mem _ _ (List.mem_filter.mp hr).1).1
        refine VL.ln_map (fun _ => .bl true) (VL.i_seq rfl ?_)
        walk_at "vw"
        refine ⟨_, rfl, by rw [List.length_map]; omega, fun _ _ => rfl, fun j d O2 hd ex => ?_, ?_⟩
        · obtain ⟨l, hl, rfl⟩ := lots_at hd
          have hl2 := hEm l (List.mem_of_getElem? hl)
          walk_at "vw"
          refine ⟨_, _, rfl, VL.kn_tup, fun xs h => ?_, ?_⟩
          · cases h
            refine ⟨by rw [List.length_map]; omega, fun x hx => ?_⟩
            obtain ⟨b, _, rfl⟩ := List.mem_map.mp hx
            exact VL.kn_int
          · rw [List.length_map, ← hl2, wholes_ints]
            exact ⟨rfl, rfl⟩
        · walk_at "vw"
          rw [List.all_eq_true.mpr fun _ _ => rfl]
          walk_at "vw"
          refine VL.ln_lcP (fun d => VL.evenL (lotI d)) id (VL.i_seq rfl ?_)
          walk_at "vw"
          rw [List.length_map]
          refine ⟨c.length, rfl, by omega, ?_⟩
          refine ⟨_, rfl, by rw [List.length_map, VL.digs_len]; exact VL.le_line (Nat.le_trans (Nat.pow_le_pow_right (n := 2) (by decide) hcl) (by decide)), fun _ _ _ => rfl, fun j d L acc hd hL => ?_, ?_⟩
          · obtain ⟨l, hl, rfl⟩ := lots_at hd
            rw [lotI_lot]
            walk_at "vw"
            refine ⟨⟨?_, rfl⟩, fun _ => VL.l_var rfl ⟨rfl, rfl⟩⟩
            unfold VL.evenL
            rw [vd_int]
          · rw [filter_lots VL.evenL]
            walk_at "vw"
            generalize (VL.digs c.length).filter VL.evenL = G
            refine VL.o_eqD rfl (.lst (VL.pd_rowsT G)) (.lst (VL.pd_rowsT G)) (sh_rowsM G) (sh_rowsM G) ?_
            rw [show PyData.eqv (.list (G.map fun c => .tuple (VL.pInts c))) (.list (G.map fun c => .tuple (VL.pInts c))) = true from (VL.eqv_rows G G).trans (decide_eq_true rfl)]
            exact k
end
end K04
namespace K04
open PySem PySem.Spec PyProof.Rows L2 MB
theorem exc_far {B : Int} {ts c l : List Int} (hs : c.Pairwise (· < ·)) (hl : l ∈ VL.odds c) : excT ts B c l = B - VL.far B ts c l := by
  rw [VL.far_eq (hs.imp fun h => by omega) (VL.odds_mem.mp hl).1]
  unfold excT
  rw [Int.mul_sub]
  omega
/-- the numbers of a row over its least bottom -/
theorem tops_in {n : Int} {rs : List (Int × Int)} (hS : Sml rs) (hl : (rs.length : Int) = n) {c : List Int} (hc : InR c n) : ∀ b ∈ c, 0 ≤ VL.dig (VL.topsL rs (VL.lcms rs)) b ∧ VL.dig (VL.topsL rs (VL.lcms rs)) b ≤ (VL.lcms rs : Nat) := fun b hb => by
  obtain ⟨h0, h1⟩ := hc b hb
  have hb2 : b.toNat < rs.length := by omega
  obtain ⟨r1, r2, r3, r4⟩ := sml_at hS (List.getElem_mem hb2)
  have e : VL.dig (VL.topsL rs (VL.lcms rs)) b = rs[b.toNat].1 * ((VL.lcms rs : Nat) : Int).fdiv rs[b.toNat].2 := by
    unfold VL.dig VL.topsL
    rw [List.getD_eq_getElem?_getD, List.getElem?_map, List.getElem?_eq_getElem hb2]; rfl
  rw [e]
  generalize rs[b.toNat] = r at *
  have h3 : 0 ≤ ((VL.lcms rs : Nat) : Int).fdiv r.2 := by
    rw [Int.fdiv_eq_ediv_of_nonneg _ (by omega)]
    exact Int.ediv_nonneg (by omega) (by omega)
  have h4 : r.2 * ((VL.lcms rs : Nat) : Int).fdiv r.2 ≤ (VL.lcms rs : Nat) := by
    rw [Int.fdiv_eq_ediv_of_nonneg _ (by omega)]
    exact Int.mul_ediv_self_le (by omega)
  exact ⟨Int.mul_nonneg r2 h3, Int.le_trans (Int.mul_le_mul_of_nonneg_right r3 h3) h4⟩
theorem low_pd (O : VL.Oh) (t b : Int) : VL.PD O (lowD t b) (.tuple (VL.pInts [t.fdiv (K00.gd t b), b.fdiv (K00.gd t b)])) := .tup (VL.pd_ints [t.fdiv (K00.gd t b), b.fdiv (K00.gd t b)])
theorem eqv_self (ns : List Int) : PyData.eqv (.tuple (VL.pInts ns)) (.tuple (VL.pInts ns)) = true := (VL.eqv_ints ns ns).trans (decide_eq_true rfl)
def W_lexc (K : PySem.W.Frag) : VL.WL := fun ds O Q _ => ∃ (p : Addr), ∃ n cs i c d rs, ds = [.ref p, VL.codeD (He.ga K "Code") n cs, .int i, d, oddD (VL.lcms rs) (VL.topsL rs (VL.lcms rs)) c, .int (VL.lcms rs : Nat)] ∧ O p = some .hand ∧ ChkN n cs ∧ At cs i c ∧ c.Pairwise (· < ·) ∧ Given O d n rs ∧ Q (.bl true) O
def W_lworst (K : PySem.W.Frag) : VL.WL := fun ds O Q _ => ∃ n cs i c d rs, ds = [VL.codeD (He.ga K "Code") n cs, .int i, d, oddD (VL.lcms rs) (VL.topsL rs (VL.lcms rs)) c, .int (VL.lcms rs : Nat)] ∧ ChkN n cs ∧ At cs i c ∧ c.Pairwise (· < ·) ∧ Given O d n rs ∧ Q (.bl true) O
section
variable {P : Program} {w : World} {K : PySem.W.Frag} {mg : Str → Option Value} {base : Heap}
theorem c_l_excess_holds (T : Txt K mg) : Cal P w K mg base CX0 12 "_law_excess_holds" ["_law_hand_here", "_law_code_here", "_law_number", "_law_given_here", "_law_odds_here", "_law_bottom"] [] (VL.SpL K (W_lexc K)) := by
  have c_excess_of := @c_excess_of P w K mg base T
  have c_l_draw := @c_l_draw P w K mg base T
  have c_l_given := @c_l_given P w K mg base T
  have c_l_shuffled := @c_l_shuffled P w K mg base T
  have c_l_is_ratio := @c_l_is_ratio P w K mg base T
  have c_l_ratio := @c_l_ratio P w K mg base T
  obtain ⟨fd, F⟩ := T.c.def_ 54 (d := dd_l_excess_holds) rfl
  refine ⟨_, fd, [], VL.fnL' (CX := CX0) F sc_l_excess_holds ?_ (fun cdv A outer s H E hr => ⟨_, PSs.nox (pss_cons (ps_for PassesOwn.never rfl (pi_range1 rfl (T.free 7) (pa_cons pe_int pa_nil)) (pg_name (i := 6) sc_l_excess_holds.nd rfl (Or.inl rfl))
  (pss_cons (ps_set (i := 7) sc_l_excess_holds.nd rfl (Or.inl rfl) (pe_ix ix_seq (pv 4) (pe_cal c_l_draw (hr.mono (by decide)) pass0 (pa_cons (pv 0) (pa_cons (pe_callB MB.k_len rfl (T.free 3) PySem.boot_len (pa_cons (pv 4) pa_nil)) pa_nil))) (fun _ _ => rfl)))
 (pss_cons (ps_set (i := 8) sc_l_excess_holds.nd rfl (Or.inl rfl) (pe_cal c_excess_of (hr.mono (by decide)) pass0 (pa_cons (pv 1) (pa_cons (pv 2) (pa_cons (pe_cal c_l_given (hr.mono (by decide)) pass0 (pa_cons (pv 0) (pa_cons (pe_cal c_l_shuffled (hr.mono (by decide)) pass0 (pa_cons (pv 0) (pa_cons (pe_ix ix_seq (pv 7) pe_int (fun _ _ => rfl)) pa_nil))) pa_nil))) (pa_cons (pv 3) pa_nil))))))
 (pss_one (ps_if (PW.pt (pw_or (pt_not (pt_val (pe_cal c_l_is_ratio (hr.mono (by decide)) pass0 (pa_cons (pv 8) pa_nil)))) (pw_or1 (pt_cmpR (VL.op_neX hr.units) (pv 8) (pe_cal c_l_ratio (hr.mono (by decide)) pass0 (pa_cons (pe_op op_sub (pv 5) (pe_ix ix_seq (pv 7) pe_int (fun _ _ => rfl))) (pa_cons (pv 5) pa_nil))) (nomark _)))))
  (pss_one (ps_ret pe_bl))
  pss_nil)))))
 (pss_one (ps_ret pe_bl))), ?_⟩), T.glo 76, F.kp, F.bindsN fun _ _ _ _ _ _ us hl => match us, hl with | [_, _, _, _, _, _], _ => rfl, .nil⟩

  · rintro ds O Q E ⟨p, n, cs, i, c, d, rs, rfl, _⟩; rfl
  · rintro ds O Q E ⟨p, n, cs, i, c, d, rs, rfl, hp, hC, hA, hs, hG, k⟩
    have hG2 := hG
    obtain ⟨hkd, hd, hrl, hS⟩ := hG2
    have hcm := List.mem_of_getElem? hA.2
    obtain ⟨hcl, hcb⟩ := hC.1.2 c hcm
    have hcne := hC.2.2 c hcm
    have hol := odds_le hcl
    have hop : 0 < (VL.odds c).length := List.length_pos_iff.mpr (VL.odds_ne hcne)
    have hpos : 0 < VL.lcms rs := VL.lcms_pos fun r hr => (sml_at hS hr).1
    have hlt := sml_lcm hS (i := rs.length) (Nat.le_refl _)
    rw [List.take_length] at hlt
    have htp := tops_in hS hrl (c := c) hcb
    have hfar : ∀ l, 0 ≤ VL.far (VL.lcms rs) (VL.topsL rs (VL.lcms rs)) c l ∧ VL.far (VL.lcms rs) (VL.topsL rs (VL.lcms rs)) c l ≤ (VL.lcms rs : Nat) * 10 := fun l => by
      obtain ⟨z1, z2⟩ := VL.far_le (B := (VL.lcms rs : Nat)) l htp (by omega)
      exact ⟨z1, Int.le_trans z2 (Int.mul_le_mul_of_nonneg_left (by omega) (by omega))⟩
    generalize hts : VL.topsL rs (VL.lcms rs) = ts at *
    unfold oddD
    walk_at "vw"
    refine VL.s_for (VL.i_rng1 ?_)
    walk_at "vw"
    refine ⟨fun j ρ' O' => O' = O ∧ ∃ x y z, ρ' = [some (.ref p), some (VL.codeD (He.ga K "Code") n cs), some (.int i), some d, some (.lst ((VL.odds c).map fun l => VL.D.lst [VL.lotD l, .int (VL.far (VL.lcms rs) ts c l)])), some (.int (VL.lcms rs : Nat)), x, y, z], ⟨rfl, none, none, none, rfl⟩, fun _ _ _ _ => trivial, ?_, ?_⟩
    · rintro j d0 ρ' O' hd0 ⟨rfl, x, y, z, rfl⟩
      obtain ⟨_, rfl⟩ := VL.rngD_at hd0
      walk_at "vw"
      refine ⟨p, _, rfl, hp, by rw [List.length_map]; omega, by rw [List.length_map]; omega, fun v v0 v1 => ?_⟩
      obtain ⟨x0, hx, _, ha⟩ := VL.at_in (xs := (VL.odds c).map fun l => VL.D.lst [VL.lotD l, .int (VL.far (VL.lcms rs) ts c l)]) v0 v1
      obtain ⟨l, hl, rfl⟩ := List.mem_map.mp hx
      have hll := (VL.odds_mem.mp hl).1.length_le
      have hf := hfar l
      have hxf := exc_far (B := (VL.lcms rs : Nat)) (ts := ts) hs hl
      refine VL.o_ixQ rfl rfl ha ?_
      walk_at "vw"
      refine ⟨p, l, rfl, hp, by omega, fun ms hm => ?_⟩
      walk_at "vw"
      refine ⟨p, _, _, rfl, hp, rfl, ?_, ?_⟩
      all_goals
        walk_at "vw"
        refine ⟨n, cs, i, c, _, ms, l, d, rs, rfl, hC, hA, hs, (by first | exact VL.kn_lst | exact VL.kn_tup), rfl, hm, hl, hG, ?_⟩
        rw [hts, hxf]
        walk_at "vw"
        refine ⟨_, _, rfl, by omega, Nat.lt_of_lt_of_le (show ((VL.lcms rs : Nat) - VL.far (VL.lcms rs) ts c l : Int).natAbs < 2 ^ 306 by omega) (Nat.pow_le_pow_right (by decide) (by decide)), Int.lt_trans (show ((VL.lcms rs : Nat) : Int) < 2 ^ 301 by omega) (by decide), ?_⟩
        walk_at "vw"
        refine ⟨_, _, rfl, by omega, Nat.lt_of_lt_of_le (show ((VL.lcms rs : Nat) - VL.far (VL.lcms rs) ts c l : Int).natAbs < 2 ^ 306 by omega) (Nat.pow_le_pow_right (by decide) (by decide)), Int.lt_trans (show ((VL.lcms rs : Nat) : Int) < 2 ^ 301 by omega) (by decide), ?_⟩
        refine VL.o_neD rfl (low_pd _ _ _) (low_pd _ _ _) (VL.sh_intsT _) (VL.sh_intsT _) ?_
        rw [eqv_self]
        walk_at "vw"
        exact ⟨rfl, _, _, _, rfl⟩
    · rintro ρ' O' ⟨rfl, x, y, z, rfl⟩
      walk_at "vw"
      exact k
theorem c_l_worst_holds (T : Txt K mg) : Cal P w K mg base CX0 12 "_law_worst_holds" ["_law_code_here", "_law_number", "_law_given_here", "_law_odds_here", "_law_bottom"] [] (VL.SpL K (W_lworst K)) := by
  have c_worst_lot := @c_worst_lot P w K mg base T
  have c_l_is_ratio := @c_l_is_ratio P w K mg base T
  have c_l_wholes := @c_l_wholes P w K mg base T
  have c_l_ratio := @c_l_ratio P w K mg base T
  obtain ⟨fd, F⟩ := T.c.def_ 53 (d := dd_l_worst_holds) rfl
  refine ⟨_, fd, [], VL.fnL' (CX := CX0) F sc_l_worst_holds ?_ (fun cdv A outer s H E hr => ⟨_, PSs.nox (pss_cons (ps_set (i := 5) sc_l_worst_holds.nd rfl (Or.inl rfl) (pe_cal c_worst_lot (hr.mono (by decide)) pass0 (pa_cons (pv 0) (pa_cons (pv 1) (pa_cons (pv 2) pa_nil)))))
 (pss_cons (ps_if (PW.pt (pw_or (pt_not (pt_val (pe_callB call_isi rfl (T.free 0) (by decide +kernel) (pa_cons (pv 5) (pa_cons (pe_ty "tuple" rfl (T.free 9) (by decide +kernel)) pa_nil))))) (pw_or1 (pt_cmpR (VL.op_neX hr.units) (pe_callB MB.k_len rfl (T.free 3) PySem.boot_len (pa_cons (pv 5) pa_nil)) pe_int (nomark _)))))
  (pss_one (ps_ret pe_bl))
  pss_nil)
 (pss_cons (ps_set (i := 6) sc_l_worst_holds.nd rfl (Or.inr rfl) (pe_callB (cr_min rfl) rfl (T.free 13) (by decide +kernel) (pa_cons (pe_lc (own := [("_law_odd", 8)]) (g := gName 8) (tt := tYes) rfl sc_l_worst_holds.nd (VL.pi_seq (pv 3)) (blkOk_by (N := ["_law_code_here", "_law_number", "_law_given_here", "_law_odds_here", "_law_bottom", "_law_told", "_law_least", "_law_first", "_law_odd"]) (sc := defScope s_l_worst_holds) (by decide +kernel)) (fun _ _ _ _ _ => (pg_name (i := 8) sc_l_worst_holds.nd rfl (Or.inl rfl))) (fun _ _ _ _ _ => pts_nil) (fun _ _ _ _ _ => (pe_ix (show IxR _ (rIx K) from ix_seq) (pv 8) pe_int (fun _ _ => rfl)))) pa_nil)))
 (pss_cons (ps_set (i := 7) sc_l_worst_holds.nd rfl (Or.inl rfl) (pe_ix ix_seq (pe_lc (own := [("_law_odd", 8)]) (g := gName 8) rfl sc_l_worst_holds.nd (VL.pi_seq (pv 3)) (blkOk_by (N := ["_law_code_here", "_law_number", "_law_given_here", "_law_odds_here", "_law_bottom", "_law_told", "_law_least", "_law_first", "_law_odd"]) (sc := defScope s_l_worst_holds) (by decide +kernel)) (fun _ _ _ _ _ => (pg_name (i := 8) sc_l_worst_holds.nd rfl (Or.inl rfl))) (fun _ _ _ _ _ => pts_one (pt_cmpR (show OpR _ (compareOp .Eq) (VL.rEqX K) from VL.op_eqX hr.units) (pe_ix (show IxR _ (rIx K) from ix_seq) (pv 8) pe_int (fun _ _ => rfl)) (pv 6) (nomark _))) (fun _ _ _ _ _ => (pe_ix (show IxR _ (rIx K) from ix_seq) (pv 8) pe_int (fun _ _ => rfl)))) pe_int (fun _ _ => rfl)))
 (pss_cons (ps_if (PW.pt (pw_or (pt_not (pt_val (pe_cal c_l_wholes (hr.mono (by decide)) pass0 (pa_cons (pe_ix ix_seq (pv 5) pe_int (fun _ _ => rfl)) (pa_cons (pe_callB MB.k_len rfl (T.free 3) PySem.boot_len (pa_cons (pv 7) pa_nil)) pa_nil))))) (pw_or1 (pt_cmpR (VL.op_neX hr.units) (pe_ix ix_seq (pv 5) pe_int (fun _ _ => rfl)) (pv 7) (nomark _)))))
  (pss_one (ps_ret pe_bl))
  pss_nil)
 (pss_one (ps_ret (pe_and (pe_cal c_l_is_ratio (hr.mono (by decide)) pass0 (pa_cons (pe_ix ix_seq (pv 5) pe_int (fun _ _ => rfl)) pa_nil)) (pe_one (pe_cmpR (VL.op_eqX hr.units) (pe_ix ix_seq (pv 5) pe_int (fun _ _ => rfl)) (pe_cal c_l_ratio (hr.mono (by decide)) pass0 (pa_cons (pe_op op_sub (pv 4) (pv 6)) (pa_cons (pv 4) pa_nil))) (nomark _))))))))))), ?_⟩), T.glo 75, F.kp, F.bindsN fun _ _ _ _ _ _ us hl => match us, hl with | [_, _, _, _, _], _ => rfl, .nil⟩

  · rintro ds O Q E ⟨n, cs, i, c, d, rs, rfl, _⟩; rfl
  · rintro ds O Q E ⟨n, cs, i, c, d, rs, rfl, hC, hA, hs, hG, k⟩
    have hG2 := hG
    obtain ⟨hkd, hd, hrl, hS⟩ := hG2
    have hcm := List.mem_of_getElem? hA.2
    obtain ⟨hcl, hcb⟩ := hC.1.2 c hcm
    have hcne := hC.2.2 c hcm
    have hol := odds_le hcl
    have hone := VL.odds_ne hcne
    have hpos : 0 < VL.lcms rs := VL.lcms_pos fun r hr => (sml_at hS hr).1
    have hlt := sml_lcm hS (i := rs.length) (Nat.le_refl _)
    rw [List.take_length] at hlt
    have htp := tops_in hS hrl (c := c) hcb
    have hfar : ∀ l, 0 ≤ VL.far (VL.lcms rs) (VL.topsL rs (VL.lcms rs)) c l ∧ VL.far (VL.lcms rs) (VL.topsL rs (VL.lcms rs)) c l ≤ (VL.lcms rs : Nat) * 10 := fun l => by
      obtain ⟨z1, z2⟩ := VL.far_le (B := (VL.lcms rs : Nat)) l htp (by omega)
      exact ⟨z1, Int.le_trans z2 (Int.mul_le_mul_of_nonneg_left (by omega) (by omega))⟩
    obtain ⟨w1, w2⟩ := VL.worst_first (B := (VL.lcms rs : Nat)) (ts := VL.topsL rs (VL.lcms rs)) hcne hs
    obtain ⟨wr, hw⟩ : ∃ wr, (VL.odds c).filter (fun l => decide (VL.far (VL.lcms rs) (VL.topsL rs (VL.lcms rs)) c l = (VL.lcms rs : Nat) - VL.wTop (VL.topsL rs (VL.lcms rs)) (VL.lcms rs) c)) = VL.wLot (VL.topsL rs (VL.lcms rs)) (VL.lcms rs) c :: wr := List.head?_eq_some_iff.mp w2
    have wm : VL.wLot (VL.topsL rs (VL.lcms rs)) (VL.lcms rs) c ∈ (VL.odds c).filter (fun l => decide (VL.far (VL.lcms rs) (VL.topsL rs (VL.lcms rs)) c l = (VL.lcms rs : Nat) - VL.wTop (VL.topsL rs (VL.lcms rs)) (VL.lcms rs) c)) := by rw [hw]; exact List.mem_cons_self ..
    obtain ⟨wm1, wm2⟩ := List.mem_filter.mp wm
    have wm2 := of_decide_eq_true wm2
    have hwl := (VL.odds_mem.mp wm1).1.length_le
    walk_at "vw"
    refine ⟨n, cs, i, c, d, rs, rfl, hC, hA, hG, ?_⟩
    generalize hts : VL.topsL rs (VL.lcms rs) = ts at *
    generalize hW : VL.wLot ts (VL.lcms rs) c = W at *
    generalize hT : VL.wTop ts (VL.lcms rs) c = Tp at *
    unfold oddD
    walk_at "vw"
    refine if_ni (fun h => absurd rfl h) (fun _ => ?_)
    walk_at "vw"
    refine VL.ln_map snd2 (VL.i_seq rfl ?_)
    walk_at "vw"
    refine ⟨_, rfl, by rw [List.length_map]; omega, fun _ _ => rfl, fun j d0 O2 hd0 ex => ?_, ?_⟩
    · obtain ⟨l, hl, rfl⟩ := odd_at hd0
      walk_at "vw"
      exact ⟨rfl, rfl⟩
    · rw [show (((VL.odds c).map fun l => VL.D.lst [VL.lotD l, .int (VL.far (VL.lcms rs) ts c l)]).map snd2) = ((VL.odds c).map fun l => VL.far (VL.lcms rs) ts c l).map VL.D.int from by rw [List.map_map, List.map_map]; rfl]
      walk_at "vw"
      refine VL.k_min rfl rfl (fun z => hone (List.map_eq_nil_iff.mp z)) fun M hM1 hM2 => ?_
      have eM : M = (VL.lcms rs : Nat) - Tp := by
        have := hM2 _ (List.mem_map.mpr ⟨W, wm1, rfl⟩)
        obtain ⟨l, hl, e⟩ := List.mem_map.mp hM1
        have := w1 l hl
        omega
      subst eM
      walk_at "vw"
      refine VL.ln_lcP (fun d => decide (VL.toI (snd2 d) = (VL.lcms rs : Nat) - Tp)) fst2 (VL.i_seq rfl ?_)
      walk_at "vw"
      refine ⟨_, rfl, by rw [List.length_map]; exact VL.le_line (by omega), fun _ _ _ => rfl, fun j d0 L acc hd0 hL => ?_, ?_⟩
      · obtain ⟨l, hl, rfl⟩ := odd_at hd0
        walk_at "vw"
        refine ⟨⟨?_, rfl⟩, fun _ => ?_⟩
        · rw [vd_int]; rfl
        · walk_at "vw"
          exact ⟨rfl, rfl⟩
      · rw [show ((((VL.odds c).map fun l => VL.D.lst [VL.lotD l, .int (VL.far (VL.lcms rs) ts c l)]).filter fun d => decide (VL.toI (snd2 d) = (VL.lcms rs : Nat) - Tp)).map fst2) = ((VL.odds c).filter fun l => decide (VL.far (VL.lcms rs) ts c l = (VL.lcms rs : Nat) - Tp)).map VL.lotD from by rw [List.filter_map, List.map_map]; rfl, hw]
        rw [List.map_cons]
        walk_at "vw"
        refine VL.o_ixQ rfl (show VL.asS O (.lst (VL.lotD W :: wr.map VL.lotD)) = some (VL.lotD W :: wr.map VL.lotD) from rfl) (show atI (VL.lotD W :: wr.map VL.lotD) ((0 : Nat) : Int) = some (VL.lotD W) from atI_nat rfl) ?_
        walk_at "vw"
        have hfW := hfar W
        refine ⟨_, _, rfl, VL.kn_tup, fun xs h => ?_, ?_⟩
        · cases h
          refine ⟨by rw [List.length_map]; omega, fun x hx => ?_⟩
          obtain ⟨b, _, rfl⟩ := List.mem_map.mp hx
          exact VL.kn_int
        · rw [List.length_map, wholes_ints]
          walk_at "vw"
          refine VL.o_neD rfl (.tup (VL.pd_ints W)) (.tup (VL.pd_ints W)) (VL.sh_intsT _) (VL.sh_intsT _) ?_
          rw [eqv_self]
          walk_at "vw"
          refine ⟨_, _, rfl, by omega, Nat.lt_of_lt_of_le (show Tp.natAbs < 2 ^ 306 by omega) (Nat.pow_le_pow_right (by decide) (by decide)), Int.lt_trans (show ((VL.lcms rs : Nat) : Int) < 2 ^ 301 by omega) (by decide), ?_⟩
          walk_at "vw"
          rw [show ((VL.lcms rs : Nat) : Int) - ((VL.lcms rs : Nat) - Tp) = Tp by omega]
          refine ⟨_, _, rfl, by omega, Nat.lt_of_lt_of_le (show Tp.natAbs < 2 ^ 306 by omega) (Nat.pow_le_pow_right (by decide) (by decide)), Int.lt_trans (show ((VL.lcms rs : Nat) : Int) < 2 ^ 301 by omega) (by decide), ?_⟩
          refine VL.o_eqD rfl (low_pd _ _ _) (low_pd _ _ _) (VL.sh_intsT _) (VL.sh_intsT _) ?_
          rw [eqv_self]
          exact k
end
end K04
namespace K04
open PySem PySem.Spec PyProof.Rows L2 MB
abbrev PT (K : PySem.W.Frag) : Addr := (He.cT K ("_law_lots", none)).2
abbrev QN : PySem.Str := "_law_lots" ++ ".<locals>." ++ "<lambda>"
def W_law (K : PySem.W.Frag) : VL.WL := fun ds O Q _ => ∃ ns : List Int, ds = [.scr ns] ∧ ns.length ≤ 63 ∧ O (PT K) = some (.tbl QN) ∧ ∀ O', Q (.bl true) O'
def tightC (ts : List Int) (L : Int) (cs : List (List Int)) : Nat → List (Int × List Int)
  | 0 => []
  | i + 1 => tightC ts L cs i ++ ((VL.odds (cs.getD i [])).filter fun l => decide (excT ts L (cs.getD i []) l = 0)).map fun l => (((i : Nat) : Int), l)
theorem tightC_N (ts : List Int) (L : Int) (cs : List (List Int)) : ∀ i, tightN ts L cs i = (tightC ts L cs i).map VL.coupD
  | 0 => rfl
  | i + 1 => by
    show tightN ts L cs i ++ _ = (tightC ts L cs i ++ _).map VL.coupD
    rw [tightC_N ts L cs i, List.map_append, List.map_map]
    rfl
/-- what the law drew: a code's checks -/
def Drew (n : Int) (cs : List (List Int)) : Prop := (1 ≤ n ∧ n ≤ 10) ∧ cs.length ≤ 10 ∧ ∀ c ∈ cs, VL.Lot n c ∧ c ≠ []
theorem Drew.len {n : Int} {cs : List (List Int)} (h : Drew n cs) {c : List Int} (hc : c ∈ cs) : c.length ≤ 10 := by
  have := (h.2.2 c hc).1.len (by have := h.1; omega)
  have := h.1
  omega
theorem Drew.chk {n : Int} {cs : List (List Int)} (h : Drew n cs) : ChkN n cs := ⟨⟨by have := h.2.1; omega, fun c hc => ⟨h.len hc, (h.2.2 c hc).1.2⟩⟩, h.1.2, fun c hc => (h.2.2 c hc).2⟩
theorem wds_ok {n : Nat} {cs : List (List Int)} (hn : n ≤ 10) : Wds n ((VL.digs n).filter fun w => evenOn w cs) := by
  refine ⟨fun z => ?_, Nat.le_trans (List.length_filter_le _ _) (by rw [VL.digs_len]; exact Nat.pow_le_pow_right (n := 2) (by decide) hn), fun w hw => ?_⟩
  · have : List.replicate n (0 : Int) ∈ (VL.digs n).filter fun w => evenOn w cs := by
      refine List.mem_filter.mpr ⟨VL.digs_zero n, ?_⟩
      unfold evenOn
      rw [List.all_eq_true]
      intro c _
      rw [decide_eq_true_eq]
      have e : ∀ m : List Int, (VL.ats (List.replicate n (0 : Int)) m).sum = 0 := fun m => by
        unfold VL.ats
        induction m with
        | nil => rfl
        | cons b m ih =>
          rw [List.map_cons, List.sum_cons, ih]
          unfold VL.dig
          rw [List.getD_eq_getElem?_getD, List.getElem?_replicate]
          split <;> rfl
      rw [e]; rfl
    rw [z] at this; cases this
  · obtain ⟨h1, h2⟩ := VL.digs_mem n w (List.mem_filter.mp hw).1
    exact ⟨by omega, h2⟩
abbrev TS (rs : List (Int × Int)) : List Int := VL.topsL rs (VL.lcms rs)
abbrev LB (rs : List (Int × Int)) : Int := ((VL.lcms rs : Nat) : Int)
def FaultAt (ts : List Int) (L : Int) (cs : List (List Int)) (i : Nat) (fa : VL.D) : Prop :=
  (fa = .non ∧ ∀ (j : Nat) (c : List Int), j < i → cs[j]? = some c → ¬ VL.wTop ts L c > 0) ∨
  ∃ (j : Nat) (c : List Int), j < i ∧ cs[j]? = some c ∧ VL.wTop ts L c > 0 ∧ (∀ (j' : Nat) (c' : List Int), j' < j → cs[j']? = some c' → ¬ VL.wTop ts L c' > 0) ∧ fa = VL.coupD ((j : Int), VL.wLot ts L c)
theorem tightC_len {ts : List Int} {L : Int} {cs : List (List Int)} (h : ∀ c ∈ cs, c.length ≤ 10) (i : Nat) : (tightC ts L cs i).length ≤ 1024 * i := by
  have := tight_len (ts := ts) (L := L) h i
  rw [tightC_N, List.length_map] at this
  exact this
theorem fault_none {ts : List Int} {L : Int} {cs : List (List Int)} (h : ∀ (j : Nat) (c : List Int), j < cs.length → cs[j]? = some c → ¬ VL.wTop ts L c > 0) : VL.letX ts L cs = none := by
  unfold VL.letX
  rw [VL.fi_none fun j c' hc => decide_eq_false (h j c' (List.getElem?_eq_some_iff.mp hc).1 hc)]
theorem fault_some {ts : List Int} {L : Int} {cs : List (List Int)} {j : Nat} {c : List Int} (hc : cs[j]? = some c) (hw : VL.wTop ts L c > 0) (hf : ∀ (j' : Nat) (c' : List Int), j' < j → cs[j']? = some c' → ¬ VL.wTop ts L c' > 0) : VL.letX ts L cs = some (j, VL.wLot ts L c) := by
  unfold VL.letX
  rw [VL.fi_some hc (decide_eq_true hw) fun j' c' hj hc' => decide_eq_false (hf j' c' hj hc')]
  show some (j, VL.wLot ts L (cs.getD j [])) = _
  rw [List.getD_eq_getElem?_getD, hc]; rfl
theorem given_of {p : Addr} {t : VL.D} {xs : List VL.D} {O : VL.Oh} {Q : VL.D → VL.Oh → Prop} {E : VL.KXd} (hp : O p = some .hand) (ht : VL.asS O t = some xs) (k : ∀ y, (y = .lst xs ∨ y = .tup xs) → Q y O) : W_given [.ref p, t] O Q E := ⟨p, t, xs, rfl, hp, ht, k _ (.inl rfl), k _ (.inr rfl)⟩
theorem pick_ms {α β γ : Type} {P : α → β → γ → Prop} : ∀ {es : List α} {cs : List β}, es.length = cs.length → (∀ (i : Nat) (e : α) (c : β), es[i]? = some e → cs[i]? = some c → ∃ m, P e c m) → ∃ ms : List γ, ms.length = cs.length ∧ ∀ (i : Nat) (e : α) (c : β) (m : γ), es[i]? = some e → cs[i]? = some c → ms[i]? = some m → P e c m
  | [], [], _, _ => ⟨[], rfl, fun i e c m h => by simp at h⟩
  | [], _ :: _, h, _ => by simp at h
  | _ :: _, [], h, _ => by simp at h
  | e :: es, c :: cs, h, g => by
    obtain ⟨m, hm⟩ := g 0 e c rfl rfl
    obtain ⟨ms, h1, h2⟩ := pick_ms (es := es) (cs := cs) (by simpa using h) fun i e c he hc => g (i + 1) e c (by simpa using he) (by simpa using hc)
    refine ⟨m :: ms, by simp [h1], fun i e' c' m' he hc hm' => ?_⟩
    cases i with
    | zero => cases he; cases hc; cases hm'; exact hm
    | succ i => exact h2 i e' c' m' (by simpa using he) (by simpa using hc) (by simpa using hm')
theorem rows_given {n : Int} {cs : List (List Int)} {es : List VL.D} (hD : Drew n cs) (hl : es.length = cs.length) (h : ∀ (i : Nat) (e : VL.D) (c : List Int), es[i]? = some e → cs[i]? = some c → ∃ m : List Int, m.Perm c ∧ (e = .lst (m.map VL.D.int) ∨ e = .tup (m.map VL.D.int))) (O : VL.Oh) :
    ∃ ms : List (List Int), VL.Rows O (.lst es) ms ∧ ms.length = cs.length ∧ VL.Good n ms ∧ ms.map VL.srt = cs := by
  obtain ⟨ms, h1, h2⟩ := pick_ms hl h
  have at_ : ∀ (i : Nat) (m : List Int), ms[i]? = some m → ∃ e c, es[i]? = some e ∧ cs[i]? = some c ∧ m.Perm c ∧ (e = .lst (m.map VL.D.int) ∨ e = .tup (m.map VL.D.int)) := fun i m hm => by
    have hi := (List.getElem?_eq_some_iff.mp hm).1
    have he : es[i]? = some (es[i]'(by omega)) := List.getElem?_eq_getElem (by omega)
    have hc : cs[i]? = some (cs[i]'(by omega)) := List.getElem?_eq_getElem (by omega)
    exact ⟨_, _, he, hc, h2 i _ _ m he hc hm⟩
  refine ⟨ms, ⟨VL.kn_lst, es, rfl, by omega, fun i x m hx hm => ?_⟩, h1, fun m hm => ?_, ?_⟩
  · obtain ⟨e, c, he, hc, hp, hq⟩ := at_ i m hm
    rw [hx] at he; cases he
    rcases hq with rfl | rfl
    · exact ⟨VL.kn_lst, rfl⟩
    · exact ⟨VL.kn_tup, rfl⟩
  · obtain ⟨i, hi, rfl⟩ := List.getElem_of_mem hm
    obtain ⟨e, c, he, hc, hp, hq⟩ := at_ i _ (List.getElem?_eq_getElem hi)
    obtain ⟨⟨l1, l2⟩, l3⟩ := hD.2.2 c (List.mem_of_getElem? hc)
    refine ⟨fun z => l3 (List.length_eq_zero_iff.mp (by rw [← hp.length_eq, z]; rfl)), hp.symm.nodup (l1.imp fun h => by omega), fun b hb => l2 b (hp.subset hb)⟩
  · refine List.ext_getElem? fun i => ?_
    rw [List.getElem?_map]
    cases hm : ms[i]? with
    | none =>
      have := List.getElem?_eq_none_iff.mp hm
      rw [List.getElem?_eq_none_iff.mpr (by omega)]; rfl
    | some m =>
      obtain ⟨e, c, he, hc, hp, hq⟩ := at_ i m hm
      rw [hc]
      show some (VL.srt m) = some c
      rw [VL.srt_congr hp, VL.srt_sorted ((hD.2.2 c (List.mem_of_getElem? hc)).1.1.imp fun h => Int.le_of_lt h)]
section
variable {P : Program} {w : World} {K : PySem.W.Frag} {mg : Str → Option Value} {base : Heap}
theorem ok_law (T : Txt K mg) (B : LamX.TabB base mg (He.cT K ("_law_lots", none)).1 (He.cT K ("_law_lots", none)).2) {fd : FuncData} (F : FunD K "law" "law" (defArgs s_law) (defBody s_law) (defScope s_law) [] [] (He.ga K "law") fd) : FnOk P w K mg base CX0 14 (He.ga K "law") fd ["_law_script"] (VL.SpL K (W_law K)) := by
  have c_l_hand := @c_l_hand P w K mg base T
  have c_l_words := @c_l_words P w K mg base T
  have c_l_given := @c_l_given P w K mg base T
  have c_Code := @c_Code P w K mg base T
  have c_l_tops := @c_l_tops P w K mg base T
  have c_let_fault := @c_let_fault P w K mg base T
  have c_is_let := @c_is_let P w K mg base T
  have c_tight_lots := @c_tight_lots P w K mg base T
  have c_l_draw := @c_l_draw P w K mg base T
  have c_l_code := @c_l_code P w K mg base T
  have c_l_shares := @c_l_shares P w K mg base T
  have c_l_given_checks := @c_l_given_checks P w K mg base T
  have c_l_odds := @c_l_odds P w K mg base T B
  have c_l_lot := @c_l_lot P w K mg base T
  have c_l_lists_hold := @c_l_lists_hold P w K mg base T
  have c_l_worst_holds := @c_l_worst_holds P w K mg base T
  have c_l_excess_holds := @c_l_excess_holds P w K mg base T
  have c_l_whole := @c_l_whole P w K mg base T
  refine VL.fnL' (CX := CX0) F sc_law ?_ (fun cdv A outer s H E hr => ⟨_, PSs.nox (pss_cons (ps_set (i := 1) sc_law.nd rfl (Or.inr rfl) (pe_cal c_l_hand (hr.mono (by decide)) pass0 (pa_cons (pv 0) pa_nil)))
 (pss_cons (ps_if (pt_cmpR (VL.op_eqX hr.units) (pe_cal c_l_draw (hr.mono (by decide)) pass0 (pa_cons (pv 1) (pa_cons pe_int pa_nil))) pe_int (nomark _))
  (pss_cons (ps_set (i := 2) sc_law.nd rfl (Or.inr rfl) (pe_op op_add pe_int (pe_cal c_l_draw (hr.mono (by decide)) pass0 (pa_cons (pv 1) (pa_cons pe_int pa_nil)))))
 (pss_one (ps_setLc (i := 3) (own := [("_law_k", 18)]) (g := gName 18) (tt := tYes) rfl sc_law.nd rfl rfl (sw_true rfl rfl rfl (by decide +kernel)) (pi_range1 rfl (T.free 7) (pa_cons (pe_op op_add pe_int (pe_cal c_l_draw (hr.mono (by decide)) pass0 (pa_cons (pv 1) (pa_cons pe_int pa_nil)))) pa_nil)) (blkOk_by (N := ["_law_script", "_law_hand_here", "_law_bits", "_law_checks", "_law_words_here", "_law_row", "_law_given_here", "_law_code_here", "_law_bottom", "_law_tops_here", "_law_tight", "_law_fault", "_law_number", "_law_odds_here", "_law_least", "_law_told", "_law_lets", "_law_listed", "_law_k", "_law_odd"]) (sc := defScope s_law) (by decide +kernel)) (fun _ _ _ _ _ => (pg_name (i := 18) sc_law.nd rfl (Or.inl rfl))) (fun _ _ _ _ _ => pts_nil) (fun _ _ _ _ _ => (pe_cal c_l_lot (hr.mono (by decide)) pass0 (pa_cons (pv 1) (pa_cons (pv 2) (pa_cons (pe_op op_sub (pv 2) (pe_cal c_l_draw (hr.mono (by decide)) pass0 (pa_cons (pv 1) (pa_cons pe_int pa_nil)))) pa_nil))))))))
  (pss_one (ps_asg (pe_cal c_l_code (hr.mono (by decide)) pass0 (pa_cons (pv 1) (pa_cons pe_int (pa_cons pe_int (pa_cons pe_int pa_nil))))) (pg_lst rfl (pgs_cons (pg_name (i := 2) sc_law.nd rfl (Or.inr rfl)) (pgs_cons (pg_name (i := 3) sc_law.nd rfl (Or.inl rfl)) pgs_nil))))))
 (pss_cons (ps_set (i := 4) sc_law.nd rfl (Or.inl rfl) (pe_cal c_l_words (hr.mono (by decide)) pass0 (pa_cons (pv 2) (pa_cons (pv 3) pa_nil))))
 (pss_cons (ps_set (i := 5) sc_law.nd rfl (Or.inl rfl) (pe_callTy MB.k_tupOf rfl (T.free 9) (by decide +kernel) (pa_cons (pe_cal c_l_shares (hr.mono (by decide)) pass0 (pa_cons (pv 1) (pa_cons (pv 2) (pa_cons (pv 3) (pa_cons (pv 4) pa_nil))))) pa_nil)))
 (pss_cons (ps_set (i := 6) sc_law.nd rfl (Or.inl rfl) (pe_cal c_l_given (hr.mono (by decide)) pass0 (pa_cons (pv 1) (pa_cons (pv 5) pa_nil))))
 (pss_cons (ps_set (i := 7) sc_law.nd rfl (Or.inl rfl) (VL.pe_mkr c_Code (hr.mono (by decide)) passL (pa_cons (pv 2) (pa_cons (pe_cal c_l_given_checks (hr.mono (by decide)) pass0 (pa_cons (pv 1) (pa_cons (pv 3) pa_nil))) pa_nil))))
 (pss_cons (ps_asg (pe_cal c_l_tops (hr.mono (by decide)) pass0 (pa_cons (pv 5) pa_nil)) (pg_lst rfl (pgs_cons (pg_name (i := 8) sc_law.nd rfl (Or.inr rfl)) (pgs_cons (pg_name (i := 9) sc_law.nd rfl (Or.inl rfl)) pgs_nil))))
 (pss_cons (ps_set (i := 10) sc_law.nd rfl (Or.inl rfl) (pe_lst pa_nil))
 (pss_cons (ps_set (i := 11) sc_law.nd rfl (Or.inl rfl) pe_non)
 (pss_cons (ps_for PassesOwn.never rfl (pi_range1 rfl (T.free 7) (pa_cons (pe_callB MB.k_len rfl (T.free 3) PySem.boot_len (pa_cons (pv 3) pa_nil)) pa_nil)) (pg_name (i := 12) sc_law.nd rfl (Or.inr rfl))
  (pss_cons (ps_set (i := 13) sc_law.nd rfl (Or.inl rfl) (pe_cal c_l_odds (hr.mono (by decide)) pass0 (pa_cons (pe_ix ix_seq (pv 3) (pv 12) (fun _ _ => rfl)) (pa_cons (pv 8) (pa_cons (pv 9) pa_nil)))))
 (pss_cons (ps_if (pt_not (pt_val (pe_cal c_l_lists_hold (hr.mono (by decide)) pass0 (pa_cons (pv 7) (pa_cons (pv 12) (pa_cons (pe_ix ix_seq (pv 3) (pv 12) (fun _ _ => rfl)) (pa_cons (pv 13) pa_nil)))))))
  (pss_one (ps_ret pe_bl))
  pss_nil)
 (pss_cons (ps_if (pt_not (pt_val (pe_cal c_l_worst_holds (hr.mono (by decide)) pass0 (pa_cons (pv 7) (pa_cons (pv 12) (pa_cons (pv 6) (pa_cons (pv 13) (pa_cons (pv 8) pa_nil))))))))
  (pss_one (ps_ret pe_bl))
  pss_nil)
 (pss_cons (ps_if (pt_not (pt_val (pe_cal c_l_excess_holds (hr.mono (by decide)) pass0 (pa_cons (pv 1) (pa_cons (pv 7) (pa_cons (pv 12) (pa_cons (pv 6) (pa_cons (pv 13) (pa_cons (pv 8) pa_nil)))))))))
  (pss_one (ps_ret pe_bl))
  pss_nil)
 (pss_cons (ps_set (i := 10) sc_law.nd rfl (Or.inl rfl) (pe_op op_cat (pv 10) (pe_lc (own := [("_law_odd", 19)]) (g := gName 19) rfl sc_law.nd (VL.pi_seq (pv 13)) (blkOk_by (N := ["_law_script", "_law_hand_here", "_law_bits", "_law_checks", "_law_words_here", "_law_row", "_law_given_here", "_law_code_here", "_law_bottom", "_law_tops_here", "_law_tight", "_law_fault", "_law_number", "_law_odds_here", "_law_least", "_law_told", "_law_lets", "_law_listed", "_law_k", "_law_odd"]) (sc := defScope s_law) (by decide +kernel)) (fun _ _ _ _ _ => (pg_name (i := 19) sc_law.nd rfl (Or.inl rfl))) (fun _ _ _ _ _ => pts_one (pt_cmpR (show OpR _ (compareOp .Eq) (VL.rEqX K) from VL.op_eqX hr.units) (pe_ix (show IxR _ (rIx K) from ix_seq) (pv 19) pe_int (fun _ _ => rfl)) (pv 8) (nomark _))) (fun _ _ _ _ _ => (pe_tup (pa_cons (pv 12) (pa_cons (pe_ix (show IxR _ (rIx K) from ix_seq) (pv 19) pe_int (fun _ _ => rfl)) pa_nil)))))))
 (pss_cons (ps_set (i := 14) sc_law.nd rfl (Or.inr rfl) (pe_callB (cr_min rfl) rfl (T.free 13) (by decide +kernel) (pa_cons (pe_lc (own := [("_law_odd", 19)]) (g := gName 19) (tt := tYes) rfl sc_law.nd (VL.pi_seq (pv 13)) (blkOk_by (N := ["_law_script", "_law_hand_here", "_law_bits", "_law_checks", "_law_words_here", "_law_row", "_law_given_here", "_law_code_here", "_law_bottom", "_law_tops_here", "_law_tight", "_law_fault", "_law_number", "_law_odds_here", "_law_least", "_law_told", "_law_lets", "_law_listed", "_law_k", "_law_odd"]) (sc := defScope s_law) (by decide +kernel)) (fun _ _ _ _ _ => (pg_name (i := 19) sc_law.nd rfl (Or.inl rfl))) (fun _ _ _ _ _ => pts_nil) (fun _ _ _ _ _ => (pe_ix (show IxR _ (rIx K) from ix_seq) (pv 19) pe_int (fun _ _ => rfl)))) pa_nil)))
 (pss_one (ps_if (PW.pt (pw_and (pt_cmpR MB.k_isN (pv 11) pe_non (nomark _)) (pw_and1 (pt_cmpR op_lt (pv 14) (pv 8) (nomark _)))))
  (pss_one (ps_set (i := 11) sc_law.nd rfl (Or.inl rfl) (pe_tup (pa_cons (pv 12) (pa_cons (pe_ix ix_seq (pe_lc (own := [("_law_odd", 19)]) (g := gName 19) rfl sc_law.nd (VL.pi_seq (pv 13)) (blkOk_by (N := ["_law_script", "_law_hand_here", "_law_bits", "_law_checks", "_law_words_here", "_law_row", "_law_given_here", "_law_code_here", "_law_bottom", "_law_tops_here", "_law_tight", "_law_fault", "_law_number", "_law_odds_here", "_law_least", "_law_told", "_law_lets", "_law_listed", "_law_k", "_law_odd"]) (sc := defScope s_law) (by decide +kernel)) (fun _ _ _ _ _ => (pg_name (i := 19) sc_law.nd rfl (Or.inl rfl))) (fun _ _ _ _ _ => pts_one (pt_cmpR (show OpR _ (compareOp .Eq) (VL.rEqX K) from VL.op_eqX hr.units) (pe_ix (show IxR _ (rIx K) from ix_seq) (pv 19) pe_int (fun _ _ => rfl)) (pv 14) (nomark _))) (fun _ _ _ _ _ => (pe_ix (show IxR _ (rIx K) from ix_seq) (pv 19) pe_int (fun _ _ => rfl)))) pe_int (fun _ _ => rfl)) pa_nil)))))
  pss_nil)))))))))
 (pss_cons (ps_set (i := 15) sc_law.nd rfl (Or.inl rfl) (pe_cal c_let_fault (hr.mono (by decide)) passL (pa_cons (pv 7) (pa_cons (pv 6) pa_nil))))
 (pss_cons (ps_if (pt_cmpR MB.k_isN (pv 11) pe_non (nomark _))
  (pss_one (ps_if (pt_cmpR MB.k_notN (pv 15) pe_non (nomark _))
  (pss_one (ps_ret pe_bl))
  pss_nil))
  (pss_one (ps_if (PW.pt (pw_or (pt_not (pt_val (pe_callB call_isi rfl (T.free 0) (by decide +kernel) (pa_cons (pv 15) (pa_cons (pe_ty "tuple" rfl (T.free 9) (by decide +kernel)) pa_nil))))) (pw_or (pt_cmpR (VL.op_neX hr.units) (pv 15) (pv 11) (nomark _)) (pw_or (pt_not (pt_val (pe_cal c_l_whole (hr.mono (by decide)) pass0 (pa_cons (pe_ix ix_seq (pv 15) pe_int (fun _ _ => rfl)) pa_nil)))) (pw_or1 (pt_not (pt_val (pe_callB call_isi rfl (T.free 0) (by decide +kernel) (pa_cons (pe_ix ix_seq (pv 15) pe_int (fun _ _ => rfl)) (pa_cons (pe_ty "tuple" rfl (T.free 9) (by decide +kernel)) pa_nil))))))))))
  (pss_one (ps_ret pe_bl))
  pss_nil)))
 (pss_cons (ps_set (i := 16) sc_law.nd rfl (Or.inl rfl) (pe_cal c_is_let (hr.mono (by decide)) passL (pa_cons (pv 7) (pa_cons (pv 6) pa_nil))))
 (pss_cons (ps_if (PW.pt (pw_or (PW.pt (pw_and (pt_cmpR MB.k_isN (pv 11) pe_non (nomark _)) (pw_and1 (pt_cmpR op_notBl (pv 16) pe_bl (nomark _))))) (pw_or1 (PW.pt (pw_and (pt_cmpR MB.k_notN (pv 11) pe_non (nomark _)) (pw_and1 (pt_cmpR op_notBl (pv 16) pe_bl (nomark _))))))))
  (pss_one (ps_ret pe_bl))
  pss_nil)
 (pss_cons (ps_set (i := 17) sc_law.nd rfl (Or.inl rfl) (pe_cal c_tight_lots (hr.mono (by decide)) pass0 (pa_cons (pv 7) (pa_cons (pv 6) pa_nil))))
 (pss_cons (ps_if (PW.pt (pw_or (pt_not (pt_val (pe_callB call_isi rfl (T.free 0) (by decide +kernel) (pa_cons (pv 17) (pa_cons (pe_ty "tuple" rfl (T.free 9) (by decide +kernel)) pa_nil))))) (pw_or1 (pt_cmpR (VL.op_neX hr.units) (pe_callTy MB.k_listOf rfl (T.free 10) (by decide +kernel) (pa_cons (pv 17) pa_nil)) (pv 10) (nomark _)))))
  (pss_one (ps_ret pe_bl))
  pss_nil)
 (pss_one (ps_ret (pe_cmpR (VL.op_eqX hr.units) (pe_callTy MB.k_listOf rfl (T.free 10) (by decide +kernel) (pa_cons (pv 6) pa_nil)) (pe_callTy MB.k_listOf rfl (T.free 10) (by decide +kernel) (pa_cons (pv 5) pa_nil)) (nomark _)))))))))))))))))))), ?_⟩)
  · rintro ds O Q E ⟨ns, rfl, _⟩; rfl
  · rintro ds O Q E ⟨ns, rfl, hl, hO, k⟩
    walk_at "vw"
    refine ⟨ns, rfl, hl, fun p hp => ?_⟩
    have hPt : VL.updO O p .hand (PT K) = some (.tbl QN) := (VL.updO_ne (fun z => by rw [z] at hO; rw [hp] at hO; cases hO)).trans hO
    have hp1 : VL.updO O p .hand p = some .hand := VL.updO_same
    generalize VL.updO O p .hand = O1 at *
    refine VL.h_name ?_
    show VL.LS _ _ _ _ _
    refine VL.s_cut (fun ρ' O3 => O3 = O1 ∧ ∃ (n : Int) (cs : List (List Int)) (z : Option VL.D), Drew n cs ∧ ρ' = [some (.scr ns), some (.ref p), some (.int n), some (.lst (cs.map VL.lotD)), none, none, none, none, none, none, none, none, none, none, none, none, none, none, z, none]) ?_ ?_
    · walk_at "vw"
      refine ⟨p, 16, rfl, hp1, by decide, by decide, fun pk h0 h1 => ?_⟩
      walk_at "vw"
      refine if_i (fun _ => ?_) (fun _ => ?_)
      · walk_at "vw"
        refine ⟨p, 4, rfl, hp1, by decide, by decide, fun u u0 u1 => ?_⟩
        walk_at "vw"
        refine VL.ln_rel (fun _ _ y => ∃ c, (VL.Lot (7 + u) c ∧ c ≠ []) ∧ y = VL.lotD c) (VL.i_rng1 ?_)
        walk_at "vw"
        refine ⟨p, 2, rfl, hp1, by decide, by decide, fun m m0 m1 => ?_⟩
        walk_at "vw"
        refine ⟨by rw [VL.rngD_len]; omega, fun _ _ => trivial, fun j d O4 hd ex => ?_, fun ys hl2 hy2 => ?_⟩
        · walk_at "vw"
          refine ⟨p, 4, rfl, ex p _ hp1, by decide, by decide, fun v v0 v1 => ?_⟩
          walk_at "vw"
          refine ⟨p, 7 + u, 7 + u - v, rfl, ex p _ hp1, by omega, by omega, ⟨by omega, by omega⟩, fun ms hm hml => ?_⟩
          refine ⟨⟨ms, ⟨hm, fun z => ?_⟩, rfl⟩, rfl⟩
          subst z
          rw [List.length_nil] at hml
          split at hml <;> omega
        · obtain ⟨cs, rfl, hcs⟩ := VL.rel_list (P := fun c => VL.Lot (7 + u) c ∧ c ≠ []) (f := VL.lotD) (VL.rel_mem hl2 hy2 fun _ _ _ _ h => h)
          rw [List.length_map, VL.rngD_len] at hl2
          walk_at "vw"
          exact ⟨rfl, 7 + u, cs, _, ⟨by omega, by omega, hcs⟩, rfl⟩
      · walk_at "vw"
        refine ⟨p, 1, 6, 5, rfl, hp1, by decide, by decide, fun n cs hn hcl hcs => ?_⟩
        walk_at "vw"
        refine VL.h_lst rfl rfl ?_
        walk_at "vw"
        exact ⟨rfl, n, cs, none, ⟨⟨by omega, by omega⟩, by omega, hcs⟩, rfl⟩
    · rintro ρ' O3 ⟨rfl, n, cs, z, hD, rfl⟩
      obtain ⟨m, rfl⟩ : ∃ m : Nat, n = (m : Int) := ⟨n.toNat, by have := hD.1; omega⟩
      have hm10 : m ≤ 10 := by have := hD.1; omega
      walk_at "vw"
      refine ⟨_, cs, m, rfl, hm10, rfl, fun c hc => ⟨fun b hb => (hD.2.2 c hc).1.2 b hb, by have := hD.len hc; omega⟩, ?_⟩
      have hWds := wds_ok (cs := cs) hm10
      generalize hws : (VL.digs m).filter (fun w => evenOn w cs) = ws at *
      walk_at "vw"
      refine ⟨p, m, _, _, cs, ws, rfl, hp1, hD.1, rfl, ⟨by have := hD.2.1; omega, fun c hc => ⟨hD.len hc, fun b hb => (hD.2.2 c hc).1.2 b hb⟩⟩, rfl, hWds, fun rs hrl hS => ?_⟩
      walk_at "vw"
      refine given_of hp1 rfl fun gd hgd => ?_
      have hGv : Given O3 gd m rs := by
        rcases hgd with rfl | rfl
        · exact ⟨VL.kn_lst, rfl, hrl, hS⟩
        · exact ⟨VL.kn_tup, rfl, hrl, hS⟩
      clear hgd
      walk_at "vw"
      refine ⟨p, _, cs, rfl, hp1, rfl, by have := hD.2.1; omega, fun c hc => by have := hD.len hc; omega, fun es hesl hes => ?_⟩
      obtain ⟨ms, q1, q2, q3, q4⟩ := rows_given hD hesl hes O3
      walk_at "vw"
      refine code_new q1 hD.1 (by have := hD.2.1; omega) q3 ?_
      rw [q4]
      walk_at "vw"
      refine ⟨_, rs, rfl, rfl, hS, ?_⟩
      refine VL.h_lst rfl rfl ?_
      walk_at "vw"
      have htl : (TS rs).length = rs.length := List.length_map _
      have hc10 : ∀ c ∈ cs, c.length ≤ 10 := fun c hc => hD.len hc
      have hcs10 := hD.2.1
      refine VL.s_for (VL.i_rng1 ?_)
      walk_at "vw"
      refine VL.ex_r1 ⟨by rw [List.length_map]; omega, by rw [List.length_map]; omega⟩ ?_
      refine ⟨fun i ρ' O' => O' = O3 ∧ ∃ (fa : VL.D) (x y u v z : Option VL.D), FaultAt (TS rs) (LB rs) cs i fa ∧ ρ' = [some (.scr ns), some (.ref p), some (.int (m : Nat)), some (.lst (cs.map VL.lotD)), some (.lst (ws.map VL.lotD)), some (.tup (rs.map VL.ratD)), some gd, some (VL.codeD (He.ga K "Code") (m : Nat) cs), some (.int (LB rs)), some (.lst ((TS rs).map VL.D.int)), some (.lst ((tightC (TS rs) (LB rs) cs i).map VL.coupD)), some fa, x, y, u, none, none, none, z, v],
        ⟨rfl, .non, none, none, none, none, z, .inl ⟨rfl, fun j c h => absurd h (Nat.not_lt_zero j)⟩, rfl⟩, fun _ _ _ _ => trivial, ?_, ?_⟩
      · rintro i d ρ' O' hd ⟨rfl, fa, x, y, u, v, z, hF, rfl⟩
        obtain ⟨hi, rfl⟩ := VL.rngD_at hd
        rw [List.length_map, Int.toNat_natCast] at hi
        have hci : cs[i]? = some cs[i] := List.getElem?_eq_getElem hi
        generalize cs[i] = c at hci
        have hcm := List.mem_of_getElem? hci
        have hcl := hD.len hcm
        obtain ⟨⟨hs, hcb⟩, hcne⟩ := hD.2.2 c hcm
        have hA : At cs (0 + (i : Int)) c := ⟨by omega, by rw [show (0 + (i : Int)).toNat = i by omega]; exact hci⟩
        have hat : atI (cs.map VL.lotD) (0 + (i : Int)) = some (VL.lotD c) := hA.row
        have hol := odds_le hcl
        have hone := VL.odds_ne hcne
        have hg : cs.getD i [] = c := by rw [List.getD_eq_getElem?_getD, hci]; rfl
        have htc := tightC_len (ts := TS rs) (L := LB rs) hc10 i
        walk_at "vw"
        refine VL.o_ixQ rfl rfl hat ?_
        walk_at "vw"
        refine ⟨c, _, TS rs, LB rs, rfl, rfl, by omega, fun b hb => by have := hcb b hb; omega, hPt, ?_⟩
        walk_at "vw"
        refine VL.o_ixQ rfl rfl hat ?_
        walk_at "vw"
        refine ⟨m, cs, 0 + (i : Int), c, LB rs, TS rs, rfl, hD.chk, hA, ?_⟩
        walk_at "vw"
        refine ⟨m, cs, 0 + (i : Int), c, gd, rs, rfl, hD.chk, hA, hs, hGv, ?_⟩
        walk_at "vw"
        refine ⟨p, m, cs, 0 + (i : Int), c, gd, rs, rfl, hp1, hD.chk, hA, hs, hGv, ?_⟩
        walk_at "vw"
        refine VL.ln_lcP (fun d => decide (VL.toI (snd2 d) = LB rs)) (fun d => .tup [.int (0 + (i : Int)), fst2 d]) (VL.i_seq rfl ?_)
        walk_at "vw"
        refine ⟨_, rfl, by rw [List.length_map]; exact VL.le_line (by omega), fun _ _ _ => rfl, fun j d0 L acc hd0 hL => ?_, ?_⟩
        · obtain ⟨l, hl, rfl⟩ := odd_at hd0
          walk_at "vw"
          refine ⟨⟨?_, rfl⟩, fun _ => ?_⟩
          · rw [vd_int]; rfl
          · walk_at "vw"
            exact ⟨rfl, rfl⟩
        · have et : (tightC (TS rs) (LB rs) cs i).map VL.coupD ++ (((VL.odds c).map fun l => VL.D.lst [VL.lotD l, .int (VL.far (LB rs) (TS rs) c l)]).filter fun d => decide (VL.toI (snd2 d) = LB rs)).map (fun d => VL.D.tup [.int (0 + (i : Int)), fst2 d]) = (tightC (TS rs) (LB rs) cs (i + 1)).map VL.coupD := by
            show _ = (tightC (TS rs) (LB rs) cs i ++ _).map VL.coupD
            rw [List.map_append, hg, List.filter_map, List.map_map, List.map_map]
            refine congrArg _ ?_
            rw [show (VL.odds c).filter ((fun d => decide (VL.toI (snd2 d) = LB rs)) ∘ fun l => VL.D.lst [VL.lotD l, .int (VL.far (LB rs) (TS rs) c l)]) = (VL.odds c).filter fun l => decide (excT (TS rs) (LB rs) c l = 0) from List.filter_congr fun l hl => by
              show decide (VL.far (LB rs) (TS rs) c l = LB rs) = _
              rw [exc_far hs hl]
              exact decide_eq_decide.mpr (by omega)]
            exact List.map_congr_left fun l _ => by
              show VL.D.tup [.int (0 + (i : Int)), VL.lotD l] = VL.D.tup [.int (i : Int), VL.lotD l]
              rw [Int.zero_add]
          have htc2 := tightC_len (ts := TS rs) (L := LB rs) hc10 (i + 1)
          have hlen := congrArg List.length et
          rw [List.length_append, List.length_map (as := tightC (TS rs) (LB rs) cs (i + 1))] at hlen
          refine VL.o_cat rfl rfl (by rw [hlen]; exact VL.le_line (by omega)) ?_
          rw [et]
          obtain ⟨w1, w2⟩ := VL.worst_first (B := LB rs) (ts := TS rs) hcne hs
          obtain ⟨wr, hw⟩ : ∃ wr, (VL.odds c).filter (fun l => decide (VL.far (LB rs) (TS rs) c l = LB rs - VL.wTop (TS rs) (LB rs) c)) = VL.wLot (TS rs) (LB rs) c :: wr := List.head?_eq_some_iff.mp w2
          have wm : VL.wLot (TS rs) (LB rs) c ∈ (VL.odds c).filter (fun l => decide (VL.far (LB rs) (TS rs) c l = LB rs - VL.wTop (TS rs) (LB rs) c)) := by rw [hw]; exact List.mem_cons_self ..
          obtain ⟨wm1, wm2⟩ := List.mem_filter.mp wm
          have wm2 := of_decide_eq_true wm2
          walk_at "vw"
          refine VL.ln_map snd2 (VL.i_seq rfl ?_)
          walk_at "vw"
          refine ⟨_, rfl, by rw [List.length_map]; omega, fun _ _ => rfl, fun j d0 O2 hd0 ex => ?_, ?_⟩
          · obtain ⟨l, hl, rfl⟩ := odd_at hd0
            walk_at "vw"
            exact ⟨rfl, rfl⟩
          · rw [show (((VL.odds c).map fun l => VL.D.lst [VL.lotD l, .int (VL.far (LB rs) (TS rs) c l)]).map snd2) = ((VL.odds c).map fun l => VL.far (LB rs) (TS rs) c l).map VL.D.int from by rw [List.map_map, List.map_map]; rfl]
            walk_at "vw"
            refine VL.k_min rfl rfl (fun z => hone (List.map_eq_nil_iff.mp z)) fun M hM1 hM2 => ?_
            have eM : M = LB rs - VL.wTop (TS rs) (LB rs) c := by
              have := hM2 _ (List.mem_map.mpr ⟨_, wm1, rfl⟩)
              obtain ⟨l, hl, e⟩ := List.mem_map.mp hM1
              have := w1 l hl
              omega
            subst eM
            rcases hF with ⟨rfl, hno⟩ | ⟨j, c', hj, hcj, hw', hfirst, rfl⟩
            · walk_at "vw"
              refine if_d (fun h => ?_) (fun h => ?_)
              · walk_at "vw"
                refine VL.ln_lcP (fun d => decide (VL.toI (snd2 d) = LB rs - VL.wTop (TS rs) (LB rs) c)) fst2 (VL.i_seq rfl ?_)
                walk_at "vw"
                refine ⟨_, rfl, by rw [List.length_map]; exact VL.le_line (by omega), fun _ _ _ => rfl, fun j d0 L acc hd0 hL => ?_, ?_⟩
                · obtain ⟨l, hl, rfl⟩ := odd_at hd0
                  walk_at "vw"
                  refine ⟨⟨?_, rfl⟩, fun _ => ?_⟩
                  · rw [vd_int]; rfl
                  · walk_at "vw"
                    exact ⟨rfl, rfl⟩
                · rw [show ((((VL.odds c).map fun l => VL.D.lst [VL.lotD l, .int (VL.far (LB rs) (TS rs) c l)]).filter fun d => decide (VL.toI (snd2 d) = LB rs - VL.wTop (TS rs) (LB rs) c)).map fst2) = ((VL.odds c).filter fun l => decide (VL.far (LB rs) (TS rs) c l = LB rs - VL.wTop (TS rs) (LB rs) c)).map VL.lotD from by rw [List.filter_map, List.map_map]; rfl, hw, List.map_cons]
                  walk_at "vw"
                  refine VL.o_ixQ rfl (show VL.asS O' (.lst (VL.lotD (VL.wLot (TS rs) (LB rs) c) :: wr.map VL.lotD)) = some (VL.lotD (VL.wLot (TS rs) (LB rs) c) :: wr.map VL.lotD) from rfl) (show atI (VL.lotD (VL.wLot (TS rs) (LB rs) c) :: wr.map VL.lotD) ((0 : Nat) : Int) = some (VL.lotD (VL.wLot (TS rs) (LB rs) c)) from atI_nat rfl) ?_
                  walk_at "vw"
                  exact ⟨rfl, _, _, _, _, _, _, .inr ⟨i, c, by omega, hci, by omega, hno, by rw [Int.zero_add]⟩, rfl⟩
              · walk_at "vw"
                refine ⟨rfl, _, _, _, _, _, _, .inl ⟨rfl, fun j c' hj hc' => ?_⟩, rfl⟩
                by_cases hji : j = i
                · subst hji
                  rw [hci] at hc'; cases hc'
                  omega
                · exact hno j c' (by omega) hc'
            · walk_at "vw"
              exact ⟨rfl, _, _, _, _, _, _, .inr ⟨j, c', by omega, hcj, hw', hfirst, rfl⟩, rfl⟩
      · rintro ρ' O' ⟨rfl, fa, x, y, u, v, z, hF, rfl⟩
        rw [VL.rngD_len, List.length_map, Int.toNat_natCast] at hF ⊢
        walk_at "vw"
        refine ⟨m, cs, gd, rfl, hD.chk, row_its hGv.1 hGv.2.1, ?_⟩
        rw [share_row hGv.2.1 hrl hS.shr]
        refine ⟨rs, hGv.2.1, hrl, hS.shr, ?_⟩
        rcases hF with ⟨rfl, hno⟩ | ⟨j, c', hj, hcj, hw', hfirst, rfl⟩
        · have eX : letR rs cs = none := fault_none hno
          rw [eX]
          show VL.LH _ _ VL.D.non _ _ _
          walk_at "vw"
          refine ⟨m, cs, gd, rfl, hD.chk, row_its hGv.1 hGv.2.1, ?_⟩
          rw [share_row hGv.2.1 hrl hS.shr]
          refine ⟨rs, hGv.2.1, hrl, hS.shr, ?_⟩
          rw [eX]
          show VL.LH _ _ (VL.D.bl true) _ _ _
          walk_at "vw"
          refine VL.o_notB ?_
          refine ⟨_, rfl, ?_⟩
          rw [show decide (true = true) = true from rfl]
          walk_at "vw"
          refine ⟨m, cs, gd, rs, rfl, hD.chk, hGv, ?_⟩
          rw [show tightN (VL.topsL rs (VL.lcms rs)) (VL.lcms rs) cs cs.length = (tightC (TS rs) (LB rs) cs cs.length).map VL.coupD from tightC_N _ _ _ _]
          walk_at "vw"
          refine VL.o_neD rfl (.lst (VL.pd_coups _ _)) (.lst (VL.pd_coups _ _)) (VL.sh_coups _) (VL.sh_coups _) ?_
          rw [VL.eqv_coups, decide_eq_true rfl]
          have hgs := hGv.2.1
          walk_at "vw"
          rw [show rs.map VL.ratD = (rs.map fun r => [r.1, r.2]).map fun c => VL.D.tup (c.map VL.D.int) from by rw [List.map_map]; rfl]
          generalize (rs.map fun r => [r.1, r.2]) = G
          refine VL.o_eqD rfl (.lst (VL.pd_rowsT G)) (.lst (VL.pd_rowsT G)) (sh_rowsM G) (sh_rowsM G) ?_
          rw [show PyData.eqv (.list (G.map fun c => .tuple (VL.pInts c))) (.list (G.map fun c => .tuple (VL.pInts c))) = true from (VL.eqv_rows G G).trans (decide_eq_true rfl)]
          exact k _
        · have eX : letR rs cs = some (j, VL.wLot (TS rs) (LB rs) c') := fault_some hcj hw' hfirst
          rw [eX]
          show VL.LH _ _ (VL.coupD ((j : Int), VL.wLot (TS rs) (LB rs) c')) _ _ _
          walk_at "vw"
          refine VL.o_neD rfl (VL.coup_pd _ _) (VL.coup_pd _ _) (VL.sh_coup _) (VL.sh_coup _) ?_
          rw [VL.eqv_coup, decide_eq_true rfl]
          walk_at "vw"
          refine ⟨_, rfl, VL.kn_int, ?_⟩
          rw [show VL.isInt (VL.D.int ((j : Int), VL.wLot (TS rs) (LB rs) c').1) = true from rfl]
          walk_at "vw"
          refine ⟨m, cs, gd, rfl, hD.chk, row_its hGv.1 hGv.2.1, ?_⟩
          rw [share_row hGv.2.1 hrl hS.shr]
          refine ⟨rs, hGv.2.1, hrl, hS.shr, ?_⟩
          rw [eX]
          show VL.LH _ _ (VL.D.bl false) _ _ _
          walk_at "vw"
          refine VL.o_notB ?_
          refine ⟨_, rfl, ?_⟩
          rw [show decide (false = false) = true from rfl]
          walk_at "vw"
          refine ⟨m, cs, gd, rs, rfl, hD.chk, hGv, ?_⟩
          rw [show tightN (VL.topsL rs (VL.lcms rs)) (VL.lcms rs) cs cs.length = (tightC (TS rs) (LB rs) cs cs.length).map VL.coupD from tightC_N _ _ _ _]
          walk_at "vw"
          refine VL.o_neD rfl (.lst (VL.pd_coups _ _)) (.lst (VL.pd_coups _ _)) (VL.sh_coups _) (VL.sh_coups _) ?_
          rw [VL.eqv_coups, decide_eq_true rfl]
          have hgs := hGv.2.1
          walk_at "vw"
          rw [show rs.map VL.ratD = (rs.map fun r => [r.1, r.2]).map fun c => VL.D.tup (c.map VL.D.int) from by rw [List.map_map]; rfl]
          generalize (rs.map fun r => [r.1, r.2]) = G
          refine VL.o_eqD rfl (.lst (VL.pd_rowsT G)) (.lst (VL.pd_rowsT G)) (sh_rowsM G) (sh_rowsM G) ?_
          rw [show PyData.eqv (.list (G.map fun c => .tuple (VL.pInts c))) (.list (G.map fun c => .tuple (VL.pInts c))) = true from (VL.eqv_rows G G).trans (decide_eq_true rfl)]
          exact k _
end
end K04
set_option maxHeartbeats 0
namespace K04
open PySem PySem.Spec PyProof.Rows L2 MB
/-- the whole law, as the end of the walk asks it -/
def spLaw (K : PySem.W.Frag) : Sp := fun vs H Q _ => ∃ (a : Addr) (ns : List Int), vs = [.ref a] ∧ SqL K H a (ns.map V.int) ∧ ns.length ≤ 63 ∧ H (PT K) = some (.tbl #[]) ∧ ∀ H', Q (.bl true) H'
theorem law_sp {K : PySem.W.Frag} : ∀ vs H Q E, spLaw K vs H Q E → VL.SpL K (W_law K) vs H Q E := by
  rintro vs H Q E ⟨a, ns, rfl, hS, hl, hT, k⟩
  have hF : ∀ b o, (if b = PT K then none else H b) = some o → H b = some o := fun b o e => by
    by_cases hb : b = PT K
    · rw [if_pos hb] at e; cases e
    · rwa [if_neg hb] at e
  have hSF : SqL K (fun b => if b = PT K then none else H b) a (ns.map V.int) := by
    rcases hS with h | h
    · left
      have hne : a ≠ PT K := fun z => by
        subst z
        rcases h with h | ⟨_, h⟩ <;> (rw [hT] at h; cases h)
      unfold Rd at h ⊢
      rwa [show (fun b => if b = PT K then none else H b) a = H a from if_neg hne]
    · exact .inr h
  refine ⟨fun b => if b = PT K then none else H b, fun b => if b = PT K then some (.tbl QN) else none, [.scr ns], fun d _ => d = .bl true, VL.noX, .cons (.scr hSF) .nil, ⟨hF, fun b o e => ?_⟩, ⟨ns, rfl, hl, if_pos rfl, fun _ => rfl⟩, ?_, fun _ _ _ _ _ _ _ _ _ z => z.elim⟩
  · by_cases hb : b = PT K
    · rw [if_pos hb] at e
      cases e
      refine ⟨if_pos hb, #[], by rw [hb]; exact hT, trivial, fun pos cv h => ?_⟩
      cases h
    · rw [if_neg hb] at e; cases e
  · rintro F' H' O' v d _ _ rd rfl
    cases rd
    exact k H'
theorem facts {l : PySem.W.OpenLaw} {w : World} {K : PySem.W.Frag} {h : Heap} {mg : Str → Option Value} {f : Addr} (X : K.In h) (GG : h.Ns mainGlobals mg) (hfa : mg ("law" : Str) = some (.ref f)) (c : He.SaysX fa fn [] tf exx w h K) :
    LamX.LawAtS l w K CX0 14 63 "_law_script" mg f h := by
  have T : Txt K mg := ⟨⟨h, X, GG⟩, c.t.d, c.more⟩
  obtain ⟨fd, F⟩ := T.c.def_ 55 (d := dd_law) rfl
  have e := hfa.symm.trans (T.glo 77)
  cases e
  have b := FunD.bindsA (ps := ["_law_script"]) F fun _ _ _ _ _ _ us hl => match us, hl with | [_], _ => rfl
  have mem : (("_law_lots", none) : He.Defn) ∈ tf := List.mem_cons_self ..
  have one : ∀ {P : Addr × Addr → Prop}, P (He.cT K ("_law_lots", none)) → ∀ p ∈ [He.cT K ("_law_lots", none)], P p := fun h p hp => by rw [List.mem_singleton.mp hp]; exact h
  refine ⟨fd, [He.cT K ("_law_lots", none)], spLaw K, one (c.empty _ mem), one (c.out _ mem), one (PySem.W.codeHd_of_K X (c.hd _ mem)), fun s v => b s [v] rfl, fun H a ns hl _ hT hS => ⟨a, ns, rfl, hS, hl, hT _ (List.mem_singleton.mpr rfl), fun _ => rfl⟩, fun base _ _ hB => (ok_law T (hB _ (List.mem_singleton.mpr rfl)) F).imp law_sp⟩
end K04
open PySem PySem.W PySem.Calls PyProof.Rows
theorem PySem.Challenge.cw_letbychecks_k04_whole_worst_lots_of_all_holds : PySem.Challenge.rw_letbychecks_k04_whole_worst_lots_of_all.Holds := by
  w_on; o_law
  refine HandSHeadRun.head_imp (r := OpenLaw.row PySem.Challenge.rw_letbychecks_k04_whole_worst_lots_of_all) (q := view (OpenLaw.row PySem.Challenge.rw_letbychecks_k04_whole_worst_lots_of_all).prog [0, 70]) (H := K04.hk) (ob := K04.ob) (M := 12000) (loose := K04.names)
    (d := HandSHeadRun.topDef (OpenLaw.row PySem.Challenge.rw_letbychecks_k04_whole_worst_lots_of_all).prog 70) (kwd := []) K04.ob_eq K04.run
    (by kernel_rfl) (by kernel_rfl) (by kernel_rfl) (by rfl) (by first | assumption | decide +kernel) (by decide +kernel) ⟨rfl, rfl, rfl, rfl, rfl, by decide +kernel⟩ ?hw ?hc
  case hw => w_witness2
  case hc =>
    refine LamX.walk_ofTsE (l := PySem.Challenge.rw_letbychecks_k04_whole_worst_lots_of_all) (n := 63) (k := 14) (x := "_law_script") (CX := fun _ => L2.CX0) rfl (by decide) (by kernel_rfl) ⟨rfl, by decide, by decide⟩ ?F (fun _ _ _ _ _ z => z)
    intro w mg fa h Y GG hmg0
    obtain ⟨K, KX, c⟩ := Y
    have hmg : mg ("law" : PySem.Str) = some (.ref fa) := by
      have e : (HandSHeadRun.topDef (OpenLaw.row PySem.Challenge.rw_letbychecks_k04_whole_worst_lots_of_all).prog 70).name = ("law" : PySem.Str) := by kernel_rfl
      rw [← e]
      exact hmg0
    exact ⟨K, KX, K04.facts KX GG hmg c⟩
