import PyProof.Rows.All
import Wide.All
import OpenK.AllK
import Wide.FinOn
import HandS.Base
import HandS.Call
import HandS.List
import HandS.Comp
import HandS.Iter
import HandS.Walk
import HandS.Ends
import HandS.Words
import HandS.WordsList
import HandS.WordsExc
import HandS.Exc
import HandS.ExcOwn
import HandS.ExcInit
import HandS.ExcIs
import HandS.IsInst
import HandS.Defaults
import HandS.Gcd
import HandS.Wide
import HandS.ExcField
import HandS.HeadHook1
import HandS.HeadHook2
import HandS.HeadHook3
import HandS.HeadHook4
import PySem.Challenge.RW_letbychecks_k00_whole_ratios_reckoned
import HandS.Evl
import KE.KStateDown
import Lean
import HandS.Head0
import HandS.Head1
import HandS.Head2
import HandS.Head3
import HandS.HeadEnd
set_option Elab.async false
set_option linter.all false
set_option maxRecDepth 100000
set_option maxHeartbeats 2000000
namespace MB
open PySem PySem.Spec PyProof.Rows L2
def BlQ (x : V) (H : Hp) (Q : Bool → Hp → Prop) : Prop := ∃ k, x = .bl k ∧ Q k H
def TwoQ (vs : List V) (H : Hp) (R : V → V → Hp → Prop) : Prop := ∃ v w, vs = [v, w] ∧ R v w H
def NewT (xs : List V) (H : Hp) (Q : VK) : Prop := xs.length ≤ sizeLine ∧ ∀ p, H p = none → Q (.ref p) (upd H p (.tup xs))
def NewL (xs : List V) (H : Hp) (Q : VK) : Prop := xs.length ≤ sizeLine ∧ ∀ p, H p = none → Q (.ref p) (upd H p (.lst xs))
abbrev RC := List V → Hp → VK → Prop
def rInt1 : RC := fun xs H Q => (∃ i, xs = [.int i] ∧ Q (.int i) H) ∨ ∃ k, xs = [.bl k] ∧ Q (.int (if k then 1 else 0)) H
def rAbs : RC := fun xs H Q => ∃ i, xs = [.int i] ∧ Q (.int (if i < 0 then -i else i)) H
def rLenQ (K : PySem.W.Frag) : RC := fun xs H Q => ∃ p ys, xs = [.ref p] ∧ (SqL K H p ys ∨ SqT K H p ys) ∧ Q (.int ys.length) H
def rListOf (K : PySem.W.Frag) : RC := fun xs H Q => ∃ p ys, xs = [.ref p] ∧ (SqL K H p ys ∨ SqT K H p ys) ∧ ∀ l, H l = none → Q (.ref l) (upd H l (.lst ys))
def rTupOf (K : PySem.W.Frag) : RC := fun xs H Q => ∃ p ys, xs = [.ref p] ∧ ((SqL K H p ys ∧ ∀ l, H l = none → Q (.ref l) (upd H l (.tup ys))) ∨ (SqT K H p ys ∧ Q (.ref p) H))
def rIsNo : R2 := fun x y H Q => y = .non ∧ Q (.bl (decide (x = .non))) H
def rNotNo : R2 := fun x y H Q => y = .non ∧ Q (.bl (!decide (x = .non))) H
section rules
variable {X : Cx}
theorem k_int1 : CallR X (.type "int") rInt1 := call_int1
theorem k_abs : CallR X (.builtin "abs") rAbs := call_abs
theorem k_len : CallR X (.builtin "len") (rLenQ X.K) := call_len_seq
theorem k_listOf : CallR X (.type "list") (rListOf X.K) := call_list_of
theorem k_tupOf : CallR X (.type "tuple") (rTupOf X.K) := call_tuple_of
theorem k_isN : OpR X (compareOp .Is) rIsNo := op_isN
theorem k_notN : OpR X (compareOp .IsNot) rNotNo := op_notN
end rules
section readings
variable {σ : L2.St} {H : Hp} {Q : VK} {D : Ends}
theorem r_var {i : Nat} {v : V} (h : σ[i]? = some (some v)) (q : Q v H) : tVar i σ H Q := ⟨v, h, q⟩
theorem r_c {v : V} (q : Q v H) : tC v σ H Q := q
theorem r_op {r : R2} {ta tb : TE} (q : ta σ H fun x H1 => tb σ H1 fun y H2 => r x y H2 Q) : tOp r ta tb σ H Q := q
theorem r_un {r : V → Hp → VK → Prop} {ta : TE} (q : ta σ H fun x H1 => r x H1 Q) : tUn r ta σ H Q := q
theorem r_nil {Q : List V → Hp → Prop} (q : Q [] H) : tNil σ H Q := q
theorem r_cons {Q : List V → Hp → Prop} {ta : TE} {tr : TA} (q : ta σ H fun x H1 => tr σ H1 fun xs H2 => Q (x :: xs) H2) : tCons ta tr σ H Q := q
theorem r_I {C : Int → Int → Prop} {g : Int → Int → V} {i j : Int} (c : C i j) (q : Q (g i j) H) : rI C g (.int i) (.int j) H Q := ⟨i, j, rfl, rfl, c, q⟩
theorem r_I0 {g : Int → Int → V} {i j : Int} (q : Q (g i j) H) : rI0 g (.int i) (.int j) H Q := ⟨i, j, rfl, rfl, q⟩
theorem r_U {g : Int → V} {i : Int} (q : Q (g i) H) : rU g (.int i) H Q := ⟨i, rfl, q⟩
theorem r_eq {x y : V} (s : scal x y = true) (q : Q (.bl (decide (x = y))) H) : rEq x y H Q := ⟨s, q⟩
theorem r_ne {x y : V} (s : scal x y = true) (q : Q (.bl (!decide (x = y))) H) : rNe x y H Q := ⟨s, q⟩
theorem r_seq {t u : TS} (q : t { D with nx := u D } σ H) : tSeq t u D σ H := q
theorem r_asg {te : TE} {g : TG} (q : te σ H fun x H1 => g x σ H1 D.nx) : tAsg te g D σ H := q
theorem r_name {Q : L2.St → Hp → Prop} {i : Nat} {v : V} (q : Q (σ.set i (some v)) H) : gName i v σ H Q := q
theorem r_sub {Q : L2.St → Hp → Prop} {to ti : TE} {t : TSet} {v : V} (q : to σ H fun o H1 => ti σ H1 fun i H2 => t o i v H2 fun H3 => Q σ H3) : gSub to ti t v σ H Q := q
theorem r_ret {te : TE} (q : te σ H D.rt) : tRet te D σ H := q
theorem r_next (q : D.nx σ H) : tNext D σ H := q
theorem r_break (q : D.bk σ H) : tBreak D σ H := q
theorem r_drop {te : TE} (q : te σ H fun _ H1 => D.nx σ H1) : tDrop te D σ H := q
theorem r_ifS {c : TT} {t u : TS} (q : c σ H fun b H1 => if b = true then t D σ H1 else u D σ H1) : tIfS c t u D σ H := q
theorem r_test {t : TE} {Q : Bool → Hp → Prop} (q : t σ H fun x H' => BlQ x H' Q) : tTest t σ H Q := q
theorem r_tB {t : TE} {Q : Bool → Hp → Prop} (q : t σ H fun x H' => BlQ x H' Q) : tB t σ H Q := q
theorem r_bl {b : Bool} {Q : Bool → Hp → Prop} (q : Q b H) : BlQ (.bl b) H Q := ⟨b, rfl, q⟩
theorem r_and {t u : TT} {Q : Bool → Hp → Prop} (q : t σ H fun c H1 => if c = true then u σ H1 Q else Q false H1) : tAnd t u σ H Q := q
theorem r_or {t u : TT} {Q : Bool → Hp → Prop} (q : t σ H fun c H1 => if c = true then Q true H1 else u σ H1 Q) : tOr t u σ H Q := q
theorem r_not {t : TT} {Q : Bool → Hp → Prop} (q : t σ H fun c H1 => Q (!c) H1) : tNot t σ H Q := q
theorem r_andV {ta tb : TE} (q : ta σ H fun x H1 => BlQ x H1 fun c H1 => if c = true then tb σ H1 Q else Q (.bl false) H1) : tAndV ta tb σ H Q := q
theorem r_orV {ta tb : TE} (q : ta σ H fun x H1 => BlQ x H1 fun c H1 => if c = true then Q (.bl true) H1 else tb σ H1 Q) : tOrV ta tb σ H Q := q
theorem r_notV {ta : TE} (q : ta σ H fun x H1 => BlQ x H1 fun c H1 => Q (.bl (!c)) H1) : tNotV ta σ H Q := q
theorem r_isN {ta : TE} (q : ta σ H fun x H1 => Q (.bl (decide (x = .non))) H1) : tIsN ta σ H Q := q
theorem r_notN {ta : TE} (q : ta σ H fun x H1 => Q (.bl (!decide (x = .non))) H1) : tNotN ta σ H Q := q
theorem r_tIf {t : TT} {ta tb : TE} (q : t σ H fun c H1 => if c = true then ta σ H1 Q else tb σ H1 Q) : tIf t ta tb σ H Q := q
theorem r_chain {r r' : R2} {ta tb tc : TE} (q : ta σ H fun x H1 => tb σ H1 fun y H2 => r x y H2 fun z H3 => BlQ z H3 fun k H3 => if k = true then tc σ H3 fun w' H4 => r' y w' H4 Q else Q (.bl false) H3) : tChain r r' ta tb tc σ H Q := q
theorem r_call {sp : Sp} {dvs : List V} {E : XK} {t : TA} (q : t σ H fun vs H1 => sp (vs ++ dvs) H1 Q E) : tCall sp dvs E t σ H Q := q
theorem r_CB {r : List V → Hp → VK → Prop} {t : TA} (q : t σ H fun vs H1 => r vs H1 Q) : tCB r t σ H Q := q
theorem r_tup {t : TA} (q : t σ H fun xs H1 => NewT xs H1 Q) : tTup t σ H Q := q
theorem r_lst {t : TA} (q : t σ H fun xs H1 => NewL xs H1 Q) : tLst t σ H Q := q
theorem r_par {i j : Nat} {ta : TA} (q : ta σ H fun vs H1 => TwoQ vs H1 fun v w H1 => D.nx ((σ.set i (some v)).set j (some w)) H1) : tPar i j ta D σ H := q
theorem r_two {v w : V} {R : V → V → Hp → Prop} (q : R v w H) : TwoQ [v, w] H R := ⟨v, w, rfl, q⟩
theorem r_ixL {K : PySem.W.Frag} {p : Addr} {xs : List V} {i : Int} {v : V} (s : SqL K H p xs) (a : atI xs i = some v) (q : Q v H) : rIxL K (.ref p) (.int i) H Q := ⟨p, xs, i, v, rfl, rfl, s, a, q⟩
theorem r_ixT {K : PySem.W.Frag} {p : Addr} {xs : List V} {i : Int} {v : V} (s : SqT K H p xs) (a : atI xs i = some v) (q : Q v H) : rIxT K (.ref p) (.int i) H Q := ⟨p, xs, i, v, rfl, rfl, s, a, q⟩
theorem r_setL {p : Addr} {xs : List V} {k : Int} {j : Nat} {v : V} {Q : Hp → Prop} (h : H p = some (.lst xs)) (e : ixN xs.length k = some j) (q : Q (upd H p (.lst (xs.set j v)))) : rSetL (.ref p) (.int k) v H Q := ⟨p, xs, k, j, rfl, rfl, h, e, q⟩
theorem r_lenQ {K : PySem.W.Frag} {p : Addr} {ys : List V} (s : SqL K H p ys ∨ SqT K H p ys) (q : Q (.int ys.length) H) : rLenQ K [.ref p] H Q := ⟨p, ys, rfl, s, q⟩
theorem r_isNo {x : V} (q : Q (.bl (decide (x = .non))) H) : rIsNo x .non H Q := ⟨rfl, q⟩
theorem r_notNo {x : V} (q : Q (.bl (!decide (x = .non))) H) : rNotNo x .non H Q := ⟨rfl, q⟩
theorem r_int1 {i : Int} (q : Q (.int i) H) : rInt1 [.int i] H Q := .inl ⟨i, rfl, q⟩
theorem r_int1b {b : Bool} (q : Q (.int (if b then 1 else 0)) H) : rInt1 [.bl b] H Q := .inr ⟨b, rfl, q⟩
theorem r_abs {i : Int} (q : Q (.int (if i < 0 then -i else i)) H) : rAbs [.int i] H Q := ⟨i, rfl, q⟩
theorem r_gcd {a b : Int} (q : Q (.int ((Nat.gcd a.natAbs b.natAbs : Nat) : Int)) H) : rGcd [.int a, .int b] H Q := ⟨a, b, rfl, q⟩
theorem r_yes {Q : Bool → Hp → Prop} (q : Q true H) : tYes σ H Q := q
theorem r_gtup {K : PySem.W.Frag} {n : Nat} {t : TGs} {a : Addr} {xs : List V} {Q : L2.St → Hp → Prop} (s : SqT K H a xs) (l : xs.length = n) (q : t xs σ H Q) : gTup K n t (.ref a) σ H Q := ⟨a, xs, rfl, s, l, q⟩
theorem r_gcons {t : TG} {u : TGs} {v : V} {r : List V} {Q : L2.St → Hp → Prop} (q : t v σ H fun σ' H' => u r σ' H' Q) : gCons t u (v :: r) σ H Q := ⟨v, r, rfl, q⟩
theorem r_gnil {Q : L2.St → Hp → Prop} (q : Q σ H) : gNil [] σ H Q := ⟨rfl, q⟩
end readings
theorem int_at {ns : List Int} {i : Nat} {y : V} (h : (ns.map V.int)[i]? = some y) : ∃ c, ns[i]? = some c ∧ y = .int c := by
  rw [List.getElem?_map] at h
  cases e : ns[i]? with
  | none => rw [e] at h; cases h
  | some c => rw [e] at h; exact ⟨c, rfl, (Option.some.inj h).symm⟩
theorem st0 {N : List Str} {vs : List V} {σ : L2.St} {t : TS} {D : Ends} {H : Hp} (e : start N vs = σ) (q : t D σ H) : t D (start N vs) H := by rw [e]; exact q
theorem if_d {c : Prop} [Decidable c] {A B : Prop} (h1 : c → A) (h2 : ¬ c → B) : if decide c = true then A else B := by
  by_cases h : c
  · rw [decide_eq_true h, if_pos rfl]; exact h1 h
  · rw [decide_eq_false h, if_neg Bool.false_ne_true]; exact h2 h
theorem if_nd {c : Prop} [Decidable c] {A B : Prop} (h1 : ¬ c → A) (h2 : c → B) : if (!decide c) = true then A else B := by
  by_cases h : c
  · rw [decide_eq_true h]; exact iteF (h2 h)
  · rw [decide_eq_false h]; exact iteT (h1 h)
theorem if_b {b : Bool} {A B : Prop} (h1 : b = true → A) (h2 : b = false → B) : if b = true then A else B := by
  cases b
  · exact iteF (h2 rfl)
  · exact iteT (h1 rfl)
theorem if_yes {b : Bool} {A B : Prop} (h : b = true) (h1 : A) : if b = true then A else B := by rw [if_pos h]; exact h1
theorem if_no {b : Bool} {A B : Prop} (h : b = false) (h1 : B) : if b = true then A else B := by rw [h]; exact iteF h1
section
variable {A B : Prop}
theorem if_nt (h : B) : if (!true) = true then A else B := iteF h
theorem if_nf (h : A) : if (!false) = true then A else B := iteT h
theorem if_n0 (h : A) : if decide (V.non = V.non) = true then A else B := iteT h
theorem if_n1 {i : Int} (h : B) : if decide (V.int i = V.non) = true then A else B := iteF h
theorem if_n2 {i : Bool} (h : B) : if decide (V.bl i = V.non) = true then A else B := iteF h
theorem if_n3 {i : Str} (h : B) : if decide (V.str i = V.non) = true then A else B := iteF h
theorem if_n4 {i : Addr} (h : B) : if decide (V.ref i = V.non) = true then A else B := iteF h
theorem if_m0 (h : B) : if (!decide (V.non = V.non)) = true then A else B := iteF h
theorem if_m1 {i : Int} (h : A) : if (!decide (V.int i = V.non)) = true then A else B := iteT h
theorem if_m2 {i : Bool} (h : A) : if (!decide (V.bl i = V.non)) = true then A else B := iteT h
theorem if_m3 {i : Str} (h : A) : if (!decide (V.str i = V.non)) = true then A else B := iteT h
theorem if_m4 {i : Addr} (h : A) : if (!decide (V.ref i = V.non)) = true then A else B := iteT h
theorem vd_int {i j : Int} : decide (V.int i = V.int j) = decide (i = j) := by
  by_cases h : i = j
  · rw [h, decide_eq_true rfl, decide_eq_true rfl]
  · rw [decide_eq_false h, decide_eq_false fun e => h (V.int.inj e)]
/-- two ints compared -/
theorem if_i {i j : Int} (h1 : i = j → A) (h2 : i ≠ j → B) : if decide (V.int i = V.int j) = true then A else B := by rw [vd_int]; exact if_d h1 h2
theorem if_ni {i j : Int} (h1 : i ≠ j → A) (h2 : i = j → B) : if (!decide (V.int i = V.int j)) = true then A else B := by rw [vd_int]; exact if_nd h1 h2
end
def Cal (P : Program) (w : World) (K : PySem.W.Frag) (mg : Str → Option Value) (base : Heap) (CX : CXT) (k : Nat) (x : Str) (ps : List Str) (dvs : List V) (sp : Sp) : Prop :=
  ∃ (f : Addr) (fd : FuncData) (ds : List Value), FnOk P w K mg base CX k f fd ps sp ∧ mg x = some (.ref f) ∧ PySem.W.keepIn K (.ref f) = true ∧ Binds K fd ps ds ∧ Vals dvs ds
section
variable {X : Cx} {CX : CXT} {k : Nat} {x : Str} {ps : List Str} {dvs : List V} {sp : Sp} {E : XK} {e : Expr} {es : List Expr} {t : TA} {p pos : Pos}
theorem pe_cal (h : Cal X.prog X.w X.K X.mg X.base CX k x ps dvs sp) (hr : Room k X.A) (hx : Passes CX X E) (ha : PA X (e :: es) t) (hg : Gl X x := by rfl) (hdb : (x == ("__debug__" : Str)) = false := by decide)
    (he : starEach (e :: es) X.env = (false, eval e X.env) :: starEach es X.env := by rfl) (hpl : (backTo pos (starEach es X.env)).any (·.1) = false := by rfl) : PE X (.Call (.Name x p) (e :: es) [] pos) (tCall sp dvs E t) := by
  obtain ⟨f, fd, ds, F, hm, hk, hb, hd⟩ := h
  exact pe_call F hr hg hm hk hb hd hx ha hdb he hpl
theorem pe_cal0 (h : Cal X.prog X.w X.K X.mg X.base CX k x ps dvs sp) (hr : Room k X.A) (hx : Passes CX X E) (hg : Gl X x := by rfl) (hdb : (x == ("__debug__" : Str)) = false := by decide) :
    PE X (.Call (.Name x p) [] [] pos) (tCall sp dvs E tNil) := by
  obtain ⟨f, fd, ds, F, hm, hk, hb, hd⟩ := h
  exact pe_call0 F hr hg hm hk hb hd hx hdb
end
theorem pe_ty {X : Cx} {x : Str} {pos : Pos} (n : String) (hg : Gl X x) (hm : X.mg x = none) (hv : bootBuiltins x = some (.type n)) (hn : x ≠ "__name__" := by decide) (hd : (x == ("__debug__" : Str)) = false := by decide) : PE X (.Name x pos) (tC (.ty n)) := pe_bltn hg hm hv rfl hn hd
/-- all but p stays -/
def Kp (p : Addr) (H H' : Hp) : Prop := ∀ b o, b ≠ p → H b = some o → H' b = some o
theorem Kp.refl (p : Addr) (H : Hp) : Kp p H H := fun _ _ _ h => h
theorem Kp.trans {p : Addr} {H H1 H2 : Hp} (a : Kp p H H1) (b : Kp p H1 H2) : Kp p H H2 := fun c o n h => b c o n (a c o n h)
theorem Same.kp {p : Addr} {H H1 : Hp} (a : Same H H1) : Kp p H H1 := fun c o _ h => a c o h
theorem Same.upd {H : Hp} {p : Addr} {o : HO} (n : H p = none) : Same H (upd H p o) := fun b u e => by
  rw [upd_ne (ne_of_none e n)]; exact e
def HandAt (H : Hp) (p l : Addr) : Prop := ∃ (ns : List Int) (i rest st : Int), H p = some (.lst [.ref l, .int i, .int rest, .int st]) ∧ l ≠ p ∧ H l = some (.lst (ns.map V.int)) ∧ 0 ≤ i ∧ 0 ≤ rest ∧ (∀ n ∈ ns, 0 ≤ n) ∧ ns.length ≤ 63
theorem line63 {n : Nat} (h : n ≤ 1000) : n ≤ sizeLine := by rw [sizeLine_eq]; omega
theorem HandAt.same {H H' : Hp} {p l : Addr} (h : HandAt H p l) (s : Same H H') : HandAt H' p l := by
  obtain ⟨ns, i, rest, st, a, b, c, d⟩ := h
  exact ⟨ns, i, rest, st, s _ _ a, b, s _ _ c, d⟩
/-- a write elsewhere -/
theorem HandAt.write {H : Hp} {p l L : Addr} {o : HO} (h : HandAt H p l) (n1 : L ≠ p) (n2 : L ≠ l) : HandAt (upd H L o) p l := by
  obtain ⟨ns, i, rest, st, a, b, c, d⟩ := h
  exact ⟨ns, i, rest, st, (upd_ne (Ne.symm n1)).trans a, b, (upd_ne (Ne.symm n2)).trans c, d⟩
theorem HandAt.ne1 {H : Hp} {p l q : Addr} (h : HandAt H p l) (n : H q = none) : q ≠ p ∧ q ≠ l := by
  obtain ⟨ns, i, rest, st, a, b, c, d⟩ := h
  exact ⟨Ne.symm (ne_of_none a n), Ne.symm (ne_of_none c n)⟩
theorem HandAt.lst {H : Hp} {p l : Addr} (h : HandAt H p l) : ∃ xs, H p = some (.lst xs) := by
  obtain ⟨ns, i, rest, st, a, b, c, d⟩ := h
  exact ⟨_, a⟩
theorem seqT_kp {K : PySem.W.Frag} {H H' : Hp} {p l a : Addr} {xs : List V} (h : HandAt H p l) (k : Kp p H H') (s : SqT K H a xs) : SqT K H' a xs := by
  obtain ⟨ys, e⟩ := h.lst
  rcases s with (s | ⟨o, s⟩) | s
  · exact .inl (.inl (k _ _ (ne_of s e (fun z => by cases z)) s))
  · exact .inl (.inr ⟨o, k _ _ (ne_of s e (fun z => by cases z)) s⟩)
  · exact .inr s
theorem seqT_write {K : PySem.W.Frag} {H : Hp} {L a : Addr} {xs ys zs : List V} (h : H L = some (.lst ys)) (s : SqT K H a xs) : SqT K (upd H L (.lst zs)) a xs := by
  rcases s with (s | ⟨o, s⟩) | s
  · exact .inl (.inl ((upd_ne (ne_of s h (fun z => by cases z))).trans s))
  · exact .inl (.inr ⟨o, (upd_ne (ne_of s h (fun z => by cases z))).trans s⟩)
  · exact .inr s
theorem HandAt.upd {H : Hp} {p l : Addr} {ns : List Int} {i rest st : Int} (hl : H l = some (.lst (ns.map V.int))) (ne : l ≠ p) (h0 : 0 ≤ i) (h1 : 0 ≤ rest) (h2 : ∀ n ∈ ns, 0 ≤ n) (h3 : ns.length ≤ 63) :
    HandAt (L2.upd H p (.lst [.ref l, .int i, .int rest, .int st])) p l := ⟨ns, i, rest, st, upd_same, ne, (upd_ne ne).trans hl, h0, h1, h2, h3⟩
theorem Kp.upd {H : Hp} {p : Addr} {o : HO} : Kp p H (L2.upd H p o) := fun b u n e => by rw [upd_ne n]; exact e
theorem Kp.upd' {H H1 : Hp} {p : Addr} {o : HO} (k : Kp p H H1) : Kp p H (L2.upd H1 p o) := k.trans Kp.upd
theorem ints_at {ns : List Int} {i : Int} (h0 : 0 ≤ i) (h : i < (ns.map V.int).length) : ∃ c, c ∈ ns ∧ atI (ns.map V.int) i = some (.int c) := by
  rw [List.length_map] at h
  have e : i = ((i.toNat : Nat) : Int) := by omega
  have hl : i.toNat < ns.length := by omega
  refine ⟨ns[i.toNat], List.getElem_mem hl, at_of e ?_⟩
  rw [List.getElem?_map, List.getElem?_eq_getElem hl]
  rfl
def spStir : Sp := fun vs H Q _ => ∃ n t : Int, vs = [.int n, .int t] ∧ ∀ r : Int, Q (.int r) H
def spHand (K : PySem.W.Frag) : Sp := fun vs H Q _ => ∃ (a : Addr) (ns : List Int), vs = [.ref a] ∧ SqL K H a (ns.map V.int) ∧ ns.length ≤ 63 ∧ ∀ (p l : Addr) (H' : Hp), HandAt H' p l → Same H H' → Q (.ref p) H'
def spDraw : Sp := fun vs H Q _ => ∃ (p l : Addr) (m : Int), vs = [.ref p, .int m] ∧ HandAt H p l ∧ 0 < m ∧ m < 1073741824 ∧ ∀ (d : Int) (H' : Hp), 0 ≤ d → d < m → HandAt H' p l → Kp p H H' → Q (.int d) H'
end MB
set_option maxHeartbeats 2000000
namespace MB
open PySem PySem.Spec PyProof.Rows L2
def oexB (K : PySem.W.Frag) (C : Addr) : Bool := (match K.lookup C with
  | some ⟨.type "type", _, .cls cd, sl⟩ => (match cd.mro, sl.toList with
    | .ref C' :: bm, [_, _, _, _, some (.builtin n), _] => C' == C && (n == "ValueError.__new__" && (!cd.hasDel && (cd.hasDict && PySem.HandSPX.refsVE bm)))
    | _, _ => false)
  | _ => false) && (decide (PySem.W.findIn K (.ref C) "__setattr__" = some (some (.builtin "object.__setattr__"))) && (decide (PySem.W.subIn K (.ref C) (.type "BaseException") = some true) && (decide (PySem.W.typeIn K (.ref C) = some (.type "type")) && PySem.W.keepIn K (.ref C))))
theorem ba {a b : Bool} (h : (a && b) = true) : a = true ∧ b = true := Bool.and_eq_true_iff.mp h
theorem oexB_ok {K : PySem.W.Frag} {C : Addr} (h : oexB K C = true) : OexC K C := by
  obtain ⟨q, h⟩ := ba h
  obtain ⟨h1, h⟩ := ba h
  obtain ⟨h2, h⟩ := ba h
  obtain ⟨h3, h4⟩ := ba h
  refine ⟨?_, of_decide_eq_true h1, of_decide_eq_true h2, of_decide_eq_true h3, h4⟩
  split at q
  · rename_i dd cd sl ho
    split at q
    · rename_i C' bm k0 k1 k2 k3 n k5 hm hs
      obtain ⟨a1, q⟩ := ba q
      obtain ⟨a2, q⟩ := ba q
      obtain ⟨a3, q⟩ := ba q
      obtain ⟨a4, a5⟩ := ba q
      have e1 := eq_of_beq a1
      have e2 := eq_of_beq a2
      subst e1 e2
      obtain ⟨nm, bs, mro, ns, qn, hd, sn, sub, ab, col, del⟩ := cd
      dsimp only at hm a3 a4
      have e3 : del = false := by
        cases del with
        | false => rfl
        | true => cases a3
      subst hm a4 e3
      have hsl : sl = #[k0, k1, k2, k3, some (.builtin "ValueError.__new__"), k5] := by
        obtain ⟨l⟩ := sl
        simp only at hs
        rw [hs]
      subst hsl
      exact ⟨nm, qn, ns, bs, bm, sn, sub, ab, col, dd, k0, k1, k2, k3, k5, ho, a5⟩
    · cases q
  · cases q
def excCB (K : PySem.W.Frag) (D : Addr) : Bool := decide (PySem.W.findIn K (.ref D) "__getattribute__" = some (some (.builtin "BaseException.__getattribute__"))) && (decide (PySem.W.findIn K (.ref D) "__getattr__" = some none) && (decide (PySem.W.subIn K (.ref D) (.type "BaseException") = some true) && (PySem.W.hasDictIn K D &&
  (decide (PySem.W.findIn K (.ref D) "__class__" = some (some (.builtin "object.__class__"))) && (decide (PySem.W.specialIn K (.builtin "object.__class__") "__get__" = some (some (.builtin "getset_descriptor.__get__"))) && (decide (PySem.W.takesIn K (.builtin "object.__class__") = some true) && decide (PySem.W.mroIn K D (.type "object") = some true)))))))
theorem excCB_ok {K : PySem.W.Frag} {D : Addr} (h : excCB K D = true) : ExcC K D := by
  obtain ⟨h1, h⟩ := ba h
  obtain ⟨h2, h⟩ := ba h
  obtain ⟨h3, h⟩ := ba h
  obtain ⟨h4, h⟩ := ba h
  obtain ⟨h5, h⟩ := ba h
  obtain ⟨h6, h⟩ := ba h
  obtain ⟨h7, h8⟩ := ba h
  exact ⟨of_decide_eq_true h1, of_decide_eq_true h2, of_decide_eq_true h3, h4, of_decide_eq_true h5, of_decide_eq_true h6, of_decide_eq_true h7, of_decide_eq_true h8⟩
section
variable {X : Cx} {C : Addr} {bmB : List Value} {B newId initId : String}
/-- X() -/
theorem pmk_own0 {x : Str} {p pos : Pos} (F : ExcBaseFacts B newId initId bmB) (q : PySem.W.excIn X.K C bmB newId = true) (gC : X.mg x = some (.ref C)) (kC : PySem.W.keepIn X.K (.ref C) = true) (r : Raises X (.ref C)) (hg : Gl X x)
    (hdb : (x == ("__debug__" : Str)) = false := by decide) : PMk X (.Call (.Name x p) [] [] pos) (fun _ H Q => Q (.ref C) none H) := by
  intro pins s σ H Q I h
  refine wpAny_Call_Name_kw (ld_glob I hg gC ?_ hdb)
  refine PySem.W.callWith_K0 I.kIn kC ?_
  obtain ⟨bm, N, nm, qn, bs, hdct, sn, sub, ab, col, dd, k0, k1, k2, k3, k5, mN, hC, hN, hni, T⟩ := exc_obj I.kIn q
  refine wpAny_call_exc_subT F T hC hN hni (fun h' e hm => ?_) (Nat.zero_le _)
  exact mk_of I hm r h (I.hok.gone hm.new)
end
/-- isinstance(e, c) in a suite, whatever it caught: it caught a D without fields -/
def rIsX (K : PySem.W.Frag) (D a : Addr) (cls : Value) (d : Option Addr) : List V → Hp → VK → Prop := fun xs H Q => cls = .ref D ∧ d = none ∧ rIsE K D a xs H Q
theorem call_isX {X : Cx} {a D : Addr} {cls : Value} {d : Option Addr} {oe : Obj} {pn : List (Addr × Obj)} (C : ExcC X.K D) (hz : Zc cls d oe) (hf : ∃ vs, oe.data = .fields vs) : CallR (X.suite a ((a, oe) :: pn)) (.builtin "isinstance") (rIsX X.K D a cls d) := by
  intro pins s σ H xs us Q I r h
  obtain ⟨rfl, rfl, h⟩ := h
  exact call_isE C hz hf pins s σ H xs us Q I r h
def spInit1 (C : Addr) (f : Str) : Sp := fun vs H Q _ => ∃ (a : Addr) (v : V), vs = [.ref a, v] ∧ H a = some (exo a C none) ∧ ∀ dx, H dx = none → dx ≠ a → Q .non (upd (upd H dx (exd dx [(f, v)])) a (exo a C (some dx)))
def spInit2 (C : Addr) (f g : Str) : Sp := fun vs H Q _ => ∃ (a : Addr) (v u : V), vs = [.ref a, v, u] ∧ H a = some (exo a C none) ∧ ∀ dx, H dx = none → dx ≠ a → Q .non (upd (upd (upd H dx (exd dx [(f, v)])) a (exo a C (some dx))) dx (exd dx [(g, u), (f, v)]))
/-- what an __init__ that keeps spInit1 leaves of C(e) -/
theorem mk1 {C : Addr} {f : Str} {v : V} {H : Hp} {Q : XK} (q : ∀ d H', L2.Same H H' → H' d = some (.xd [(f, v)]) → Q (.ref C) (some d) H') :
    [v].length ≤ 1000 ∧ ∀ a, H a = none → spInit1 C f (.ref a :: ([v] ++ [])) (upd H a (exo a C none))
      (fun v H2 => v = .non ∧ ∃ (d : Addr) (fs : List (Str × V)), H2 a = some (exo a C (some d)) ∧ H2 d = some (exd d fs) ∧ H d = none ∧ Q (.ref C) (some d) (upd (del H2 a) d (.xd fs))) (fun _ _ _ => False) := by
  refine ⟨by show 1 ≤ 1000; decide, fun a ha => ⟨a, v, rfl, upd_same, fun dx h1 h2 => ⟨rfl, dx, [(f, v)], upd_same, ?_, ?_, ?_⟩⟩⟩
  · rw [upd_ne h2, upd_same]
  · rw [upd_ne h2] at h1
    exact h1
  · rw [upd_ne h2] at h1
    refine q dx _ (fun b o e => ?_) upd_same
    have n1 := ne_of_none e h1
    have n2 := ne_of_none e ha
    rw [upd_ne n1, del_ne n2, upd_ne n2, upd_ne n1, upd_ne n2]
    exact e
theorem mk2 {C : Addr} {f g : Str} {v u : V} {H : Hp} {Q : XK} (q : ∀ d H', L2.Same H H' → H' d = some (.xd [(g, u), (f, v)]) → Q (.ref C) (some d) H') :
    [v, u].length ≤ 1000 ∧ ∀ a, H a = none → spInit2 C f g (.ref a :: ([v, u] ++ [])) (upd H a (exo a C none))
      (fun v H2 => v = .non ∧ ∃ (d : Addr) (fs : List (Str × V)), H2 a = some (exo a C (some d)) ∧ H2 d = some (exd d fs) ∧ H d = none ∧ Q (.ref C) (some d) (upd (del H2 a) d (.xd fs))) (fun _ _ _ => False) := by
  refine ⟨by show 2 ≤ 1000; decide, fun a ha => ⟨a, v, u, rfl, upd_same, fun dx h1 h2 => ⟨rfl, dx, [(g, u), (f, v)], ?_, upd_same, ?_, ?_⟩⟩⟩
  · rw [upd_ne (Ne.symm h2), upd_same]
  · rw [upd_ne h2] at h1
    exact h1
  · rw [upd_ne h2] at h1
    refine q dx _ (fun b o e => ?_) upd_same
    have n1 := ne_of_none e h1
    have n2 := ne_of_none e ha
    rw [upd_ne n1, del_ne n2, upd_ne n1, upd_ne n2, upd_ne n1, upd_ne n2]
    exact e
section
variable {X : Cx} {CX : CXT} {k : Nat} {x : Str} {ps : List Str} {sp : Sp} {E : L2.St → XK} {e : Expr} {es : List Expr} {t : TA} {p pos : Pos}
/-- in a try: f(e, ..), f may raise -/
theorem pe_calS (h : Cal X.prog X.w X.K X.mg X.base (L2.CX X.prog X.w) k x ps [] sp) (hr : Room k X.A) (hx : ∀ σ, PassesAt (L2.CX X.prog X.w) X σ (E σ)) (ha : PA X (e :: es) t) (hg : Gl X x := by rfl) (hdb : (x == ("__debug__" : Str)) = false := by decide)
    (he : starEach (e :: es) X.env = (false, eval e X.env) :: starEach es X.env := by rfl) (hpl : (backTo pos (starEach es X.env)).any (·.1) = false := by rfl) : PE X (.Call (.Name x p) (e :: es) [] pos) (tCallS sp E t) := by
  obtain ⟨f, fd, ds, F, hm, hk, hb, hd⟩ := h
  cases hd
  exact pe_callS F hr hg hm hk hb hx ha hdb he hpl
end
theorem r_callS {σ : L2.St} {H : Hp} {Q : VK} {sp : Sp} {E : L2.St → XK} {t : TA} (q : t σ H fun vs H1 => sp vs H1 Q (E σ)) : tCallS sp E t σ H Q := q
end MB
set_option maxHeartbeats 2000000
set_option exponentiation.threshold 2000
namespace K00
open PySem PySem.Spec PyProof.Rows L2 MB
def gd (t b : Int) : Int := ((Nat.gcd t.natAbs b.natAbs : Nat) : Int)
def low (t b : Int) : Int × Int := if b < 0 then ((-t).fdiv (gd t b), (-b).fdiv (gd t b)) else (t.fdiv (gd t b), b.fdiv (gd t b))
def plusR (x y : Int × Int) : Int × Int := low (x.1 * y.2 + y.1 * x.2) (x.2 * y.2)
def lessR (x y : Int × Int) : Int × Int := low (x.1 * y.2 - y.1 * x.2) (x.2 * y.2)
def timesR (x y : Int × Int) : Int × Int := low (x.1 * y.1) (x.2 * y.2)
def overR (x y : Int × Int) : Int × Int := low (x.1 * y.2) (x.2 * y.1)
theorem gd_pos {t b : Int} (h : b ≠ 0) : 0 < gd t b := by
  unfold gd
  have : 0 < Nat.gcd t.natAbs b.natAbs := Nat.gcd_pos_of_pos_right _ (by omega)
  omega
theorem gd_nn (t b : Int) : 0 ≤ gd t b := by unfold gd; omega
theorem gd_neg_l (t b : Int) : gd (-t) b = gd t b := by unfold gd; rw [Int.natAbs_neg]
theorem gd_neg_r (t b : Int) : gd t (-b) = gd t b := by unfold gd; rw [Int.natAbs_neg]
theorem low_neg {t b : Int} (h : b < 0) : (t.fdiv (-gd t b), b.fdiv (-gd t b)) = low t b := by
  unfold low
  rw [if_pos h]
  have e1 := Int.neg_fdiv_neg (-t) (gd t b)
  have e2 := Int.neg_fdiv_neg (-b) (gd t b)
  rw [Int.neg_neg] at e1 e2
  rw [e1, e2]
theorem low_pos {t b : Int} (h : ¬ b < 0) : (t.fdiv (gd t b), b.fdiv (gd t b)) = low t b := by
  unfold low
  rw [if_neg h]
/-- in lowest terms, the bottom 1 or more -/
def IsR (x : Int × Int) : Prop := 0 < x.2 ∧ Nat.gcd x.1.natAbs x.2.natAbs = 1
theorem nat_fdiv (a g : Nat) : (a : Int).fdiv (g : Int) = ((a / g : Nat) : Int) := (Int.ofNat_fdiv a g).symm
theorem nn_fdiv {b : Int} (h : 0 ≤ b) (g : Nat) : b.fdiv (g : Int) = ((b.natAbs / g : Nat) : Int) := by
  obtain ⟨n, rfl⟩ := Int.eq_ofNat_of_zero_le h
  exact nat_fdiv n g
theorem abs_fdiv {t : Int} {g : Nat} (hg : 0 < g) (hd : g ∣ t.natAbs) : (t.fdiv (g : Int)).natAbs = t.natAbs / g := by
  by_cases h : 0 ≤ t
  · rw [nn_fdiv h]
    exact Int.natAbs_natCast _
  · have hdv : (g : Int) ∣ t := Int.ofNat_dvd_left.mpr hd
    rw [Int.fdiv_eq_ediv_of_dvd hdv, Int.natAbs_ediv_of_dvd hdv]
    simp
theorem low_isR {t b : Int} (h : b ≠ 0) : IsR (low t b) := by
  have hg : 0 < Nat.gcd t.natAbs b.natAbs := Nat.gcd_pos_of_pos_right _ (by omega)
  have h1 : Nat.gcd t.natAbs b.natAbs ∣ t.natAbs := Nat.gcd_dvd_left _ _
  have h2 : Nat.gcd t.natAbs b.natAbs ∣ b.natAbs := Nat.gcd_dvd_right _ _
  have co : Nat.gcd (t.natAbs / Nat.gcd t.natAbs b.natAbs) (b.natAbs / Nat.gcd t.natAbs b.natAbs) = 1 := Nat.gcd_div_gcd_div_gcd_of_pos_right (by omega)
  have pos : 0 < b.natAbs / Nat.gcd t.natAbs b.natAbs := Nat.div_pos (Nat.le_of_dvd (by omega) h2) hg
  unfold low
  by_cases hb : b < 0
  · rw [if_pos hb]
    refine ⟨?_, ?_⟩
    · show 0 < (-b).fdiv (gd t b)
      unfold gd
      rw [nn_fdiv (by omega), Int.natAbs_neg]
      omega
    · show Nat.gcd ((-t).fdiv (gd t b)).natAbs ((-b).fdiv (gd t b)).natAbs = 1
      unfold gd
      rw [abs_fdiv hg (by rw [Int.natAbs_neg]; exact h1), abs_fdiv hg (by rw [Int.natAbs_neg]; exact h2), Int.natAbs_neg, Int.natAbs_neg]
      exact co
  · rw [if_neg hb]
    refine ⟨?_, ?_⟩
    · show 0 < b.fdiv (gd t b)
      unfold gd
      rw [nn_fdiv (by omega)]
      omega
    · show Nat.gcd (t.fdiv (gd t b)).natAbs (b.fdiv (gd t b)).natAbs = 1
      unfold gd
      rw [abs_fdiv hg h1, abs_fdiv hg h2]
      exact co
theorem low_le {t b : Int} (h : b ≠ 0) : (low t b).1.natAbs ≤ t.natAbs ∧ (low t b).2.natAbs ≤ b.natAbs := by
  have hg : 0 < Nat.gcd t.natAbs b.natAbs := Nat.gcd_pos_of_pos_right _ (by omega)
  have h1 : Nat.gcd t.natAbs b.natAbs ∣ t.natAbs := Nat.gcd_dvd_left _ _
  have h2 : Nat.gcd t.natAbs b.natAbs ∣ b.natAbs := Nat.gcd_dvd_right _ _
  unfold low
  by_cases hb : b < 0
  · rw [if_pos hb]
    unfold gd
    show ((-t).fdiv _).natAbs ≤ _ ∧ ((-b).fdiv _).natAbs ≤ _
    rw [abs_fdiv hg (by rw [Int.natAbs_neg]; exact h1), abs_fdiv hg (by rw [Int.natAbs_neg]; exact h2), Int.natAbs_neg, Int.natAbs_neg]
    exact ⟨Nat.div_le_self _ _, Nat.div_le_self _ _⟩
  · rw [if_neg hb]
    unfold gd
    show (t.fdiv _).natAbs ≤ _ ∧ (b.fdiv _).natAbs ≤ _
    rw [abs_fdiv hg h1, abs_fdiv hg h2]
    exact ⟨Nat.div_le_self _ _, Nat.div_le_self _ _⟩
theorem low_one (a : Int) : low a 1 = (a, 1) := by
  unfold low
  rw [if_neg (by decide)]
  have e : gd a 1 = 1 := by unfold gd; simp
  rw [e, Int.fdiv_one]
  rfl
def Euc (g : Nat) (i a b : Nat) : Prop := Nat.gcd a b = g ∧ ((i = 0 ∧ a < 2 ^ 400 ∧ b < 2 ^ 400) ∨ (0 < i ∧ b < a ∧ a * b * 2 ^ (i - 1) < 2 ^ 800))
theorem euc_step {g i a b : Nat} (hb : b ≠ 0) (h : Euc g i a b) : Euc g (i + 1) b (a % b) := by
  obtain ⟨hg, h⟩ := h
  have hr : a % b < b := Nat.mod_lt _ (by omega)
  refine ⟨?_, .inr ⟨by omega, hr, ?_⟩⟩
  · rw [Nat.gcd_comm b, ← Nat.gcd_rec b a, Nat.gcd_comm]
    exact hg
  · show b * (a % b) * 2 ^ i < 2 ^ 800
    rcases h with ⟨rfl, _, h2⟩ | ⟨hi, hlt, hp⟩
    · rw [Nat.pow_zero, Nat.mul_one]
      have : b * (a % b) < 2 ^ 400 * 2 ^ 400 := Nat.mul_lt_mul'' h2 (by omega)
      rw [← Nat.pow_add] at this
      exact this
    · obtain ⟨j, rfl⟩ : ∃ j, i = j + 1 := ⟨i - 1, by omega⟩
      have h2 : 2 * (a % b) ≤ a := by
        have e := Nat.div_add_mod a b
        have q : 1 ≤ a / b := Nat.div_pos (by omega) (by omega)
        have : b * 1 ≤ b * (a / b) := Nat.mul_le_mul_left _ q
        omega
      have e1 : b * (a % b) * 2 ^ (j + 1) = b * (2 * (a % b)) * 2 ^ j := by
        rw [Nat.pow_succ, Nat.mul_comm (2 ^ j) 2, ← Nat.mul_assoc, Nat.mul_assoc b, Nat.mul_comm (a % b) 2]
      rw [e1]
      have e2 : b * (2 * (a % b)) * 2 ^ j ≤ b * a * 2 ^ j := Nat.mul_le_mul_right _ (Nat.mul_le_mul_left _ h2)
      rw [Nat.mul_comm b a] at e2
      exact Nat.lt_of_le_of_lt e2 hp
theorem euc_end {g a b : Nat} (h : Euc g 900 a b) : b = 0 := by
  obtain ⟨_, h | ⟨_, hlt, hp⟩⟩ := h
  · exact absurd h.1 (by decide)
  · cases hz : b with
    | zero => rfl
    | succ k =>
      exfalso
      rw [hz] at hp hlt
      have h1 : 1 ≤ a * (k + 1) := Nat.mul_pos (by omega) (by omega)
      have h2 : 1 * 2 ^ (900 - 1) ≤ a * (k + 1) * 2 ^ (900 - 1) := Nat.mul_le_mul_right _ h1
      have h3 : 2 ^ 800 ≤ 1 * 2 ^ (900 - 1) := by rw [Nat.one_mul]; exact Nat.pow_le_pow_right (by decide) (by decide)
      omega
theorem euc_done {g i a : Nat} (h : Euc g i a 0) : a = g := by
  have := h.1
  rw [Nat.gcd_zero_right] at this
  exact this
def Sz (n : Nat) (i : Int) : Prop := i.natAbs < 2 ^ n
theorem Sz.mono {n m : Nat} {i : Int} (h : Sz n i) (le : n ≤ m) : Sz m i := Nat.lt_of_lt_of_le h (Nat.pow_le_pow_right (by decide) le)
theorem Sz.mul {n m : Nat} {i j : Int} (h : Sz n i) (k : Sz m j) : Sz (n + m) (i * j) := by
  unfold Sz
  rw [Int.natAbs_mul, Nat.pow_add]
  exact Nat.mul_lt_mul'' h k
theorem Sz.add {n : Nat} {i j : Int} (h : Sz n i) (k : Sz n j) : Sz (n + 1) (i + j) := by
  unfold Sz at *
  have := Int.natAbs_add_le i j
  rw [Nat.pow_succ]
  omega
theorem Sz.neg {n : Nat} {i : Int} (h : Sz n i) : Sz n (-i) := by unfold Sz; rw [Int.natAbs_neg]; exact h
theorem Sz.sub {n : Nat} {i j : Int} (h : Sz n i) (k : Sz n j) : Sz (n + 1) (i - j) := by
  rw [Int.sub_eq_add_neg]
  exact h.add k.neg
theorem Sz.le {n : Nat} {i j : Int} (h : Sz n j) (k : i.natAbs ≤ j.natAbs) : Sz n i := Nat.lt_of_le_of_lt k h
theorem Sz.low {n m : Nat} {t b : Int} (h : b ≠ 0) (ht : Sz n t) (hb : Sz m b) : Sz n (low t b).1 ∧ Sz m (low t b).2 := ⟨ht.le (low_le h).1, hb.le (low_le h).2⟩
theorem Sz.mulR {i j : Int} (h : Sz 62 j) : CMul i j := by
  unfold Sz at h
  have : (2 : Nat) ^ 62 < 2 ^ 64 := by decide
  refine Or.inr ⟨?_, ?_⟩ <;> omega
theorem Sz.mulL {i j : Int} (h : Sz 62 i) : CMul i j := by
  unfold Sz at h
  have : (2 : Nat) ^ 62 < 2 ^ 64 := by decide
  refine Or.inl ⟨?_, ?_⟩ <;> omega
theorem gd_log {t b : Int} {n : Nat} (h : b ≠ 0) (k : Sz n b) (hn : 0 < n) (h9 : n ≤ 9000) : (gd t b).natAbs.log2 < 9000 := by
  have h2 : Nat.gcd t.natAbs b.natAbs ≤ b.natAbs := Nat.le_of_dvd (by omega) (Nat.gcd_dvd_right _ _)
  have e : (gd t b).natAbs = Nat.gcd t.natAbs b.natAbs := by unfold gd; omega
  rw [e]
  exact Nat.lt_of_lt_of_le (PySem.Flt.log2_lt_of hn (Nat.lt_of_le_of_lt h2 k)) h9
/-- a good ratio of such sizes -/
structure Rt (n m : Nat) (x : Int × Int) : Prop where
  top : Sz n x.1
  bot : Sz m x.2
  pos : 0 < x.2
  one : Nat.gcd x.1.natAbs x.2.natAbs = 1
theorem rt_low {n m : Nat} {t b : Int} (h : b ≠ 0) (ht : Sz n t) (hb : Sz m b) : Rt n m (low t b) := ⟨(Sz.low h ht hb).1, (Sz.low h ht hb).2, (low_isR h).1, (low_isR h).2⟩
theorem rt_plus {n m p q : Nat} {x y : Int × Int} (hx : Rt n m x) (hy : Rt p q y) (k : Nat) (h1 : n + q ≤ k) (h2 : p + m ≤ k) : Rt (k + 1) (m + q) (plusR x y) :=
  rt_low (Int.mul_ne_zero (by have := hx.pos; omega) (by have := hy.pos; omega)) (((hx.top.mul hy.bot).mono h1).add ((hy.top.mul hx.bot).mono h2)) (hx.bot.mul hy.bot)
def CDivZ (_ j : Int) : Prop := j ≠ 0 ∧ j.natAbs.log2 < 9000
theorem op_fdivZ {X : Cx} : OpR X (binaryOp .FloorDiv) (rI CDivZ fun i j => .int (i.fdiv j)) := opI fun _ _ _ _ _ _ _ hc q => floordiv_int hc.1 q (.inl (PyProof.noPylong_of_log2 hc.2))
theorem kit_ii : kitB "int" "int" = some true := by decide +kernel
theorem kit_bi : kitB "bool" "int" = some true := by decide +kernel
theorem kit_si : kitB "str" "int" = some false := by decide +kernel
theorem kit_ni : kitB "NoneType" "int" = some false := by decide +kernel
theorem kit_li : kitB "list" "int" = some false := by decide +kernel
theorem kit_ti : kitB "tuple" "int" = some false := by decide +kernel
theorem kit_ib : kitB "int" "bool" = some false := by decide +kernel
theorem kit_bb : kitB "bool" "bool" = some true := by decide +kernel
theorem kit_sb : kitB "str" "bool" = some false := by decide +kernel
theorem kit_nb : kitB "NoneType" "bool" = some false := by decide +kernel
theorem kit_lb : kitB "list" "bool" = some false := by decide +kernel
theorem kit_tb : kitB "tuple" "bool" = some false := by decide +kernel
theorem kit_it : kitB "int" "tuple" = some false := by decide +kernel
theorem kit_bt : kitB "bool" "tuple" = some false := by decide +kernel
theorem kit_st : kitB "str" "tuple" = some false := by decide +kernel
theorem kit_nt : kitB "NoneType" "tuple" = some false := by decide +kernel
theorem kit_lt : kitB "list" "tuple" = some false := by decide +kernel
theorem kit_tt : kitB "tuple" "tuple" = some true := by decide +kernel
theorem kit_il : kitB "int" "list" = some false := by decide +kernel
theorem kit_bl : kitB "bool" "list" = some false := by decide +kernel
theorem kit_sl : kitB "str" "list" = some false := by decide +kernel
theorem kit_nl : kitB "NoneType" "list" = some false := by decide +kernel
theorem kit_ll : kitB "list" "list" = some true := by decide +kernel
theorem kit_tl : kitB "tuple" "list" = some false := by decide +kernel
theorem ty_tup {K : PySem.W.Frag} {H : Hp} {a : Addr} {xs : List V} (s : SqT K H a xs) : TyX K H (.ref a) (.type "tuple") := by
  rcases s with (h | ⟨o, h⟩) | ⟨o, its, n, hk, hc, _⟩
  · exact .base (.tup h)
  · exact .fTuple h
  · exact .kTuple hk hc
theorem ty_lst {K : PySem.W.Frag} {H : Hp} {a : Addr} {xs : List V} (h : H a = some (.lst xs)) : TyX K H (.ref a) (.type "list") := .base (.lst h)
theorem r_isi {K : PySem.W.Frag} {H : Hp} {Q : VK} {x : V} {m n : String} {b : Bool} (ty : TyX K H x (.type m)) (k : kitB m n = some b) (q : Q (.bl b) H) : rIsi K [x, .ty n] H Q :=
  ⟨x, .ty n, .type m, .type n, b, rfl, .ty n, ty, kit_ty k, q⟩
end K00
set_option Elab.async false
set_option linter.all false
set_option maxRecDepth 100000
set_option maxHeartbeats 4000000
local macro_rules | `(tactic| walk_at "cm") => `(tactic| first
  | assumption
  | exact Or.inr ⟨by decide, by decide⟩
  | exact Or.inl ⟨by decide, by decide⟩
  | exact Or.inr ⟨by omega, by omega⟩
  | exact Or.inl ⟨by omega, by omega⟩
  | (show (0 : Int) < _; omega)
  | exact ⟨by decide, by decide⟩
  | exact ⟨by omega, by omega⟩
  | exact ⟨by decide, by decide, by decide⟩
  | assumption)
local macro_rules | `(tactic| walk_at "ls") => `(tactic| first
  | assumption
  | exact L2.upd_same
  | exact (L2.upd_ne (by assumption)).trans (by assumption)
  | exact (L2.upd_ne (Ne.symm (by assumption))).trans (by assumption)
  | exact (L2.upd_ne (by assumption)).trans L2.upd_same)
local macro_rules | `(tactic| walk_at "sq") => `(tactic| first
  | assumption
  | exact L2.SqL.of (by walk_at "ls")
  | exact L2.SqT.of (by walk_at "ls"))
local macro_rules | `(tactic| walk_at "ty") => `(tactic| first
  | exact L2.TyX.base (L2.TyOf.int _)
  | exact L2.TyX.base (L2.TyOf.bl _)
  | exact L2.TyX.base (L2.TyOf.str _)
  | exact L2.TyX.base L2.TyOf.non
  | exact K00.ty_tup (by walk_at "sq")
  | exact K00.ty_lst (by walk_at "ls"))
local macro_rules | `(tactic| walk_at "kit") => `(tactic| first
  | exact K00.kit_ii | exact K00.kit_bi | exact K00.kit_si | exact K00.kit_ni | exact K00.kit_li | exact K00.kit_ti
  | exact K00.kit_ib | exact K00.kit_bb | exact K00.kit_sb | exact K00.kit_nb | exact K00.kit_lb | exact K00.kit_tb
  | exact K00.kit_it | exact K00.kit_bt | exact K00.kit_st | exact K00.kit_nt | exact K00.kit_lt | exact K00.kit_tt)
local macro_rules | `(tactic| walk_at "rd") => `(tactic| repeat (first
  | ((with_reducible apply MB.r_var); (next => rfl))
  | with_reducible refine MB.r_c ?_
  | with_reducible refine MB.r_op ?_
  | with_reducible refine MB.r_un ?_
  | with_reducible refine MB.r_nil ?_
  | with_reducible refine MB.r_cons ?_
  | with_reducible refine MB.r_I0 ?_
  | ((with_reducible apply MB.r_I); (next => walk_at "cm"))
  | with_reducible refine MB.r_U ?_
  | ((with_reducible apply MB.r_eq); (next => rfl))
  | ((with_reducible apply MB.r_ne); (next => rfl))
  | with_reducible refine MB.r_seq ?_
  | with_reducible refine MB.r_asg ?_
  | with_reducible refine MB.r_name ?_
  | with_reducible refine MB.r_sub ?_
  | with_reducible refine MB.r_ret ?_
  | with_reducible refine MB.r_next ?_
  | with_reducible refine MB.r_break ?_
  | with_reducible refine MB.r_drop ?_
  | with_reducible refine MB.r_ifS ?_
  | with_reducible refine MB.r_test ?_
  | with_reducible refine MB.r_tB ?_
  | with_reducible refine MB.r_bl ?_
  | with_reducible refine MB.r_and ?_
  | with_reducible refine MB.r_or ?_
  | with_reducible refine MB.r_not ?_
  | with_reducible refine MB.r_andV ?_
  | with_reducible refine MB.r_orV ?_
  | with_reducible refine MB.r_notV ?_
  | with_reducible refine MB.r_tIf ?_
  | with_reducible refine MB.r_chain ?_
  | with_reducible refine MB.r_call ?_
  | with_reducible refine MB.r_CB ?_
  | with_reducible refine MB.r_tup ?_
  | with_reducible refine MB.r_lst ?_
  | with_reducible refine MB.r_par ?_
  | with_reducible refine MB.r_two ?_
  | with_reducible refine MB.r_int1 ?_
  | with_reducible refine MB.r_int1b ?_
  | with_reducible refine MB.r_abs ?_
  | with_reducible refine MB.r_gcd ?_
  | with_reducible refine MB.r_isNo ?_
  | with_reducible refine MB.r_callS ?_
  | with_reducible refine MB.if_nt ?_
  | with_reducible refine MB.if_nf ?_
  | with_reducible refine MB.if_n0 ?_
  | with_reducible refine MB.if_n1 ?_
  | with_reducible refine MB.if_n2 ?_
  | with_reducible refine MB.if_n3 ?_
  | with_reducible refine MB.if_n4 ?_
  | with_reducible refine MB.if_m0 ?_
  | with_reducible refine MB.if_m1 ?_
  | with_reducible refine MB.if_m2 ?_
  | with_reducible refine MB.if_m3 ?_
  | with_reducible refine MB.if_m4 ?_
  | ((with_reducible apply K00.r_isi); (next => walk_at "ty"); (next => walk_at "kit"))
  | with_reducible refine MB.r_yes ?_
  | with_reducible refine MB.r_gcons ?_
  | with_reducible refine MB.r_gnil ?_
  | ((with_reducible apply MB.r_gtup); (next => walk_at "sq"); (next => rfl))
  | with_reducible refine L2.iteF ?_
  | with_reducible refine L2.iteT ?_
  | ((with_reducible apply MB.r_ixL); (next => walk_at "sq"); (next => rfl))
  | ((with_reducible apply MB.r_ixT); (next => walk_at "sq"); (next => rfl))
  | ((with_reducible apply MB.r_lenQ); (next => first | exact Or.inl (by walk_at "sq") | exact Or.inr (by walk_at "sq")))
  | ((with_reducible apply MB.r_setL); (next => walk_at "ls"); (next => rfl))
  | with_reducible refine MB.r_notNo ?_))
set_option maxHeartbeats 2000000
namespace K00
open PySem PySem.Spec PyProof.Rows L2 MB
def top (i : Nat) : Stmt := PySem.Challenge.pw_letbychecks_k00_whole_ratios_reckoned.main.body.getD i (.Pass ⟨0, 0, 0, 0⟩)
abbrev s_is_whole : Stmt := top 9
theorem sc_is_whole : FnScope ["thing", "low", "high"] ["thing", "low", "high"] (defScope s_is_whole) := ⟨rfl, rfl, rfl, by decide +kernel, rfl, by decide +kernel, by decide +kernel⟩
abbrev s_is_sequence : Stmt := top 10
theorem sc_is_sequence : FnScope ["thing"] ["thing"] (defScope s_is_sequence) := ⟨rfl, rfl, rfl, by decide +kernel, rfl, by decide +kernel, by decide +kernel⟩
abbrev s_common_divisor : Stmt := top 11
theorem sc_common_divisor : FnScope ["one", "other"] ["one", "other"] (defScope s_common_divisor) := ⟨rfl, rfl, rfl, by decide +kernel, rfl, by decide +kernel, by decide +kernel⟩
abbrev s_is_ratio : Stmt := top 12
theorem sc_is_ratio : FnScope ["thing", "top", "bottom"] ["thing"] (defScope s_is_ratio) := ⟨rfl, rfl, rfl, by decide +kernel, rfl, by decide +kernel, by decide +kernel⟩
abbrev s_is_share : Stmt := top 13
theorem sc_is_share : FnScope ["thing"] ["thing"] (defScope s_is_share) := ⟨rfl, rfl, rfl, by decide +kernel, rfl, by decide +kernel, by decide +kernel⟩
abbrev s_lowest : Stmt := top 14
theorem sc_lowest : FnScope ["top", "bottom", "divisor"] ["top", "bottom"] (defScope s_lowest) := ⟨rfl, rfl, rfl, by decide +kernel, rfl, by decide +kernel, by decide +kernel⟩
abbrev s_make_ratio : Stmt := top 15
theorem sc_make_ratio : FnScope ["top", "bottom"] ["top", "bottom"] (defScope s_make_ratio) := ⟨rfl, rfl, rfl, by decide +kernel, rfl, by decide +kernel, by decide +kernel⟩
abbrev s_ratio_plus : Stmt := top 16
theorem sc_ratio_plus : FnScope ["one", "other"] ["one", "other"] (defScope s_ratio_plus) := ⟨rfl, rfl, rfl, by decide +kernel, rfl, by decide +kernel, by decide +kernel⟩
abbrev s_ratio_minus : Stmt := top 17
theorem sc_ratio_minus : FnScope ["one", "other"] ["one", "other"] (defScope s_ratio_minus) := ⟨rfl, rfl, rfl, by decide +kernel, rfl, by decide +kernel, by decide +kernel⟩
abbrev s_ratio_times : Stmt := top 18
theorem sc_ratio_times : FnScope ["one", "other"] ["one", "other"] (defScope s_ratio_times) := ⟨rfl, rfl, rfl, by decide +kernel, rfl, by decide +kernel, by decide +kernel⟩
abbrev s_ratio_over : Stmt := top 19
theorem sc_ratio_over : FnScope ["one", "other"] ["one", "other"] (defScope s_ratio_over) := ⟨rfl, rfl, rfl, by decide +kernel, rfl, by decide +kernel, by decide +kernel⟩
abbrev s_ratio_compare : Stmt := top 20
theorem sc_ratio_compare : FnScope ["one", "other", "left", "right"] ["one", "other"] (defScope s_ratio_compare) := ⟨rfl, rfl, rfl, by decide +kernel, rfl, by decide +kernel, by decide +kernel⟩
abbrev s_ratio_sum : Stmt := top 21
theorem sc_ratio_sum : FnScope ["ratios", "total", "ratio"] ["ratios"] (defScope s_ratio_sum) := ⟨rfl, rfl, rfl, by decide +kernel, rfl, by decide +kernel, by decide +kernel⟩
abbrev s_l_stir : Stmt := top 23
theorem sc_l_stir : FnScope ["_law_number_here", "_law_turn", "_law_once", "_law_twice"] ["_law_number_here", "_law_turn"] (defScope s_l_stir) := ⟨rfl, rfl, rfl, by decide +kernel, rfl, by decide +kernel, by decide +kernel⟩
abbrev s_l_hand : Stmt := top 24
theorem sc_l_hand : FnScope ["_law_script", "_law_state", "_law_place", "_law_cell"] ["_law_script"] (defScope s_l_hand) := ⟨rfl, rfl, rfl, by decide +kernel, rfl, by decide +kernel, by decide +kernel⟩
abbrev s_l_draw : Stmt := top 25
theorem sc_l_draw : FnScope ["_law_hand_here", "_law_many", "_law_cell", "_law_rest"] ["_law_hand_here", "_law_many"] (defScope s_l_draw) := ⟨rfl, rfl, rfl, by decide +kernel, rfl, by decide +kernel, by decide +kernel⟩
abbrev s_l_whole : Stmt := top 26
theorem sc_l_whole : FnScope ["_law_thing"] ["_law_thing"] (defScope s_l_whole) := ⟨rfl, rfl, rfl, by decide +kernel, rfl, by decide +kernel, by decide +kernel⟩
abbrev s_l_wholes : Stmt := top 27
theorem sc_l_wholes : FnScope ["_law_thing", "_law_many", "_law_part_here"] ["_law_thing", "_law_many"] (defScope s_l_wholes) := ⟨rfl, rfl, rfl, by decide +kernel, rfl, by decide +kernel, by decide +kernel⟩
abbrev s_l_part : Stmt := top 28
theorem sc_l_part : FnScope ["_law_a", "_law_b", "_law_step"] ["_law_a", "_law_b"] (defScope s_l_part) := ⟨rfl, rfl, rfl, by decide +kernel, rfl, by decide +kernel, by decide +kernel⟩
abbrev s_l_ratio : Stmt := top 29
theorem sc_l_ratio : FnScope ["_law_top", "_law_bottom_here", "_law_part_here"] ["_law_top", "_law_bottom_here"] (defScope s_l_ratio) := ⟨rfl, rfl, rfl, by decide +kernel, rfl, by decide +kernel, by decide +kernel⟩
abbrev s_l_plus : Stmt := top 30
theorem sc_l_plus : FnScope ["_law_a", "_law_b"] ["_law_a", "_law_b"] (defScope s_l_plus) := ⟨rfl, rfl, rfl, by decide +kernel, rfl, by decide +kernel, by decide +kernel⟩
abbrev s_l_less_by : Stmt := top 31
theorem sc_l_less_by : FnScope ["_law_a", "_law_b"] ["_law_a", "_law_b"] (defScope s_l_less_by) := ⟨rfl, rfl, rfl, by decide +kernel, rfl, by decide +kernel, by decide +kernel⟩
abbrev s_l_times : Stmt := top 32
theorem sc_l_times : FnScope ["_law_a", "_law_b"] ["_law_a", "_law_b"] (defScope s_l_times) := ⟨rfl, rfl, rfl, by decide +kernel, rfl, by decide +kernel, by decide +kernel⟩
abbrev s_l_truth : Stmt := top 33
theorem sc_l_truth : FnScope ["_law_told", "_law_due"] ["_law_told", "_law_due"] (defScope s_l_truth) := ⟨rfl, rfl, rfl, by decide +kernel, rfl, by decide +kernel, by decide +kernel⟩
abbrev s_l_number : Stmt := top 34
theorem sc_l_number : FnScope ["_law_hand_here", "_law_pick"] ["_law_hand_here"] (defScope s_l_number) := ⟨rfl, rfl, rfl, by decide +kernel, rfl, by decide +kernel, by decide +kernel⟩
abbrev s_l_bottom : Stmt := top 35
theorem sc_l_bottom : FnScope ["_law_hand_here"] ["_law_hand_here"] (defScope s_l_bottom) := ⟨rfl, rfl, rfl, by decide +kernel, rfl, by decide +kernel, by decide +kernel⟩
abbrev s_l_same : Stmt := top 36
theorem sc_l_same : FnScope ["_law_told", "_law_due"] ["_law_told", "_law_due"] (defScope s_l_same) := ⟨rfl, rfl, rfl, by decide +kernel, rfl, by decide +kernel, by decide +kernel⟩
abbrev s_l_pair_holds : Stmt := top 37
theorem sc_l_pair_holds : FnScope ["_law_a", "_law_b", "_law_dues", "_law_told", "_law_due", "_law_left", "_law_right", "_law_order", "_law_quotient", "_law_refused", "e"] ["_law_a", "_law_b"] (defScope s_l_pair_holds) := ⟨rfl, rfl, rfl, by decide +kernel, rfl, by decide +kernel, by decide +kernel⟩
abbrev s_l_making_holds : Stmt := top 38
theorem sc_l_making_holds : FnScope ["_law_top", "_law_bottom_here", "_law_told", "_law_what", "e"] ["_law_top", "_law_bottom_here"] (defScope s_l_making_holds) := ⟨rfl, rfl, rfl, by decide +kernel, rfl, by decide +kernel, by decide +kernel⟩
abbrev s_l_things : Stmt := top 39
theorem sc_l_things : FnScope [] [] (defScope s_l_things) := ⟨rfl, rfl, rfl, by decide +kernel, rfl, by decide +kernel, by decide +kernel⟩
abbrev s_l_things_hold : Stmt := top 40
theorem sc_l_things_hold : FnScope ["_law_thing", "_law_whole_here", "_law_row", "_law_ratio_here", "_law_share"] [] (defScope s_l_things_hold) := ⟨rfl, rfl, rfl, by decide +kernel, rfl, by decide +kernel, by decide +kernel⟩
abbrev s_l_bounds_hold : Stmt := top 41
theorem sc_l_bounds_hold : FnScope ["_law_number_here", "_law_lower", "_law_upper"] ["_law_number_here", "_law_lower", "_law_upper"] (defScope s_l_bounds_hold) := ⟨rfl, rfl, rfl, by decide +kernel, rfl, by decide +kernel, by decide +kernel⟩
abbrev s_law : Stmt := top 42
theorem sc_law : FnScope ["_law_script", "_law_hand_here", "_law_ratios", "_law_k", "_law_total", "_law_part_here", "_law_a", "_law_b", "_law_odd", "_law_top", "_law_bottom_here"] ["_law_script"] (defScope s_law) := ⟨rfl, rfl, rfl, by decide +kernel, rfl, by decide +kernel, by decide +kernel⟩

abbrev s_BadRatio_init : Stmt := inClass (top 3) 0
theorem sc_BadRatio_init : FnScope ["self", "what"] ["self", "what"] (defScope s_BadRatio_init) := ⟨rfl, rfl, rfl, by decide +kernel, rfl, by decide +kernel, by decide +kernel⟩
def dd_is_whole : He.DefD := ⟨("is_whole", none), "is_whole", "is_whole", defArgs s_is_whole, defBody s_is_whole, defScope s_is_whole, [.non, .non], []⟩
def dd_is_sequence : He.DefD := ⟨("is_sequence", none), "is_sequence", "is_sequence", defArgs s_is_sequence, defBody s_is_sequence, defScope s_is_sequence, [], []⟩
def dd_common_divisor : He.DefD := ⟨("common_divisor", none), "common_divisor", "common_divisor", defArgs s_common_divisor, defBody s_common_divisor, defScope s_common_divisor, [], []⟩
def dd_is_ratio : He.DefD := ⟨("is_ratio", none), "is_ratio", "is_ratio", defArgs s_is_ratio, defBody s_is_ratio, defScope s_is_ratio, [], []⟩
def dd_is_share : He.DefD := ⟨("is_share", none), "is_share", "is_share", defArgs s_is_share, defBody s_is_share, defScope s_is_share, [], []⟩
def dd_lowest : He.DefD := ⟨("lowest", none), "lowest", "lowest", defArgs s_lowest, defBody s_lowest, defScope s_lowest, [], []⟩
def dd_make_ratio : He.DefD := ⟨("make_ratio", none), "make_ratio", "make_ratio", defArgs s_make_ratio, defBody s_make_ratio, defScope s_make_ratio, [.int 1], []⟩
def dd_ratio_plus : He.DefD := ⟨("ratio_plus", none), "ratio_plus", "ratio_plus", defArgs s_ratio_plus, defBody s_ratio_plus, defScope s_ratio_plus, [], []⟩
def dd_ratio_minus : He.DefD := ⟨("ratio_minus", none), "ratio_minus", "ratio_minus", defArgs s_ratio_minus, defBody s_ratio_minus, defScope s_ratio_minus, [], []⟩
def dd_ratio_times : He.DefD := ⟨("ratio_times", none), "ratio_times", "ratio_times", defArgs s_ratio_times, defBody s_ratio_times, defScope s_ratio_times, [], []⟩
def dd_ratio_over : He.DefD := ⟨("ratio_over", none), "ratio_over", "ratio_over", defArgs s_ratio_over, defBody s_ratio_over, defScope s_ratio_over, [], []⟩
def dd_ratio_compare : He.DefD := ⟨("ratio_compare", none), "ratio_compare", "ratio_compare", defArgs s_ratio_compare, defBody s_ratio_compare, defScope s_ratio_compare, [], []⟩
def dd_ratio_sum : He.DefD := ⟨("ratio_sum", none), "ratio_sum", "ratio_sum", defArgs s_ratio_sum, defBody s_ratio_sum, defScope s_ratio_sum, [], []⟩
def dd_l_stir : He.DefD := ⟨("_law_stir", none), "_law_stir", "_law_stir", defArgs s_l_stir, defBody s_l_stir, defScope s_l_stir, [], []⟩
def dd_l_hand : He.DefD := ⟨("_law_hand", none), "_law_hand", "_law_hand", defArgs s_l_hand, defBody s_l_hand, defScope s_l_hand, [], []⟩
def dd_l_draw : He.DefD := ⟨("_law_draw", none), "_law_draw", "_law_draw", defArgs s_l_draw, defBody s_l_draw, defScope s_l_draw, [], []⟩
def dd_l_whole : He.DefD := ⟨("_law_whole", none), "_law_whole", "_law_whole", defArgs s_l_whole, defBody s_l_whole, defScope s_l_whole, [], []⟩
def dd_l_wholes : He.DefD := ⟨("_law_wholes", none), "_law_wholes", "_law_wholes", defArgs s_l_wholes, defBody s_l_wholes, defScope s_l_wholes, [], []⟩
def dd_l_part : He.DefD := ⟨("_law_part", none), "_law_part", "_law_part", defArgs s_l_part, defBody s_l_part, defScope s_l_part, [], []⟩
def dd_l_ratio : He.DefD := ⟨("_law_ratio", none), "_law_ratio", "_law_ratio", defArgs s_l_ratio, defBody s_l_ratio, defScope s_l_ratio, [], []⟩
def dd_l_plus : He.DefD := ⟨("_law_plus", none), "_law_plus", "_law_plus", defArgs s_l_plus, defBody s_l_plus, defScope s_l_plus, [], []⟩
def dd_l_less_by : He.DefD := ⟨("_law_less_by", none), "_law_less_by", "_law_less_by", defArgs s_l_less_by, defBody s_l_less_by, defScope s_l_less_by, [], []⟩
def dd_l_times : He.DefD := ⟨("_law_times", none), "_law_times", "_law_times", defArgs s_l_times, defBody s_l_times, defScope s_l_times, [], []⟩
def dd_l_truth : He.DefD := ⟨("_law_truth", none), "_law_truth", "_law_truth", defArgs s_l_truth, defBody s_l_truth, defScope s_l_truth, [], []⟩
def dd_l_number : He.DefD := ⟨("_law_number", none), "_law_number", "_law_number", defArgs s_l_number, defBody s_l_number, defScope s_l_number, [], []⟩
def dd_l_bottom : He.DefD := ⟨("_law_bottom", none), "_law_bottom", "_law_bottom", defArgs s_l_bottom, defBody s_l_bottom, defScope s_l_bottom, [], []⟩
def dd_l_same : He.DefD := ⟨("_law_same", none), "_law_same", "_law_same", defArgs s_l_same, defBody s_l_same, defScope s_l_same, [], []⟩
def dd_l_pair_holds : He.DefD := ⟨("_law_pair_holds", none), "_law_pair_holds", "_law_pair_holds", defArgs s_l_pair_holds, defBody s_l_pair_holds, defScope s_l_pair_holds, [], []⟩
def dd_l_making_holds : He.DefD := ⟨("_law_making_holds", none), "_law_making_holds", "_law_making_holds", defArgs s_l_making_holds, defBody s_l_making_holds, defScope s_l_making_holds, [], []⟩
def dd_l_things : He.DefD := ⟨("_law_things", none), "_law_things", "_law_things", defArgs s_l_things, defBody s_l_things, defScope s_l_things, [], []⟩
def dd_l_things_hold : He.DefD := ⟨("_law_things_hold", none), "_law_things_hold", "_law_things_hold", defArgs s_l_things_hold, defBody s_l_things_hold, defScope s_l_things_hold, [], []⟩
def dd_l_bounds_hold : He.DefD := ⟨("_law_bounds_hold", none), "_law_bounds_hold", "_law_bounds_hold", defArgs s_l_bounds_hold, defBody s_l_bounds_hold, defScope s_l_bounds_hold, [], []⟩
def dd_law : He.DefD := ⟨("law", none), "law", "law", defArgs s_law, defBody s_law, defScope s_law, [], []⟩

def dd_BadRatio_init : He.DefD := ⟨("BadRatio", some "__init__"), "__init__", "BadRatio.__init__", defArgs s_BadRatio_init, defBody s_BadRatio_init, defScope s_BadRatio_init, [], []⟩
def fa0 : List He.Fa := [.free "isinstance", .free "int", .free "bool", .free "len", .free "abs", .free "all", .free "range", .free "enumerate", .free "tuple", .free "list", .free "ValueError", .glo "is_whole", .glo "is_sequence", .glo "common_divisor", .glo "is_ratio", .glo "is_share", .glo "lowest", .glo "make_ratio", .glo "ratio_plus", .glo "ratio_minus"]
def fa1 : List He.Fa := [.glo "ratio_times", .glo "ratio_over", .glo "ratio_compare", .glo "ratio_sum", .glo "_law_stir", .glo "_law_hand", .glo "_law_draw", .glo "_law_whole", .glo "_law_wholes", .glo "_law_part", .glo "_law_ratio", .glo "_law_plus", .glo "_law_less_by", .glo "_law_times", .glo "_law_truth", .glo "_law_number", .glo "_law_bottom", .glo "_law_same", .glo "_law_pair_holds", .glo "_law_making_holds"]
def fa2 : List He.Fa := [.glo "_law_things", .glo "_law_things_hold", .glo "_law_bounds_hold", .glo "law", .glo "ZERO", .glo "ONE", .glo "HALF", .glo "CodeError", .glo "BadRatio", .glo "DividedByNought"]
def fa : List He.Fa := fa0 ++ fa1 ++ fa2
def fn0 : List He.DefD := [dd_is_whole, dd_is_sequence, dd_common_divisor, dd_is_ratio, dd_is_share, dd_lowest, dd_make_ratio, dd_ratio_plus, dd_ratio_minus, dd_ratio_times, dd_ratio_over, dd_ratio_compare, dd_ratio_sum, dd_l_stir, dd_l_hand, dd_l_draw, dd_l_whole, dd_l_wholes, dd_l_part, dd_l_ratio]
def fn1 : List He.DefD := [dd_l_plus, dd_l_less_by, dd_l_times, dd_l_truth, dd_l_number, dd_l_bottom, dd_l_same, dd_l_pair_holds, dd_l_making_holds, dd_l_things, dd_l_things_hold, dd_l_bounds_hold, dd_law, dd_BadRatio_init]
def fn : List He.DefD := fn0 ++ fn1

def gcdB (K : PySem.W.Frag) : Bool := match PySem.W.nsIn K mainGlobals "gcd" with
  | some (some (.builtin n)) => decide (n = "math.gcd")
  | _ => false
def exA (K : PySem.W.Frag) : Bool := gcdB K && (He.tupB K "ZERO" [.int 0, .int 1] && (He.tupB K "ONE" [.int 1, .int 1] && He.tupB K "HALF" [.int 1, .int 2]))
def exB (K : PySem.W.Frag) : Bool := MB.oexB K (He.ga K "BadRatio") && (decide (PySem.W.findIn K (.ref (He.ga K "BadRatio")) "__init__" = some (some (.ref (He.ma K (He.ga K "BadRatio") "__init__")))) && (decide (PySem.W.typeIn K (.ref (He.ma K (He.ga K "BadRatio") "__init__")) = some (.type "function")) &&
  (decide (PySem.W.findIn K (.ref (He.ga K "BadRatio")) "what" = some none) && xfB K (He.ga K "BadRatio"))))
def exC (K : PySem.W.Frag) : Bool := (He.Fa.exc "DividedByNought").ok K && ((He.Fa.exm "DividedByNought" "CodeError" true).ok K && ((He.Fa.exm "BadRatio" "BadRatio" true).ok K && (MB.excCB K (He.ga K "DividedByNought") &&
  (decide (PySem.W.kitOne K (.ref (He.ga K "DividedByNought")) (.ref (He.ga K "DividedByNought")) = some true) && (decide (PySem.W.kitOne K (.ref (He.ga K "DividedByNought")) (.type "ValueError") = some true) && decide (PySem.W.kitOne K (.ref (He.ga K "DividedByNought")) (.ref (He.ga K "BadRatio")) = some false))))))
def ex (K : PySem.W.Frag) : Bool := exA K && (exB K && exC K)
structure Txt (K : PySem.W.Frag) (mg : Str → Option Value) : Prop where
  h : ∃ h : Heap, K.In h ∧ h.Ns mainGlobals mg
  c : He.SaysD fa fn K
  e : ex K = true
section
variable {K : PySem.W.Frag} {mg : Str → Option Value}
theorem Txt.free (T : Txt K mg) (i : Nat) {x : Str} (h : fa[i]? = some (.free x) := by rfl) : mg x = none := by
  obtain ⟨h', X, G⟩ := T.h
  exact He.free_ok X G (T.c.fact i h)
theorem Txt.glo (T : Txt K mg) (i : Nat) {x : Str} (h : fa[i]? = some (.glo x) := by rfl) : mg x = some (.ref (He.ga K x)) := by
  obtain ⟨h', X, G⟩ := T.h
  exact He.glo_ok X G (T.c.fact i h)
theorem Txt.gcd (T : Txt K mg) : mg "gcd" = some (.builtin "math.gcd") := by
  obtain ⟨h', X, G⟩ := T.h
  have c2 : gcdB K = true := (He.ba (He.ba T.e).1).1
  unfold gcdB at c2
  split at c2
  · rename_i n q
    rw [of_decide_eq_true c2] at q
    exact PySem.W.mg_of X G q
  · cases c2
theorem Txt.a (T : Txt K mg) : exA K = true := (He.ba T.e).1
theorem Txt.b (T : Txt K mg) : exB K = true := (He.ba (He.ba T.e).2).1
theorem Txt.d (T : Txt K mg) : exC K = true := (He.ba (He.ba T.e).2).2
theorem Txt.zero (T : Txt K mg) (H : Hp) : SqT K H (He.ga K "ZERO") [.int 0, .int 1] := He.tupB_ok (He.ba (He.ba T.a).2).1 H
theorem Txt.one (T : Txt K mg) (H : Hp) : SqT K H (He.ga K "ONE") [.int 1, .int 1] := He.tupB_ok (He.ba (He.ba (He.ba T.a).2).2).1 H
theorem Txt.half (T : Txt K mg) (H : Hp) : SqT K H (He.ga K "HALF") [.int 1, .int 2] := He.tupB_ok (He.ba (He.ba (He.ba T.a).2).2).2 H
theorem Txt.bo (T : Txt K mg) : OexC K (He.ga K "BadRatio") := MB.oexB_ok (He.ba T.b).1
theorem Txt.bi (T : Txt K mg) : PySem.W.findIn K (.ref (He.ga K "BadRatio")) "__init__" = some (some (.ref (He.ma K (He.ga K "BadRatio") "__init__"))) := of_decide_eq_true (He.ba (He.ba T.b).2).1
theorem Txt.bt (T : Txt K mg) : PySem.W.typeIn K (.ref (He.ma K (He.ga K "BadRatio") "__init__")) = some (.type "function") := of_decide_eq_true (He.ba (He.ba (He.ba T.b).2).2).1
theorem Txt.bn (T : Txt K mg) : PySem.W.findIn K (.ref (He.ga K "BadRatio")) "what" = some none := of_decide_eq_true (He.ba (He.ba (He.ba (He.ba T.b).2).2).2).1
theorem Txt.bx (T : Txt K mg) : XfC K (He.ga K "BadRatio") := xfB_ok (He.ba (He.ba (He.ba (He.ba T.b).2).2).2).2
theorem Txt.de (T : Txt K mg) : PySem.W.excIn K (He.ga K "DividedByNought") He.veBase "ValueError.__new__" = true ∧ PySem.W.keepIn K (.ref (He.ga K "DividedByNought")) = true ∧ PySem.W.subIn K (.ref (He.ga K "DividedByNought")) (.type "BaseException") = some true ∧
    PySem.W.typeIn K (.ref (He.ga K "DividedByNought")) = some (.type "type") := He.exc_ok (He.ba T.d).1
theorem Txt.dm (T : Txt K mg) : PySem.W.exmOne K (.ref (He.ga K "DividedByNought")) (.ref (He.ga K "CodeError")) = some true := He.exm_ok (He.ba (He.ba T.d).2).1
theorem Txt.bm (T : Txt K mg) : PySem.W.exmOne K (.ref (He.ga K "BadRatio")) (.ref (He.ga K "BadRatio")) = some true := He.exm_ok (He.ba (He.ba (He.ba T.d).2).2).1
theorem Txt.dc (T : Txt K mg) : ExcC K (He.ga K "DividedByNought") := MB.excCB_ok (He.ba (He.ba (He.ba (He.ba T.d).2).2).2).1
theorem Txt.k1 (T : Txt K mg) : PySem.W.kitOne K (.ref (He.ga K "DividedByNought")) (.ref (He.ga K "DividedByNought")) = some true := of_decide_eq_true (He.ba (He.ba (He.ba (He.ba (He.ba T.d).2).2).2).2).1
theorem Txt.k2 (T : Txt K mg) : PySem.W.kitOne K (.ref (He.ga K "DividedByNought")) (.type "ValueError") = some true := of_decide_eq_true (He.ba (He.ba (He.ba (He.ba (He.ba (He.ba T.d).2).2).2).2).2).1
theorem Txt.k3 (T : Txt K mg) : PySem.W.kitOne K (.ref (He.ga K "DividedByNought")) (.ref (He.ga K "BadRatio")) = some false := of_decide_eq_true (He.ba (He.ba (He.ba (He.ba (He.ba (He.ba T.d).2).2).2).2).2).2
end
end K00
namespace K00
open PySem PySem.Spec PyProof.Rows L2 MB
section
variable {P : Program} {w : World} {K : PySem.W.Frag} {mg : Str → Option Value} {base : Heap}
theorem c_l_stir (T : Txt K mg) : Cal P w K mg base CX0 1 "_law_stir" ["_law_number_here", "_law_turn"] [] spStir := by
  obtain ⟨fd, F⟩ := T.c.def_ 13 (d := dd_l_stir) rfl
  refine ⟨_, fd, [], FunD.ok (CX := CX0) F sc_l_stir (fun vs H Q E h => ?_) (fun cdv A outer s H vs Q E hr h => ?_), T.glo 24, F.kp, F.bindsN fun _ _ _ _ _ _ us hl => match us, hl with | [_, _], _ => rfl, .nil⟩
  · obtain ⟨n, t, rfl, _⟩ := h
    rfl
  · obtain ⟨n, t, rfl, k⟩ := h
    refine ⟨_, PSs.nox (pss_cons (ps_set (i := 2) sc_l_stir.nd rfl (Or.inl rfl) (pe_op op_mod (pe_callTy k_int1 rfl (T.free 1) (by decide +kernel) (pa_cons (pe_op op_add (pe_op op_add (pe_op op_mul (pv 0) pe_int) (pe_op op_mul (pv 1) pe_int)) pe_int) pa_nil)) pe_int))
 (pss_cons (ps_set (i := 3) sc_l_stir.nd rfl (Or.inl rfl) (pe_op op_mod (pe_callTy k_int1 rfl (T.free 1) (by decide +kernel) (pa_cons (pe_op op_add (pe_op op_add (pe_op op_mul (pv 2) (pv 2)) (pe_op op_mul (pv 1) pe_int)) (pe_op op_fdiv (pv 2) pe_int)) pa_nil)) pe_int))
 (pss_one (ps_ret (pe_op op_fdiv (pe_op op_mod (pe_callTy k_int1 rfl (T.free 1) (by decide +kernel) (pa_cons (pe_op op_add (pe_op op_mul (pv 3) pe_int) (pe_op op_fdiv (pv 2) pe_int)) pa_nil)) pe_int) pe_int))))), ?_⟩
    refine MB.st0 (σ := [some (.int n), some (.int t), none, none]) rfl ?_
    walk_at "rd"
    exact k _
theorem c_l_draw (T : Txt K mg) : Cal P w K mg base CX0 2 "_law_draw" ["_law_hand_here", "_law_many"] [] spDraw := by
  have c_l_stir : Cal P w K mg base CX0 1 "_law_stir" ["_law_number_here", "_law_turn"] [] spStir := c_l_stir T
  obtain ⟨fd, F⟩ := T.c.def_ 15 (d := dd_l_draw) rfl
  refine ⟨_, fd, [], FunD.ok (CX := CX0) F sc_l_draw (fun vs H Q E h => ?_) (fun cdv A outer s H vs Q E hr h => ?_), T.glo 26, F.kp, F.bindsN fun _ _ _ _ _ _ us hl => match us, hl with | [_, _], _ => rfl, .nil⟩
  · obtain ⟨p, l, m, rfl, _⟩ := h
    rfl
  · obtain ⟨p, l, m, rfl, ⟨ns, i, rest, st, hp, ne, hl, h0, h1, h2, h3⟩, hm, hm2, k⟩ := h
    refine ⟨_, PSs.nox (pss_cons (ps_if (PW.pt (pw_and (pt_cmpR op_eq (pe_ix ix_list (pv 0) pe_int (fun _ _ => rfl)) pe_int (nomark _)) (pw_and1 (pt_cmpR op_lt (pe_ix ix_list (pv 0) pe_int (fun _ _ => rfl)) (pe_callB k_len rfl (T.free 3) PySem.boot_len (pa_cons (pe_ix ix_list (pv 0) pe_int (fun _ _ => rfl)) pa_nil)) (nomark _)))))
  (pss_cons (ps_set (i := 2) sc_l_draw.nd rfl (Or.inl rfl) (pe_ix ix_list (pe_ix ix_list (pv 0) pe_int (fun _ _ => rfl)) (pe_ix ix_list (pv 0) pe_int (fun _ _ => rfl)) (fun _ _ => rfl)))
 (pss_cons (ps_asg (pe_op op_add (pe_ix ix_list (pv 0) pe_int (fun _ _ => rfl)) pe_int) (pg_sub (pv 0) pe_int set_list (by intros; rfl)))
 (pss_cons (ps_if (pt_cmpR op_lt (pv 2) (pe_op op_pow pe_int pe_int) (nomark _))
  (pss_one (ps_ret (pe_op op_mod (pe_callTy k_int1 rfl (T.free 1) (by decide +kernel) (pa_cons (pe_cal c_l_stir (hr.mono (by decide)) pass0 (pa_cons (pv 2) (pa_cons (pe_ix ix_list (pv 0) pe_int (fun _ _ => rfl)) pa_nil))) pa_nil)) (pv 1))))
  pss_nil)
 (pss_one (ps_asg (pv 2) (pg_sub (pv 0) pe_int set_list (by intros; rfl)))))))
  pss_nil)
 (pss_cons (ps_if (pt_cmpR op_gt (pe_ix ix_list (pv 0) pe_int (fun _ _ => rfl)) pe_int (nomark _))
  (pss_cons (ps_set (i := 3) sc_l_draw.nd rfl (Or.inl rfl) (pe_ix ix_list (pv 0) pe_int (fun _ _ => rfl)))
 (pss_cons (ps_asg (pe_op op_fdiv (pv 3) (pv 1)) (pg_sub (pv 0) pe_int set_list (by intros; rfl)))
 (pss_one (ps_ret (pe_op op_mod (pe_callTy k_int1 rfl (T.free 1) (by decide +kernel) (pa_cons (pv 3) pa_nil)) (pv 1))))))
  pss_nil)
 (pss_cons (ps_asg (pe_op op_mod (pe_callTy k_int1 rfl (T.free 1) (by decide +kernel) (pa_cons (pe_op op_add (pe_ix ix_list (pv 0) pe_int (fun _ _ => rfl)) pe_int) pa_nil)) pe_int) (pg_sub (pv 0) pe_int set_list (by intros; rfl)))
 (pss_one (ps_ret (pe_op op_mod (pe_callTy k_int1 rfl (T.free 1) (by decide +kernel) (pa_cons (pe_cal c_l_stir (hr.mono (by decide)) pass0 (pa_cons (pe_ix ix_list (pv 0) pe_int (fun _ _ => rfl)) (pa_cons (pe_ix ix_list (pv 0) pe_int (fun _ _ => rfl)) pa_nil))) pa_nil)) (pv 1))))))), ?_⟩
    refine MB.st0 (σ := [some (.ref p), some (.int m), none, none]) rfl ?_
    have fin : ∀ (z : Int) (H' : Hp), HandAt H' p l → Kp p H H' → Q (.int (z % m)) H' := fun z H' a b => k _ _ (Int.emod_nonneg _ (by omega)) (Int.emod_lt_of_pos _ hm) a b
    walk_at "rd"
    walk_at "rd"
    refine if_d (fun hr0 => ?_) (fun hr0 => ?_)
    · walk_at "rd"
      refine if_d (fun hi => ?_) (fun hi => ?_)
      · walk_at "rd"
        obtain ⟨c, hc, ea⟩ := ints_at h0 hi
        refine r_ixL (SqL.of hl) ea ?_
        walk_at "rd"
        refine if_d (fun hcc => ?_) (fun hcc => ?_)
        · walk_at "rd"
          refine ⟨_, _, rfl, fun r => ?_⟩
          walk_at "rd"
          exact fin r _ (HandAt.upd hl ne (by omega) h1 h2 h3) (Kp.upd' (Kp.refl _ _))
        · have hc0 := h2 c hc
          walk_at "rd"
          refine if_d (fun hc => ?_) (fun hc => ?_)
          · walk_at "rd"
            exact fin _ _ (HandAt.upd ((upd_ne ne).trans ((upd_ne ne).trans hl)) ne (by omega) (Int.ediv_nonneg hc0 (by omega)) h2 h3) (Kp.upd' (Kp.upd' (Kp.upd' (Kp.refl _ _))))
          · walk_at "rd"
            refine ⟨_, _, rfl, fun r => ?_⟩
            walk_at "rd"
            exact fin r _ (HandAt.upd ((upd_ne ne).trans ((upd_ne ne).trans hl)) ne (by omega) hc0 h2 h3) (Kp.upd' (Kp.upd' (Kp.upd' (Kp.refl _ _))))
      · walk_at "rd"
        refine if_d (fun hc => ?_) (fun hc => ?_)
        · walk_at "rd"
          exact fin _ _ (HandAt.upd hl ne (by omega) (Int.ediv_nonneg h1 (by omega)) h2 h3) (Kp.upd' (Kp.refl _ _))
        · walk_at "rd"
          refine ⟨_, _, rfl, fun r => ?_⟩
          walk_at "rd"
          exact fin r _ (HandAt.upd hl ne h0 h1 h2 h3) (Kp.upd' (Kp.refl _ _))
    · walk_at "rd"
      refine if_d (fun hc => ?_) (fun hc => ?_)
      · walk_at "rd"
        exact fin _ _ (HandAt.upd hl ne (by omega) (Int.ediv_nonneg h1 (by omega)) h2 h3) (Kp.upd' (Kp.refl _ _))
      · walk_at "rd"
        refine ⟨_, _, rfl, fun r => ?_⟩
        walk_at "rd"
        exact fin r _ (HandAt.upd hl ne h0 h1 h2 h3) (Kp.upd' (Kp.refl _ _))
theorem c_l_hand (T : Txt K mg) : Cal P w K mg base CX0 1 "_law_hand" ["_law_script"] [] (spHand K) := by
  obtain ⟨fd, F⟩ := T.c.def_ 14 (d := dd_l_hand) rfl
  refine ⟨_, fd, [], FunD.ok (CX := CX0) F sc_l_hand (fun vs H Q E h => ?_) (fun cdv A outer s H vs Q E hr h => ?_), T.glo 25, F.kp, F.bindsN fun _ _ _ _ _ _ us hl => match us, hl with | [_], _ => rfl, .nil⟩
  · obtain ⟨a, ns, rfl, _⟩ := h
    rfl
  · obtain ⟨a, ns, rfl, hS, hlen, k⟩ := h
    refine ⟨_, PSs.nox (pss_cons (ps_set (i := 1) sc_l_hand.nd rfl (Or.inl rfl) pe_int)
 (pss_cons (ps_for PassesOwn.never rfl (pi_enum rfl (T.free 7) (pa_cons (pv 0) pa_nil)) (pg_tup rfl (pgs_cons (pg_name (i := 2) sc_l_hand.nd rfl (Or.inl rfl)) (pgs_cons (pg_name (i := 3) sc_l_hand.nd rfl (Or.inl rfl)) pgs_nil)))
  (pss_one (ps_set (i := 1) sc_l_hand.nd rfl (Or.inl rfl) (pe_op op_mod (pe_callTy k_int1 rfl (T.free 1) (by decide +kernel) (pa_cons (pe_op op_add (pe_op op_add (pe_op op_mul (pv 1) pe_int) (pe_op op_mul (pe_callTy k_int1 rfl (T.free 1) (by decide +kernel) (pa_cons (pv 3) pa_nil)) (pe_op op_add (pe_op op_mul pe_int (pv 2)) pe_int))) pe_int) pa_nil)) pe_int))))
 (pss_one (ps_ret (pe_lst (pa_cons (pe_lc (own := [("_law_cell", 3)]) (g := gName 3) (tt := tYes) rfl sc_l_hand.nd (pi_list (pv 0)) (blkOk_by (N := ["_law_script", "_law_state", "_law_place", "_law_cell"]) (sc := defScope s_l_hand) (by decide +kernel)) (fun _ _ _ _ _ => pg_name (i := 3) sc_l_hand.nd rfl (Or.inl rfl)) (fun _ _ _ _ _ => pts_nil) (fun _ _ _ _ _ => (pe_callB k_abs rfl (T.free 4) (by decide +kernel) (pa_cons (pe_callTy k_int1 rfl (T.free 1) (by decide +kernel) (pa_cons (pv 3) pa_nil)) pa_nil)))) (pa_cons pe_int (pa_cons pe_int (pa_cons (pv 1) pa_nil))))))))), ?_⟩
    refine MB.st0 (σ := [some (.ref a), none, none, none]) rfl ?_
    walk_at "rd"
    refine ⟨_, rfl, a, ns.map V.int, rfl, hS, for_it (walk_enum (K := K) (a := a) (xs := ns.map V.int)) (fun i σ H' => ∃ (z : Int) (u v : Option V), σ = [some (.ref a), some (.int z), u, v] ∧ L2.Same H H') ⟨7, none, none, rfl, L2.Same.refl H⟩
      (fun i σ H' _ ⟨_, _, _, _, s⟩ => s.seq hS) ?_ ?_⟩
    · rintro i x σ H1 H2 hi ⟨z, u, v, rfl, s1⟩ Y
      obtain ⟨T, x, y, rfl, hT, rfl, e1, e2⟩ := Y
      cases e1
      obtain ⟨c, _, rfl⟩ := int_at e2
      rw [List.length_map] at hi
      have hi2 : (i : Int) < 63 := by omega
      walk_at "rd"
      exact ⟨_, _, _, rfl, s1.trans (MB.Same.upd hT)⟩
    · rintro σ H1 ⟨z, u, v, rfl, s1⟩
      walk_at "rd"
      refine ⟨_, rfl, a, rfl, ⟨_, s1.seq hS⟩, fun D hD => lc_list (K := K) (a := a) (xs := ns.map V.int) (fun i H' => ∃ ms : List Int, H' D = some (.lst (ms.map V.int)) ∧ ms.length = i ∧ (∀ m ∈ ms, 0 ≤ m) ∧ L2.Same H1 H') ⟨[], upd_same, rfl, List.forall_mem_nil _, MB.Same.upd hD⟩
        (fun i H' _ ⟨_, _, _, _, s⟩ => (s1.trans s).seq hS) ?_ ?_⟩
      · rintro i x H2 hi ⟨ms, hm, hml, hm0, s2⟩
        have hil : i < (ns.map V.int).length := (List.getElem?_eq_some_iff.mp hi).1
        rw [List.length_map] at hil
        obtain ⟨c, _, rfl⟩ := int_at hi
        walk_at "rd"
        refine ⟨rfl, ?_⟩
        walk_at "rd"
        have hz : 0 ≤ (if c < 0 then -c else c) := by split <;> omega
        refine ⟨_, hm, small1000 (by rw [List.length_map]; omega), ms ++ [if c < 0 then -c else c], ?_, ?_, ?_, ?_⟩
        · rw [upd_same, List.map_append]; rfl
        · rw [List.length_append, hml]; rfl
        · intro m hmem
          rcases List.mem_append.mp hmem with h | h
          · exact hm0 m h
          · rw [List.mem_singleton.mp h]; exact hz
        · intro b o e
          rw [upd_ne (ne_of_none e hD)]
          exact s2 b o e
      · rintro H2 ⟨ms, hm, hml, hm0, s2⟩
        rw [List.length_map] at hml
        walk_at "rd"
        refine ⟨by show 4 ≤ sizeLine; decide, fun p hp => ?_⟩
        have ne : D ≠ p := ne_of_none hm hp
        exact k p D _ ⟨ms, 0, 0, z, upd_same, ne, (upd_ne ne).trans hm, by decide, by decide, hm0, by omega⟩ ((s1.trans s2).trans (MB.Same.upd hp))
end
end K00
namespace K00
open PySem PySem.Spec PyProof.Rows L2 MB
theorem kb1 {K : PySem.W.Frag} {x qual : Str} {params : Arguments} {body : List Stmt} {scope : Scope} {dvs : List V} {f : Addr} {fd : FuncData} {ps : List Str} (F : FunD K x qual params body scope dvs [] f fd) (n : Nat) (ks : List Str) (g : {α : Type} → List α → List α → List α → List α) (hd : dvs ≠ [])
    (hrel : ∀ {vs ds zs : List V} {us its ws : List Value}, Vals vs us → Vals ds its → Vals zs ws → Vals (g vs ds zs) (g us its ws))
    (h : ∀ (T : Addr) (kV doc pm : Value) (an : Option Addr) (cdv ct : Value) (us its ws : List Value), us.length = n → its.length = dvs.length → ws.length = ks.length →
      ∃ k, bindArgs (PySem.W.fnOf x qual params body scope (.ref T) kV doc pm an cdv ct) ⟨us, ks.zip ws⟩ = seqItems? (.ref T) >>= k ∧ k (some its.toArray) = pure (ps.zip (g us its ws))) :
    ∃ its : List Value, KBn K fd ps n ks (fun us ws => g us its ws) (fun vs zs => g vs dvs zs) := by
  obtain ⟨oc, od, dV, kV, doc, pm, an, cdv, ct, osl, rfl, lk, hcd, hD, hK⟩ := F.ex
  rcases hD with ⟨e, _⟩ | ⟨_, T, o, its, m, rfl, lT, oT, rT⟩
  · exact absurd e hd
  · refine ⟨its, ⟨fun s us ws X l1 l2 => ?_, fun r1 r2 => hrel r1 rT r2⟩⟩
    obtain ⟨k, e1, e2⟩ := h T kV doc pm an cdv ct us its ws l1 rT.length.symm l2
    refine BindsTo.of_looks fun M => ?_
    rw [e1]
    exact looks_items X lT oT (.of_pure e2)
/-- None, a bool, an int, a text -/
def Sc : V → Prop
  | .non | .bl _ | .int _ | .str _ => True
  | _ => False
def Kd (K : PySem.W.Frag) (H : Hp) (x : V) : Prop := Sc x ∨ (∃ p xs, x = .ref p ∧ H p = some (.lst xs)) ∨ ∃ p xs, x = .ref p ∧ SqT K H p xs
theorem seqT_same {K : PySem.W.Frag} {H H' : Hp} {a : Addr} {xs : List V} (e : L2.Same H H') (h : SqT K H a xs) : SqT K H' a xs := by
  rcases h with (h | ⟨o, h⟩) | h
  · exact .inl (.inl (e _ _ h))
  · exact .inl (.inr ⟨o, e _ _ h⟩)
  · exact .inr h
theorem Kd.same {K : PySem.W.Frag} {H H' : Hp} {x : V} (e : L2.Same H H') (h : Kd K H x) : Kd K H' x := by
  rcases h with h | ⟨p, xs, rfl, h⟩ | ⟨p, xs, rfl, h⟩
  · exact .inl h
  · exact .inr (.inl ⟨p, xs, rfl, e _ _ h⟩)
  · exact .inr (.inr ⟨p, xs, rfl, seqT_same e h⟩)
def loB : V → Int → Bool
  | .int l, i => decide (l ≤ i)
  | _, _ => true
def hiB : V → Int → Bool
  | .int l, i => decide (i ≤ l)
  | _, _ => true
def wholeB : V → V → V → Bool
  | .int i, lo, hi => loB lo i && hiB hi i
  | _, _, _ => false
/-- a bound: None or an int -/
def Bd (x : V) : Prop := x = .non ∨ ∃ i, x = .int i
def spIsWhole (K : PySem.W.Frag) : Sp := fun vs H Q _ => ∃ x lo hi : V, vs = [x, lo, hi] ∧ Kd K H x ∧ Bd lo ∧ Bd hi ∧ Q (.bl (wholeB x lo hi)) H
def spGcd : Sp := fun vs H Q _ => ∃ a b : Int, vs = [.int a, .int b] ∧ Q (.int (gd a b)) H
def ratB : List V → Bool
  | [.int a, .int b] => decide (1 ≤ b) && decide (Nat.gcd a.natAbs b.natAbs = 1)
  | _ => false
def shareB : List V → Bool
  | [.int a, .int b] => ratB [.int a, .int b] && (decide (0 ≤ a) && decide (a ≤ b))
  | _ => false
def spJudge (K : PySem.W.Frag) (B : List V → Bool) : Sp := fun vs H Q _ => ∃ x : V, vs = [x] ∧ (((Sc x ∨ ∃ p xs, x = .ref p ∧ H p = some (.lst xs)) ∧ Q (.bl false) H) ∨ ∃ p ys, x = .ref p ∧ SqT K H p ys ∧ (∀ y ∈ ys, Sc y) ∧ Q (.bl (B ys)) H)
def RatAt (K : PySem.W.Frag) (H : Hp) (p : Addr) (x : Int × Int) : Prop := SqT K H p [.int x.1, .int x.2]
theorem RatAt.same {K : PySem.W.Frag} {H H' : Hp} {p : Addr} {x : Int × Int} (h : RatAt K H p x) (e : L2.Same H H') : RatAt K H' p x := seqT_same e h
def tupO (x : Int × Int) : HO := .tup [.int x.1, .int x.2]
/-- two ints in, a new couple out -/
def spLow : Sp := fun vs H Q _ => ∃ t b : Int, vs = [.int t, .int b] ∧ b ≠ 0 ∧ Sz 400 b ∧ Sz 400 t ∧ ∀ p, H p = none → Q (.ref p) (upd H p (tupO (low t b)))
def spTwo (K : PySem.W.Frag) (n : Nat) (ok : Int × Int → Int × Int → Prop) (f : Int × Int → Int × Int → Int × Int) : Sp := fun vs H Q _ => ∃ (p q : Addr) (x y : Int × Int), vs = [.ref p, .ref q] ∧ RatAt K H p x ∧ RatAt K H q y ∧ Rt n n x ∧ Rt 62 62 y ∧ ok x y ∧ ∀ r, H r = none → Q (.ref r) (upd H r (tupO (f x y)))
def cmpR (x y : Int × Int) : Int := if x.1 * y.2 = y.1 * x.2 then 0 else if x.1 * y.2 < y.1 * x.2 then -1 else 1
def spCmp (K : PySem.W.Frag) : Sp := fun vs H Q _ => ∃ (p q : Addr) (x y : Int × Int), vs = [.ref p, .ref q] ∧ RatAt K H p x ∧ RatAt K H q y ∧ Rt 62 62 x ∧ Rt 62 62 y ∧ Q (.int (cmpR x y)) H
section
variable {P : Program} {w : World} {K : PySem.W.Frag} {mg : Str → Option Value} {base : Heap}
theorem ok_is_whole (T : Txt K mg) {fd : FuncData} (F : FunD K "is_whole" "is_whole" (defArgs s_is_whole) (defBody s_is_whole) (defScope s_is_whole) [.non, .non] [] (He.ga K "is_whole") fd) : FnOk P w K mg base CX0 1 (He.ga K "is_whole") fd ["thing", "low", "high"] (spIsWhole K) := by
  refine FunD.ok (CX := CX0) F sc_is_whole (fun vs H Q E h => ?_) (fun cdv A outer s H vs Q E hr h => ?_)
  · obtain ⟨x, lo, hi, rfl, _⟩ := h
    rfl
  · obtain ⟨x, lo, hi, rfl, hk, hlo, hhi, k⟩ := h
    refine ⟨_, PSs.nox (pss_cons (ps_if (PW.pt (pw_or (pt_not (pt_val (pe_callB call_isi rfl (T.free 0) (by decide +kernel) (pa_cons (pv 0) (pa_cons (pe_ty "int" rfl (T.free 1) (by decide +kernel)) pa_nil))))) (pw_or1 (pt_val (pe_callB call_isi rfl (T.free 0) (by decide +kernel) (pa_cons (pv 0) (pa_cons (pe_ty "bool" rfl (T.free 2) (by decide +kernel)) pa_nil)))))))
  (pss_one (ps_ret pe_bl))
  pss_nil)
 (pss_one (ps_ret (pe_and (pe_or (pe_cmpR k_isN (pv 1) pe_non (nomark _)) (pe_one (pe_cmpR op_ge (pv 0) (pv 1) (nomark _)))) (pe_one (pe_or (pe_cmpR k_isN (pv 2) pe_non (nomark _)) (pe_one (pe_cmpR op_le (pv 0) (pv 2) (nomark _))))))))), ?_⟩
    refine MB.st0 (σ := [some x, some lo, some hi]) rfl ?_
    rcases hk with hk | ⟨p, xs, rfl, hk⟩ | ⟨p, xs, rfl, hk⟩
    · cases x with
      | non => walk_at "rd"; exact k
      | bl b => walk_at "rd"; exact k
      | str z => walk_at "rd"; exact k
      | int i =>
        walk_at "rd"
        rcases hlo with rfl | ⟨l, rfl⟩
        · walk_at "rd"
          rcases hhi with rfl | ⟨u, rfl⟩
          · walk_at "rd"
            exact k
          · walk_at "rd"
            exact k
        · walk_at "rd"
          refine if_d (fun hl => ?_) (fun hl => ?_)
          · walk_at "rd"
            rcases hhi with rfl | ⟨u, rfl⟩
            · walk_at "rd"
              have e : wholeB (.int i) (.int l) .non = true := by simp [wholeB, loB, hiB, hl]
              rw [e] at k
              exact k
            · walk_at "rd"
              have e : wholeB (.int i) (.int l) (.int u) = decide (i ≤ u) := by simp [wholeB, loB, hiB, hl]
              rw [e] at k
              exact k
          · walk_at "rd"
            have e : wholeB (.int i) (.int l) hi = false := by simp [wholeB, loB, hl]
            rw [e] at k
            exact k
      | _ => exact hk.elim
    · walk_at "rd"; exact k
    · walk_at "rd"; exact k
theorem c_is_whole1 (T : Txt K mg) : Cal P w K mg base CX0 1 "is_whole" ["thing", "low", "high"] [.non, .non] (spIsWhole K) := by
  obtain ⟨fd, F⟩ := T.c.def_ 0 (d := dd_is_whole) rfl
  obtain ⟨ds, hd, hb⟩ := FunD.binds1 F 1 0 (List.cons_ne_nil _ _) rfl (ps := ["thing", "low", "high"]) fun _ _ _ _ _ _ _ us its hl hi => match us, its, hl, hi with | [_], [_, _], _, _ => ⟨_, rfl, rfl⟩
  exact ⟨_, fd, ds, ok_is_whole T F, T.glo 11, F.kp, hb, hd⟩
theorem c_is_whole2 (T : Txt K mg) : Cal P w K mg base CX0 1 "is_whole" ["thing", "low", "high"] [.non] (spIsWhole K) := by
  obtain ⟨fd, F⟩ := T.c.def_ 0 (d := dd_is_whole) rfl
  obtain ⟨ds, hd, hb⟩ := FunD.binds1 F 2 1 (List.cons_ne_nil _ _) rfl (ps := ["thing", "low", "high"]) fun _ _ _ _ _ _ _ us its hl hi => match us, its, hl, hi with | [_, _], [_, _], _, _ => ⟨_, rfl, rfl⟩
  exact ⟨_, fd, ds, ok_is_whole T F, T.glo 11, F.kp, hb, hd⟩
theorem c_is_whole3 (T : Txt K mg) : Cal P w K mg base CX0 1 "is_whole" ["thing", "low", "high"] [] (spIsWhole K) := by
  obtain ⟨fd, F⟩ := T.c.def_ 0 (d := dd_is_whole) rfl
  obtain ⟨ds, hd, hb⟩ := FunD.binds1 F 3 2 (List.cons_ne_nil _ _) rfl (ps := ["thing", "low", "high"]) fun _ _ _ _ _ _ _ us its hl hi => match us, its, hl, hi with | [_, _, _], [_, _], _, _ => ⟨_, rfl, rfl⟩
  exact ⟨_, fd, ds, ok_is_whole T F, T.glo 11, F.kp, hb, hd⟩
/-- is_whole(x, high=y) -/
theorem c_is_wholeK (T : Txt K mg) : ∃ (f : Addr) (fd : FuncData) (its : List Value), FnOk P w K mg base CX0 1 f fd ["thing", "low", "high"] (spIsWhole K) ∧ mg "is_whole" = some (.ref f) ∧ PySem.W.keepIn K (.ref f) = true ∧
    KBn K fd ["thing", "low", "high"] 1 ["high"] (fun us ws => us ++ its.take 1 ++ ws) (fun vs zs => vs ++ [.non] ++ zs) := by
  obtain ⟨fd, F⟩ := T.c.def_ 0 (d := dd_is_whole) rfl
  obtain ⟨its, hb⟩ := kb1 F (ps := ["thing", "low", "high"]) 1 ["high"] (fun us its ws => us ++ its.take 1 ++ ws) (List.cons_ne_nil _ _) (fun r1 r2 r3 => (r1.append (r2.take 1)).append r3) fun _ _ _ _ _ _ _ us its ws hl hi hw => match us, its, ws, hl, hi, hw with | [_], [_, _], [_], _, _, _ => ⟨_, rfl, rfl⟩
  exact ⟨_, fd, its, ok_is_whole T F, T.glo 11, F.kp, hb⟩
theorem c_is_sequence (T : Txt K mg) : Cal P w K mg base CX0 1 "is_sequence" ["thing"] [] (fun vs H Q _ => ∃ x : V, vs = [x] ∧ ((Sc x ∧ ∀ H', L2.Same H H' → Q (.bl false) H') ∨ ((∃ p xs, x = .ref p ∧ (H p = some (.lst xs) ∨ SqT K H p xs)) ∧ ∀ H', L2.Same H H' → Q (.bl true) H'))) := by
  obtain ⟨fd, F⟩ := T.c.def_ 1 (d := dd_is_sequence) rfl
  refine ⟨_, fd, [], FunD.ok (CX := CX0) F sc_is_sequence (fun vs H Q E h => ?_) (fun cdv A outer s H vs Q E hr h => ?_), T.glo 12, F.kp, F.bindsN fun _ _ _ _ _ _ us hl => match us, hl with | [_], _ => rfl, .nil⟩
  · obtain ⟨x, rfl, _⟩ := h
    rfl
  · obtain ⟨x, rfl, h⟩ := h
    refine ⟨_, PSs.nox (pss_one (ps_ret (pe_callB call_isiT rfl (T.free 0) (by decide +kernel) (pa_cons (pv 0) (pa_cons (pe_tup (pa_cons (pe_ty "list" rfl (T.free 9) (by decide +kernel)) (pa_cons (pe_ty "tuple" rfl (T.free 8) (by decide +kernel)) pa_nil))) pa_nil))))), ?_⟩
    refine MB.st0 (σ := [some x]) rfl ?_
    walk_at "rd"
    refine ⟨by show 2 ≤ sizeLine; decide, fun t ht => ?_⟩
    walk_at "rd"
    have hs := MB.Same.upd (o := .tup [.ty "list", .ty "tuple"]) ht
    rcases h with ⟨hk, k⟩ | ⟨⟨p, xs, rfl, hk⟩, k⟩
    · cases x with
      | non => exact ⟨_, t, _, .type "NoneType", [.type "list", .type "tuple"], false, rfl, upd_same, .cons (.ty _) (.cons (.ty _) .nil), .base .non, kitAny_cons (kit_ty kit_nl) (fun _ => kitAny_cons (kit_ty kit_nt) (fun _ => kitAny_nil) (fun e => e)) (fun e => e), k _ hs⟩
      | bl b => exact ⟨_, t, _, .type "bool", [.type "list", .type "tuple"], false, rfl, upd_same, .cons (.ty _) (.cons (.ty _) .nil), .base (.bl _), kitAny_cons (kit_ty kit_bl) (fun _ => kitAny_cons (kit_ty kit_bt) (fun _ => kitAny_nil) (fun e => e)) (fun e => e), k _ hs⟩
      | int b => exact ⟨_, t, _, .type "int", [.type "list", .type "tuple"], false, rfl, upd_same, .cons (.ty _) (.cons (.ty _) .nil), .base (.int _), kitAny_cons (kit_ty kit_il) (fun _ => kitAny_cons (kit_ty kit_it) (fun _ => kitAny_nil) (fun e => e)) (fun e => e), k _ hs⟩
      | str b => exact ⟨_, t, _, .type "str", [.type "list", .type "tuple"], false, rfl, upd_same, .cons (.ty _) (.cons (.ty _) .nil), .base (.str _), kitAny_cons (kit_ty kit_sl) (fun _ => kitAny_cons (kit_ty kit_st) (fun _ => kitAny_nil) (fun e => e)) (fun e => e), k _ hs⟩
      | _ => exact hk.elim
    · rcases hk with hk | hk
      · exact ⟨_, t, _, .type "list", [.type "list", .type "tuple"], true, rfl, upd_same, .cons (.ty _) (.cons (.ty _) .nil), ty_lst (hs _ _ hk), kitAny_cons (kit_ty kit_ll) (fun e => by cases e) (fun e => e), k _ hs⟩
      · exact ⟨_, t, _, .type "tuple", [.type "list", .type "tuple"], true, rfl, upd_same, .cons (.ty _) (.cons (.ty _) .nil), ty_tup (seqT_same hs hk), kitAny_cons (kit_ty kit_tl) (fun _ => kitAny_cons (kit_ty kit_tt) (fun e => by cases e) (fun e => e)) (fun e => by cases e), k _ hs⟩
theorem c_common_divisor (T : Txt K mg) : Cal P w K mg base CX0 1 "common_divisor" ["one", "other"] [] spGcd := by
  obtain ⟨fd, F⟩ := T.c.def_ 2 (d := dd_common_divisor) rfl
  refine ⟨_, fd, [], FunD.ok (CX := CX0) F sc_common_divisor (fun vs H Q E h => ?_) (fun cdv A outer s H vs Q E hr h => ?_), T.glo 13, F.kp, F.bindsN fun _ _ _ _ _ _ us hl => match us, hl with | [_, _], _ => rfl, .nil⟩
  · obtain ⟨x, y, rfl, _⟩ := h
    rfl
  · obtain ⟨x, y, rfl, k⟩ := h
    refine ⟨_, PSs.nox (pss_one (ps_ret (pe_callBfun cr_gcd rfl T.gcd (pa_cons (pv 0) (pa_cons (pv 1) pa_nil))))), ?_⟩
    refine MB.st0 (σ := [some (.int x), some (.int y)]) rfl ?_
    walk_at "rd"
    exact k
theorem c_lowest (T : Txt K mg) : Cal P w K mg base CX0 1 "lowest" ["top", "bottom"] [] spLow := by
  obtain ⟨fd, F⟩ := T.c.def_ 5 (d := dd_lowest) rfl
  refine ⟨_, fd, [], FunD.ok (CX := CX0) F sc_lowest (fun vs H Q E h => ?_) (fun cdv A outer s H vs Q E hr h => ?_), T.glo 16, F.kp, F.bindsN fun _ _ _ _ _ _ us hl => match us, hl with | [_, _], _ => rfl, .nil⟩
  · obtain ⟨x, y, rfl, _⟩ := h
    rfl
  · obtain ⟨t, b, rfl, hb, hz, _, k⟩ := h
    refine ⟨_, PSs.nox (pss_cons (ps_set (i := 2) sc_lowest.nd rfl (Or.inl rfl) (pe_callBfun cr_gcd rfl T.gcd (pa_cons (pv 0) (pa_cons (pv 1) pa_nil))))
 (pss_cons (ps_if (pt_cmpR op_lt (pv 1) pe_int (nomark _))
  (pss_one (ps_set (i := 2) sc_lowest.nd rfl (Or.inl rfl) (pe_un un_neg (pv 2))))
  pss_nil)
 (pss_one (ps_ret (pe_tup (pa_cons (pe_op op_fdivZ (pv 0) (pv 2)) (pa_cons (pe_op op_fdivZ (pv 1) (pv 2)) pa_nil))))))), ?_⟩
    refine MB.st0 (σ := [some (.int t), some (.int b), none]) rfl ?_
    have g0 := gd_pos (t := t) hb
    have c1 : CDivZ t (gd t b) := ⟨by omega, gd_log hb hz (by decide) (by decide)⟩
    have c2 : CDivZ b (gd t b) := c1
    have c3 : CDivZ t (-gd t b) := ⟨by omega, by rw [Int.natAbs_neg]; exact c1.2⟩
    have c4 : CDivZ b (-gd t b) := c3
    walk_at "rd"
    refine if_d (fun h => ?_) (fun h => ?_)
    · walk_at "rd"
      refine ⟨by show 2 ≤ sizeLine; decide, fun p hp => ?_⟩
      have k2 := k p hp
      rw [← low_neg h] at k2
      exact k2
    · walk_at "rd"
      refine ⟨by show 2 ≤ sizeLine; decide, fun p hp => ?_⟩
      have k2 := k p hp
      rw [← low_pos h] at k2
      exact k2
theorem c_ratio_plus (T : Txt K mg) : Cal P w K mg base CX0 2 "ratio_plus" ["one", "other"] [] (spTwo K 330 (fun _ _ => True) plusR) := by
  have c_lowest : Cal P w K mg base CX0 1 "lowest" ["top", "bottom"] [] spLow := c_lowest T
  obtain ⟨fd, F⟩ := T.c.def_ 7 (d := dd_ratio_plus) rfl
  refine ⟨_, fd, [], FunD.ok (CX := CX0) F sc_ratio_plus (fun vs H Q E h => ?_) (fun cdv A outer s H vs Q E hr h => ?_), T.glo 18, F.kp, F.bindsN fun _ _ _ _ _ _ us hl => match us, hl with | [_, _], _ => rfl, .nil⟩
  · obtain ⟨p, q, x, y, rfl, _⟩ := h
    rfl
  · obtain ⟨p, q, x, y, rfl, hp, hq, hx, hy, _, k⟩ := h
    refine ⟨_, PSs.nox (pss_one (ps_ret (pe_cal c_lowest (hr.mono (by decide)) pass0 (pa_cons (pe_op op_add (pe_op op_mul (pe_ix ix_tup (pv 0) pe_int (fun _ _ => rfl)) (pe_ix ix_tup (pv 1) pe_int (fun _ _ => rfl))) (pe_op op_mul (pe_ix ix_tup (pv 1) pe_int (fun _ _ => rfl)) (pe_ix ix_tup (pv 0) pe_int (fun _ _ => rfl)))) (pa_cons (pe_op op_mul (pe_ix ix_tup (pv 0) pe_int (fun _ _ => rfl)) (pe_ix ix_tup (pv 1) pe_int (fun _ _ => rfl))) pa_nil))))), ?_⟩
    refine MB.st0 (σ := [some (.ref p), some (.ref q)]) rfl ?_
    have nz : x.2 * y.2 ≠ 0 := Int.mul_ne_zero (by have := hx.pos; omega) (by have := hy.pos; omega)
    have c1 : CMul x.1 y.2 := hy.bot.mulR
    have c2 : CMul y.1 x.2 := hy.top.mulL
    have c3 : CMul x.2 y.2 := hy.bot.mulR
    walk_at "rd"
    exact ⟨_, _, rfl, nz, (hx.bot.mul hy.bot).mono (by decide), (((hx.top.mul hy.bot).mono (show _ ≤ 399 by decide)).add ((hy.top.mul hx.bot).mono (by decide))).mono (by decide), fun r hr => k r hr⟩
theorem c_ratio_minus (T : Txt K mg) : Cal P w K mg base CX0 2 "ratio_minus" ["one", "other"] [] (spTwo K 62 (fun _ _ => True) lessR) := by
  have c_lowest : Cal P w K mg base CX0 1 "lowest" ["top", "bottom"] [] spLow := c_lowest T
  obtain ⟨fd, F⟩ := T.c.def_ 8 (d := dd_ratio_minus) rfl
  refine ⟨_, fd, [], FunD.ok (CX := CX0) F sc_ratio_minus (fun vs H Q E h => ?_) (fun cdv A outer s H vs Q E hr h => ?_), T.glo 19, F.kp, F.bindsN fun _ _ _ _ _ _ us hl => match us, hl with | [_, _], _ => rfl, .nil⟩
  · obtain ⟨p, q, x, y, rfl, _⟩ := h
    rfl
  · obtain ⟨p, q, x, y, rfl, hp, hq, hx, hy, _, k⟩ := h
    refine ⟨_, PSs.nox (pss_one (ps_ret (pe_cal c_lowest (hr.mono (by decide)) pass0 (pa_cons (pe_op op_sub (pe_op op_mul (pe_ix ix_tup (pv 0) pe_int (fun _ _ => rfl)) (pe_ix ix_tup (pv 1) pe_int (fun _ _ => rfl))) (pe_op op_mul (pe_ix ix_tup (pv 1) pe_int (fun _ _ => rfl)) (pe_ix ix_tup (pv 0) pe_int (fun _ _ => rfl)))) (pa_cons (pe_op op_mul (pe_ix ix_tup (pv 0) pe_int (fun _ _ => rfl)) (pe_ix ix_tup (pv 1) pe_int (fun _ _ => rfl))) pa_nil))))), ?_⟩
    refine MB.st0 (σ := [some (.ref p), some (.ref q)]) rfl ?_
    have nz : x.2 * y.2 ≠ 0 := Int.mul_ne_zero (by have := hx.pos; omega) (by have := hy.pos; omega)
    have c1 : CMul x.1 y.2 := hy.bot.mulR
    have c2 : CMul y.1 x.2 := hy.top.mulL
    have c3 : CMul x.2 y.2 := hy.bot.mulR
    walk_at "rd"
    exact ⟨_, _, rfl, nz, (hx.bot.mul hy.bot).mono (by decide), (((hx.top.mul hy.bot).mono (show _ ≤ 399 by decide)).sub ((hy.top.mul hx.bot).mono (by decide))).mono (by decide), fun r hr => k r hr⟩
theorem c_ratio_times (T : Txt K mg) : Cal P w K mg base CX0 2 "ratio_times" ["one", "other"] [] (spTwo K 62 (fun _ _ => True) timesR) := by
  have c_lowest : Cal P w K mg base CX0 1 "lowest" ["top", "bottom"] [] spLow := c_lowest T
  obtain ⟨fd, F⟩ := T.c.def_ 9 (d := dd_ratio_times) rfl
  refine ⟨_, fd, [], FunD.ok (CX := CX0) F sc_ratio_times (fun vs H Q E h => ?_) (fun cdv A outer s H vs Q E hr h => ?_), T.glo 20, F.kp, F.bindsN fun _ _ _ _ _ _ us hl => match us, hl with | [_, _], _ => rfl, .nil⟩
  · obtain ⟨p, q, x, y, rfl, _⟩ := h
    rfl
  · obtain ⟨p, q, x, y, rfl, hp, hq, hx, hy, _, k⟩ := h
    refine ⟨_, PSs.nox (pss_one (ps_ret (pe_cal c_lowest (hr.mono (by decide)) pass0 (pa_cons (pe_op op_mul (pe_ix ix_tup (pv 0) pe_int (fun _ _ => rfl)) (pe_ix ix_tup (pv 1) pe_int (fun _ _ => rfl))) (pa_cons (pe_op op_mul (pe_ix ix_tup (pv 0) pe_int (fun _ _ => rfl)) (pe_ix ix_tup (pv 1) pe_int (fun _ _ => rfl))) pa_nil))))), ?_⟩
    refine MB.st0 (σ := [some (.ref p), some (.ref q)]) rfl ?_
    have nz : x.2 * y.2 ≠ 0 := Int.mul_ne_zero (by have := hx.pos; omega) (by have := hy.pos; omega)
    have c1 : CMul x.1 y.1 := hy.top.mulR
    have c3 : CMul x.2 y.2 := hy.bot.mulR
    walk_at "rd"
    exact ⟨_, _, rfl, nz, (hx.bot.mul hy.bot).mono (by decide), (hx.top.mul hy.top).mono (by decide), fun r hr => k r hr⟩
theorem c_ratio_compare (T : Txt K mg) : Cal P w K mg base CX0 1 "ratio_compare" ["one", "other"] [] (spCmp K) := by
  obtain ⟨fd, F⟩ := T.c.def_ 11 (d := dd_ratio_compare) rfl
  refine ⟨_, fd, [], FunD.ok (CX := CX0) F sc_ratio_compare (fun vs H Q E h => ?_) (fun cdv A outer s H vs Q E hr h => ?_), T.glo 22, F.kp, F.bindsN fun _ _ _ _ _ _ us hl => match us, hl with | [_, _], _ => rfl, .nil⟩
  · obtain ⟨p, q, x, y, rfl, _⟩ := h
    rfl
  · obtain ⟨p, q, x, y, rfl, hp, hq, hx, hy, k⟩ := h
    refine ⟨_, PSs.nox (pss_cons (ps_set (i := 2) sc_ratio_compare.nd rfl (Or.inl rfl) (pe_op op_mul (pe_ix ix_tup (pv 0) pe_int (fun _ _ => rfl)) (pe_ix ix_tup (pv 1) pe_int (fun _ _ => rfl))))
 (pss_cons (ps_set (i := 3) sc_ratio_compare.nd rfl (Or.inl rfl) (pe_op op_mul (pe_ix ix_tup (pv 1) pe_int (fun _ _ => rfl)) (pe_ix ix_tup (pv 0) pe_int (fun _ _ => rfl))))
 (pss_cons (ps_if (pt_cmpR op_eq (pv 2) (pv 3) (nomark _))
  (pss_one (ps_ret pe_int))
  pss_nil)
 (pss_one (ps_ret (pe_ifExp (pt_cmpR op_lt (pv 2) (pv 3) (nomark _)) (pe_un un_neg pe_int) pe_int)))))), ?_⟩
    refine MB.st0 (σ := [some (.ref p), some (.ref q), none, none]) rfl ?_
    have c1 : CMul x.1 y.2 := hy.bot.mulR
    have c2 : CMul y.1 x.2 := hy.top.mulL
    unfold cmpR at k
    walk_at "rd"
    refine if_i (fun h => ?_) (fun h => ?_)
    · rw [if_pos h] at k
      walk_at "rd"
      exact k
    · rw [if_neg h] at k
      walk_at "rd"
      refine if_d (fun h => ?_) (fun h => ?_)
      · rw [if_pos h] at k
        walk_at "rd"
        exact k
      · rw [if_neg h] at k
        walk_at "rd"
        exact k
theorem c_is_ratio (T : Txt K mg) : Cal P w K mg base CX0 2 "is_ratio" ["thing"] [] (spJudge K ratB) := by
  have c_is_whole1 : Cal P w K mg base CX0 1 "is_whole" ["thing", "low", "high"] [.non, .non] (spIsWhole K) := c_is_whole1 T
  have c_is_whole2 : Cal P w K mg base CX0 1 "is_whole" ["thing", "low", "high"] [.non] (spIsWhole K) := c_is_whole2 T
  obtain ⟨fd, F⟩ := T.c.def_ 3 (d := dd_is_ratio) rfl
  refine ⟨_, fd, [], FunD.ok (CX := CX0) F sc_is_ratio (fun vs H Q E h => ?_) (fun cdv A outer s H vs Q E hr h => ?_), T.glo 14, F.kp, F.bindsN fun _ _ _ _ _ _ us hl => match us, hl with | [_], _ => rfl, .nil⟩
  · obtain ⟨x, rfl, _⟩ := h
    rfl
  · obtain ⟨x, rfl, h⟩ := h
    refine ⟨_, PSs.nox (pss_cons (ps_if (PW.pt (pw_or (pt_not (pt_val (pe_callB call_isi rfl (T.free 0) (by decide +kernel) (pa_cons (pv 0) (pa_cons (pe_ty "tuple" rfl (T.free 8) (by decide +kernel)) pa_nil))))) (pw_or1 (pt_cmpR op_ne (pe_callB k_len rfl (T.free 3) PySem.boot_len (pa_cons (pv 0) pa_nil)) pe_int (nomark _)))))
  (pss_one (ps_ret pe_bl))
  pss_nil)
 (pss_cons (ps_asg (pv 0) (pg_tup rfl (pgs_cons (pg_name (i := 1) sc_is_ratio.nd rfl (Or.inl rfl)) (pgs_cons (pg_name (i := 2) sc_is_ratio.nd rfl (Or.inl rfl)) pgs_nil))))
 (pss_one (ps_ret (pe_and (pe_cal c_is_whole1 (hr.mono (by decide)) pass0 (pa_cons (pv 1) pa_nil)) (pe_and (pe_cal c_is_whole2 (hr.mono (by decide)) pass0 (pa_cons (pv 2) (pa_cons pe_int pa_nil))) (pe_one (pe_cmpR op_eq (pe_callBfun cr_gcd rfl T.gcd (pa_cons (pv 1) (pa_cons (pv 2) pa_nil))) pe_int (nomark _))))))))), ?_⟩
    refine MB.st0 (σ := [some x, none, none]) rfl ?_
    rcases h with ⟨hk | ⟨p, xs, rfl, hk⟩, k⟩ | ⟨p, ys, rfl, hs, hsc, k⟩
    · cases x with
      | non => walk_at "rd"; exact k
      | bl b => walk_at "rd"; exact k
      | str z => walk_at "rd"; exact k
      | int i => walk_at "rd"; exact k
      | _ => exact hk.elim
    · walk_at "rd"; exact k
    · walk_at "rd"
      refine if_ni (fun hl => ?_) (fun hl => ?_)
      · walk_at "rd"
        have e : ratB ys = false := by
          match ys, hl with
          | [], _ => rfl
          | [a], _ => cases a <;> rfl
          | [a, b], h => exact absurd rfl h
          | a :: b :: c :: r, _ => cases a <;> cases b <;> rfl
        rw [e] at k
        exact k
      · have hl2 : ys.length = 2 := by omega
        obtain ⟨a, b, rfl⟩ : ∃ a b, ys = [a, b] := by
          match ys, hl2 with
          | [a, b], _ => exact ⟨a, b, rfl⟩
        have ka : Sc a := hsc a (by simp)
        have kb : Sc b := hsc b (by simp)
        walk_at "rd"
        refine ⟨_, _, _, rfl, .inl ka, .inl rfl, .inl rfl, ?_⟩
        walk_at "rd"
        cases a with
        | int i =>
          refine if_yes rfl ?_
          walk_at "rd"
          refine ⟨_, _, _, rfl, .inl kb, .inr ⟨_, rfl⟩, .inl rfl, ?_⟩
          walk_at "rd"
          cases b with
          | int j =>
            refine if_b (fun hw => ?_) (fun hw => ?_)
            · have h1 : 1 ≤ j := by
                have h2 : (decide ((1 : Int) ≤ j) && true) = true := hw
                rw [Bool.and_true] at h2
                exact of_decide_eq_true h2
              walk_at "rd"
              rw [vd_int]
              have e : ratB [.int i, .int j] = decide ((((Nat.gcd i.natAbs j.natAbs : Nat) : Int)) = 1) := by
                show (decide (1 ≤ j) && decide (Nat.gcd i.natAbs j.natAbs = 1)) = _
                rw [decide_eq_true h1, Bool.true_and]
                by_cases hh : Nat.gcd i.natAbs j.natAbs = 1
                · rw [decide_eq_true hh, hh]; rfl
                · rw [decide_eq_false hh, decide_eq_false (by omega)]
              rw [e] at k
              exact k
            · have h1 : ¬ 1 ≤ j := fun h => by
                have h2 : (decide ((1 : Int) ≤ j) && true) = false := hw
                rw [Bool.and_true, decide_eq_true h] at h2
                cases h2
              have e : ratB [.int i, .int j] = false := by
                show (decide (1 ≤ j) && decide (Nat.gcd i.natAbs j.natAbs = 1)) = _
                rw [decide_eq_false h1, Bool.false_and]
              rw [e] at k
              exact k
          | non => exact if_no rfl k
          | bl _ => exact if_no rfl k
          | str _ => exact if_no rfl k
          | _ => exact kb.elim
        | non => exact if_no rfl k
        | bl _ => exact if_no rfl k
        | str _ => exact if_no rfl k
        | _ => exact ka.elim
theorem c_is_share (T : Txt K mg) : Cal P w K mg base CX0 3 "is_share" ["thing"] [] (spJudge K shareB) := by
  have c_is_ratio : Cal P w K mg base CX0 2 "is_ratio" ["thing"] [] (spJudge K ratB) := c_is_ratio T
  obtain ⟨fd, F⟩ := T.c.def_ 4 (d := dd_is_share) rfl
  refine ⟨_, fd, [], FunD.ok (CX := CX0) F sc_is_share (fun vs H Q E h => ?_) (fun cdv A outer s H vs Q E hr h => ?_), T.glo 15, F.kp, F.bindsN fun _ _ _ _ _ _ us hl => match us, hl with | [_], _ => rfl, .nil⟩
  · obtain ⟨x, rfl, _⟩ := h
    rfl
  · obtain ⟨x, rfl, h⟩ := h
    refine ⟨_, PSs.nox (pss_one (ps_ret (pe_and (pe_cal c_is_ratio (hr.mono (by decide)) pass0 (pa_cons (pv 0) pa_nil)) (pe_one (pe_chain op_le op_le pe_int (pe_ix ix_tup (pv 0) pe_int (fun _ _ => rfl)) (pe_ix ix_tup (pv 0) pe_int (fun _ _ => rfl))))))), ?_⟩
    refine MB.st0 (σ := [some x]) rfl ?_
    walk_at "rd"
    rcases h with ⟨hk, k⟩ | ⟨p, ys, rfl, hs, hsc, k⟩
    · refine ⟨_, rfl, .inl ⟨hk, ?_⟩⟩
      walk_at "rd"
      exact k
    · refine ⟨_, rfl, .inr ⟨p, ys, rfl, hs, hsc, ?_⟩⟩
      walk_at "rd"
      refine if_b (fun hb => ?_) (fun hb => ?_)
      · obtain ⟨a, b, rfl⟩ : ∃ a b : Int, ys = [.int a, .int b] := by
          unfold ratB at hb
          split at hb
          · exact ⟨_, _, rfl⟩
          · cases hb
        walk_at "rd"
        refine if_d (fun h0 => ?_) (fun h0 => ?_)
        · walk_at "rd"
          have e : shareB [.int a, .int b] = decide (a ≤ b) := by
            show (ratB [.int a, .int b] && (decide (0 ≤ a) && decide (a ≤ b))) = _
            rw [hb, decide_eq_true h0, Bool.true_and, Bool.true_and]
          rw [e] at k
          exact k
        · have e : shareB [.int a, .int b] = false := by
            show (ratB [.int a, .int b] && (decide (0 ≤ a) && decide (a ≤ b))) = _
            rw [decide_eq_false h0, Bool.false_and, Bool.and_false]
          rw [e] at k
          exact k
      · have e : shareB ys = false := by
          unfold shareB
          split
          · rw [hb, Bool.false_and]
          · rfl
        rw [e] at k
        exact k
end
end K00
namespace K00
open PySem PySem.Spec PyProof.Rows L2 MB
def whoB : V → Bool
  | .int _ => true
  | _ => false
def spWhole1 (K : PySem.W.Frag) : Sp := fun vs H Q _ => ∃ x : V, vs = [x] ∧ Kd K H x ∧ Q (.bl (whoB x)) H
def spPair (K : PySem.W.Frag) : Sp := fun vs H Q _ => ∃ (p : Addr) (x : Int × Int), vs = [.ref p, .int 2] ∧ RatAt K H p x ∧ ∀ H', L2.Same H H' → Q (.bl true) H'
def spSame (K : PySem.W.Frag) : Sp := fun vs H Q _ => ∃ (p q : Addr) (x : Int × Int), vs = [.ref p, .ref q] ∧ RatAt K H p x ∧ RatAt K H q x ∧ ∀ H', L2.Same H H' → Q (.bl true) H'
def spPart : Sp := fun vs H Q _ => ∃ t b : Int, vs = [.int t, .int b] ∧ Sz 400 t ∧ Sz 400 b ∧ Q (.int (gd t b)) H
def spTruth : Sp := fun vs H Q _ => ∃ a b : Bool, vs = [.bl a, .bl b] ∧ a = b ∧ Q (.bl true) H
def spNumber : Sp := fun vs H Q _ => ∃ p l : Addr, vs = [.ref p] ∧ HandAt H p l ∧ ∀ (d : Int) (H' : Hp), Sz 60 d → HandAt H' p l → Kp p H H' → Q (.int d) H'
def spBottom : Sp := fun vs H Q _ => ∃ p l : Addr, vs = [.ref p] ∧ HandAt H p l ∧ ∀ (d : Int) (H' : Hp), 0 < d → Sz 31 d → HandAt H' p l → Kp p H H' → Q (.int d) H'
theorem abs_nat (i : Int) : (if i < 0 then -i else i) = ((i.natAbs : Nat) : Int) := by split <;> omega
section
variable {P : Program} {w : World} {K : PySem.W.Frag} {mg : Str → Option Value} {base : Heap}
theorem c_l_whole (T : Txt K mg) : Cal P w K mg base CX0 1 "_law_whole" ["_law_thing"] [] (spWhole1 K) := by
  obtain ⟨fd, F⟩ := T.c.def_ 16 (d := dd_l_whole) rfl
  refine ⟨_, fd, [], FunD.ok (CX := CX0) F sc_l_whole (fun vs H Q E h => ?_) (fun cdv A outer s H vs Q E hr h => ?_), T.glo 27, F.kp, F.bindsN fun _ _ _ _ _ _ us hl => match us, hl with | [_], _ => rfl, .nil⟩
  · obtain ⟨x, rfl, _⟩ := h
    rfl
  · obtain ⟨x, rfl, hk, k⟩ := h
    refine ⟨_, PSs.nox (pss_one (ps_ret (pe_and (pe_callB call_isi rfl (T.free 0) (by decide +kernel) (pa_cons (pv 0) (pa_cons (pe_ty "int" rfl (T.free 1) (by decide +kernel)) pa_nil))) (pe_one (pe_not (pe_callB call_isi rfl (T.free 0) (by decide +kernel) (pa_cons (pv 0) (pa_cons (pe_ty "bool" rfl (T.free 2) (by decide +kernel)) pa_nil)))))))), ?_⟩
    refine MB.st0 (σ := [some x]) rfl ?_
    rcases hk with hk | ⟨p, xs, rfl, hk⟩ | ⟨p, xs, rfl, hk⟩
    · cases x with
      | non => walk_at "rd"; exact k
      | bl b => walk_at "rd"; exact k
      | str z => walk_at "rd"; exact k
      | int i => walk_at "rd"; exact k
      | _ => exact hk.elim
    · walk_at "rd"; exact k
    · walk_at "rd"; exact k
theorem c_l_wholes (T : Txt K mg) : Cal P w K mg base CX0 2 "_law_wholes" ["_law_thing", "_law_many"] [] (spPair K) := by
  have c_l_whole : Cal P w K mg base CX0 1 "_law_whole" ["_law_thing"] [] (spWhole1 K) := c_l_whole T
  obtain ⟨fd, F⟩ := T.c.def_ 17 (d := dd_l_wholes) rfl
  refine ⟨_, fd, [], FunD.ok (CX := CX0) F sc_l_wholes (fun vs H Q E h => ?_) (fun cdv A outer s H vs Q E hr h => ?_), T.glo 28, F.kp, F.bindsN fun _ _ _ _ _ _ us hl => match us, hl with | [_, _], _ => rfl, .nil⟩
  · obtain ⟨p, x, rfl, _⟩ := h
    rfl
  · obtain ⟨p, x, rfl, hx, k⟩ := h
    refine ⟨_, PSs.nox (pss_cons (ps_if (PW.pt (pw_or (pt_not (pt_val (pe_callB call_isi rfl (T.free 0) (by decide +kernel) (pa_cons (pv 0) (pa_cons (pe_ty "tuple" rfl (T.free 8) (by decide +kernel)) pa_nil))))) (pw_or1 (pt_cmpR op_ne (pe_callB k_len rfl (T.free 3) PySem.boot_len (pa_cons (pv 0) pa_nil)) (pv 1) (nomark _)))))
  (pss_one (ps_ret pe_bl))
  pss_nil)
 (pss_one (ps_ret (pe_callB (cr_all rfl) rfl (T.free 5) (by decide +kernel) (pa_cons (pe_lc (own := [("_law_part_here", 2)]) (g := gName 2) (tt := tYes) rfl sc_l_wholes.nd (pi_tup (pv 0)) (blkOk_by (N := ["_law_thing", "_law_many", "_law_part_here"]) (sc := defScope s_l_wholes) (by decide +kernel)) (fun _ _ _ _ _ => pg_name (i := 2) sc_l_wholes.nd rfl (Or.inl rfl)) (fun _ _ _ _ _ => pts_nil) (fun _ _ _ _ _ => (pe_cal c_l_whole (hr.mono (by decide)) pass0 (pa_cons (pv 2) pa_nil)))) pa_nil))))), ?_⟩
    refine MB.st0 (σ := [some (.ref p), some (.int 2), none]) rfl ?_
    walk_at "rd"
    refine if_no rfl ?_
    walk_at "rd"
    refine ⟨_, rfl, p, rfl, ⟨_, hx⟩, fun D hD => lc_tup (K := K) (a := p) (xs := [.int x.1, .int x.2]) (fun i H' => ∃ bs : List Bool, H' D = some (.lst (bs.map V.bl)) ∧ bs.length = i ∧ (∀ b ∈ bs, b = true) ∧ L2.Same H H') ⟨[], upd_same, rfl, List.forall_mem_nil _, MB.Same.upd hD⟩
        (fun i H' _ ⟨_, _, _, _, s⟩ => seqT_same s hx) ?_ ?_⟩
    · rintro i y H2 hi ⟨bs, hm, hml, hm0, s2⟩
      have hil : i < 2 := (List.getElem?_eq_some_iff.mp hi).1
      have hy : ∃ c : Int, y = .int c := by
        match i, hil, hi with
        | 0, _, h => exact ⟨_, (Option.some.inj h).symm⟩
        | 1, _, h => exact ⟨_, (Option.some.inj h).symm⟩
      obtain ⟨c, rfl⟩ := hy
      walk_at "rd"
      refine ⟨rfl, ?_⟩
      walk_at "rd"
      refine ⟨_, rfl, .inl trivial, ?_⟩
      refine ⟨_, hm, small1000 (by rw [List.length_map]; omega), bs ++ [true], ?_, ?_, ?_, ?_⟩
      · rw [upd_same, List.map_append]; rfl
      · rw [List.length_append, hml]; rfl
      · intro m hmem
        rcases List.mem_append.mp hmem with h | h
        · exact hm0 m h
        · exact List.mem_singleton.mp h
      · intro b o e
        rw [upd_ne (ne_of_none e hD)]
        exact s2 b o e
    · rintro H2 ⟨bs, hm, hml, hm0, s2⟩
      walk_at "rd"
      refine ⟨D, bs, rfl, SqL.of hm, ?_⟩
      have e : bs.all id = true := List.all_eq_true.mpr fun b hb => hm0 b hb
      rw [e]
      exact k _ s2
theorem c_l_part (T : Txt K mg) : Cal P w K mg base CX0 1 "_law_part" ["_law_a", "_law_b"] [] spPart := by
  obtain ⟨fd, F⟩ := T.c.def_ 18 (d := dd_l_part) rfl
  refine ⟨_, fd, [], FunD.ok (CX := CX0) F sc_l_part (fun vs H Q E h => ?_) (fun cdv A outer s H vs Q E hr h => ?_), T.glo 29, F.kp, F.bindsN fun _ _ _ _ _ _ us hl => match us, hl with | [_, _], _ => rfl, .nil⟩
  · obtain ⟨t, b, rfl, _⟩ := h
    rfl
  · obtain ⟨t, b, rfl, h1, h2, k⟩ := h
    refine ⟨_, PSs.nox (pss_cons (ps_set (i := 0) sc_l_part.nd rfl (Or.inl rfl) (pe_callB k_abs rfl (T.free 4) (by decide +kernel) (pa_cons (pv 0) pa_nil)))
 (pss_cons (ps_set (i := 1) sc_l_part.nd rfl (Or.inl rfl) (pe_callB k_abs rfl (T.free 4) (by decide +kernel) (pa_cons (pv 1) pa_nil)))
 (pss_cons (ps_for PassesOwn.never rfl (pi_range1 rfl (T.free 6) (pa_cons pe_int pa_nil)) (pg_name (i := 2) sc_l_part.nd rfl (Or.inl rfl))
  (pss_cons (ps_if (pt_cmpR op_eq (pv 1) pe_int (nomark _))
  (pss_one ps_break)
  pss_nil)
 (pss_one (ps_par (i := 0) (j := 1) rfl sc_l_part.nd rfl rfl (by decide) rfl rfl (pa_cons (pv 1) (pa_cons (pe_op op_mod (pe_callTy k_int1 rfl (T.free 1) (by decide +kernel) (pa_cons (pv 0) pa_nil)) (pv 1)) pa_nil)) rfl))))
 (pss_one (ps_ret (pv 0)))))), ?_⟩
    refine MB.st0 (σ := [some (.int t), some (.int b), none]) rfl ?_
    walk_at "rd"
    refine ⟨_, rfl, by decide, by decide, for_range (n := 900) (fun i σ H' => ∃ (x y : Nat) (u : Option V), σ = [some (.int (x : Int)), some (.int (y : Int)), u] ∧ H' = H ∧ Euc (Nat.gcd t.natAbs b.natAbs) i x y)
      ⟨t.natAbs, b.natAbs, none, by rw [← abs_nat, ← abs_nat]; rfl, rfl, rfl, .inl ⟨rfl, h1, h2⟩⟩ ?_ ?_⟩
    · rintro i σ H1 hi ⟨x, y, u, rfl, rfl, he⟩
      walk_at "rd"
      refine if_i (fun h0 => ?_) (fun h0 => ?_)
      · have hy : y = 0 := by omega
        subst hy
        walk_at "rd"
        have e := euc_done he
        rw [e]
        exact k
      · walk_at "rd"
        exact ⟨y, x % y, _, by rw [Int.natCast_emod]; rfl, rfl, euc_step (by omega) he⟩
    · rintro σ H1 ⟨x, y, u, rfl, rfl, he⟩
      walk_at "rd"
      have hy := euc_end he
      rw [hy] at he
      have e := euc_done he
      rw [e]
      exact k
theorem c_l_ratio (T : Txt K mg) : Cal P w K mg base CX0 2 "_law_ratio" ["_law_top", "_law_bottom_here"] [] spLow := by
  have c_l_part : Cal P w K mg base CX0 1 "_law_part" ["_law_a", "_law_b"] [] spPart := c_l_part T
  obtain ⟨fd, F⟩ := T.c.def_ 19 (d := dd_l_ratio) rfl
  refine ⟨_, fd, [], FunD.ok (CX := CX0) F sc_l_ratio (fun vs H Q E h => ?_) (fun cdv A outer s H vs Q E hr h => ?_), T.glo 30, F.kp, F.bindsN fun _ _ _ _ _ _ us hl => match us, hl with | [_, _], _ => rfl, .nil⟩
  · obtain ⟨x, y, rfl, _⟩ := h
    rfl
  · obtain ⟨t, b, rfl, hb, hz, hzt, k⟩ := h
    refine ⟨_, PSs.nox (pss_cons (ps_if (pt_cmpR op_lt (pv 1) pe_int (nomark _))
  (pss_cons (ps_set (i := 0) sc_l_ratio.nd rfl (Or.inl rfl) (pe_un un_neg (pv 0)))
 (pss_one (ps_set (i := 1) sc_l_ratio.nd rfl (Or.inl rfl) (pe_un un_neg (pv 1)))))
  pss_nil)
 (pss_cons (ps_set (i := 2) sc_l_ratio.nd rfl (Or.inl rfl) (pe_cal c_l_part (hr.mono (by decide)) pass0 (pa_cons (pv 0) (pa_cons (pv 1) pa_nil))))
 (pss_one (ps_ret (pe_tup (pa_cons (pe_op op_fdivZ (pv 0) (pv 2)) (pa_cons (pe_op op_fdivZ (pv 1) (pv 2)) pa_nil))))))), ?_⟩
    refine MB.st0 (σ := [some (.int t), some (.int b), none]) rfl ?_
    have g0 := gd_pos (t := t) hb
    have c1 : CDivZ t (gd t b) := ⟨by omega, gd_log hb hz (by decide) (by decide)⟩
    have c2 : CDivZ b (gd t b) := c1
    have c3 : CDivZ (-t) (gd (-t) (-b)) := by rw [gd_neg_l, gd_neg_r]; exact c1
    have c4 : CDivZ (-b) (gd (-t) (-b)) := c3
    walk_at "rd"
    refine if_d (fun h => ?_) (fun h => ?_)
    · walk_at "rd"
      refine ⟨_, _, rfl, hzt.neg, hz.neg, ?_⟩
      walk_at "rd"
      refine ⟨by show 2 ≤ sizeLine; decide, fun p hp => ?_⟩
      have k2 := k p hp
      unfold tupO low at k2
      rw [if_pos h] at k2
      rw [gd_neg_l, gd_neg_r]
      exact k2
    · walk_at "rd"
      refine ⟨_, _, rfl, hzt, hz, ?_⟩
      walk_at "rd"
      refine ⟨by show 2 ≤ sizeLine; decide, fun p hp => ?_⟩
      have k2 := k p hp
      unfold tupO low at k2
      rw [if_neg h] at k2
      exact k2
theorem c_l_plus (T : Txt K mg) : Cal P w K mg base CX0 3 "_law_plus" ["_law_a", "_law_b"] [] (spTwo K 330 (fun _ _ => True) plusR) := by
  have c_l_ratio : Cal P w K mg base CX0 2 "_law_ratio" ["_law_top", "_law_bottom_here"] [] spLow := c_l_ratio T
  obtain ⟨fd, F⟩ := T.c.def_ 20 (d := dd_l_plus) rfl
  refine ⟨_, fd, [], FunD.ok (CX := CX0) F sc_l_plus (fun vs H Q E h => ?_) (fun cdv A outer s H vs Q E hr h => ?_), T.glo 31, F.kp, F.bindsN fun _ _ _ _ _ _ us hl => match us, hl with | [_, _], _ => rfl, .nil⟩
  · obtain ⟨p, q, x, y, rfl, _⟩ := h
    rfl
  · obtain ⟨p, q, x, y, rfl, hp, hq, hx, hy, _, k⟩ := h
    refine ⟨_, PSs.nox (pss_one (ps_ret (pe_cal c_l_ratio (hr.mono (by decide)) pass0 (pa_cons (pe_op op_add (pe_op op_mul (pe_ix ix_tup (pv 0) pe_int (fun _ _ => rfl)) (pe_ix ix_tup (pv 1) pe_int (fun _ _ => rfl))) (pe_op op_mul (pe_ix ix_tup (pv 1) pe_int (fun _ _ => rfl)) (pe_ix ix_tup (pv 0) pe_int (fun _ _ => rfl)))) (pa_cons (pe_op op_mul (pe_ix ix_tup (pv 0) pe_int (fun _ _ => rfl)) (pe_ix ix_tup (pv 1) pe_int (fun _ _ => rfl))) pa_nil))))), ?_⟩
    refine MB.st0 (σ := [some (.ref p), some (.ref q)]) rfl ?_
    have nz : x.2 * y.2 ≠ 0 := Int.mul_ne_zero (by have := hx.pos; omega) (by have := hy.pos; omega)
    have c1 : CMul x.1 y.2 := hy.bot.mulR
    have c2 : CMul y.1 x.2 := hy.top.mulL
    have c3 : CMul x.2 y.2 := hy.bot.mulR
    walk_at "rd"
    exact ⟨_, _, rfl, nz, (hx.bot.mul hy.bot).mono (by decide), (((hx.top.mul hy.bot).mono (show _ ≤ 399 by decide)).add ((hy.top.mul hx.bot).mono (by decide))).mono (by decide), fun r hr => k r hr⟩
theorem c_l_less_by (T : Txt K mg) : Cal P w K mg base CX0 3 "_law_less_by" ["_law_a", "_law_b"] [] (spTwo K 62 (fun _ _ => True) lessR) := by
  have c_l_ratio : Cal P w K mg base CX0 2 "_law_ratio" ["_law_top", "_law_bottom_here"] [] spLow := c_l_ratio T
  obtain ⟨fd, F⟩ := T.c.def_ 21 (d := dd_l_less_by) rfl
  refine ⟨_, fd, [], FunD.ok (CX := CX0) F sc_l_less_by (fun vs H Q E h => ?_) (fun cdv A outer s H vs Q E hr h => ?_), T.glo 32, F.kp, F.bindsN fun _ _ _ _ _ _ us hl => match us, hl with | [_, _], _ => rfl, .nil⟩
  · obtain ⟨p, q, x, y, rfl, _⟩ := h
    rfl
  · obtain ⟨p, q, x, y, rfl, hp, hq, hx, hy, _, k⟩ := h
    refine ⟨_, PSs.nox (pss_one (ps_ret (pe_cal c_l_ratio (hr.mono (by decide)) pass0 (pa_cons (pe_op op_sub (pe_op op_mul (pe_ix ix_tup (pv 0) pe_int (fun _ _ => rfl)) (pe_ix ix_tup (pv 1) pe_int (fun _ _ => rfl))) (pe_op op_mul (pe_ix ix_tup (pv 1) pe_int (fun _ _ => rfl)) (pe_ix ix_tup (pv 0) pe_int (fun _ _ => rfl)))) (pa_cons (pe_op op_mul (pe_ix ix_tup (pv 0) pe_int (fun _ _ => rfl)) (pe_ix ix_tup (pv 1) pe_int (fun _ _ => rfl))) pa_nil))))), ?_⟩
    refine MB.st0 (σ := [some (.ref p), some (.ref q)]) rfl ?_
    have nz : x.2 * y.2 ≠ 0 := Int.mul_ne_zero (by have := hx.pos; omega) (by have := hy.pos; omega)
    have c1 : CMul x.1 y.2 := hy.bot.mulR
    have c2 : CMul y.1 x.2 := hy.top.mulL
    have c3 : CMul x.2 y.2 := hy.bot.mulR
    walk_at "rd"
    exact ⟨_, _, rfl, nz, (hx.bot.mul hy.bot).mono (by decide), (((hx.top.mul hy.bot).mono (show _ ≤ 399 by decide)).sub ((hy.top.mul hx.bot).mono (by decide))).mono (by decide), fun r hr => k r hr⟩
theorem c_l_times (T : Txt K mg) : Cal P w K mg base CX0 3 "_law_times" ["_law_a", "_law_b"] [] (spTwo K 62 (fun _ _ => True) timesR) := by
  have c_l_ratio : Cal P w K mg base CX0 2 "_law_ratio" ["_law_top", "_law_bottom_here"] [] spLow := c_l_ratio T
  obtain ⟨fd, F⟩ := T.c.def_ 22 (d := dd_l_times) rfl
  refine ⟨_, fd, [], FunD.ok (CX := CX0) F sc_l_times (fun vs H Q E h => ?_) (fun cdv A outer s H vs Q E hr h => ?_), T.glo 33, F.kp, F.bindsN fun _ _ _ _ _ _ us hl => match us, hl with | [_, _], _ => rfl, .nil⟩
  · obtain ⟨p, q, x, y, rfl, _⟩ := h
    rfl
  · obtain ⟨p, q, x, y, rfl, hp, hq, hx, hy, _, k⟩ := h
    refine ⟨_, PSs.nox (pss_one (ps_ret (pe_cal c_l_ratio (hr.mono (by decide)) pass0 (pa_cons (pe_op op_mul (pe_ix ix_tup (pv 0) pe_int (fun _ _ => rfl)) (pe_ix ix_tup (pv 1) pe_int (fun _ _ => rfl))) (pa_cons (pe_op op_mul (pe_ix ix_tup (pv 0) pe_int (fun _ _ => rfl)) (pe_ix ix_tup (pv 1) pe_int (fun _ _ => rfl))) pa_nil))))), ?_⟩
    refine MB.st0 (σ := [some (.ref p), some (.ref q)]) rfl ?_
    have nz : x.2 * y.2 ≠ 0 := Int.mul_ne_zero (by have := hx.pos; omega) (by have := hy.pos; omega)
    have c1 : CMul x.1 y.1 := hy.top.mulR
    have c3 : CMul x.2 y.2 := hy.bot.mulR
    walk_at "rd"
    exact ⟨_, _, rfl, nz, (hx.bot.mul hy.bot).mono (by decide), (hx.top.mul hy.top).mono (by decide), fun r hr => k r hr⟩
theorem c_l_truth (T : Txt K mg) : Cal P w K mg base CX0 1 "_law_truth" ["_law_told", "_law_due"] [] spTruth := by
  obtain ⟨fd, F⟩ := T.c.def_ 23 (d := dd_l_truth) rfl
  refine ⟨_, fd, [], FunD.ok (CX := CX0) F sc_l_truth (fun vs H Q E h => ?_) (fun cdv A outer s H vs Q E hr h => ?_), T.glo 34, F.kp, F.bindsN fun _ _ _ _ _ _ us hl => match us, hl with | [_, _], _ => rfl, .nil⟩
  · obtain ⟨a, b, rfl, _⟩ := h
    rfl
  · obtain ⟨a, b, rfl, rfl, k⟩ := h
    refine ⟨_, PSs.nox (pss_one (ps_ret (pe_and (pe_callB call_isi rfl (T.free 0) (by decide +kernel) (pa_cons (pv 0) (pa_cons (pe_ty "bool" rfl (T.free 2) (by decide +kernel)) pa_nil))) (pe_one (pe_cmpR op_eq (pv 0) (pv 1) (nomark _)))))), ?_⟩
    refine MB.st0 (σ := [some (.bl a), some (.bl a)]) rfl ?_
    walk_at "rd"
    rw [decide_eq_true rfl]
    exact k
theorem c_l_number (T : Txt K mg) : Cal P w K mg base CX0 3 "_law_number" ["_law_hand_here"] [] spNumber := by
  have c_l_draw : Cal P w K mg base CX0 2 "_law_draw" ["_law_hand_here", "_law_many"] [] spDraw := c_l_draw T
  obtain ⟨fd, F⟩ := T.c.def_ 24 (d := dd_l_number) rfl
  refine ⟨_, fd, [], FunD.ok (CX := CX0) F sc_l_number (fun vs H Q E h => ?_) (fun cdv A outer s H vs Q E hr h => ?_), T.glo 35, F.kp, F.bindsN fun _ _ _ _ _ _ us hl => match us, hl with | [_], _ => rfl, .nil⟩
  · obtain ⟨p, l, rfl, _⟩ := h
    rfl
  · obtain ⟨p, l, rfl, hp, k⟩ := h
    refine ⟨_, PSs.nox (pss_cons (ps_set (i := 1) sc_l_number.nd rfl (Or.inl rfl) (pe_cal c_l_draw (hr.mono (by decide)) pass0 (pa_cons (pv 0) (pa_cons pe_int pa_nil))))
 (pss_cons (ps_if (pt_cmpR op_eq (pv 1) pe_int (nomark _))
  (pss_one (ps_ret (pe_op op_add (pe_op op_mul (pe_cal c_l_draw (hr.mono (by decide)) pass0 (pa_cons (pv 0) (pa_cons (pe_op op_pow pe_int pe_int) pa_nil))) (pe_op op_pow pe_int pe_int)) (pe_cal c_l_draw (hr.mono (by decide)) pass0 (pa_cons (pv 0) (pa_cons (pe_op op_pow pe_int pe_int) pa_nil))))))
  pss_nil)
 (pss_cons (ps_if (pt_cmpR op_eq (pv 1) pe_int (nomark _))
  (pss_one (ps_ret (pe_op op_sub (pe_op op_mul (pe_un un_neg (pe_cal c_l_draw (hr.mono (by decide)) pass0 (pa_cons (pv 0) (pa_cons (pe_op op_pow pe_int pe_int) pa_nil)))) (pe_op op_pow pe_int pe_int)) (pe_cal c_l_draw (hr.mono (by decide)) pass0 (pa_cons (pv 0) (pa_cons (pe_op op_pow pe_int pe_int) pa_nil))))))
  pss_nil)
 (pss_one (ps_ret (pe_op op_sub (pe_cal c_l_draw (hr.mono (by decide)) pass0 (pa_cons (pv 0) (pa_cons pe_int pa_nil))) pe_int)))))), ?_⟩
    refine MB.st0 (σ := [some (.ref p), none]) rfl ?_
    walk_at "rd"
    refine ⟨_, l, _, rfl, hp, by decide, by decide, fun d H1 hd0 hd1 hh1 kp1 => ?_⟩
    walk_at "rd"
    have e9 : (10 : Int) ^ (9 : Int).toNat = 1000000000 := by decide
    refine if_i (fun h0 => ?_) (fun h0 => ?_)
    · walk_at "rd"
      refine ⟨_, l, _, rfl, hh1, by decide, by decide, fun d1 H2 ha hb hh2 kp2 => ?_⟩
      walk_at "rd"
      refine ⟨_, l, _, rfl, hh2, by decide, by decide, fun d2 H3 hc hd hh3 kp3 => ?_⟩
      walk_at "rd"
      refine k _ _ ?_ hh3 ((kp1.trans kp2).trans kp3)
      rw [e9] at *
      unfold Sz
      have : (2 : Nat) ^ 60 = 1152921504606846976 := by decide
      omega
    · walk_at "rd"
      refine if_i (fun h0 => ?_) (fun h0 => ?_)
      · walk_at "rd"
        refine ⟨_, l, _, rfl, hh1, by decide, by decide, fun d1 H2 ha hb hh2 kp2 => ?_⟩
        walk_at "rd"
        refine ⟨_, l, _, rfl, hh2, by decide, by decide, fun d2 H3 hc hd hh3 kp3 => ?_⟩
        walk_at "rd"
        refine k _ _ ?_ hh3 ((kp1.trans kp2).trans kp3)
        rw [e9] at *
        unfold Sz
        have : (2 : Nat) ^ 60 = 1152921504606846976 := by decide
        omega
      · walk_at "rd"
        refine ⟨_, l, _, rfl, hh1, by decide, by decide, fun d1 H2 ha hb hh2 kp2 => ?_⟩
        walk_at "rd"
        refine k _ _ ?_ hh2 (kp1.trans kp2)
        unfold Sz
        have : (2 : Nat) ^ 60 = 1152921504606846976 := by decide
        omega
theorem c_l_bottom (T : Txt K mg) : Cal P w K mg base CX0 3 "_law_bottom" ["_law_hand_here"] [] spBottom := by
  have c_l_draw : Cal P w K mg base CX0 2 "_law_draw" ["_law_hand_here", "_law_many"] [] spDraw := c_l_draw T
  obtain ⟨fd, F⟩ := T.c.def_ 25 (d := dd_l_bottom) rfl
  refine ⟨_, fd, [], FunD.ok (CX := CX0) F sc_l_bottom (fun vs H Q E h => ?_) (fun cdv A outer s H vs Q E hr h => ?_), T.glo 36, F.kp, F.bindsN fun _ _ _ _ _ _ us hl => match us, hl with | [_], _ => rfl, .nil⟩
  · obtain ⟨p, l, rfl, _⟩ := h
    rfl
  · obtain ⟨p, l, rfl, hp, k⟩ := h
    refine ⟨_, PSs.nox (pss_cons (ps_if (pt_cmpR op_eq (pe_cal c_l_draw (hr.mono (by decide)) pass0 (pa_cons (pv 0) (pa_cons pe_int pa_nil))) pe_int (nomark _))
  (pss_one (ps_ret (pe_op op_add pe_int (pe_cal c_l_draw (hr.mono (by decide)) pass0 (pa_cons (pv 0) (pa_cons (pe_op op_pow pe_int pe_int) pa_nil))))))
  pss_nil)
 (pss_one (ps_ret (pe_op op_add pe_int (pe_cal c_l_draw (hr.mono (by decide)) pass0 (pa_cons (pv 0) (pa_cons pe_int pa_nil))))))), ?_⟩
    refine MB.st0 (σ := [some (.ref p)]) rfl ?_
    have e9 : (10 : Int) ^ (9 : Int).toNat = 1000000000 := by decide
    walk_at "rd"
    refine ⟨_, l, _, rfl, hp, by decide, by decide, fun d H1 hd0 hd1 hh1 kp1 => ?_⟩
    walk_at "rd"
    refine if_i (fun h0 => ?_) (fun h0 => ?_)
    · walk_at "rd"
      refine ⟨_, l, _, rfl, hh1, by decide, by decide, fun d1 H2 ha hb hh2 kp2 => ?_⟩
      walk_at "rd"
      rw [e9] at hb
      refine k _ _ (by omega) ?_ hh2 (kp1.trans kp2)
      unfold Sz
      have : (2 : Nat) ^ 31 = 2147483648 := by decide
      omega
    · walk_at "rd"
      refine ⟨_, l, _, rfl, hh1, by decide, by decide, fun d1 H2 ha hb hh2 kp2 => ?_⟩
      walk_at "rd"
      refine k _ _ (by omega) ?_ hh2 (kp1.trans kp2)
      unfold Sz
      have : (2 : Nat) ^ 31 = 2147483648 := by decide
      omega
theorem c_l_same (T : Txt K mg) : Cal P w K mg base CX0 3 "_law_same" ["_law_told", "_law_due"] [] (spSame K) := by
  have c_l_wholes : Cal P w K mg base CX0 2 "_law_wholes" ["_law_thing", "_law_many"] [] (spPair K) := c_l_wholes T
  obtain ⟨fd, F⟩ := T.c.def_ 26 (d := dd_l_same) rfl
  refine ⟨_, fd, [], FunD.ok (CX := CX0) F sc_l_same (fun vs H Q E h => ?_) (fun cdv A outer s H vs Q E hr h => ?_), T.glo 37, F.kp, F.bindsN fun _ _ _ _ _ _ us hl => match us, hl with | [_, _], _ => rfl, .nil⟩
  · obtain ⟨p, q, x, rfl, _⟩ := h
    rfl
  · obtain ⟨p, q, x, rfl, hp, hq, k⟩ := h
    refine ⟨_, PSs.nox (pss_one (ps_ret (pe_and (pe_cal c_l_wholes (hr.mono (by decide)) pass0 (pa_cons (pv 0) (pa_cons pe_int pa_nil))) (pe_one (pe_cmpR (op_eqD hr.units) (pv 0) (pv 1) (nomark _)))))), ?_⟩
    refine MB.st0 (σ := [some (.ref p), some (.ref q)]) rfl ?_
    walk_at "rd"
    refine ⟨p, x, rfl, hp, fun H1 s1 => ?_⟩
    walk_at "rd"
    refine ⟨.tuple [.int x.1, .int x.2], .tuple [.int x.1, .int x.2], .tup (hp.same s1) (.cons (.int _) (.cons (.int _) .nil)), .tup (hq.same s1) (.cons (.int _) (.cons (.int _) .nil)), rfl, rfl, ?_⟩
    have e : PyData.eqv (.tuple [.int x.1, .int x.2]) (.tuple [.int x.1, .int x.2]) = true := by simp [PyData.eqv, PyData.eqvAll]
    rw [e]
    exact k _ s1
end
end K00
namespace K00
open PySem PySem.Spec PyProof.Rows L2 MB
def spMake (K : PySem.W.Frag) : Sp := fun vs H Q E => ∃ t b : V, vs = [t, b] ∧ Kd K H t ∧ Kd K H b ∧
  (whoB t = false → ∀ d H', L2.Same H H' → H' d = some (.xd [("what", .str "top")]) → E (.ref (He.ga K "BadRatio")) (some d) H') ∧
  (whoB t = true → (whoB b = false ∨ b = .int 0) → ∀ d H', L2.Same H H' → H' d = some (.xd [("what", .str "bottom")]) → E (.ref (He.ga K "BadRatio")) (some d) H') ∧
  (∀ i j : Int, t = .int i → b = .int j → j ≠ 0 → Sz 400 j ∧ Sz 400 i ∧ ∀ p, H p = none → Q (.ref p) (upd H p (tupO (low i j))))
def spOver (K : PySem.W.Frag) : Sp := fun vs H Q E => ∃ (p q : Addr) (x y : Int × Int), vs = [.ref p, .ref q] ∧ RatAt K H p x ∧ RatAt K H q y ∧ Rt 62 62 x ∧ Rt 62 62 y ∧
  (y.1 = 0 → E (.ref (He.ga K "DividedByNought")) none H) ∧ (y.1 ≠ 0 → ∀ r, H r = none → Q (.ref r) (upd H r (tupO (overR x y))))
/-- a list of couples, read -/
def Rats (K : PySem.W.Frag) (H : Hp) (ps : List Addr) (xs : List (Int × Int)) : Prop := ps.length = xs.length ∧ ∀ (i : Nat) (p : Addr) (x : Int × Int), ps[i]? = some p → xs[i]? = some x → RatAt K H p x
theorem Rats.same {K : PySem.W.Frag} {H H' : Hp} {ps : List Addr} {xs : List (Int × Int)} (h : Rats K H ps xs) (e : L2.Same H H') : Rats K H' ps xs := ⟨h.1, fun i p x a b => (h.2 i p x a b).same e⟩
def sumR (xs : List (Int × Int)) : Int × Int := xs.foldl plusR (0, 1)
def spSum (K : PySem.W.Frag) : Sp := fun vs H Q _ => ∃ (a : Addr) (ps : List Addr) (xs : List (Int × Int)), vs = [.ref a] ∧ (SqL K H a (ps.map V.ref)) ∧ Rats K H ps xs ∧ xs.length ≤ 5 ∧ (∀ x ∈ xs, Rt 62 31 x) ∧
  ∀ p H', L2.Same H H' → RatAt K H' p (sumR xs) → Q (.ref p) H'
section
variable {P : Program} {w : World} {K : PySem.W.Frag} {mg : Str → Option Value} {base : Heap}
theorem ok_init (T : Txt K mg) {fd : FuncData} (F : FunD K "__init__" "BadRatio.__init__" (defArgs s_BadRatio_init) (defBody s_BadRatio_init) (defScope s_BadRatio_init) [] [] (He.ma K (He.ga K "BadRatio") "__init__") fd) :
    FnOk P w K mg base CX0 1 (He.ma K (He.ga K "BadRatio") "__init__") fd ["self", "what"] (spInit1 (He.ga K "BadRatio") "what") := by
  refine FunD.ok (CX := CX0) F sc_BadRatio_init (fun vs H Q E h => ?_) (fun cdv A outer s H vs Q E hr h => ?_)
  · obtain ⟨a, v, rfl, _⟩ := h
    rfl
  · obtain ⟨a, v, rfl, ha, k⟩ := h
    refine ⟨_, PSs.nox (pss_one (ps_ost (pv 0) (pv 1))), ?_⟩
    refine MB.st0 (σ := [some (.ref a), some v]) rfl ?_
    exact ⟨_, rfl, _, rfl, a, _, rfl, T.bo, T.bn, .inl ⟨ha, fun dx h1 h2 => k dx h1 h2⟩⟩
theorem ok_make_ratio (T : Txt K mg) {fd : FuncData} (F : FunD K "make_ratio" "make_ratio" (defArgs s_make_ratio) (defBody s_make_ratio) (defScope s_make_ratio) [.int 1] [] (He.ga K "make_ratio") fd) :
    FnOk P w K mg base (L2.CX P w) 3 (He.ga K "make_ratio") fd ["top", "bottom"] (spMake K) := by
  have c_is_whole1 : Cal P w K mg base CX0 1 "is_whole" ["thing", "low", "high"] [.non, .non] (spIsWhole K) := c_is_whole1 T
  have c_lowest : Cal P w K mg base CX0 1 "lowest" ["top", "bottom"] [] spLow := c_lowest T
  obtain ⟨fI, FF⟩ := T.c.def_ 33 (d := dd_BadRatio_init) rfl
  have FI : FnOk P w K mg base CX0 1 (He.ma K (He.ga K "BadRatio") "__init__") fI ["self", "what"] (spInit1 (He.ga K "BadRatio") "what") := ok_init T FF
  have bI : Binds K fI ["self", "what"] [] := FF.bindsN fun _ _ _ _ _ _ us hl => match us, hl with | [_, _], _ => rfl
  refine FunD.ok (CX := L2.CX P w) F sc_make_ratio (fun vs H Q E h => ?_) (fun cdv A outer s H vs Q E hr h => ?_)
  · obtain ⟨a, v, rfl, _⟩ := h
    rfl
  · obtain ⟨t, b, rfl, ht, hb, k1, k2, k3⟩ := h
    refine ⟨_, (pss_cons (ps_if (pt_not (pt_val (pe_cal c_is_whole1 (hr.mono (by decide)) pass0 (pa_cons (pv 0) pa_nil))))
  (pss_one (ps_raise rfl (takes_of rfl rfl rfl rfl) (pmk_oex T.bo T.bi T.bt FI (hr.mono (by decide)) bI .nil pass0 rfl (T.glo 48) (pa_cons pe_str pa_nil))))
  pss_nil)
 (pss_cons (ps_if (PW.pt (pw_or (pt_not (pt_val (pe_cal c_is_whole1 (hr.mono (by decide)) pass0 (pa_cons (pv 1) pa_nil)))) (pw_or1 (pt_cmpR op_eq (pv 1) pe_int (nomark _)))))
  (pss_one (ps_raise rfl (takes_of rfl rfl rfl rfl) (pmk_oex T.bo T.bi T.bt FI (hr.mono (by decide)) bI .nil pass0 rfl (T.glo 48) (pa_cons pe_str pa_nil))))
  pss_nil)
 (pss_one (ps_ret (pe_cal c_lowest (hr.mono (by decide)) pass0 (pa_cons (pv 0) (pa_cons (pv 1) pa_nil))))))), ?_⟩
    refine MB.st0 (σ := [some t, some b]) rfl ?_
    have e1 : ∀ {x : V}, wholeB x .non .non = whoB x := fun {x} => by cases x <;> rfl
    walk_at "rd"
    refine ⟨_, _, _, rfl, ht, .inl rfl, .inl rfl, ?_⟩
    rw [e1]
    walk_at "rd"
    cases ew : whoB t with
    | false =>
      walk_at "rd"
      exact mk1 fun d H' s e => k1 ew d H' s e
    | true =>
      walk_at "rd"
      refine ⟨_, _, _, rfl, hb, .inl rfl, .inl rfl, ?_⟩
      rw [e1]
      walk_at "rd"
      cases eb : whoB b with
      | false =>
        walk_at "rd"
        exact mk1 fun d H' s e => k2 ew (.inl eb) d H' s e
      | true =>
        obtain ⟨i, rfl⟩ : ∃ i, t = .int i := by
          cases t <;> first | exact ⟨_, rfl⟩ | cases ew
        obtain ⟨j, rfl⟩ : ∃ i, b = .int i := by
          cases b <;> first | exact ⟨_, rfl⟩ | cases eb
        walk_at "rd"
        refine if_i (fun h0 => ?_) (fun h0 => ?_)
        · walk_at "rd"
          exact mk1 fun d H' s e => k2 ew (.inr (by rw [h0])) d H' s e
        · walk_at "rd"
          obtain ⟨s1, s2, k⟩ := k3 i j rfl rfl h0
          exact ⟨_, _, rfl, h0, s1, s2, k⟩
theorem c_make_ratio (T : Txt K mg) : Cal P w K mg base (L2.CX P w) 3 "make_ratio" ["top", "bottom"] [] (spMake K) := by
  obtain ⟨fd, F⟩ := T.c.def_ 6 (d := dd_make_ratio) rfl
  obtain ⟨ds, hd, hb⟩ := FunD.binds1 F 2 1 (List.cons_ne_nil _ _) rfl (ps := ["top", "bottom"]) fun _ _ _ _ _ _ _ us its hl hi => match us, its, hl, hi with | [_, _], [_], _, _ => ⟨_, rfl, rfl⟩
  exact ⟨_, fd, ds, ok_make_ratio T F, T.glo 17, F.kp, hb, hd⟩
theorem c_make_ratio1 (T : Txt K mg) : Cal P w K mg base (L2.CX P w) 3 "make_ratio" ["top", "bottom"] [.int 1] (spMake K) := by
  obtain ⟨fd, F⟩ := T.c.def_ 6 (d := dd_make_ratio) rfl
  obtain ⟨ds, hd, hb⟩ := FunD.binds1 F 1 0 (List.cons_ne_nil _ _) rfl (ps := ["top", "bottom"]) fun _ _ _ _ _ _ _ us its hl hi => match us, its, hl, hi with | [_], [_], _, _ => ⟨_, rfl, rfl⟩
  exact ⟨_, fd, ds, ok_make_ratio T F, T.glo 17, F.kp, hb, hd⟩
theorem c_ratio_over (T : Txt K mg) : Cal P w K mg base (L2.CX P w) 2 "ratio_over" ["one", "other"] [] (spOver K) := by
  have c_lowest : Cal P w K mg base CX0 1 "lowest" ["top", "bottom"] [] spLow := c_lowest T
  obtain ⟨fd, F⟩ := T.c.def_ 10 (d := dd_ratio_over) rfl
  refine ⟨_, fd, [], FunD.ok (CX := L2.CX P w) F sc_ratio_over (fun vs H Q E h => ?_) (fun cdv A outer s H vs Q E hr h => ?_), T.glo 21, F.kp, F.bindsN fun _ _ _ _ _ _ us hl => match us, hl with | [_, _], _ => rfl, .nil⟩
  · obtain ⟨p, q, x, y, rfl, _⟩ := h
    rfl
  · obtain ⟨p, q, x, y, rfl, hp, hq, hx, hy, k1, k2⟩ := h
    refine ⟨_, (pss_cons (ps_if (pt_cmpR op_eq (pe_ix ix_tup (pv 1) pe_int (fun _ _ => rfl)) pe_int (nomark _))
  (pss_one (ps_raise rfl (takes_of rfl rfl rfl rfl) (pmk_own0 PySem.F.excBase_ValueError T.de.1 (T.glo 49) T.de.2.1 (raises_own T.de.2.2.1 T.de.2.2.2) rfl)))
  pss_nil)
 (pss_one (ps_ret (pe_cal c_lowest (hr.mono (by decide)) pass0 (pa_cons (pe_op op_mul (pe_ix ix_tup (pv 0) pe_int (fun _ _ => rfl)) (pe_ix ix_tup (pv 1) pe_int (fun _ _ => rfl))) (pa_cons (pe_op op_mul (pe_ix ix_tup (pv 0) pe_int (fun _ _ => rfl)) (pe_ix ix_tup (pv 1) pe_int (fun _ _ => rfl))) pa_nil)))))), ?_⟩
    refine MB.st0 (σ := [some (.ref p), some (.ref q)]) rfl ?_
    have c1 : CMul x.1 y.2 := hy.bot.mulR
    have c2 : CMul x.2 y.1 := hy.top.mulR
    walk_at "rd"
    refine if_i (fun h0 => ?_) (fun h0 => ?_)
    · walk_at "rd"
      exact k1 h0
    · walk_at "rd"
      refine ⟨_, _, rfl, Int.mul_ne_zero (by have := hx.pos; omega) h0, (hx.bot.mul hy.top).mono (by decide), (hx.top.mul hy.bot).mono (by decide), fun r hr => k2 h0 r hr⟩
end
end K00
namespace MB
open PySem PySem.Spec PyProof.Rows L2
theorem pe_gref {X : Cx} {x : Str} {pos : Pos} {a : Addr} (hg : Gl X x) (hm : X.mg x = some (.ref a)) (hd : (x == ("__debug__" : Str)) = false := by decide) : PE X (.Name x pos) (tC (.ref a)) := pe_glob hg hm rfl hd
theorem newT {xs : List V} {H : Hp} {Q : VK} (l : xs.length ≤ sizeLine) (q : ∀ p H', H p = none → L2.Same H H' → H' p = some (.tup xs) → Q (.ref p) H') : NewT xs H Q := ⟨l, fun p hp => q p _ hp (MB.Same.upd hp) upd_same⟩
theorem newL {xs : List V} {H : Hp} {Q : VK} (l : xs.length ≤ sizeLine) (q : ∀ p H', H p = none → L2.Same H H' → H' p = some (.lst xs) → Q (.ref p) H') : NewL xs H Q := ⟨l, fun p hp => q p _ hp (MB.Same.upd hp) upd_same⟩
theorem Cal.imp {P : Program} {w : World} {K : PySem.W.Frag} {mg : Str → Option Value} {base : Heap} {CX : CXT} {k : Nat} {x : Str} {ps : List Str} {dvs : List V} {sp sp' : Sp} (h : Cal P w K mg base CX k x ps dvs sp) (i : ∀ vs H Q E, sp' vs H Q E → sp vs H Q E) : Cal P w K mg base CX k x ps dvs sp' := by
  obtain ⟨f, fd, ds, F, r⟩ := h
  exact ⟨f, fd, ds, F.imp i, r⟩
end MB
namespace K00
open PySem PySem.Spec PyProof.Rows L2 MB
theorem Rt.mono {n m n' m' : Nat} {x : Int × Int} (h : Rt n m x) (h1 : n ≤ n') (h2 : m ≤ m') : Rt n' m' x := ⟨h.top.mono h1, h.bot.mono h2, h.pos, h.one⟩
theorem rt_zero : Rt 32 1 (0, 1) := ⟨by show (0 : Nat) < 2 ^ 32; decide, by show (1 : Nat) < 2 ^ 1; decide, by decide, by decide⟩
theorem take_more {α : Type} : ∀ {l : List α} {i : Nat} {x : α}, l[i]? = some x → l.take (i + 1) = l.take i ++ [x]
  | [], i, x, h => by simp at h
  | a :: l, 0, x, h => by
    have e : a = x := Option.some.inj h
    subst e
    rfl
  | a :: l, i + 1, x, h => by
    have ih := take_more (l := l) (i := i) (x := x) h
    show a :: l.take (i + 1) = a :: l.take i ++ [x]
    rw [ih]
    rfl
theorem sum_more {l : List (Int × Int)} {i : Nat} {x : Int × Int} (h : l[i]? = some x) : sumR (l.take (i + 1)) = plusR (sumR (l.take i)) x := by
  unfold sumR
  rw [take_more h, List.foldl_append]
  rfl
theorem rt_step {i : Nat} {t x : Int × Int} (ht : Rt (32 * i + 32) (31 * i + 1) t) (hx : Rt 62 31 x) : Rt (32 * (i + 1) + 32) (31 * (i + 1) + 1) (plusR t x) := by
  have := rt_plus ht hx (32 * i + 63) (by omega) (by omega)
  exact this.mono (by omega) (by omega)
theorem rt_sum {l : List (Int × Int)} (h : ∀ x ∈ l, Rt 62 31 x) : ∀ i, i ≤ l.length → Rt (32 * i + 32) (31 * i + 1) (sumR (l.take i))
  | 0, _ => by
    rw [List.take_zero]
    exact rt_zero
  | i + 1, hi => by
    have e : l[i]? = some l[i] := List.getElem?_eq_getElem hi
    rw [sum_more e]
    exact rt_step (rt_sum h i (by omega)) (h _ (List.getElem_mem hi))
theorem ref_at {ps : List Addr} {i : Nat} {y : V} (h : (ps.map V.ref)[i]? = some y) : ∃ p, ps[i]? = some p ∧ y = .ref p := by
  rw [List.getElem?_map] at h
  cases e : ps[i]? with
  | none => rw [e] at h; cases h
  | some c => rw [e] at h; exact ⟨c, rfl, (Option.some.inj h).symm⟩
theorem at_len {α β : Type} {l : List α} {r : List β} (h : l.length = r.length) {i : Nat} {x : α} (e : l[i]? = some x) : ∃ y, r[i]? = some y := by
  have := (List.getElem?_eq_some_iff.mp e).1
  exact ⟨_, List.getElem?_eq_getElem (by omega)⟩
theorem mem_at {α : Type} {l : List α} {i : Nat} {x : α} (e : l[i]? = some x) : x ∈ l := List.mem_of_getElem? e
/-- the same two promises over any heap that holds more -/
def spLowW (K : PySem.W.Frag) : Sp := fun vs H Q _ => ∃ t b : Int, vs = [.int t, .int b] ∧ b ≠ 0 ∧ Sz 400 b ∧ Sz 400 t ∧ ∀ p H', L2.Same H H' → RatAt K H' p (low t b) → Q (.ref p) H'
def spTwoW (K : PySem.W.Frag) (n : Nat) (f : Int × Int → Int × Int → Int × Int) : Sp := fun vs H Q _ => ∃ (p q : Addr) (x y : Int × Int), vs = [.ref p, .ref q] ∧ RatAt K H p x ∧ RatAt K H q y ∧ Rt n n x ∧ Rt 62 62 y ∧ ∀ r H', L2.Same H H' → RatAt K H' r (f x y) → Q (.ref r) H'
theorem lowW {K : PySem.W.Frag} {vs : List V} {H : Hp} {Q : VK} {E : XK} (h : spLowW K vs H Q E) : spLow vs H Q E := by
  obtain ⟨t, b, e, h1, h2, h3, k⟩ := h
  exact ⟨t, b, e, h1, h2, h3, fun p hp => k p _ (MB.Same.upd hp) (SqT.of upd_same)⟩
theorem twoW {K : PySem.W.Frag} {n : Nat} {f : Int × Int → Int × Int → Int × Int} {vs : List V} {H : Hp} {Q : VK} {E : XK} (h : spTwoW K n f vs H Q E) : spTwo K n (fun _ _ => True) f vs H Q E := by
  obtain ⟨p, q, x, y, e, h1, h2, h3, h4, k⟩ := h
  exact ⟨p, q, x, y, e, h1, h2, h3, h4, trivial, fun r hr => k r _ (MB.Same.upd hr) (SqT.of upd_same)⟩
section
variable {P : Program} {w : World} {K : PySem.W.Frag} {mg : Str → Option Value} {base : Heap}
theorem c_ratio_sum (T : Txt K mg) : Cal P w K mg base CX0 3 "ratio_sum" ["ratios"] [] (spSum K) := by
  have c_ratio_plus : Cal P w K mg base CX0 2 "ratio_plus" ["one", "other"] [] (spTwo K 330 (fun _ _ => True) plusR) := c_ratio_plus T
  obtain ⟨fd, F⟩ := T.c.def_ 12 (d := dd_ratio_sum) rfl
  refine ⟨_, fd, [], FunD.ok (CX := CX0) F sc_ratio_sum (fun vs H Q E h => ?_) (fun cdv A outer s H vs Q E hr h => ?_), T.glo 23, F.kp, F.bindsN fun _ _ _ _ _ _ us hl => match us, hl with | [_], _ => rfl, .nil⟩
  · obtain ⟨a, ps, xs, rfl, _⟩ := h
    rfl
  · obtain ⟨a, ps, xs, rfl, hS, hR, hlen, hb, k⟩ := h
    refine ⟨_, PSs.nox (pss_cons (ps_set (i := 1) sc_ratio_sum.nd rfl (Or.inl rfl) (pe_gref rfl (T.glo 44)))
 (pss_cons (ps_for PassesOwn.never rfl (pi_list (pv 0)) (pg_name (i := 2) sc_ratio_sum.nd rfl (Or.inl rfl))
  (pss_one (ps_set (i := 1) sc_ratio_sum.nd rfl (Or.inl rfl) (pe_cal c_ratio_plus (hr.mono (by decide)) pass0 (pa_cons (pv 1) (pa_cons (pv 2) pa_nil))))))
 (pss_one (ps_ret (pv 1))))), ?_⟩
    refine MB.st0 (σ := [some (.ref a), none, none]) rfl ?_
    walk_at "rd"
    refine ⟨_, rfl, a, rfl, ⟨_, hS⟩, for_list (K := K) (a := a) (xs := ps.map V.ref) (fun i σ H' => ∃ (t : Addr) (u : Option V), σ = [some (.ref a), some (.ref t), u] ∧ L2.Same H H' ∧ RatAt K H' t (sumR (xs.take i)))
      ⟨_, none, rfl, L2.Same.refl H, by rw [List.take_zero]; exact T.zero H⟩ (fun i σ H' _ ⟨_, _, _, s, _⟩ => s.seq hS) ?_ ?_⟩
    · rintro i y σ H1 hi ⟨t, u, rfl, s1, ht⟩
      obtain ⟨p, hp, rfl⟩ := ref_at hi
      obtain ⟨x, hx⟩ := at_len hR.1 hp
      have hil := (List.getElem?_eq_some_iff.mp hx).1
      walk_at "rd"
      refine ⟨t, p, _, x, rfl, ht, ((hR.2 i p x hp hx).same s1), (rt_sum hb i (by omega)).mono (by omega) (by omega), (hb x (mem_at hx)).mono (by decide) (by decide), trivial, fun r hr => ?_⟩
      walk_at "rd"
      refine ⟨r, _, rfl, s1.trans (MB.Same.upd hr), ?_⟩
      rw [sum_more hx]
      exact SqT.of upd_same
    · rintro σ H1 ⟨t, u, rfl, s1, ht⟩
      walk_at "rd"
      rw [List.length_map, hR.1, List.take_length] at ht
      exact k t H1 s1 ht
theorem c_ratio_sum0 (T : Txt K mg) : Cal P w K mg base CX0 3 "ratio_sum" ["ratios"] [] (fun vs H Q _ => ∃ a, vs = [.ref a] ∧ SqT K H a [] ∧ ∀ p, RatAt K H p (0, 1) → Q (.ref p) H) := by
  have c_ratio_plus : Cal P w K mg base CX0 2 "ratio_plus" ["one", "other"] [] (spTwo K 330 (fun _ _ => True) plusR) := c_ratio_plus T
  obtain ⟨fd, F⟩ := T.c.def_ 12 (d := dd_ratio_sum) rfl
  refine ⟨_, fd, [], FunD.ok (CX := CX0) F sc_ratio_sum (fun vs H Q E h => ?_) (fun cdv A outer s H vs Q E hr h => ?_), T.glo 23, F.kp, F.bindsN fun _ _ _ _ _ _ us hl => match us, hl with | [_], _ => rfl, .nil⟩
  · obtain ⟨a, rfl, _⟩ := h
    rfl
  · obtain ⟨a, rfl, hS, k⟩ := h
    refine ⟨_, PSs.nox (pss_cons (ps_set (i := 1) sc_ratio_sum.nd rfl (Or.inl rfl) (pe_gref rfl (T.glo 44)))
 (pss_cons (ps_for PassesOwn.never rfl (pi_tup (pv 0)) (pg_name (i := 2) sc_ratio_sum.nd rfl (Or.inl rfl))
  (pss_one (ps_set (i := 1) sc_ratio_sum.nd rfl (Or.inl rfl) (pe_cal c_ratio_plus (hr.mono (by decide)) pass0 (pa_cons (pv 1) (pa_cons (pv 2) pa_nil))))))
 (pss_one (ps_ret (pv 1))))), ?_⟩
    refine MB.st0 (σ := [some (.ref a), none, none]) rfl ?_
    walk_at "rd"
    refine ⟨_, rfl, a, rfl, ⟨_, hS⟩, for_tup (K := K) (a := a) (xs := []) (fun i σ H' => ∃ (t : Addr) (u : Option V), σ = [some (.ref a), some (.ref t), u] ∧ H' = H ∧ RatAt K H' t (0, 1))
      ⟨_, none, rfl, rfl, T.zero H⟩ (fun i σ H' _ ⟨_, _, _, e, _⟩ => by rw [e]; exact hS) ?_ ?_⟩
    · intro i y σ H1 hi
      cases hi
    · rintro σ H1 ⟨t, u, rfl, rfl, ht⟩
      walk_at "rd"
      exact k t ht
end
end K00
namespace K00
open PySem PySem.Spec PyProof.Rows L2 MB
theorem cmp_eq (x y : Int × Int) : cmpR x y = (if decide (y.1 * x.2 < x.1 * y.2) = true then 1 else 0) - (if decide (x.1 * y.2 < y.1 * x.2) = true then 1 else 0) := by
  unfold cmpR
  generalize x.1 * y.2 = l
  generalize y.1 * x.2 = r
  by_cases h : l = r
  · subst h
    simp
  · rw [if_neg h]
    by_cases h2 : l < r
    · have h3 : ¬ r < l := by omega
      simp [h2, h3]
    · have h3 : r < l := by omega
      simp [h2, h3]
theorem r_isX {K : PySem.W.Frag} {D a C : Addr} {H : Hp} {Q : VK} {b : Bool} (k : PySem.W.kitOne K (.ref D) (.ref C) = some b) (q : Q (.bl b) H) : rIsX K D a (.ref D) none [.ref a, .ref C] H Q := ⟨rfl, rfl, _, .ref C, b, rfl, fun _ h => h, k, q⟩
theorem r_isXt {K : PySem.W.Frag} {D a : Addr} {n : String} {H : Hp} {Q : VK} {b : Bool} (k : PySem.W.kitOne K (.ref D) (.type n) = some b) (q : Q (.bl b) H) : rIsX K D a (.ref D) none [.ref a, .ty n] H Q := ⟨rfl, rfl, _, .type n, b, rfl, fun _ h => h, k, q⟩
def spTrue (K : PySem.W.Frag) (ok : List V → Hp → Prop) : Sp := fun vs H Q _ => ok vs H ∧ ∀ H', L2.Same H H' → Q (.bl true) H'
def okPair (K : PySem.W.Frag) (vs : List V) (H : Hp) : Prop := ∃ (p q : Addr) (x y : Int × Int), vs = [.ref p, .ref q] ∧ RatAt K H p x ∧ RatAt K H q y ∧ Rt 62 31 x ∧ Rt 62 31 y
section
variable {P : Program} {w : World} {K : PySem.W.Frag} {mg : Str → Option Value} {base : Heap}
theorem c_l_pair_holds (T : Txt K mg) : Cal P w K mg base CX0 5 "_law_pair_holds" ["_law_a", "_law_b"] [] (spTrue K (okPair K)) := by
  have c_ratio_plus : Cal P w K mg base CX0 2 "ratio_plus" ["one", "other"] [] (spTwoW K 330 plusR) := (c_ratio_plus T).imp fun _ _ _ _ => twoW
  have c_ratio_minus : Cal P w K mg base CX0 2 "ratio_minus" ["one", "other"] [] (spTwoW K 62 lessR) := (c_ratio_minus T).imp fun _ _ _ _ => twoW
  have c_ratio_times : Cal P w K mg base CX0 2 "ratio_times" ["one", "other"] [] (spTwoW K 62 timesR) := (c_ratio_times T).imp fun _ _ _ _ => twoW
  have c_l_plus : Cal P w K mg base CX0 3 "_law_plus" ["_law_a", "_law_b"] [] (spTwoW K 330 plusR) := (c_l_plus T).imp fun _ _ _ _ => twoW
  have c_l_less_by : Cal P w K mg base CX0 3 "_law_less_by" ["_law_a", "_law_b"] [] (spTwoW K 62 lessR) := (c_l_less_by T).imp fun _ _ _ _ => twoW
  have c_l_times : Cal P w K mg base CX0 3 "_law_times" ["_law_a", "_law_b"] [] (spTwoW K 62 timesR) := (c_l_times T).imp fun _ _ _ _ => twoW
  have c_l_same : Cal P w K mg base CX0 3 "_law_same" ["_law_told", "_law_due"] [] (spSame K) := c_l_same T
  have c_ratio_compare : Cal P w K mg base CX0 1 "ratio_compare" ["one", "other"] [] (spCmp K) := c_ratio_compare T
  have c_l_whole : Cal P w K mg base CX0 1 "_law_whole" ["_law_thing"] [] (spWhole1 K) := c_l_whole T
  have c_ratio_over : Cal P w K mg base (L2.CX P w) 2 "ratio_over" ["one", "other"] [] (spOver K) := c_ratio_over T
  have c_l_ratio : Cal P w K mg base CX0 2 "_law_ratio" ["_law_top", "_law_bottom_here"] [] (spLowW K) := (c_l_ratio T).imp fun _ _ _ _ => lowW
  obtain ⟨fd, F⟩ := T.c.def_ 27 (d := dd_l_pair_holds) rfl
  refine ⟨_, fd, [], FunD.ok (CX := CX0) F sc_l_pair_holds (fun vs H Q E h => ?_) (fun cdv A outer s H vs Q E hr h => ?_), T.glo 38, F.kp, F.bindsN fun _ _ _ _ _ _ us hl => match us, hl with | [_, _], _ => rfl, .nil⟩
  · obtain ⟨⟨p, q, x, y, rfl, _⟩, _⟩ := h
    rfl
  · obtain ⟨⟨p, q, x, y, rfl, hp, hq, hx, hy⟩, k⟩ := h
    refine ⟨_, PSs.nox (pss_cons (ps_set (i := 2) sc_l_pair_holds.nd rfl (Or.inl rfl) (pe_lst (pa_cons (pe_tup (pa_cons (pe_cal c_ratio_plus (hr.mono (by decide)) pass0 (pa_cons (pv 0) (pa_cons (pv 1) pa_nil))) (pa_cons (pe_cal c_l_plus (hr.mono (by decide)) pass0 (pa_cons (pv 0) (pa_cons (pv 1) pa_nil))) pa_nil))) (pa_cons (pe_tup (pa_cons (pe_cal c_ratio_minus (hr.mono (by decide)) pass0 (pa_cons (pv 0) (pa_cons (pv 1) pa_nil))) (pa_cons (pe_cal c_l_less_by (hr.mono (by decide)) pass0 (pa_cons (pv 0) (pa_cons (pv 1) pa_nil))) pa_nil))) (pa_cons (pe_tup (pa_cons (pe_cal c_ratio_times (hr.mono (by decide)) pass0 (pa_cons (pv 0) (pa_cons (pv 1) pa_nil))) (pa_cons (pe_cal c_l_times (hr.mono (by decide)) pass0 (pa_cons (pv 0) (pa_cons (pv 1) pa_nil))) pa_nil))) pa_nil)))))
 (pss_cons (ps_for PassesOwn.never rfl (pi_list (pv 2)) (pg_tup rfl (pgs_cons (pg_name (i := 3) sc_l_pair_holds.nd rfl (Or.inl rfl)) (pgs_cons (pg_name (i := 4) sc_l_pair_holds.nd rfl (Or.inl rfl)) pgs_nil)))
  (pss_one (ps_if (pt_not (pt_val (pe_cal c_l_same (hr.mono (by decide)) pass0 (pa_cons (pv 3) (pa_cons (pv 4) pa_nil)))))
  (pss_one (ps_ret pe_bl))
  pss_nil)))
 (pss_cons (ps_set (i := 5) sc_l_pair_holds.nd rfl (Or.inl rfl) (pe_op op_mul (pe_ix ix_tup (pv 0) pe_int (fun _ _ => rfl)) (pe_ix ix_tup (pv 1) pe_int (fun _ _ => rfl))))
 (pss_cons (ps_set (i := 6) sc_l_pair_holds.nd rfl (Or.inl rfl) (pe_op op_mul (pe_ix ix_tup (pv 1) pe_int (fun _ _ => rfl)) (pe_ix ix_tup (pv 0) pe_int (fun _ _ => rfl))))
 (pss_cons (ps_set (i := 7) sc_l_pair_holds.nd rfl (Or.inl rfl) (pe_cal c_ratio_compare (hr.mono (by decide)) pass0 (pa_cons (pv 0) (pa_cons (pv 1) pa_nil))))
 (pss_cons (ps_if (PW.pt (pw_or (pt_not (pt_val (pe_cal c_l_whole (hr.mono (by decide)) pass0 (pa_cons (pv 7) pa_nil)))) (pw_or1 (pt_cmpR op_ne (pv 7) (pe_op op_sub (pe_callTy k_int1 rfl (T.free 1) (by decide +kernel) (pa_cons (pe_cmpR op_gt (pv 5) (pv 6) (nomark _)) pa_nil)) (pe_callTy k_int1 rfl (T.free 1) (by decide +kernel) (pa_cons (pe_cmpR op_lt (pv 5) (pv 6) (nomark _)) pa_nil))) (nomark _)))))
  (pss_one (ps_ret pe_bl))
  pss_nil)
 (pss_cons (ps_set (i := 8) sc_l_pair_holds.nd rfl (Or.inl rfl) pe_non)
 (pss_cons (ps_set (i := 9) sc_l_pair_holds.nd rfl (Or.inl rfl) pe_bl)
 (pss_cons (ps_try_as (i := 10) (Wout := fun _ _ _ _ => False) rfl rfl sc_l_pair_holds.nd rfl rfl ⟨rfl, by decide, Or.inl (T.glo 47)⟩ takes0
  (fun W pn xe tk _ => by exact (pss_one (ps_set (i := 8) sc_l_pair_holds.nd rfl (Or.inl rfl) (pe_calS c_ratio_over (hr.mono (by decide)) (fun σ => passAt tk σ) (pa_cons (pv 0) (pa_cons (pv 1) pa_nil))))))
  (fun a oe cls d pn hz hf => by exact (pss_one (ps_set (i := 9) sc_l_pair_holds.nd rfl (Or.inl rfl) (pe_and (pe_callB (call_isX T.dc hz hf) rfl (T.free 0) (by decide +kernel) (pa_cons (pv 10) (pa_cons (pe_gref rfl (T.glo 49)) pa_nil))) (pe_and (pe_callB (call_isX T.dc hz hf) rfl (T.free 0) (by decide +kernel) (pa_cons (pv 10) (pa_cons (pe_ty "ValueError" rfl (T.free 10) (by decide +kernel)) pa_nil))) (pe_one (pe_not (pe_callB (call_isX T.dc hz hf) rfl (T.free 0) (by decide +kernel) (pa_cons (pv 10) (pa_cons (pe_gref rfl (T.glo 48)) pa_nil)))))))))))
 (pss_cons (ps_if (pt_cmpR op_eq (pe_ix ix_tup (pv 1) pe_int (fun _ _ => rfl)) pe_int (nomark _))
  (pss_one (ps_ret (pv 9)))
  pss_nil)
 (pss_one (ps_ret (pe_and (pe_not (pv 9)) (pe_one (pe_cal c_l_same (hr.mono (by decide)) pass0 (pa_cons (pv 8) (pa_cons (pe_cal c_l_ratio (hr.mono (by decide)) pass0 (pa_cons (pe_op op_mul (pe_ix ix_tup (pv 0) pe_int (fun _ _ => rfl)) (pe_ix ix_tup (pv 1) pe_int (fun _ _ => rfl))) (pa_cons (pe_op op_mul (pe_ix ix_tup (pv 0) pe_int (fun _ _ => rfl)) (pe_ix ix_tup (pv 1) pe_int (fun _ _ => rfl))) pa_nil))) pa_nil))))))))))))))))), ?_⟩
    refine MB.st0 (σ := [some (.ref p), some (.ref q), none, none, none, none, none, none, none, none, none]) rfl ?_
    have hx2 : Rt 62 62 x := hx.mono (by decide) (by decide)
    have hy2 : Rt 62 62 y := hy.mono (by decide) (by decide)
    walk_at "rd"
    refine ⟨p, q, x, y, rfl, hp, hq, hx.mono (by decide) (by decide), hy2, fun r1 H1 e1 a1 => ?_⟩
    walk_at "rd"
    refine ⟨p, q, x, y, rfl, hp.same e1, hq.same e1, hx.mono (by decide) (by decide), hy2, fun r2 H2 e2 a2 => ?_⟩
    walk_at "rd"
    refine newT (by show 2 ≤ sizeLine; decide) fun t1 H3 _ e3 a3 => ?_
    have s3 := (e1.trans e2).trans e3
    walk_at "rd"
    refine ⟨p, q, x, y, rfl, hp.same s3, hq.same s3, hx2, hy2, fun r3 H4 e4 a4 => ?_⟩
    walk_at "rd"
    refine ⟨p, q, x, y, rfl, hp.same (s3.trans e4), hq.same (s3.trans e4), hx2, hy2, fun r4 H5 e5 a5 => ?_⟩
    walk_at "rd"
    refine newT (by show 2 ≤ sizeLine; decide) fun t2 H6 _ e6 a6 => ?_
    have s6 := ((s3.trans e4).trans e5).trans e6
    walk_at "rd"
    refine ⟨p, q, x, y, rfl, hp.same s6, hq.same s6, hx2, hy2, fun r5 H7 e7 a7 => ?_⟩
    walk_at "rd"
    refine ⟨p, q, x, y, rfl, hp.same (s6.trans e7), hq.same (s6.trans e7), hx2, hy2, fun r6 H8 e8 a8 => ?_⟩
    walk_at "rd"
    refine newT (by show 2 ≤ sizeLine; decide) fun t3 H9 _ e9 a9 => ?_
    walk_at "rd"
    refine newL (by show 3 ≤ sizeLine; decide) fun L HA _ eA aA => ?_
    have sA := ((s6.trans e7).trans e8).trans (e9.trans eA)
    have f3 : L2.Same H3 HA := (e4.trans e5).trans ((e6.trans e7).trans (e8.trans (e9.trans eA)))
    have f6 : L2.Same H6 HA := (e7.trans e8).trans (e9.trans eA)
    have f9 : L2.Same H9 HA := eA
    have items : ∀ (i : Nat) (y : V), ([V.ref t1, V.ref t2, V.ref t3] : List V)[i]? = some y → ∃ t r r' z, y = V.ref t ∧ SqT K HA t [V.ref r, V.ref r'] ∧ RatAt K HA r z ∧ RatAt K HA r' z := fun i y hy => by
      match i, hy with
      | 0, h => exact ⟨t1, r1, r2, _, (Option.some.inj h).symm, SqT.of (f3 _ _ a3), (a1.same (e2.trans e3)).same f3, (a2.same e3).same f3⟩
      | 1, h => exact ⟨t2, r3, r4, _, (Option.some.inj h).symm, SqT.of (f6 _ _ a6), (a4.same (e5.trans e6)).same f6, (a5.same e6).same f6⟩
      | 2, h => exact ⟨t3, r5, r6, _, (Option.some.inj h).symm, SqT.of (f9 _ _ a9), (a7.same (e8.trans e9)).same f9, (a8.same e9).same f9⟩
      | i + 3, h => cases h
    walk_at "rd"
    refine ⟨_, rfl, L, rfl, ⟨_, SqL.of aA⟩, for_list (K := K) (a := L) (xs := [.ref t1, .ref t2, .ref t3]) (fun i σ H' => ∃ (u v : Option V), σ = [some (.ref p), some (.ref q), some (.ref L), u, v, none, none, none, none, none, none] ∧ L2.Same HA H')
      ⟨none, none, rfl, L2.Same.refl HA⟩ (fun i σ H' _ ⟨_, _, _, s⟩ => SqL.of (s _ _ aA)) ?_ ?_⟩
    · rintro i y σ HB hi ⟨u, v, rfl, sB⟩
      obtain ⟨t, r, r', z, rfl, ht, h1, h2⟩ := items i y hi
      have ht2 : SqT K HB t [.ref r, .ref r'] := seqT_same sB ht
      walk_at "rd"
      refine ⟨r, r', z, rfl, h1.same sB, h2.same sB, fun HC sC => ?_⟩
      walk_at "rd"
      exact ⟨_, _, rfl, sB.trans sC⟩
    · rintro σ HB ⟨u, v, rfl, sB⟩
      have sB0 := sA.trans sB
      have hpB := hp.same sB0
      have hqB := hq.same sB0
      have c1 : CMul x.1 y.2 := hy2.bot.mulR
      have c2 : CMul y.1 x.2 := hy2.top.mulL
      have c3 : CMul x.2 y.1 := hy2.top.mulR
      walk_at "rd"
      refine ⟨p, q, x, y, rfl, hpB, hqB, hx2, hy2, ?_⟩
      walk_at "rd"
      refine ⟨_, rfl, .inl trivial, ?_⟩
      walk_at "rd"
      refine if_nt ?_
      walk_at "rd"
      refine if_ni (fun hne => absurd (cmp_eq x y) hne) (fun _ => ?_)
      walk_at "rd"
      refine ⟨p, q, x, y, rfl, hpB, hqB, hx2, hy2, fun h0 => ?_, fun h0 r hr => ?_⟩
      · refine ⟨true, T.dm, fun _ a0 ha0 => ?_, fun q => Bool.noConfusion q⟩
        walk_at "rd"
        refine r_isX T.k1 ?_
        walk_at "rd"
        refine r_isXt T.k2 ?_
        walk_at "rd"
        refine r_isX T.k3 ?_
        walk_at "rd"
        refine if_i (fun _ => ?_) (fun hne => absurd h0 hne)
        walk_at "rd"
        exact k _ sB0
      · have sR := sB0.trans (MB.Same.upd (o := tupO (overR x y)) hr)
        have hpR := hp.same sR
        have hqR := hq.same sR
        walk_at "rd"
        refine if_i (fun hz => absurd hz h0) (fun _ => ?_)
        walk_at "rd"
        refine ⟨_, _, rfl, Int.mul_ne_zero (by have := hx.pos; omega) h0, (hx2.bot.mul hy2.top).mono (by decide), (hx2.top.mul hy2.bot).mono (by decide), fun r' HC sC aC => ?_⟩
        walk_at "rd"
        exact ⟨r, r', _, rfl, RatAt.same (SqT.of upd_same) sC, aC, fun HD sD => k _ ((sR.trans sC).trans sD)⟩
end
end K00
namespace K00
open PySem PySem.Spec PyProof.Rows L2 MB
def okMaking (K : PySem.W.Frag) (vs : List V) (H : Hp) : Prop := ∃ t b : V, vs = [t, b] ∧ Kd K H t ∧ Kd K H b ∧ (∀ i, t = .int i → Sz 62 i) ∧ (∀ i, b = .int i → Sz 62 i)
theorem who_int {x : V} (h : whoB x = true) : ∃ i, x = .int i := by
  cases x <;> first | exact ⟨_, rfl⟩ | cases h
def Exp (K : PySem.W.Frag) (H : Hp) (x : V) (b2 b3 b4 : Bool) : Prop := (Sc x ∧ b2 = false ∧ b3 = false ∧ b4 = false) ∨ (∃ p xs, x = .ref p ∧ H p = some (.lst xs) ∧ b2 = true ∧ b3 = false ∧ b4 = false) ∨
  ∃ p ys, x = .ref p ∧ SqT K H p ys ∧ (∀ y ∈ ys, Sc y) ∧ b2 = true ∧ b3 = ratB ys ∧ b4 = shareB ys
def ThingOk (K : PySem.W.Frag) (H : Hp) (y : V) : Prop := ∃ t x b2 b3 b4, y = V.ref t ∧ SqT K H t [x, .bl (whoB x), .bl b2, .bl b3, .bl b4] ∧ Exp K H x b2 b3 b4
theorem Exp.same {K : PySem.W.Frag} {H H' : Hp} {x : V} {b2 b3 b4 : Bool} (h : Exp K H x b2 b3 b4) (e : L2.Same H H') : Exp K H' x b2 b3 b4 := by
  rcases h with h | ⟨p, xs, h1, h2, h3⟩ | ⟨p, ys, h1, h2, h3⟩
  · exact .inl h
  · exact .inr (.inl ⟨p, xs, h1, e _ _ h2, h3⟩)
  · exact .inr (.inr ⟨p, ys, h1, seqT_same e h2, h3⟩)
theorem ThingOk.same {K : PySem.W.Frag} {H H' : Hp} {y : V} (h : ThingOk K H y) (e : L2.Same H H') : ThingOk K H' y := by
  obtain ⟨t, x, b2, b3, b4, h1, h2, h3⟩ := h
  exact ⟨t, x, b2, b3, b4, h1, seqT_same e h2, h3.same e⟩
def Item (K : PySem.W.Frag) (te : TE) : Prop := ∀ (σ : L2.St) (H : Hp) (Q : VK), (∀ y H', L2.Same H H' → ThingOk K H' y → Q y H') → te σ H Q
def Items (K : PySem.W.Frag) (ta : TA) (n : Nat) : Prop := ∀ (σ : L2.St) (H : Hp) (Q : List V → Hp → Prop), (∀ ys H', L2.Same H H' → (∀ y ∈ ys, ThingOk K H' y) → ys.length = n → Q ys H') → ta σ H Q
theorem Items.nil {K : PySem.W.Frag} : Items K tNil 0 := fun σ H Q k => k [] H (L2.Same.refl H) (List.forall_mem_nil _) rfl
theorem Items.cons {K : PySem.W.Frag} {te : TE} {ta : TA} {n : Nat} (h : Item K te) (r : Items K ta n) : Items K (tCons te ta) (n + 1) := fun σ H Q k =>
  r_cons (h σ H _ fun y H1 s1 o1 => r σ H1 _ fun ys H2 s2 o2 l => k (y :: ys) H2 (s1.trans s2) (fun z hz => by
    rcases List.mem_cons.mp hz with e | e
    · rw [e]; exact o1.same s2
    · exact o2 z e) (by rw [List.length_cons, l]))
theorem itemS {K : PySem.W.Frag} {x : V} (h : Sc x) : Item K (tTup (tCons (tC x) (tCons (tC (.bl (whoB x))) (tCons (tC (.bl false)) (tCons (tC (.bl false)) (tCons (tC (.bl false)) tNil)))))) := fun σ H Q k =>
  newT (by show 5 ≤ sizeLine; decide) fun p H' _ s e => k _ H' s ⟨p, x, false, false, false, rfl, SqT.of e, .inl ⟨h, rfl, rfl, rfl⟩⟩
theorem itemL {K : PySem.W.Frag} {ys : List V} {tys : TA} (h : ∀ (σ : L2.St) (H : Hp) (Q : List V → Hp → Prop), Q ys H → tys σ H Q) (hl : ys.length ≤ sizeLine) : Item K (tTup (tCons (tLst tys) (tCons (tC (.bl false)) (tCons (tC (.bl true)) (tCons (tC (.bl false)) (tCons (tC (.bl false)) tNil)))))) := fun σ H Q k =>
  h σ H _ (show NewL ys H fun x H1 => NewT [x, .bl false, .bl true, .bl false, .bl false] H1 Q from newL hl fun q H1 _ s1 e1 => newT (by show 5 ≤ sizeLine; decide) fun p H' _ s e => k _ H' (s1.trans s) ⟨p, .ref q, true, false, false, rfl, SqT.of e, .inr (.inl ⟨q, ys, rfl, s _ _ e1, rfl, rfl, rfl⟩)⟩)
theorem itemT {K : PySem.W.Frag} {ys : List V} {tys : TA} {b3 b4 : Bool} (h : ∀ (σ : L2.St) (H : Hp) (Q : List V → Hp → Prop), Q ys H → tys σ H Q) (hl : ys.length ≤ sizeLine) (hs : ∀ y ∈ ys, Sc y) (h3 : b3 = ratB ys) (h4 : b4 = shareB ys) :
    Item K (tTup (tCons (tTup tys) (tCons (tC (.bl false)) (tCons (tC (.bl true)) (tCons (tC (.bl b3)) (tCons (tC (.bl b4)) tNil)))))) := fun σ H Q k =>
  h σ H _ (show NewT ys H fun x H1 => NewT [x, .bl false, .bl true, .bl b3, .bl b4] H1 Q from newT hl fun q H1 _ s1 e1 => newT (by show 5 ≤ sizeLine; decide) fun p H' _ s e => k _ H' (s1.trans s) ⟨p, .ref q, true, b3, b4, rfl, SqT.of e, .inr (.inr ⟨q, ys, rfl, SqT.of (s _ _ e1), hs, rfl, h3, h4⟩)⟩)
def spThings (K : PySem.W.Frag) : Sp := fun vs H Q _ => vs = [] ∧ ∀ L H' ys, L2.Same H H' → H' L = some (.lst ys) → (∀ y ∈ ys, ThingOk K H' y) → Q (.ref L) H'
section
variable {P : Program} {w : World} {K : PySem.W.Frag} {mg : Str → Option Value} {base : Heap}
theorem c_l_making_holds (T : Txt K mg) : Cal P w K mg base CX0 5 "_law_making_holds" ["_law_top", "_law_bottom_here"] [] (spTrue K (okMaking K)) := by
  have c_l_same : Cal P w K mg base CX0 3 "_law_same" ["_law_told", "_law_due"] [] (spSame K) := c_l_same T
  have c_l_whole : Cal P w K mg base CX0 1 "_law_whole" ["_law_thing"] [] (spWhole1 K) := c_l_whole T
  have c_make_ratio : Cal P w K mg base (L2.CX P w) 3 "make_ratio" ["top", "bottom"] [] (spMake K) := c_make_ratio T
  have c_l_ratio : Cal P w K mg base CX0 2 "_law_ratio" ["_law_top", "_law_bottom_here"] [] (spLowW K) := (c_l_ratio T).imp fun _ _ _ _ => lowW
  obtain ⟨fd, F⟩ := T.c.def_ 28 (d := dd_l_making_holds) rfl
  refine ⟨_, fd, [], FunD.ok (CX := CX0) F sc_l_making_holds (fun vs H Q E h => ?_) (fun cdv A outer s H vs Q E hr h => ?_), T.glo 39, F.kp, F.bindsN fun _ _ _ _ _ _ us hl => match us, hl with | [_, _], _ => rfl, .nil⟩
  · obtain ⟨⟨t, b, rfl, _⟩, _⟩ := h
    rfl
  · obtain ⟨⟨t, b, rfl, ht, hb, st, sb⟩, k⟩ := h
    refine ⟨_, PSs.nox (pss_cons (ps_set (i := 2) sc_l_making_holds.nd rfl (Or.inl rfl) pe_non)
 (pss_cons (ps_set (i := 3) sc_l_making_holds.nd rfl (Or.inl rfl) pe_non)
 (pss_cons (ps_try_as (i := 4) (Wout := fun _ _ _ _ => False) rfl rfl sc_l_making_holds.nd rfl rfl ⟨rfl, by decide, Or.inl (T.glo 48)⟩ takes0
  (fun W pn xe tk _ => by exact (pss_one (ps_set (i := 2) sc_l_making_holds.nd rfl (Or.inl rfl) (pe_calS c_make_ratio (hr.mono (by decide)) (fun σ => passAt tk σ) (pa_cons (pv 0) (pa_cons (pv 1) pa_nil))))))
  (fun a oe cls d pn hz hf => by exact (pss_one (ps_set (i := 3) sc_l_making_holds.nd rfl (Or.inl rfl) (pe_xf T.bx T.bn hz hf (pv 4))))))
 (pss_cons (ps_if (pt_not (pt_val (pe_cal c_l_whole (hr.mono (by decide)) pass0 (pa_cons (pv 0) pa_nil))))
  (pss_one (ps_ret (pe_cmpR op_eq (pv 3) pe_str (nomark _))))
  pss_nil)
 (pss_cons (ps_if (PW.pt (pw_or (pt_not (pt_val (pe_cal c_l_whole (hr.mono (by decide)) pass0 (pa_cons (pv 1) pa_nil)))) (pw_or1 (pt_cmpR op_eq (pv 1) pe_int (nomark _)))))
  (pss_one (ps_ret (pe_cmpR op_eq (pv 3) pe_str (nomark _))))
  pss_nil)
 (pss_one (ps_ret (pe_and (pe_cmpR k_isN (pv 3) pe_non (nomark _)) (pe_one (pe_cal c_l_same (hr.mono (by decide)) pass0 (pa_cons (pv 2) (pa_cons (pe_cal c_l_ratio (hr.mono (by decide)) pass0 (pa_cons (pv 0) (pa_cons (pv 1) pa_nil))) pa_nil)))))))))))), ?_⟩
    refine MB.st0 (σ := [some t, some b, none, none, none]) rfl ?_
    walk_at "rd"
    refine ⟨t, b, rfl, ht, hb, fun hw d H1 s1 e1 => ?_, fun hw hb0 d H1 s1 e1 => ?_, fun i j ei ej hj => ?_⟩
    · refine ⟨true, T.bm, fun _ a0 ha0 => ?_, fun q => Bool.noConfusion q⟩
      walk_at "rd"
      refine ⟨_, rfl, rfl, rfl, d, _, _, rfl, e1, rfl, ?_⟩
      walk_at "rd"
      refine ⟨_, rfl, ht.same s1, ?_⟩
      rw [hw]
      walk_at "rd"
      rw [decide_eq_true rfl]
      exact k _ s1
    · refine ⟨true, T.bm, fun _ a0 ha0 => ?_, fun q => Bool.noConfusion q⟩
      walk_at "rd"
      refine ⟨_, rfl, rfl, rfl, d, _, _, rfl, e1, rfl, ?_⟩
      walk_at "rd"
      refine ⟨_, rfl, ht.same s1, ?_⟩
      rw [hw]
      walk_at "rd"
      refine ⟨_, rfl, hb.same s1, ?_⟩
      walk_at "rd"
      cases eb : whoB b with
      | false =>
        walk_at "rd"
        rw [decide_eq_true rfl]
        exact k _ s1
      | true =>
        obtain ⟨j, rfl⟩ := who_int eb
        walk_at "rd"
        refine if_i (fun h0 => ?_) (fun h0 => ?_)
        · walk_at "rd"
          rw [decide_eq_true rfl]
          exact k _ s1
        · rcases hb0 with h | h
          · rw [eb] at h
            cases h
          · exact absurd (V.int.inj h) h0
    · subst ei ej
      have z1 := st i rfl
      have z2 := sb j rfl
      refine ⟨z2.mono (by decide), z1.mono (by decide), fun p hp => ?_⟩
      have s1 := MB.Same.upd (o := tupO (low i j)) hp
      walk_at "rd"
      refine ⟨_, rfl, .inl trivial, ?_⟩
      walk_at "rd"
      refine if_nt ?_
      walk_at "rd"
      refine ⟨_, rfl, .inl trivial, ?_⟩
      walk_at "rd"
      refine if_nt ?_
      walk_at "rd"
      refine if_i (fun h0 => absurd h0 hj) (fun h0 => ?_)
      walk_at "rd"
      refine ⟨i, j, rfl, hj, z2.mono (by decide), z1.mono (by decide), fun p' H2 s2 a2 => ?_⟩
      walk_at "rd"
      exact ⟨p, p', _, rfl, RatAt.same (SqT.of upd_same) s2, a2, fun H3 s3 => k _ ((s1.trans s2).trans s3)⟩
theorem c_l_things (T : Txt K mg) : Cal P w K mg base CX0 1 "_law_things" [] [] (spThings K) := by
  obtain ⟨fd, F⟩ := T.c.def_ 29 (d := dd_l_things) rfl
  refine ⟨_, fd, [], FunD.ok (CX := CX0) F sc_l_things (fun vs H Q E h => ?_) (fun cdv A outer s H vs Q E hr h => ?_), T.glo 40, F.kp, F.bindsN fun _ _ _ _ _ _ us hl => match us, hl with | [], _ => rfl, .nil⟩
  · obtain ⟨rfl, _⟩ := h
    rfl
  · obtain ⟨rfl, k⟩ := h
    refine ⟨_, PSs.nox (pss_one (ps_ret (pe_lst (pa_cons (pe_tup (pa_cons pe_int (pa_cons pe_bl (pa_cons pe_bl (pa_cons pe_bl (pa_cons pe_bl pa_nil)))))) (pa_cons (pe_tup (pa_cons pe_bl (pa_cons pe_bl (pa_cons pe_bl (pa_cons pe_bl (pa_cons pe_bl pa_nil)))))) (pa_cons (pe_tup (pa_cons pe_str (pa_cons pe_bl (pa_cons pe_bl (pa_cons pe_bl (pa_cons pe_bl pa_nil)))))) (pa_cons (pe_tup (pa_cons pe_non (pa_cons pe_bl (pa_cons pe_bl (pa_cons pe_bl (pa_cons pe_bl pa_nil)))))) (pa_cons (pe_tup (pa_cons (pe_lst (pa_cons pe_int (pa_cons pe_int pa_nil))) (pa_cons pe_bl (pa_cons pe_bl (pa_cons pe_bl (pa_cons pe_bl pa_nil)))))) (pa_cons (pe_tup (pa_cons (pe_tup (pa_cons pe_int (pa_cons pe_int pa_nil))) (pa_cons pe_bl (pa_cons pe_bl (pa_cons pe_bl (pa_cons pe_bl pa_nil)))))) (pa_cons (pe_tup (pa_cons (pe_tup (pa_cons pe_int (pa_cons pe_int pa_nil))) (pa_cons pe_bl (pa_cons pe_bl (pa_cons pe_bl (pa_cons pe_bl pa_nil)))))) (pa_cons (pe_tup (pa_cons (pe_tup (pa_cons (pe_un un_neg pe_int) (pa_cons pe_int pa_nil))) (pa_cons pe_bl (pa_cons pe_bl (pa_cons pe_bl (pa_cons pe_bl pa_nil)))))) (pa_cons (pe_tup (pa_cons (pe_tup (pa_cons pe_int (pa_cons pe_int pa_nil))) (pa_cons pe_bl (pa_cons pe_bl (pa_cons pe_bl (pa_cons pe_bl pa_nil)))))) (pa_cons (pe_tup (pa_cons (pe_tup (pa_cons pe_int (pa_cons pe_int pa_nil))) (pa_cons pe_bl (pa_cons pe_bl (pa_cons pe_bl (pa_cons pe_bl pa_nil)))))) (pa_cons (pe_tup (pa_cons (pe_tup (pa_cons pe_int (pa_cons pe_int pa_nil))) (pa_cons pe_bl (pa_cons pe_bl (pa_cons pe_bl (pa_cons pe_bl pa_nil)))))) (pa_cons (pe_tup (pa_cons (pe_tup (pa_cons pe_int (pa_cons pe_int pa_nil))) (pa_cons pe_bl (pa_cons pe_bl (pa_cons pe_bl (pa_cons pe_bl pa_nil)))))) (pa_cons (pe_tup (pa_cons (pe_tup (pa_cons pe_int (pa_cons pe_int pa_nil))) (pa_cons pe_bl (pa_cons pe_bl (pa_cons pe_bl (pa_cons pe_bl pa_nil)))))) (pa_cons (pe_tup (pa_cons (pe_tup (pa_cons pe_int pa_nil)) (pa_cons pe_bl (pa_cons pe_bl (pa_cons pe_bl (pa_cons pe_bl pa_nil)))))) (pa_cons (pe_tup (pa_cons (pe_tup (pa_cons pe_bl (pa_cons pe_int pa_nil))) (pa_cons pe_bl (pa_cons pe_bl (pa_cons pe_bl (pa_cons pe_bl pa_nil)))))) (pa_cons (pe_tup (pa_cons (pe_tup (pa_cons pe_int (pa_cons pe_bl pa_nil))) (pa_cons pe_bl (pa_cons pe_bl (pa_cons pe_bl (pa_cons pe_bl pa_nil)))))) (pa_cons (pe_tup (pa_cons (pe_tup (pa_cons pe_int (pa_cons (pe_un un_neg pe_int) pa_nil))) (pa_cons pe_bl (pa_cons pe_bl (pa_cons pe_bl (pa_cons pe_bl pa_nil)))))) (pa_cons (pe_tup (pa_cons (pe_tup pa_nil) (pa_cons pe_bl (pa_cons pe_bl (pa_cons pe_bl (pa_cons pe_bl pa_nil)))))) pa_nil))))))))))))))))))))), ?_⟩
    refine MB.st0 (σ := []) rfl ?_
    refine r_ret (r_lst ?_)
    refine (show Items K _ 18 from ?_) _ _ _ fun ys H1 s1 o1 l1 => ?_
    · refine Items.cons ?_ (Items.cons ?_ (Items.cons ?_ (Items.cons ?_ (Items.cons ?_ (Items.cons ?_ (Items.cons ?_ (Items.cons ?_ (Items.cons ?_ (Items.cons ?_ (Items.cons ?_ (Items.cons ?_ (Items.cons ?_ (Items.cons ?_ (Items.cons ?_ (Items.cons ?_ (Items.cons ?_ (Items.cons ?_ (Items.nil))))))))))))))))))
      · exact itemS (x := .int 0) trivial
      · exact itemS (x := .bl true) trivial
      · exact itemS (x := .str "1") trivial
      · exact itemS (x := .non) trivial
      · exact itemL (ys := [.int 1, .int 2]) (fun _ _ _ q => q) (by show 2 ≤ sizeLine; decide)
      · exact itemT (ys := [.int 1, .int 2]) (fun _ _ _ q => q) (by show 2 ≤ sizeLine; decide) (by simp [Sc]) (by decide) (by decide)
      · exact itemT (ys := [.int 2, .int 4]) (fun _ _ _ q => q) (by show 2 ≤ sizeLine; decide) (by simp [Sc]) (by decide) (by decide)
      · exact itemT (ys := [.int (-1), .int 2]) (fun _ _ _ q => ⟨_, rfl, q⟩) (by show 2 ≤ sizeLine; decide) (by simp [Sc]) (by decide) (by decide)
      · exact itemT (ys := [.int 3, .int 2]) (fun _ _ _ q => q) (by show 2 ≤ sizeLine; decide) (by simp [Sc]) (by decide) (by decide)
      · exact itemT (ys := [.int 1, .int 0]) (fun _ _ _ q => q) (by show 2 ≤ sizeLine; decide) (by simp [Sc]) (by decide) (by decide)
      · exact itemT (ys := [.int 1, .int 1]) (fun _ _ _ q => q) (by show 2 ≤ sizeLine; decide) (by simp [Sc]) (by decide) (by decide)
      · exact itemT (ys := [.int 0, .int 1]) (fun _ _ _ q => q) (by show 2 ≤ sizeLine; decide) (by simp [Sc]) (by decide) (by decide)
      · exact itemT (ys := [.int 0, .int 2]) (fun _ _ _ q => q) (by show 2 ≤ sizeLine; decide) (by simp [Sc]) (by decide) (by decide)
      · exact itemT (ys := [.int 1]) (fun _ _ _ q => q) (by show 1 ≤ sizeLine; decide) (by simp [Sc]) (by decide) (by decide)
      · exact itemT (ys := [.bl true, .int 2]) (fun _ _ _ q => q) (by show 2 ≤ sizeLine; decide) (by simp [Sc]) (by decide) (by decide)
      · exact itemT (ys := [.int 1, .bl true]) (fun _ _ _ q => q) (by show 2 ≤ sizeLine; decide) (by simp [Sc]) (by decide) (by decide)
      · exact itemT (ys := [.int 1, .int (-2)]) (fun _ _ _ q => ⟨_, rfl, q⟩) (by show 2 ≤ sizeLine; decide) (by simp [Sc]) (by decide) (by decide)
      · exact itemT (ys := []) (fun _ _ _ q => q) (by show 0 ≤ sizeLine; decide) (by simp) (by decide) (by decide)
    · exact newL (line63 (by omega)) fun L H2 _ s2 e2 => k L H2 ys (s1.trans s2) e2 fun y hy => (o1 y hy).same s2
theorem c_l_things_hold (T : Txt K mg) : Cal P w K mg base CX0 4 "_law_things_hold" [] [] (spTrue K fun vs _ => vs = []) := by
  have c_l_things : Cal P w K mg base CX0 1 "_law_things" [] [] (spThings K) := c_l_things T
  have c_l_truth : Cal P w K mg base CX0 1 "_law_truth" ["_law_told", "_law_due"] [] spTruth := c_l_truth T
  have c_is_whole1 : Cal P w K mg base CX0 1 "is_whole" ["thing", "low", "high"] [.non, .non] (spIsWhole K) := c_is_whole1 T
  have c_is_sequence : Cal P w K mg base CX0 1 "is_sequence" ["thing"] [] (fun vs H Q _ => ∃ x : V, vs = [x] ∧ ((Sc x ∧ ∀ H', L2.Same H H' → Q (.bl false) H') ∨ ((∃ p xs, x = .ref p ∧ (H p = some (.lst xs) ∨ SqT K H p xs)) ∧ ∀ H', L2.Same H H' → Q (.bl true) H'))) := c_is_sequence T
  have c_is_ratio : Cal P w K mg base CX0 2 "is_ratio" ["thing"] [] (spJudge K ratB) := c_is_ratio T
  have c_is_share : Cal P w K mg base CX0 3 "is_share" ["thing"] [] (spJudge K shareB) := c_is_share T
  obtain ⟨fd, F⟩ := T.c.def_ 30 (d := dd_l_things_hold) rfl
  refine ⟨_, fd, [], FunD.ok (CX := CX0) F sc_l_things_hold (fun vs H Q E h => ?_) (fun cdv A outer s H vs Q E hr h => ?_), T.glo 41, F.kp, F.bindsN fun _ _ _ _ _ _ us hl => match us, hl with | [], _ => rfl, .nil⟩
  · obtain ⟨rfl, _⟩ := h
    rfl
  · obtain ⟨rfl, k⟩ := h
    refine ⟨_, PSs.nox (pss_cons (ps_for PassesOwn.never rfl (pi_list (pe_cal0 c_l_things (hr.mono (by decide)) pass0)) (pg_tup rfl (pgs_cons (pg_name (i := 0) sc_l_things_hold.nd rfl (Or.inl rfl)) (pgs_cons (pg_name (i := 1) sc_l_things_hold.nd rfl (Or.inl rfl)) (pgs_cons (pg_name (i := 2) sc_l_things_hold.nd rfl (Or.inl rfl)) (pgs_cons (pg_name (i := 3) sc_l_things_hold.nd rfl (Or.inl rfl)) (pgs_cons (pg_name (i := 4) sc_l_things_hold.nd rfl (Or.inl rfl)) pgs_nil))))))
  (pss_cons (ps_if (PW.pt (pw_or (pt_not (pt_val (pe_cal c_l_truth (hr.mono (by decide)) pass0 (pa_cons (pe_cal c_is_whole1 (hr.mono (by decide)) pass0 (pa_cons (pv 0) pa_nil)) (pa_cons (pv 1) pa_nil))))) (pw_or1 (pt_not (pt_val (pe_cal c_l_truth (hr.mono (by decide)) pass0 (pa_cons (pe_cal c_is_sequence (hr.mono (by decide)) pass0 (pa_cons (pv 0) pa_nil)) (pa_cons (pv 2) pa_nil))))))))
  (pss_one (ps_ret pe_bl))
  pss_nil)
 (pss_one (ps_if (PW.pt (pw_or (pt_not (pt_val (pe_cal c_l_truth (hr.mono (by decide)) pass0 (pa_cons (pe_cal c_is_ratio (hr.mono (by decide)) pass0 (pa_cons (pv 0) pa_nil)) (pa_cons (pv 3) pa_nil))))) (pw_or1 (pt_not (pt_val (pe_cal c_l_truth (hr.mono (by decide)) pass0 (pa_cons (pe_cal c_is_share (hr.mono (by decide)) pass0 (pa_cons (pv 0) pa_nil)) (pa_cons (pv 4) pa_nil))))))))
  (pss_one (ps_ret pe_bl))
  pss_nil))))
 (pss_one (ps_ret pe_bl))), ?_⟩
    refine MB.st0 (σ := [none, none, none, none, none]) rfl ?_
    walk_at "rd"
    refine ⟨rfl, fun L H1 ys s1 eL oL => ?_⟩
    refine ⟨L, rfl, ⟨_, SqL.of eL⟩, for_list (K := K) (a := L) (xs := ys) (fun i σ H' => ∃ (a b c d e : Option V), σ = [a, b, c, d, e] ∧ L2.Same H1 H')
      ⟨none, none, none, none, none, rfl, L2.Same.refl H1⟩ (fun i σ H' _ ⟨_, _, _, _, _, _, s⟩ => SqL.of (s _ _ eL)) ?_ ?_⟩
    · rintro i y σ H2 hi ⟨a, b, c, d, e, rfl, s2⟩
      obtain ⟨t, x, b2, b3, b4, rfl, ht, hx⟩ := (oL y (mem_at hi)).same s2
      have ew : wholeB x .non .non = whoB x := by cases x <;> rfl
      have kx : Kd K H2 x := by
        rcases hx with ⟨h, _⟩ | ⟨p, xs, h, h2, _⟩ | ⟨p, ys, h, h2, _⟩
        · exact .inl h
        · exact .inr (.inl ⟨p, xs, h, h2⟩)
        · exact .inr (.inr ⟨p, ys, h, h2⟩)
      walk_at "rd"
      refine ⟨x, _, _, rfl, kx, .inl rfl, .inl rfl, ?_⟩
      walk_at "rd"
      refine ⟨_, _, rfl, ew, ?_⟩
      walk_at "rd"
      rcases hx with ⟨h, rfl, rfl, rfl⟩ | ⟨p, xs, rfl, h2, rfl, rfl, rfl⟩ | ⟨p, ys, rfl, h2, hs, rfl, rfl, rfl⟩
      · refine ⟨x, rfl, .inl ⟨h, fun H3 s3 => ?_⟩⟩
        walk_at "rd"
        refine ⟨_, _, rfl, rfl, ?_⟩
        walk_at "rd"
        refine ⟨x, rfl, .inl ⟨.inl h, ?_⟩⟩
        walk_at "rd"
        refine ⟨_, _, rfl, rfl, ?_⟩
        walk_at "rd"
        refine ⟨x, rfl, .inl ⟨.inl h, ?_⟩⟩
        walk_at "rd"
        refine ⟨_, _, rfl, rfl, ?_⟩
        walk_at "rd"
        exact ⟨_, _, _, _, _, rfl, s2.trans s3⟩
      · refine ⟨_, rfl, .inr ⟨⟨p, xs, rfl, .inl h2⟩, fun H3 s3 => ?_⟩⟩
        walk_at "rd"
        refine ⟨_, _, rfl, rfl, ?_⟩
        walk_at "rd"
        refine ⟨_, rfl, .inl ⟨.inr ⟨p, xs, rfl, s3 _ _ h2⟩, ?_⟩⟩
        walk_at "rd"
        refine ⟨_, _, rfl, rfl, ?_⟩
        walk_at "rd"
        refine ⟨_, rfl, .inl ⟨.inr ⟨p, xs, rfl, s3 _ _ h2⟩, ?_⟩⟩
        walk_at "rd"
        refine ⟨_, _, rfl, rfl, ?_⟩
        walk_at "rd"
        exact ⟨_, _, _, _, _, rfl, s2.trans s3⟩
      · refine ⟨_, rfl, .inr ⟨⟨p, ys, rfl, .inr h2⟩, fun H3 s3 => ?_⟩⟩
        walk_at "rd"
        refine ⟨_, _, rfl, rfl, ?_⟩
        walk_at "rd"
        refine ⟨_, rfl, .inr ⟨p, ys, rfl, seqT_same s3 h2, hs, ?_⟩⟩
        walk_at "rd"
        refine ⟨_, _, rfl, rfl, ?_⟩
        walk_at "rd"
        refine ⟨_, rfl, .inr ⟨p, ys, rfl, seqT_same s3 h2, hs, ?_⟩⟩
        walk_at "rd"
        refine ⟨_, _, rfl, rfl, ?_⟩
        walk_at "rd"
        exact ⟨_, _, _, _, _, rfl, s2.trans s3⟩
    · rintro σ H2 ⟨a, b, c, d, e, rfl, s2⟩
      walk_at "rd"
      exact k _ (s1.trans s2)
end
end K00
namespace K00
open PySem PySem.Spec PyProof.Rows L2 MB
def okBounds (vs : List V) (_ : Hp) : Prop := ∃ n l u : Int, vs = [.int n, .int l, .int u]
section
variable {P : Program} {w : World} {K : PySem.W.Frag} {mg : Str → Option Value} {base : Heap}
theorem r_callN {σ : L2.St} {H : Hp} {Q : VK} {n m : Nat} {sp : Sp} {gV : List V → List V → List V} {E : XK} {t tk : TA} (q : t σ H fun vs H1 => tk σ H1 fun zs H2 => vs.length = n ∧ zs.length = m ∧ sp (gV vs zs) H2 Q E) : tCallN n m sp gV E t tk σ H Q := q
theorem c_l_bounds_hold (T : Txt K mg) : Cal P w K mg base CX0 2 "_law_bounds_hold" ["_law_number_here", "_law_lower", "_law_upper"] [] (spTrue K okBounds) := by
  have c_l_truth : Cal P w K mg base CX0 1 "_law_truth" ["_law_told", "_law_due"] [] spTruth := c_l_truth T
  have c_is_whole2 : Cal P w K mg base CX0 1 "is_whole" ["thing", "low", "high"] [.non] (spIsWhole K) := c_is_whole2 T
  have c_is_whole3 : Cal P w K mg base CX0 1 "is_whole" ["thing", "low", "high"] [] (spIsWhole K) := c_is_whole3 T
  obtain ⟨fK, fdK, itsK, FK, mK, kK, bK⟩ := c_is_wholeK (P := P) (w := w) (base := base) T
  obtain ⟨fd, F⟩ := T.c.def_ 31 (d := dd_l_bounds_hold) rfl
  refine ⟨_, fd, [], FunD.ok (CX := CX0) F sc_l_bounds_hold (fun vs H Q E h => ?_) (fun cdv A outer s H vs Q E hr h => ?_), T.glo 42, F.kp, F.bindsN fun _ _ _ _ _ _ us hl => match us, hl with | [_, _, _], _ => rfl, .nil⟩
  · obtain ⟨⟨n, l, u, rfl⟩, _⟩ := h
    rfl
  · obtain ⟨⟨n, l, u, rfl⟩, k⟩ := h
    refine ⟨_, PSs.nox (pss_cons (ps_if (pt_not (pt_val (pe_cal c_l_truth (hr.mono (by decide)) pass0 (pa_cons (pe_cal c_is_whole3 (hr.mono (by decide)) pass0 (pa_cons (pv 0) (pa_cons (pv 1) (pa_cons (pv 2) pa_nil)))) (pa_cons (pe_chain op_le op_le (pv 1) (pv 0) (pv 2)) pa_nil)))))
  (pss_one (ps_ret pe_bl))
  pss_nil)
 (pss_cons (ps_if (PW.pt (pw_or (pt_not (pt_val (pe_cal c_l_truth (hr.mono (by decide)) pass0 (pa_cons (pe_cal c_is_whole2 (hr.mono (by decide)) pass0 (pa_cons (pv 0) (pa_cons (pv 1) pa_nil))) (pa_cons (pe_cmpR op_le (pv 1) (pv 0) (nomark _)) pa_nil))))) (pw_or1 (pt_not (pt_val (pe_cal c_l_truth (hr.mono (by decide)) pass0 (pa_cons (pe_callN FK (hr.mono (by decide)) rfl mK kK bK pass0 (pa_cons (pv 0) pa_nil) (pk_cons (pv 2) pk_nil)) (pa_cons (pe_cmpR op_le (pv 0) (pv 2) (nomark _)) pa_nil))))))))
  (pss_one (ps_ret pe_bl))
  pss_nil)
 (pss_one (ps_ret (pe_cal c_l_truth (hr.mono (by decide)) pass0 (pa_cons (pe_cal c_is_whole3 (hr.mono (by decide)) pass0 (pa_cons pe_bl (pa_cons (pv 1) (pa_cons (pv 2) pa_nil)))) (pa_cons pe_bl pa_nil))))))), ?_⟩
    refine MB.st0 (σ := [some (.int n), some (.int l), some (.int u)]) rfl ?_
    have kn : Kd K H (.int n) := .inl trivial
    have fin : ∀ {b : Bool}, b = true → Q (.bl b) H := fun {b} e => by rw [e]; exact k H (L2.Same.refl H)
    walk_at "rd"
    refine ⟨_, _, _, rfl, kn, .inr ⟨_, rfl⟩, .inr ⟨_, rfl⟩, ?_⟩
    walk_at "rd"
    have tail : ∀ {R : Prop}, R → R := fun r => r
    refine if_d (fun h1 => ?_) (fun h1 => ?_)
    all_goals
      walk_at "rd"
      refine ⟨_, _, rfl, by simp [wholeB, loB, hiB, h1], ?_⟩
      walk_at "rd"
      refine ⟨_, _, _, rfl, kn, .inr ⟨_, rfl⟩, .inl rfl, ?_⟩
      walk_at "rd"
      refine ⟨_, _, rfl, by simp [wholeB, loB, hiB, h1], ?_⟩
      walk_at "rd"
      refine r_callN ?_
      walk_at "rd"
      refine ⟨rfl, rfl, _, _, _, rfl, kn, .inl rfl, .inr ⟨_, rfl⟩, ?_⟩
      walk_at "rd"
      refine ⟨_, _, rfl, by simp [wholeB, loB, hiB], ?_⟩
      walk_at "rd"
      refine ⟨_, _, _, rfl, .inl trivial, .inr ⟨_, rfl⟩, .inr ⟨_, rfl⟩, ?_⟩
      walk_at "rd"
      refine ⟨_, _, rfl, rfl, ?_⟩
      exact k H (L2.Same.refl H)
end
end K00
namespace MB
open PySem PySem.Spec PyProof.Rows L2
def RngQ (vs : List V) (H : Hp) (R : It → Hp → Prop) : Prop := ∃ j : Int, vs = [.int j] ∧ -(2 ^ 62) ≤ j ∧ j < 2 ^ 62 ∧ R (Itr 0 j.toNat) H
theorem r_rng1 {σ : L2.St} {H : Hp} {R : It → Hp → Prop} {ta : TA} (q : ta σ H fun vs H1 => RngQ vs H1 R) : iRng1 ta σ H R := q
theorem r_for {σ : L2.St} {H : Hp} {D : Ends} {wi : TI} {g : TG} {tb : TS} (q : wi σ H fun J H1 => ∃ W : Nat → Nat → L2.St → Hp → Prop, (∃ m, W 0 m σ H1) ∧ ∀ i m σ H, W i m σ H →
  (J.stop i H ∧ D.nx σ H) ∨ (J.go i H ∧ ∃ N : L2.St → Hp → Prop, (∀ σ' H', N σ' H' → ∃ m', m' < m ∧ W (i + 1) m' σ' H') ∧ ∀ x H', J.yld i H x H' → g x σ H' fun σ2 H2 => tb { D with nx := N, ct := N, bk := D.nx } σ2 H2)) : tFor wi g tb D σ H := q
theorem at0 {x : V} {l : List V} : atI (x :: l) 0 = some x := atI_nat (j := 0) rfl
theorem at1 {x y : V} {l : List V} : atI (x :: y :: l) 1 = some y := atI_nat (j := 1) rfl
theorem ix1 {n : Nat} (h : 2 ≤ n) : ixN n 1 = some 1 := by
  unfold ixN
  rw [if_pos (by decide), if_pos (by omega)]
  rfl
theorem cut3 (xs : List V) : cutV xs none (some 3) = xs.take 3 := by
  have e : HT.sIx xs.length xs.length (some 3) = min 3 xs.length := HT.sIx_nat xs.length xs.length 3
  unfold cutV
  rw [e, HT.sIx_none, List.drop_zero, Nat.sub_zero]
  exact List.take_eq_take_iff.mpr (by omega)
theorem r_cut {t u : TS} {D : Ends} {σ : L2.St} {H : Hp} (Mid : L2.St → Hp → Prop) (h1 : t { D with nx := Mid } σ H) (h2 : ∀ σ' H', Mid σ' H' → u D σ' H') : Evl.tCut t u D σ H := ⟨Mid, h1, h2⟩
def LstQ (K : PySem.W.Frag) (x : V) (H : Hp) (R : It → Hp → Prop) : Prop := ∃ a, x = .ref a ∧ (∃ xs, SqL K H a xs) ∧ R (Itl K a) H
theorem r_iList {K : PySem.W.Frag} {σ : L2.St} {H : Hp} {R : It → Hp → Prop} {tl : TE} (q : tl σ H fun x H1 => LstQ K x H1 R) : iList K tl σ H R := q
theorem take_at {α : Type} {l : List α} {n i : Nat} {x : α} (h : (l.take n)[i]? = some x) : l[i]? = some x := by
  rw [List.getElem?_take] at h
  split at h
  · exact h
  · cases h
end MB
namespace K00
open PySem PySem.Spec PyProof.Rows L2 MB
theorem RatAt.kp {K : PySem.W.Frag} {H H' : Hp} {p l q : Addr} {x : Int × Int} (h : RatAt K H q x) (hh : HandAt H p l) (k : Kp p H H') : RatAt K H' q x := seqT_kp hh k h
structure G (K : PySem.W.Frag) (H : Hp) (p l L : Addr) (ps : List Addr) (xs : List (Int × Int)) : Prop where
  hand : HandAt H p l
  n1 : L ≠ p
  n2 : L ≠ l
  lst : H L = some (.lst (ps.map V.ref))
  rats : Rats K H ps xs
  good : ∀ x ∈ xs, Rt 62 31 x
section
variable {K : PySem.W.Frag} {H H' : Hp} {p l L q : Addr} {ps : List Addr} {xs : List (Int × Int)} {x : Int × Int}
theorem G.same (g : G K H p l L ps xs) (s : L2.Same H H') : G K H' p l L ps xs := ⟨g.hand.same s, g.n1, g.n2, s _ _ g.lst, g.rats.same s, g.good⟩
theorem G.kp (g : G K H p l L ps xs) (h : HandAt H' p l) (k : Kp p H H') : G K H' p l L ps xs := ⟨h, g.n1, g.n2, k _ _ g.n1 g.lst, ⟨g.rats.1, fun i a b c d => (g.rats.2 i a b c d).kp g.hand k⟩, g.good⟩
theorem G.app (g : G K H p l L ps xs) (h : RatAt K H q x) (hx : Rt 62 31 x) : G K (upd H L (.lst (ps.map V.ref ++ [V.ref q]))) p l L (ps ++ [q]) (xs ++ [x]) where
  hand := g.hand.write g.n1 g.n2
  n1 := g.n1
  n2 := g.n2
  lst := by rw [upd_same, List.map_append]; rfl
  rats := ⟨by rw [List.length_append, List.length_append, g.rats.1]; rfl, fun i a b h1 h2 => by
    refine seqT_write g.lst ?_
    by_cases hi : i < ps.length
    · rw [List.getElem?_append_left hi] at h1
      rw [List.getElem?_append_left (by rw [← g.rats.1]; exact hi)] at h2
      exact g.rats.2 i a b h1 h2
    · rw [List.getElem?_append_right (by omega)] at h1
      rw [List.getElem?_append_right (by rw [← g.rats.1]; omega), ← g.rats.1] at h2
      cases e : i - ps.length with
      | zero =>
        rw [e] at h1 h2
        cases h1
        cases h2
        exact h
      | succ n =>
        rw [e] at h1
        cases h1⟩
  good := fun y hy => by
    rcases List.mem_append.mp hy with e | e
    · exact g.good y e
    · rw [List.mem_singleton.mp e]
      exact hx
theorem G.put (g : G K H p l L ps xs) (h : RatAt K H q x) (hx : Rt 62 31 x) : G K (upd H L (.lst ((ps.map V.ref).set 1 (V.ref q)))) p l L (ps.set 1 q) (xs.set 1 x) where
  hand := g.hand.write g.n1 g.n2
  n1 := g.n1
  n2 := g.n2
  lst := by rw [upd_same, List.map_set]
  rats := ⟨by rw [List.length_set, List.length_set, g.rats.1], fun i a b h1 h2 => by
    refine seqT_write g.lst ?_
    rw [List.getElem?_set] at h1 h2
    by_cases e : 1 = i
    · rw [if_pos e] at h1 h2
      split at h1
      · split at h2
        · cases h1
          cases h2
          exact h
        · cases h2
      · cases h1
    · rw [if_neg e] at h1 h2
      exact g.rats.2 i a b h1 h2⟩
  good := fun y hy => by
    rcases List.mem_or_eq_of_mem_set hy with e | e
    · exact g.good y e
    · rw [e]
      exact hx
end
def MkOk (K : PySem.W.Frag) (H : Hp) (x : V) : Prop := Kd K H x ∧ ∀ i, x = .int i → Sz 62 i
theorem MkOk.same {K : PySem.W.Frag} {H H' : Hp} {x : V} (h : MkOk K H x) (s : L2.Same H H') : MkOk K H' x := ⟨h.1.same s, h.2⟩
theorem mk_int {K : PySem.W.Frag} {H : Hp} {i : Int} (h : Sz 62 i) : MkOk K H (.int i) := ⟨.inl trivial, fun j e => by cases e; exact h⟩
def ItemOk (K : PySem.W.Frag) (H : Hp) (y : V) : Prop := ∃ t x z, y = V.ref t ∧ SqT K H t [x, z] ∧ MkOk K H x ∧ MkOk K H z
theorem ItemOk.same {K : PySem.W.Frag} {H H' : Hp} {y : V} (h : ItemOk K H y) (s : L2.Same H H') : ItemOk K H' y := by
  obtain ⟨t, x, z, e, a, b, c⟩ := h
  exact ⟨t, x, z, e, seqT_same s a, b.same s, c.same s⟩
def spLaw (K : PySem.W.Frag) : Sp := fun vs H Q _ => ∃ (a : Addr) (ns : List Int), vs = [.ref a] ∧ SqL K H a (ns.map V.int) ∧ ns.length ≤ 63 ∧ ∀ H', Q (.bl true) H'
section
variable {P : Program} {w : World} {K : PySem.W.Frag} {mg : Str → Option Value} {base : Heap}
theorem ok_law (T : Txt K mg) {fd : FuncData} (F : FunD K "law" "law" (defArgs s_law) (defBody s_law) (defScope s_law) [] [] (He.ga K "law") fd) : FnOk P w K mg base CX0 6 (He.ga K "law") fd ["_law_script"] (spLaw K) := by
  have c_l_hand : Cal P w K mg base CX0 1 "_law_hand" ["_law_script"] [] (spHand K) := c_l_hand T
  have c_l_draw : Cal P w K mg base CX0 2 "_law_draw" ["_law_hand_here", "_law_many"] [] spDraw := c_l_draw T
  have c_l_number : Cal P w K mg base CX0 3 "_law_number" ["_law_hand_here"] [] spNumber := c_l_number T
  have c_l_bottom : Cal P w K mg base CX0 3 "_law_bottom" ["_law_hand_here"] [] spBottom := c_l_bottom T
  have c_l_ratio : Cal P w K mg base CX0 2 "_law_ratio" ["_law_top", "_law_bottom_here"] [] (spLowW K) := (c_l_ratio T).imp fun _ _ _ _ => lowW
  have c_l_truth : Cal P w K mg base CX0 1 "_law_truth" ["_law_told", "_law_due"] [] spTruth := c_l_truth T
  have c_is_ratio : Cal P w K mg base CX0 2 "is_ratio" ["thing"] [] (spJudge K ratB) := c_is_ratio T
  have c_is_share : Cal P w K mg base CX0 3 "is_share" ["thing"] [] (spJudge K shareB) := c_is_share T
  have c_l_plus : Cal P w K mg base CX0 3 "_law_plus" ["_law_a", "_law_b"] [] (spTwoW K 330 plusR) := (c_l_plus T).imp fun _ _ _ _ => twoW
  have c_l_pair_holds : Cal P w K mg base CX0 5 "_law_pair_holds" ["_law_a", "_law_b"] [] (spTrue K (okPair K)) := c_l_pair_holds T
  have c_l_same : Cal P w K mg base CX0 3 "_law_same" ["_law_told", "_law_due"] [] (spSame K) := c_l_same T
  have c_ratio_sum : Cal P w K mg base CX0 3 "ratio_sum" ["ratios"] [] (spSum K) := c_ratio_sum T
  have c_ratio_sum0 : Cal P w K mg base CX0 3 "ratio_sum" ["ratios"] [] (fun vs H Q _ => ∃ a, vs = [.ref a] ∧ SqT K H a [] ∧ ∀ p, RatAt K H p (0, 1) → Q (.ref p) H) := c_ratio_sum0 T
  have c_common_divisor : Cal P w K mg base CX0 1 "common_divisor" ["one", "other"] [] spGcd := c_common_divisor T
  have c_l_whole : Cal P w K mg base CX0 1 "_law_whole" ["_law_thing"] [] (spWhole1 K) := c_l_whole T
  have c_l_part : Cal P w K mg base CX0 1 "_law_part" ["_law_a", "_law_b"] [] spPart := c_l_part T
  have c_l_making_holds : Cal P w K mg base CX0 5 "_law_making_holds" ["_law_top", "_law_bottom_here"] [] (spTrue K (okMaking K)) := c_l_making_holds T
  have c_make_ratio1 : Cal P w K mg base (L2.CX P w) 3 "make_ratio" ["top", "bottom"] [.int 1] (spMake K) := c_make_ratio1 T
  have c_l_things_hold : Cal P w K mg base CX0 4 "_law_things_hold" [] [] (spTrue K fun vs _ => vs = []) := c_l_things_hold T
  have c_l_bounds_hold : Cal P w K mg base CX0 2 "_law_bounds_hold" ["_law_number_here", "_law_lower", "_law_upper"] [] (spTrue K okBounds) := c_l_bounds_hold T
  refine FunD.ok (CX := CX0) F sc_law (fun vs H Q E h => ?_) (fun cdv A outer s H vs Q E hr h => ?_)
  · obtain ⟨a, ns, rfl, _⟩ := h
    rfl
  · obtain ⟨a, ns, rfl, hS, hlen, k⟩ := h
    refine ⟨_, PSs.nox (pss_cons (ps_set (i := 1) sc_law.nd rfl (Or.inl rfl) (pe_cal c_l_hand (hr.mono (by decide)) pass0 (pa_cons (pv 0) pa_nil)))
 (pss_cons (ps_set (i := 2) sc_law.nd rfl (Or.inl rfl) (pe_lst pa_nil))
 (pss_cons (ps_for PassesOwn.never rfl (pi_range1 rfl (T.free 6) (pa_cons (pe_op op_add pe_int (pe_cal c_l_draw (hr.mono (by decide)) pass0 (pa_cons (pv 1) (pa_cons pe_int pa_nil)))) pa_nil)) (pg_name (i := 3) sc_law.nd rfl (Or.inl rfl))
  (pss_one (ps_expr (pe_bm PySem.F.plainAttrs_list PySem.F.slot_list_append PySem.F.type_list_append mt_append (pv 2) (pa_cons (pe_cal c_l_ratio (hr.mono (by decide)) pass0 (pa_cons (pe_cal c_l_number (hr.mono (by decide)) pass0 (pa_cons (pv 1) pa_nil)) (pa_cons (pe_cal c_l_bottom (hr.mono (by decide)) pass0 (pa_cons (pv 1) pa_nil)) pa_nil))) pa_nil)))))
 (Evl.pss_cut (ps_if (pt_cmpR op_eq (pe_cal c_l_draw (hr.mono (by decide)) pass0 (pa_cons (pv 1) (pa_cons pe_int pa_nil))) pe_int (nomark _))
  (pss_one (ps_asg (pe_ix ix_list (pv 2) pe_int (fun _ _ => rfl)) (pg_sub (pv 2) pe_int set_list (by intros; rfl))))
  pss_nil)
 (Evl.pss_cut (ps_if (pt_cmpR op_eq (pe_cal c_l_draw (hr.mono (by decide)) pass0 (pa_cons (pv 1) (pa_cons pe_int pa_nil))) pe_int (nomark _))
  (pss_one (ps_asg (pe_tup (pa_cons pe_int (pa_cons pe_int pa_nil))) (pg_sub (pv 2) pe_int set_list (by intros; rfl))))
  pss_nil)
 (pss_cons (ps_set (i := 4) sc_law.nd rfl (Or.inl rfl) (pe_tup (pa_cons pe_int (pa_cons pe_int pa_nil))))
 (pss_cons (ps_for PassesOwn.never rfl (pi_list (pv 2)) (pg_name (i := 5) sc_law.nd rfl (Or.inl rfl))
  (pss_cons (ps_if (PW.pt (pw_or (pt_not (pt_val (pe_cal c_l_truth (hr.mono (by decide)) pass0 (pa_cons (pe_cal c_is_ratio (hr.mono (by decide)) pass0 (pa_cons (pv 5) pa_nil)) (pa_cons pe_bl pa_nil))))) (pw_or1 (pt_not (pt_val (pe_cal c_l_truth (hr.mono (by decide)) pass0 (pa_cons (pe_cal c_is_share (hr.mono (by decide)) pass0 (pa_cons (pv 5) pa_nil)) (pa_cons (pe_chain op_le op_le pe_int (pe_ix ix_tup (pv 5) pe_int (fun _ _ => rfl)) (pe_ix ix_tup (pv 5) pe_int (fun _ _ => rfl))) pa_nil))))))))
  (pss_one (ps_ret pe_bl))
  pss_nil)
 (pss_one (ps_set (i := 4) sc_law.nd rfl (Or.inl rfl) (pe_cal c_l_plus (hr.mono (by decide)) pass0 (pa_cons (pv 4) (pa_cons (pv 5) pa_nil)))))))
 (pss_cons (ps_for PassesOwn.never rfl (pi_list (pe_slice sl_list (pv 2) po_none (po_some pe_int))) (pg_name (i := 6) sc_law.nd rfl (Or.inl rfl))
  (pss_one (ps_for PassesOwn.never rfl (pi_list (pe_slice sl_list (pv 2) po_none (po_some pe_int))) (pg_name (i := 7) sc_law.nd rfl (Or.inl rfl))
  (pss_one (ps_if (pt_not (pt_val (pe_cal c_l_pair_holds (hr.mono (by decide)) pass0 (pa_cons (pv 6) (pa_cons (pv 7) pa_nil)))))
  (pss_one (ps_ret pe_bl))
  pss_nil)))))
 (pss_cons (ps_if (PW.pt (pw_or (pt_not (pt_val (pe_cal c_l_same (hr.mono (by decide)) pass0 (pa_cons (pe_cal c_ratio_sum (hr.mono (by decide)) pass0 (pa_cons (pe_callTy k_listOf rfl (T.free 9) (by decide +kernel) (pa_cons (pv 2) pa_nil)) pa_nil)) (pa_cons (pv 4) pa_nil))))) (pw_or1 (pt_not (pt_val (pe_cal c_l_same (hr.mono (by decide)) pass0 (pa_cons (pe_cal c_ratio_sum0 (hr.mono (by decide)) pass0 (pa_cons (pe_tup pa_nil) pa_nil)) (pa_cons (pe_tup (pa_cons pe_int (pa_cons pe_int pa_nil))) pa_nil))))))))
  (pss_one (ps_ret pe_bl))
  pss_nil)
 (pss_cons (ps_set (i := 6) sc_law.nd rfl (Or.inl rfl) (pe_cal c_l_number (hr.mono (by decide)) pass0 (pa_cons (pv 1) pa_nil)))
 (pss_cons (ps_set (i := 7) sc_law.nd rfl (Or.inl rfl) (pe_cal c_l_number (hr.mono (by decide)) pass0 (pa_cons (pv 1) pa_nil)))
 (pss_cons (ps_set (i := 5) sc_law.nd rfl (Or.inl rfl) (pe_cal c_common_divisor (hr.mono (by decide)) pass0 (pa_cons (pv 6) (pa_cons (pv 7) pa_nil))))
 (pss_cons (ps_if (PW.pt (pw_or (pt_not (pt_val (pe_cal c_l_whole (hr.mono (by decide)) pass0 (pa_cons (pv 5) pa_nil)))) (pw_or1 (pt_cmpR op_ne (pv 5) (pe_cal c_l_part (hr.mono (by decide)) pass0 (pa_cons (pv 6) (pa_cons (pv 7) pa_nil))) (nomark _)))))
  (pss_one (ps_ret pe_bl))
  pss_nil)
 (Evl.pss_cut (ps_set (i := 8) sc_law.nd rfl (Or.inl rfl) (pe_ix ix_tup (pe_tup (pa_cons pe_str (pa_cons pe_non (pa_cons pe_bl (pa_cons (pe_tup (pa_cons pe_int (pa_cons pe_int pa_nil))) pa_nil))))) (pe_cal c_l_draw (hr.mono (by decide)) pass0 (pa_cons (pv 1) (pa_cons pe_int pa_nil))) (fun _ _ => rfl)))
 (pss_cons (ps_for PassesOwn.never rfl (pi_list (pe_lst (pa_cons (pe_tup (pa_cons (pv 6) (pa_cons (pv 7) pa_nil))) (pa_cons (pe_tup (pa_cons (pv 6) (pa_cons pe_int pa_nil))) (pa_cons (pe_tup (pa_cons (pv 8) (pa_cons (pv 7) pa_nil))) (pa_cons (pe_tup (pa_cons (pv 6) (pa_cons (pv 8) pa_nil))) (pa_cons (pe_tup (pa_cons (pv 8) (pa_cons pe_int pa_nil))) (pa_cons (pe_tup (pa_cons (pv 7) (pa_cons (pe_un un_neg (pe_callB k_abs rfl (T.free 4) (by decide +kernel) (pa_cons (pv 6) pa_nil))) pa_nil))) pa_nil)))))))) (pg_tup rfl (pgs_cons (pg_name (i := 9) sc_law.nd rfl (Or.inl rfl)) (pgs_cons (pg_name (i := 10) sc_law.nd rfl (Or.inl rfl)) pgs_nil)))
  (pss_one (ps_if (pt_not (pt_val (pe_cal c_l_making_holds (hr.mono (by decide)) pass0 (pa_cons (pv 9) (pa_cons (pv 10) pa_nil)))))
  (pss_one (ps_ret pe_bl))
  pss_nil)))
 (pss_cons (ps_if (PW.pt (pw_or (pt_not (pt_val (pe_cal c_l_same (hr.mono (by decide)) pass0 (pa_cons (pe_cal c_make_ratio1 (hr.mono (by decide)) passL (pa_cons (pv 6) pa_nil)) (pa_cons (pe_tup (pa_cons (pv 6) (pa_cons pe_int pa_nil))) pa_nil))))) (pw_or1 (pt_cmpR (op_neD hr.units) (pe_tup (pa_cons (pe_gref rfl (T.glo 44)) (pa_cons (pe_gref rfl (T.glo 45)) (pa_cons (pe_gref rfl (T.glo 46)) pa_nil)))) (pe_tup (pa_cons (pe_tup (pa_cons pe_int (pa_cons pe_int pa_nil))) (pa_cons (pe_tup (pa_cons pe_int (pa_cons pe_int pa_nil))) (pa_cons (pe_tup (pa_cons pe_int (pa_cons pe_int pa_nil))) pa_nil)))) (nomark _)))))
  (pss_one (ps_ret pe_bl))
  pss_nil)
 (pss_one (ps_ret (pe_and (pe_cal0 c_l_things_hold (hr.mono (by decide)) pass0) (pe_one (pe_cal c_l_bounds_hold (hr.mono (by decide)) pass0 (pa_cons (pv 6) (pa_cons (pv 7) (pa_cons (pe_cal c_l_number (hr.mono (by decide)) pass0 (pa_cons (pv 1) pa_nil)) pa_nil)))))))))))))))))))))))), ?_⟩
    refine MB.st0 (σ := [some (.ref a), none, none, none, none, none, none, none, none, none, none]) rfl ?_
    walk_at "rd"
    refine ⟨a, ns, rfl, hS, hlen, fun p l H1 hh s1 => ?_⟩
    walk_at "rd"
    refine ⟨by show 0 ≤ sizeLine; decide, fun L hL => ?_⟩
    have g0 : G K (upd H1 L (.lst [])) p l L [] [] := ⟨hh.same (MB.Same.upd hL), (hh.ne1 hL).1, (hh.ne1 hL).2, upd_same, ⟨rfl, fun i a b h => by cases h⟩, List.forall_mem_nil _⟩
    walk_at "rd"
    refine r_for (r_rng1 ?_)
    walk_at "rd"
    refine ⟨p, l, 4, rfl, g0.hand, by decide, by decide, fun d H2 hd0 hd1 hh2 k2 => ?_⟩
    have g2 := g0.kp hh2 k2
    walk_at "rd"
    refine ⟨2 + d, rfl, by omega, by omega, for_range (n := (2 + d).toNat) (fun i σ H' => ∃ (ps : List Addr) (xs : List (Int × Int)) (u : Option V), σ = [some (.ref a), some (.ref p), some (.ref L), u, none, none, none, none, none, none, none] ∧ G K H' p l L ps xs ∧ xs.length = i)
      ⟨[], [], none, rfl, g2, rfl⟩ ?_ ?_⟩
    · rintro i σ H3 hi ⟨ps, xs, u, rfl, g3, hx⟩
      walk_at "rd"
      refine ⟨_, rfl, Or.inl ⟨rfl, _, SqL.of g3.lst⟩, ?_⟩
      walk_at "rd"
      refine ⟨p, l, rfl, g3.hand, fun t H4 hz hh4 k4 => ?_⟩
      have g4 := g3.kp hh4 k4
      walk_at "rd"
      refine ⟨p, l, rfl, g4.hand, fun b H5 hb0 hz2 hh5 k5 => ?_⟩
      have g5 := g4.kp hh5 k5
      walk_at "rd"
      refine ⟨t, b, rfl, by omega, hz2.mono (by decide), hz.mono (by decide), fun q H6 s6 a6 => ?_⟩
      have g6 := g5.same s6
      walk_at "rd"
      have hl := g6.rats.1
      refine ⟨L, _, _, rfl, rfl, g6.lst, small1000 (by rw [List.length_map]; omega), ?_⟩
      exact ⟨_, _, _, rfl, g6.app a6 (rt_low (by omega) (hz.mono (by decide)) hz2), by rw [List.length_append, hx]; rfl⟩
    · rintro σ H3 ⟨ps, xs, u, rfl, g3, hx⟩
      have hlo : 2 ≤ xs.length := by omega
      have hhi : xs.length ≤ 5 := by omega
      refine r_cut (fun σ' H' => ∃ (ps : List Addr) (xs : List (Int × Int)) (u : Option V), σ' = [some (.ref a), some (.ref p), some (.ref L), u, none, none, none, none, none, none, none] ∧ G K H' p l L ps xs ∧ 2 ≤ xs.length ∧ xs.length ≤ 5) ?_ ?_
      · have hpl := g3.rats.1
        obtain ⟨q0, q1, qs, rfl⟩ : ∃ q0 q1 qs, ps = q0 :: q1 :: qs := by
          match ps, hpl with
          | [], h => rw [← h] at hlo; exact absurd hlo (by show ¬ 2 ≤ 0; decide)
          | [_], h => rw [← h] at hlo; exact absurd hlo (by show ¬ 2 ≤ 1; decide)
          | b :: c :: r, _ => exact ⟨b, c, r, rfl⟩
        obtain ⟨x0, x1, xr, rfl⟩ : ∃ q0 q1 qs, xs = q0 :: q1 :: qs := by
          match xs, hlo with
          | b :: c :: r, _ => exact ⟨b, c, r, rfl⟩
        walk_at "rd"
        refine ⟨p, l, 5, rfl, g3.hand, by decide, by decide, fun e H4 _ _ hh4 k4 => ?_⟩
        have g4 := g3.kp hh4 k4
        walk_at "rd"
        refine if_i (fun _ => ?_) (fun _ => ?_)
        · walk_at "rd"
          refine r_ixL (SqL.of g4.lst) at0 ?_
          walk_at "rd"
          refine r_setL g4.lst (ix1 (by simp)) ?_
          exact ⟨_, _, _, rfl, g4.put (g4.rats.2 0 q0 x0 rfl rfl) (g4.good x0 (by simp)), by rw [List.length_set]; exact hlo, by rw [List.length_set]; exact hhi⟩
        · walk_at "rd"
          exact ⟨_, _, _, rfl, g4, hlo, hhi⟩
      rintro σ' H4 ⟨ps, xs, u, rfl, g4, hlo, hhi⟩
      refine r_cut (fun σ' H' => ∃ (ps : List Addr) (xs : List (Int × Int)) (u : Option V), σ' = [some (.ref a), some (.ref p), some (.ref L), u, none, none, none, none, none, none, none] ∧ G K H' p l L ps xs ∧ 2 ≤ xs.length ∧ xs.length ≤ 5) ?_ ?_
      · walk_at "rd"
        refine ⟨p, l, 5, rfl, g4.hand, by decide, by decide, fun e H5 _ _ hh5 k5 => ?_⟩
        have g5 := g4.kp hh5 k5
        walk_at "rd"
        refine if_i (fun _ => ?_) (fun _ => ?_)
        · walk_at "rd"
          refine newT (by show 2 ≤ sizeLine; decide) fun q H6 _ s6 e6 => ?_
          have g6 := g5.same s6
          have hpl := g6.rats.1
          walk_at "rd"
          refine r_setL g6.lst (ix1 (by rw [List.length_map]; omega)) ?_
          exact ⟨_, _, _, rfl, g6.put (x := (0, 1)) (SqT.of e6) (rt_zero.mono (by decide) (by decide)), by rw [List.length_set]; exact hlo, by rw [List.length_set]; exact hhi⟩
        · walk_at "rd"
          exact ⟨_, _, _, rfl, g5, hlo, hhi⟩
      rintro σ' H5 ⟨ps, xs, u, rfl, g5, hlo, hhi⟩
      have hpl := g5.rats.1
      walk_at "rd"
      refine newT (by show 2 ≤ sizeLine; decide) fun q0 H6 _ s6 e6 => ?_
      have g6 := g5.same s6
      walk_at "rd"
      refine ⟨_, rfl, L, rfl, ⟨_, SqL.of g6.lst⟩, for_list (K := K) (a := L) (xs := ps.map V.ref) (fun i σ H' => ∃ (t : Addr) (v : Option V), σ = [some (.ref a), some (.ref p), some (.ref L), u, some (.ref t), v, none, none, none, none, none] ∧ L2.Same H6 H' ∧ RatAt K H' t (sumR (xs.take i)))
        ⟨q0, none, rfl, L2.Same.refl H6, by rw [List.take_zero]; exact SqT.of e6⟩ (fun i σ H' _ ⟨_, _, _, s, _⟩ => SqL.of (s _ _ g6.lst)) ?_ ?_⟩
      · rintro i y σ H7 hi ⟨t, v, rfl, s7, a7⟩
        obtain ⟨q, hq, rfl⟩ := ref_at hi
        obtain ⟨x, hx⟩ := at_len hpl hq
        have hil := (List.getElem?_eq_some_iff.mp hx).1
        have hr := (g6.rats.2 i q x hq hx).same s7
        have hgx := g6.good x (mem_at hx)
        have er : ratB [.int x.1, .int x.2] = true := by
          show (decide (1 ≤ x.2) && decide (Nat.gcd x.1.natAbs x.2.natAbs = 1)) = true
          rw [decide_eq_true (show 1 ≤ x.2 from hgx.pos), decide_eq_true hgx.one]
          rfl
        have sc : ∀ y ∈ ([.int x.1, .int x.2] : List V), Sc y := by
          intro y hy
          rcases List.mem_cons.mp hy with e | hy
          · rw [e]; trivial
          · rw [List.mem_singleton.mp hy]; trivial
        walk_at "rd"
        refine ⟨_, rfl, .inr ⟨q, _, rfl, hr, sc, ?_⟩⟩
        walk_at "rd"
        refine ⟨_, _, rfl, er, ?_⟩
        walk_at "rd"
        refine ⟨_, rfl, .inr ⟨q, _, rfl, hr, sc, ?_⟩⟩
        have es : shareB [.int x.1, .int x.2] = (decide (0 ≤ x.1) && decide (x.1 ≤ x.2)) := by
          show (ratB [.int x.1, .int x.2] && _) = _
          rw [er, Bool.true_and]
        walk_at "rd"
        refine if_d (fun h0 => ?_) (fun h0 => ?_)
        all_goals
          walk_at "rd"
          refine ⟨_, _, rfl, by rw [es]; simp [h0], ?_⟩
          walk_at "rd"
          refine ⟨t, q, _, x, rfl, a7, hr, (rt_sum g6.good i (by omega)).mono (by omega) (by omega), hgx.mono (by decide) (by decide), fun r H8 s8 a8 => ?_⟩
          walk_at "rd"
          exact ⟨r, _, rfl, s7.trans s8, by rw [sum_more hx]; exact a8⟩
      · rintro σ H7 ⟨t, v, rfl, s7, a7⟩
        rw [List.length_map, hpl, List.take_length] at a7
        have g7 := g6.same s7
        have a8 := a7
        walk_at "rd"
        refine r_for ⟨_, rfl, 3, rfl, L, _, rfl, SqL.of g7.lst, fun S1 hS1 => ?_⟩
        have s8 := MB.Same.upd (o := .lst (cutV (ps.map V.ref) none (some 3))) hS1
        have e8 : upd H7 S1 (.lst (cutV (ps.map V.ref) none (some 3))) S1 = some (.lst (cutV (ps.map V.ref) none (some 3))) := upd_same
        generalize upd H7 S1 (.lst (cutV (ps.map V.ref) none (some 3))) = H8 at s8 e8 ⊢
        have g8 := g7.same s8
        refine ⟨S1, rfl, ⟨_, SqL.of e8⟩, for_list (K := K) (a := S1) (xs := cutV (ps.map V.ref) none (some 3)) (fun i σ H' => ∃ (v6 v7 : Option V), σ = [some (.ref a), some (.ref p), some (.ref L), u, some (.ref t), v, v6, v7, none, none, none] ∧ L2.Same H8 H')
          ⟨none, none, rfl, L2.Same.refl H8⟩ (fun i σ H' _ ⟨_, _, _, s⟩ => SqL.of (s _ _ e8)) ?_ ?_⟩
        · rintro i y σ H9 hi ⟨v6, v7, rfl, s9⟩
          rw [cut3] at hi
          obtain ⟨q, hq, rfl⟩ := ref_at (take_at hi)
          obtain ⟨x, hx⟩ := at_len hpl hq
          have g9 := g8.same s9
          walk_at "rd"
          refine r_for ⟨_, rfl, 3, rfl, L, _, rfl, SqL.of g9.lst, fun S2 hS2 => ?_⟩
          have sA := MB.Same.upd (o := .lst (cutV (ps.map V.ref) none (some 3))) hS2
          have eA : upd H9 S2 (.lst (cutV (ps.map V.ref) none (some 3))) S2 = some (.lst (cutV (ps.map V.ref) none (some 3))) := upd_same
          generalize upd H9 S2 (.lst (cutV (ps.map V.ref) none (some 3))) = HA at sA eA ⊢
          have gA := g9.same sA
          refine ⟨S2, rfl, ⟨_, SqL.of eA⟩, for_list (K := K) (a := S2) (xs := cutV (ps.map V.ref) none (some 3)) (fun i σ H' => ∃ (v7 : Option V), σ = [some (.ref a), some (.ref p), some (.ref L), u, some (.ref t), v, some (.ref q), v7, none, none, none] ∧ L2.Same HA H')
            ⟨v7, rfl, L2.Same.refl HA⟩ (fun i σ H' _ ⟨_, _, s⟩ => SqL.of (s _ _ eA)) ?_ ?_⟩
          · rintro j z σ HB hj ⟨v7, rfl, sB⟩
            rw [cut3] at hj
            obtain ⟨q', hq', rfl⟩ := ref_at (take_at hj)
            obtain ⟨x', hx'⟩ := at_len hpl hq'
            have gB := gA.same sB
            walk_at "rd"
            refine ⟨⟨q, q', x, x', rfl, gB.rats.2 i q x hq hx, gB.rats.2 j q' x' hq' hx', gB.good x (mem_at hx), gB.good x' (mem_at hx')⟩, fun HC sC => ?_⟩
            walk_at "rd"
            exact ⟨_, rfl, sB.trans sC⟩
          · rintro σ HB ⟨v7, rfl, sB⟩
            exact ⟨_, _, rfl, (s9.trans sA).trans sB⟩
        · rintro σ H9 ⟨v6, v7, rfl, s9⟩
          have g9 := g8.same s9
          have a9 := (a8.same s8).same s9
          walk_at "rd"
          refine ⟨L, _, rfl, .inl (SqL.of g9.lst), fun LC hLC => ?_⟩
          have sA := MB.Same.upd (o := .lst (ps.map V.ref)) hLC
          have gA := g9.same sA
          walk_at "rd"
          refine ⟨LC, ps, xs, rfl, SqL.of upd_same, gA.rats, hhi, gA.good, fun q HB sB aB => ?_⟩
          walk_at "rd"
          refine ⟨q, t, _, rfl, aB, (a9.same sA).same sB, fun HC sC => ?_⟩
          walk_at "rd"
          refine newT (by show 0 ≤ sizeLine; decide) fun e0 HD _ sD eD => ?_
          walk_at "rd"
          refine ⟨e0, rfl, SqT.of eD, fun q2 a2 => ?_⟩
          walk_at "rd"
          refine newT (by show 2 ≤ sizeLine; decide) fun q3 HE _ sE eE => ?_
          walk_at "rd"
          refine ⟨q2, q3, (0, 1), rfl, a2.same sE, SqT.of eE, fun HF sF => ?_⟩
          have hF := ((((gA.hand.same sB).same sC).same sD).same sE).same sF
          walk_at "rd"
          refine ⟨p, l, rfl, hF, fun A HG zA hhG kG => ?_⟩
          walk_at "rd"
          refine ⟨p, l, rfl, hhG, fun B HI zB hhI kI => ?_⟩
          walk_at "rd"
          refine ⟨A, B, rfl, ?_⟩
          walk_at "rd"
          refine ⟨_, rfl, .inl trivial, ?_⟩
          walk_at "rd"
          refine if_nt ?_
          walk_at "rd"
          refine ⟨A, B, rfl, zA.mono (by decide), zB.mono (by decide), ?_⟩
          walk_at "rd"
          refine if_ni (fun h => absurd rfl h) (fun _ => ?_)
          walk_at "rd"
          refine r_cut (fun σ' H' => ∃ odd, σ' = [some (.ref a), some (.ref p), some (.ref L), u, some (.ref t), some (.int (gd A B)), some (.int A), some (.int B), some odd, none, none] ∧ MkOk K H' odd ∧ HandAt H' p l) ?_ ?_
          · walk_at "rd"
            refine newT (by show 2 ≤ sizeLine; decide) fun q4 HJ _ sJ eJ => ?_
            walk_at "rd"
            refine newT (by show 4 ≤ sizeLine; decide) fun q5 HK _ sK eK => ?_
            have hK := (hhI.same sJ).same sK
            walk_at "rd"
            refine ⟨p, l, 4, rfl, hK, by decide, by decide, fun e HM he0 he1 hhM kM => ?_⟩
            have eM : SqT K HM q5 [.str "1", .non, .bl true, .ref q4] := seqT_kp hK kM (SqT.of eK)
            have eN : SqT K HM q4 [.int 1, .int 1] := seqT_kp hK kM (SqT.of (sK _ _ eJ))
            have hc : e = 0 ∨ e = 1 ∨ e = 2 ∨ e = 3 := by omega
            rcases hc with rfl | rfl | rfl | rfl
            · refine r_ixT eM rfl ?_
              walk_at "rd"
              exact ⟨_, rfl, ⟨.inl trivial, fun i e => by cases e⟩, hhM⟩
            · refine r_ixT eM rfl ?_
              walk_at "rd"
              exact ⟨_, rfl, ⟨.inl trivial, fun i e => by cases e⟩, hhM⟩
            · refine r_ixT eM rfl ?_
              walk_at "rd"
              exact ⟨_, rfl, ⟨.inl trivial, fun i e => by cases e⟩, hhM⟩
            · refine r_ixT eM rfl ?_
              walk_at "rd"
              exact ⟨_, rfl, ⟨.inr (.inr ⟨q4, _, rfl, eN⟩), fun i e => by cases e⟩, hhM⟩
          rintro σ' H9 ⟨odd, rfl, ho, hh9⟩
          have mA : ∀ H', MkOk K H' (.int A) := fun H' => mk_int (zA.mono (by decide))
          have mB : ∀ H', MkOk K H' (.int B) := fun H' => mk_int (zB.mono (by decide))
          have m0 : ∀ H', MkOk K H' (.int 0) := fun H' => mk_int (by show (0 : Nat) < 2 ^ 62; decide)
          have mN : ∀ H', MkOk K H' (.int (-(if A < 0 then -A else A))) := fun H' => mk_int (by
            have : (-(if A < 0 then -A else A)).natAbs = A.natAbs := by split <;> omega
            show _ < _
            rw [this]
            exact zA.mono (by decide))
          walk_at "rd"
          refine r_for (r_iList ?_)
          walk_at "rd"
          refine newT (by show 2 ≤ sizeLine; decide) fun t1 J1 _ j1 f1 => ?_
          walk_at "rd"
          refine newT (by show 2 ≤ sizeLine; decide) fun t2 J2 _ j2 f2 => ?_
          walk_at "rd"
          refine newT (by show 2 ≤ sizeLine; decide) fun t3 J3 _ j3 f3 => ?_
          walk_at "rd"
          refine newT (by show 2 ≤ sizeLine; decide) fun t4 J4 _ j4 f4 => ?_
          walk_at "rd"
          refine newT (by show 2 ≤ sizeLine; decide) fun t5 J5 _ j5 f5 => ?_
          walk_at "rd"
          refine newT (by show 2 ≤ sizeLine; decide) fun t6 J6 _ j6 f6 => ?_
          walk_at "rd"
          refine newL (by show 6 ≤ sizeLine; decide) fun LL J7 _ j7 f7 => ?_
          have w6 : L2.Same J6 J7 := j7
          have w5 := j6.trans w6
          have w4 := j5.trans w5
          have w3 := j4.trans w4
          have w2 := j3.trans w3
          have w1 := j2.trans w2
          have w0 := j1.trans w1
          have ho7 := ho.same w0
          have items : ∀ (i : Nat) (y : V), ([V.ref t1, V.ref t2, V.ref t3, V.ref t4, V.ref t5, V.ref t6] : List V)[i]? = some y → ItemOk K J7 y := fun i y hy => by
            match i, hy with
            | 0, h => exact ⟨t1, _, _, (Option.some.inj h).symm, SqT.of (w1 _ _ f1), mA _, mB _⟩
            | 1, h => exact ⟨t2, _, _, (Option.some.inj h).symm, SqT.of (w2 _ _ f2), mA _, m0 _⟩
            | 2, h => exact ⟨t3, _, _, (Option.some.inj h).symm, SqT.of (w3 _ _ f3), ho7, mB _⟩
            | 3, h => exact ⟨t4, _, _, (Option.some.inj h).symm, SqT.of (w4 _ _ f4), mA _, ho7⟩
            | 4, h => exact ⟨t5, _, _, (Option.some.inj h).symm, SqT.of (w5 _ _ f5), ho7, m0 _⟩
            | 5, h => exact ⟨t6, _, _, (Option.some.inj h).symm, SqT.of (w6 _ _ f6), mB _, mN _⟩
            | i + 6, h => cases h
          have h7 := hh9.same w0
          walk_at "rd"
          refine ⟨LL, rfl, ⟨_, SqL.of f7⟩, for_list (K := K) (a := LL) (xs := [.ref t1, .ref t2, .ref t3, .ref t4, .ref t5, .ref t6]) (fun i σ H' => ∃ (v9 vA : Option V), σ = [some (.ref a), some (.ref p), some (.ref L), u, some (.ref t), some (.int (gd A B)), some (.int A), some (.int B), some odd, v9, vA] ∧ L2.Same J7 H')
            ⟨none, none, rfl, L2.Same.refl J7⟩ (fun i σ H' _ ⟨_, _, _, s⟩ => SqL.of (s _ _ f7)) ?_ ?_⟩
          · rintro i y σ J8 hi ⟨v9, vA, rfl, j8⟩
            obtain ⟨tt, x, z, rfl, ht, hx, hz⟩ := (items i y hi).same j8
            walk_at "rd"
            refine ⟨⟨x, z, rfl, hx.1, hz.1, hx.2, hz.2⟩, fun J9 j9 => ?_⟩
            walk_at "rd"
            exact ⟨_, _, rfl, j8.trans j9⟩
          · rintro σ J8 ⟨v9, vA, rfl, j8⟩
            have h8 := h7.same j8
            walk_at "rd"
            refine ⟨.int A, .int 1, rfl, .inl trivial, .inl trivial, fun h => (by cases h), fun _ h => (by rcases h with h | h <;> cases h), fun i j ei ej hj => ?_⟩
            cases ei
            cases ej
            refine ⟨by show (1 : Nat) < 2 ^ 400; exact Nat.one_lt_two_pow (by decide), zA.mono (by decide), fun q hq => ?_⟩
            have jq := MB.Same.upd (o := tupO (low A 1)) hq
            have fq : RatAt K (upd J8 q (tupO (low A 1))) q (low A 1) := SqT.of upd_same
            generalize upd J8 q (tupO (low A 1)) = J9 at jq fq ⊢
            rw [low_one] at fq
            walk_at "rd"
            refine newT (by show 2 ≤ sizeLine; decide) fun r JA _ jA fA => ?_
            walk_at "rd"
            refine ⟨q, r, (A, 1), rfl, fq.same jA, SqT.of fA, fun JB jB => ?_⟩
            walk_at "rd"
            refine newT (by show 3 ≤ sizeLine; decide) fun y1 K1 _ k1 x1 => ?_
            walk_at "rd"
            refine newT (by show 2 ≤ sizeLine; decide) fun y2 K2 _ k2 x2 => ?_
            walk_at "rd"
            refine newT (by show 2 ≤ sizeLine; decide) fun y3 K3 _ k3 x3 => ?_
            walk_at "rd"
            refine newT (by show 2 ≤ sizeLine; decide) fun y4 K4 _ k4 x4 => ?_
            walk_at "rd"
            refine newT (by show 3 ≤ sizeLine; decide) fun y5 K5 _ k5 x5 => ?_
            have du : ∀ {q : Addr} {i j : Int}, SqT K K5 q [.int i, .int j] → Dp K K5 (.ref q) (.tuple [.int i, .int j]) := fun h => .tup h (.cons (.int _) (.cons (.int _) .nil))
            have hz := T.zero K5
            have ho := T.one K5
            have hf := T.half K5
            refine ⟨.tuple [.tuple [.int 0, .int 1], .tuple [.int 1, .int 1], .tuple [.int 1, .int 2]], .tuple [.tuple [.int 0, .int 1], .tuple [.int 1, .int 1], .tuple [.int 1, .int 2]],
              .tup (SqT.of ((((k2.trans k3).trans k4).trans k5) _ _ x1)) (.cons (du hz) (.cons (du ho) (.cons (du hf) .nil))),
              .tup (SqT.of x5) (.cons (du (SqT.of (((k3.trans k4).trans k5) _ _ x2))) (.cons (du (SqT.of ((k4.trans k5) _ _ x3))) (.cons (du (SqT.of (k5 _ _ x4))) .nil))), rfl, rfl, ?_⟩
            have eq : PyData.eqv (.tuple [.tuple [.int 0, .int 1], .tuple [.int 1, .int 1], .tuple [.int 1, .int 2]]) (.tuple [.tuple [.int 0, .int 1], .tuple [.int 1, .int 1], .tuple [.int 1, .int 2]]) = true := by simp [PyData.eqv, PyData.eqvAll]
            rw [eq]
            have hK := ((((h8.same jq).same jA).same jB).same ((((k1.trans k2).trans k3).trans k4).trans k5))
            walk_at "rd"
            refine ⟨rfl, fun K6 k6 => ?_⟩
            walk_at "rd"
            refine ⟨p, l, rfl, hK.same k6, fun N K7 zN hh7 kk7 => ?_⟩
            walk_at "rd"
            exact ⟨⟨A, B, N, rfl⟩, fun H' _ => k H'⟩
end
end K00
set_option maxHeartbeats 0
namespace K00
open PySem PySem.Spec PyProof.Rows L2 MB
theorem facts {P : Program} {w : World} {K : PySem.W.Frag} {h : Heap} {mg : Str → Option Value} {f : Addr} (X : K.In h) (GG : h.Ns mainGlobals mg) (hfa : mg ("law" : Str) = some (.ref f)) (c : He.SaysX fa fn [] [] ex w h K) :
    ∃ fd : FuncData, (∀ (s : Shared) (v : Value), BindsTo s fd ⟨[v], []⟩ [("_law_script", v)]) ∧ ∀ base : Heap, K.In base → base.Ns mainGlobals mg → FnOk P w K mg base CX0 6 f fd ["_law_script"] (spLaw K) := by
  have T : Txt K mg := ⟨⟨h, X, GG⟩, c.t.d, c.more⟩
  obtain ⟨fd, F⟩ := T.c.def_ 32 (d := dd_law) rfl
  have e := hfa.symm.trans (T.glo 43)
  cases e
  have b := FunD.bindsA (ps := ["_law_script"]) F fun _ _ _ _ _ _ us hl => match us, hl with | [_], _ => rfl
  exact ⟨fd, fun s v => b s [v] rfl, fun base _ _ => ok_law T F⟩
abbrev R : PySem.W.OpenRow := PySem.W.OpenLaw.row PySem.Challenge.rw_letbychecks_k00_whole_ratios_reckoned
def names0 : List PySem.Str := ["CodeError", "BadRatio", "DividedByNought", "ZERO", "ONE", "HALF", "is_whole", "is_sequence", "common_divisor", "is_ratio", "is_share", "lowest", "make_ratio", "ratio_plus", "ratio_minus", "ratio_times", "ratio_over", "ratio_compare", "ratio_sum", "_law_stir"]
def names1 : List PySem.Str := ["_law_hand", "_law_draw", "_law_whole", "_law_wholes", "_law_part", "_law_ratio", "_law_plus", "_law_less_by", "_law_times", "_law_truth", "_law_number", "_law_bottom", "_law_same", "_law_pair_holds", "_law_making_holds", "_law_things", "_law_things_hold", "_law_bounds_hold"]
def names : List PySem.Str := names0 ++ names1
abbrev hk : PySem.W.Hook := He.hookX 5 fa fn [] [] ex
def ob (s : PySem.W.SharedT) : He.AlX := He.obsX 5 fa fn [] [] ex (HandSHeadRun.getT s)
theorem ob_eq (s : PySem.W.SharedT) : ob s = hk.obs s.abs := He.obsX_eq (HandSHeadRun.getT_eq s)
theorem run (w : World) : HandSHeadRun.RunEqI R (PySem.W.view R.prog [0, 42]) hk ob 6000 names w := by
  unfold HandSHeadRun.RunEqI
  kernel_rfl
end K00
open PySem PySem.W PySem.Calls PyProof.Rows
theorem PySem.Challenge.cw_letbychecks_k00_whole_ratios_reckoned_holds : PySem.Challenge.rw_letbychecks_k00_whole_ratios_reckoned.Holds := by
  w_on; o_law
  refine HandSHeadRun.head_imp (r := OpenLaw.row PySem.Challenge.rw_letbychecks_k00_whole_ratios_reckoned) (q := view (OpenLaw.row PySem.Challenge.rw_letbychecks_k00_whole_ratios_reckoned).prog [0, 42]) (H := K00.hk) (ob := K00.ob) (M := 6000) (loose := K00.names)
    (d := HandSHeadRun.topDef (OpenLaw.row PySem.Challenge.rw_letbychecks_k00_whole_ratios_reckoned).prog 42) (kwd := []) K00.ob_eq K00.run
    (by kernel_rfl) (by kernel_rfl) (by kernel_rfl) (by rfl) (by first | assumption | decide +kernel) (by decide +kernel) ⟨rfl, rfl, rfl, rfl, rfl, by decide +kernel⟩ ?hw ?hc
  case hw => w_witness2
  case hc =>
    refine L2.walk_ofE (l := PySem.Challenge.rw_letbychecks_k00_whole_ratios_reckoned) (n := 63) (k := 6) (x := "_law_script") (CX := L2.CX0) rfl (by decide) (by kernel_rfl) ⟨rfl, by decide, by decide⟩ ?F (fun _ _ _ _ z => z)
    intro w mg fa h Y GG hmg0
    obtain ⟨K, KX, c⟩ := Y
    have hmg : mg ("law" : PySem.Str) = some (.ref fa) := by
      have e : (HandSHeadRun.topDef (OpenLaw.row PySem.Challenge.rw_letbychecks_k00_whole_ratios_reckoned).prog 42).name = ("law" : PySem.Str) := by kernel_rfl
      rw [← e]
      exact hmg0
    obtain ⟨fd, hb, hF⟩ := K00.facts (P := (PySem.Challenge.rw_letbychecks_k00_whole_ratios_reckoned).prog) (w := w) KX GG hmg c
    exact ⟨K, fd, K00.spLaw K, KX, hb, fun H a ns hl _ hS => ⟨a, ns, rfl, hS, hl, fun _ => rfl⟩, hF⟩
#print axioms PySem.Challenge.cw_letbychecks_k00_whole_ratios_reckoned_holds
