import PyProof.Rows.All
import Wide.All
import OpenK.AllK
import Wide.FinOn
import HandS.Base
import HandS.Call
import HandS.List
import HandS.Comp
import HandS.Iter
import HandS.Walk
import HandS.Ends
import HandS.Words
import HandS.WordsList
import HandS.WordsExc
import HandS.Exc
import HandS.ExcOwn
import HandS.ExcInit
import HandS.ExcIs
import HandS.IsInst
import HandS.Defaults
import HandS.Gcd
import HandS.Wide
import HandS.ExcField
import HandS.ExcValue
import KE.KExcIs
import PyProof.ReprRoads
import HandS.HeadEnd
import HandS.HeadHook1
import HandS.HeadHook2
import HandS.HeadHook3
import HandS.HeadHook4
import PySem.Challenge.RW_letbychecks_k82_whole_errors_side_by_sid
import KE.KStateDown
import Lean
import HandS.Head0
import HandS.Head1
import HandS.Head2
import HandS.FStrTup
set_option Elab.async false
set_option linter.all false
set_option maxRecDepth 100000
set_option maxHeartbeats 2000000
namespace MB
open PySem PySem.Spec PyProof.Rows L2
def BlQ (x : V) (H : Hp) (Q : Bool → Hp → Prop) : Prop := ∃ k, x = .bl k ∧ Q k H
def TwoQ (vs : List V) (H : Hp) (R : V → V → Hp → Prop) : Prop := ∃ v w, vs = [v, w] ∧ R v w H
def NewT (xs : List V) (H : Hp) (Q : VK) : Prop := xs.length ≤ sizeLine ∧ ∀ p, H p = none → Q (.ref p) (upd H p (.tup xs))
def NewL (xs : List V) (H : Hp) (Q : VK) : Prop := xs.length ≤ sizeLine ∧ ∀ p, H p = none → Q (.ref p) (upd H p (.lst xs))
abbrev RC := List V → Hp → VK → Prop
def rInt1 : RC := fun xs H Q => (∃ i, xs = [.int i] ∧ Q (.int i) H) ∨ ∃ k, xs = [.bl k] ∧ Q (.int (if k then 1 else 0)) H
def rAbs : RC := fun xs H Q => ∃ i, xs = [.int i] ∧ Q (.int (if i < 0 then -i else i)) H
def rLenQ (K : PySem.W.Frag) : RC := fun xs H Q => ∃ p ys, xs = [.ref p] ∧ (SqL K H p ys ∨ SqT K H p ys) ∧ Q (.int ys.length) H
def rListOf (K : PySem.W.Frag) : RC := fun xs H Q => ∃ p ys, xs = [.ref p] ∧ (SqL K H p ys ∨ SqT K H p ys) ∧ ∀ l, H l = none → Q (.ref l) (upd H l (.lst ys))
def rTupOf (K : PySem.W.Frag) : RC := fun xs H Q => ∃ p ys, xs = [.ref p] ∧ ((SqL K H p ys ∧ ∀ l, H l = none → Q (.ref l) (upd H l (.tup ys))) ∨ (SqT K H p ys ∧ Q (.ref p) H))
def rIsNo : R2 := fun x y H Q => y = .non ∧ Q (.bl (decide (x = .non))) H
def rNotNo : R2 := fun x y H Q => y = .non ∧ Q (.bl (!decide (x = .non))) H
section rules
variable {X : Cx}
theorem k_int1 : CallR X (.type "int") rInt1 := call_int1
theorem k_abs : CallR X (.builtin "abs") rAbs := call_abs
theorem k_len : CallR X (.builtin "len") (rLenQ X.K) := call_len_seq
theorem k_listOf : CallR X (.type "list") (rListOf X.K) := call_list_of
theorem k_tupOf : CallR X (.type "tuple") (rTupOf X.K) := call_tuple_of
theorem k_isN : OpR X (compareOp .Is) rIsNo := op_isN
theorem k_notN : OpR X (compareOp .IsNot) rNotNo := op_notN
end rules
section readings
variable {σ : L2.St} {H : Hp} {Q : VK} {D : Ends}
theorem r_var {i : Nat} {v : V} (h : σ[i]? = some (some v)) (q : Q v H) : tVar i σ H Q := ⟨v, h, q⟩
theorem r_c {v : V} (q : Q v H) : tC v σ H Q := q
theorem r_op {r : R2} {ta tb : TE} (q : ta σ H fun x H1 => tb σ H1 fun y H2 => r x y H2 Q) : tOp r ta tb σ H Q := q
theorem r_un {r : V → Hp → VK → Prop} {ta : TE} (q : ta σ H fun x H1 => r x H1 Q) : tUn r ta σ H Q := q
theorem r_nil {Q : List V → Hp → Prop} (q : Q [] H) : tNil σ H Q := q
theorem r_cons {Q : List V → Hp → Prop} {ta : TE} {tr : TA} (q : ta σ H fun x H1 => tr σ H1 fun xs H2 => Q (x :: xs) H2) : tCons ta tr σ H Q := q
theorem r_I {C : Int → Int → Prop} {g : Int → Int → V} {i j : Int} (c : C i j) (q : Q (g i j) H) : rI C g (.int i) (.int j) H Q := ⟨i, j, rfl, rfl, c, q⟩
theorem r_I0 {g : Int → Int → V} {i j : Int} (q : Q (g i j) H) : rI0 g (.int i) (.int j) H Q := ⟨i, j, rfl, rfl, q⟩
theorem r_U {g : Int → V} {i : Int} (q : Q (g i) H) : rU g (.int i) H Q := ⟨i, rfl, q⟩
theorem r_eq {x y : V} (s : scal x y = true) (q : Q (.bl (decide (x = y))) H) : rEq x y H Q := ⟨s, q⟩
theorem r_ne {x y : V} (s : scal x y = true) (q : Q (.bl (!decide (x = y))) H) : rNe x y H Q := ⟨s, q⟩
theorem r_seq {t u : TS} (q : t { D with nx := u D } σ H) : tSeq t u D σ H := q
theorem r_asg {te : TE} {g : TG} (q : te σ H fun x H1 => g x σ H1 D.nx) : tAsg te g D σ H := q
theorem r_name {Q : L2.St → Hp → Prop} {i : Nat} {v : V} (q : Q (σ.set i (some v)) H) : gName i v σ H Q := q
theorem r_sub {Q : L2.St → Hp → Prop} {to ti : TE} {t : TSet} {v : V} (q : to σ H fun o H1 => ti σ H1 fun i H2 => t o i v H2 fun H3 => Q σ H3) : gSub to ti t v σ H Q := q
theorem r_ret {te : TE} (q : te σ H D.rt) : tRet te D σ H := q
theorem r_next (q : D.nx σ H) : tNext D σ H := q
theorem r_break (q : D.bk σ H) : tBreak D σ H := q
theorem r_drop {te : TE} (q : te σ H fun _ H1 => D.nx σ H1) : tDrop te D σ H := q
theorem r_ifS {c : TT} {t u : TS} (q : c σ H fun b H1 => if b = true then t D σ H1 else u D σ H1) : tIfS c t u D σ H := q
theorem r_test {t : TE} {Q : Bool → Hp → Prop} (q : t σ H fun x H' => BlQ x H' Q) : tTest t σ H Q := q
theorem r_tB {t : TE} {Q : Bool → Hp → Prop} (q : t σ H fun x H' => BlQ x H' Q) : tB t σ H Q := q
theorem r_bl {b : Bool} {Q : Bool → Hp → Prop} (q : Q b H) : BlQ (.bl b) H Q := ⟨b, rfl, q⟩
theorem r_and {t u : TT} {Q : Bool → Hp → Prop} (q : t σ H fun c H1 => if c = true then u σ H1 Q else Q false H1) : tAnd t u σ H Q := q
theorem r_or {t u : TT} {Q : Bool → Hp → Prop} (q : t σ H fun c H1 => if c = true then Q true H1 else u σ H1 Q) : tOr t u σ H Q := q
theorem r_not {t : TT} {Q : Bool → Hp → Prop} (q : t σ H fun c H1 => Q (!c) H1) : tNot t σ H Q := q
theorem r_andV {ta tb : TE} (q : ta σ H fun x H1 => BlQ x H1 fun c H1 => if c = true then tb σ H1 Q else Q (.bl false) H1) : tAndV ta tb σ H Q := q
theorem r_orV {ta tb : TE} (q : ta σ H fun x H1 => BlQ x H1 fun c H1 => if c = true then Q (.bl true) H1 else tb σ H1 Q) : tOrV ta tb σ H Q := q
theorem r_notV {ta : TE} (q : ta σ H fun x H1 => BlQ x H1 fun c H1 => Q (.bl (!c)) H1) : tNotV ta σ H Q := q
theorem r_isN {ta : TE} (q : ta σ H fun x H1 => Q (.bl (decide (x = .non))) H1) : tIsN ta σ H Q := q
theorem r_notN {ta : TE} (q : ta σ H fun x H1 => Q (.bl (!decide (x = .non))) H1) : tNotN ta σ H Q := q
theorem r_tIf {t : TT} {ta tb : TE} (q : t σ H fun c H1 => if c = true then ta σ H1 Q else tb σ H1 Q) : tIf t ta tb σ H Q := q
theorem r_chain {r r' : R2} {ta tb tc : TE} (q : ta σ H fun x H1 => tb σ H1 fun y H2 => r x y H2 fun z H3 => BlQ z H3 fun k H3 => if k = true then tc σ H3 fun w' H4 => r' y w' H4 Q else Q (.bl false) H3) : tChain r r' ta tb tc σ H Q := q
theorem r_call {sp : Sp} {dvs : List V} {E : XK} {t : TA} (q : t σ H fun vs H1 => sp (vs ++ dvs) H1 Q E) : tCall sp dvs E t σ H Q := q
theorem r_CB {r : List V → Hp → VK → Prop} {t : TA} (q : t σ H fun vs H1 => r vs H1 Q) : tCB r t σ H Q := q
theorem r_tup {t : TA} (q : t σ H fun xs H1 => NewT xs H1 Q) : tTup t σ H Q := q
theorem r_lst {t : TA} (q : t σ H fun xs H1 => NewL xs H1 Q) : tLst t σ H Q := q
theorem r_par {i j : Nat} {ta : TA} (q : ta σ H fun vs H1 => TwoQ vs H1 fun v w H1 => D.nx ((σ.set i (some v)).set j (some w)) H1) : tPar i j ta D σ H := q
theorem r_two {v w : V} {R : V → V → Hp → Prop} (q : R v w H) : TwoQ [v, w] H R := ⟨v, w, rfl, q⟩
theorem r_ixL {K : PySem.W.Frag} {p : Addr} {xs : List V} {i : Int} {v : V} (s : SqL K H p xs) (a : atI xs i = some v) (q : Q v H) : rIxL K (.ref p) (.int i) H Q := ⟨p, xs, i, v, rfl, rfl, s, a, q⟩
theorem r_ixT {K : PySem.W.Frag} {p : Addr} {xs : List V} {i : Int} {v : V} (s : SqT K H p xs) (a : atI xs i = some v) (q : Q v H) : rIxT K (.ref p) (.int i) H Q := ⟨p, xs, i, v, rfl, rfl, s, a, q⟩
theorem r_setL {p : Addr} {xs : List V} {k : Int} {j : Nat} {v : V} {Q : Hp → Prop} (h : H p = some (.lst xs)) (e : ixN xs.length k = some j) (q : Q (upd H p (.lst (xs.set j v)))) : rSetL (.ref p) (.int k) v H Q := ⟨p, xs, k, j, rfl, rfl, h, e, q⟩
theorem r_lenQ {K : PySem.W.Frag} {p : Addr} {ys : List V} (s : SqL K H p ys ∨ SqT K H p ys) (q : Q (.int ys.length) H) : rLenQ K [.ref p] H Q := ⟨p, ys, rfl, s, q⟩
theorem r_isNo {x : V} (q : Q (.bl (decide (x = .non))) H) : rIsNo x .non H Q := ⟨rfl, q⟩
theorem r_notNo {x : V} (q : Q (.bl (!decide (x = .non))) H) : rNotNo x .non H Q := ⟨rfl, q⟩
theorem r_int1 {i : Int} (q : Q (.int i) H) : rInt1 [.int i] H Q := .inl ⟨i, rfl, q⟩
theorem r_int1b {b : Bool} (q : Q (.int (if b then 1 else 0)) H) : rInt1 [.bl b] H Q := .inr ⟨b, rfl, q⟩
theorem r_abs {i : Int} (q : Q (.int (if i < 0 then -i else i)) H) : rAbs [.int i] H Q := ⟨i, rfl, q⟩
theorem r_gcd {a b : Int} (q : Q (.int ((Nat.gcd a.natAbs b.natAbs : Nat) : Int)) H) : rGcd [.int a, .int b] H Q := ⟨a, b, rfl, q⟩
theorem r_yes {Q : Bool → Hp → Prop} (q : Q true H) : tYes σ H Q := q
theorem r_gtup {K : PySem.W.Frag} {n : Nat} {t : TGs} {a : Addr} {xs : List V} {Q : L2.St → Hp → Prop} (s : SqT K H a xs) (l : xs.length = n) (q : t xs σ H Q) : gTup K n t (.ref a) σ H Q := ⟨a, xs, rfl, s, l, q⟩
theorem r_gcons {t : TG} {u : TGs} {v : V} {r : List V} {Q : L2.St → Hp → Prop} (q : t v σ H fun σ' H' => u r σ' H' Q) : gCons t u (v :: r) σ H Q := ⟨v, r, rfl, q⟩
theorem r_gnil {Q : L2.St → Hp → Prop} (q : Q σ H) : gNil [] σ H Q := ⟨rfl, q⟩
end readings
theorem int_at {ns : List Int} {i : Nat} {y : V} (h : (ns.map V.int)[i]? = some y) : ∃ c, ns[i]? = some c ∧ y = .int c := by
  rw [List.getElem?_map] at h
  cases e : ns[i]? with
  | none => rw [e] at h; cases h
  | some c => rw [e] at h; exact ⟨c, rfl, (Option.some.inj h).symm⟩
theorem st0 {N : List Str} {vs : List V} {σ : L2.St} {t : TS} {D : Ends} {H : Hp} (e : start N vs = σ) (q : t D σ H) : t D (start N vs) H := by rw [e]; exact q
theorem if_d {c : Prop} [Decidable c] {A B : Prop} (h1 : c → A) (h2 : ¬ c → B) : if decide c = true then A else B := by
  by_cases h : c
  · rw [decide_eq_true h, if_pos rfl]; exact h1 h
  · rw [decide_eq_false h, if_neg Bool.false_ne_true]; exact h2 h
theorem if_nd {c : Prop} [Decidable c] {A B : Prop} (h1 : ¬ c → A) (h2 : c → B) : if (!decide c) = true then A else B := by
  by_cases h : c
  · rw [decide_eq_true h]; exact iteF (h2 h)
  · rw [decide_eq_false h]; exact iteT (h1 h)
theorem if_b {b : Bool} {A B : Prop} (h1 : b = true → A) (h2 : b = false → B) : if b = true then A else B := by
  cases b
  · exact iteF (h2 rfl)
  · exact iteT (h1 rfl)
theorem if_yes {b : Bool} {A B : Prop} (h : b = true) (h1 : A) : if b = true then A else B := by rw [if_pos h]; exact h1
theorem if_no {b : Bool} {A B : Prop} (h : b = false) (h1 : B) : if b = true then A else B := by rw [h]; exact iteF h1
section
variable {A B : Prop}
theorem if_nt (h : B) : if (!true) = true then A else B := iteF h
theorem if_nf (h : A) : if (!false) = true then A else B := iteT h
theorem if_n0 (h : A) : if decide (V.non = V.non) = true then A else B := iteT h
theorem if_n1 {i : Int} (h : B) : if decide (V.int i = V.non) = true then A else B := iteF h
theorem if_n2 {i : Bool} (h : B) : if decide (V.bl i = V.non) = true then A else B := iteF h
theorem if_n3 {i : Str} (h : B) : if decide (V.str i = V.non) = true then A else B := iteF h
theorem if_n4 {i : Addr} (h : B) : if decide (V.ref i = V.non) = true then A else B := iteF h
theorem if_m0 (h : B) : if (!decide (V.non = V.non)) = true then A else B := iteF h
theorem if_m1 {i : Int} (h : A) : if (!decide (V.int i = V.non)) = true then A else B := iteT h
theorem if_m2 {i : Bool} (h : A) : if (!decide (V.bl i = V.non)) = true then A else B := iteT h
theorem if_m3 {i : Str} (h : A) : if (!decide (V.str i = V.non)) = true then A else B := iteT h
theorem if_m4 {i : Addr} (h : A) : if (!decide (V.ref i = V.non)) = true then A else B := iteT h
theorem vd_int {i j : Int} : decide (V.int i = V.int j) = decide (i = j) := by
  by_cases h : i = j
  · rw [h, decide_eq_true rfl, decide_eq_true rfl]
  · rw [decide_eq_false h, decide_eq_false fun e => h (V.int.inj e)]
/-- two ints compared -/
theorem if_i {i j : Int} (h1 : i = j → A) (h2 : i ≠ j → B) : if decide (V.int i = V.int j) = true then A else B := by rw [vd_int]; exact if_d h1 h2
theorem if_ni {i j : Int} (h1 : i ≠ j → A) (h2 : i = j → B) : if (!decide (V.int i = V.int j)) = true then A else B := by rw [vd_int]; exact if_nd h1 h2
end
def Cal (P : Program) (w : World) (K : PySem.W.Frag) (mg : Str → Option Value) (base : Heap) (CX : CXT) (k : Nat) (x : Str) (ps : List Str) (dvs : List V) (sp : Sp) : Prop :=
  ∃ (f : Addr) (fd : FuncData) (ds : List Value), FnOk P w K mg base CX k f fd ps sp ∧ mg x = some (.ref f) ∧ PySem.W.keepIn K (.ref f) = true ∧ Binds K fd ps ds ∧ Vals dvs ds
section
variable {X : Cx} {CX : CXT} {k : Nat} {x : Str} {ps : List Str} {dvs : List V} {sp : Sp} {E : XK} {e : Expr} {es : List Expr} {t : TA} {p pos : Pos}
theorem pe_cal (h : Cal X.prog X.w X.K X.mg X.base CX k x ps dvs sp) (hr : Room k X.A) (hx : Passes CX X E) (ha : PA X (e :: es) t) (hg : Gl X x := by rfl) (hdb : (x == ("__debug__" : Str)) = false := by decide)
    (he : starEach (e :: es) X.env = (false, eval e X.env) :: starEach es X.env := by rfl) (hpl : (backTo pos (starEach es X.env)).any (·.1) = false := by rfl) : PE X (.Call (.Name x p) (e :: es) [] pos) (tCall sp dvs E t) := by
  obtain ⟨f, fd, ds, F, hm, hk, hb, hd⟩ := h
  exact pe_call F hr hg hm hk hb hd hx ha hdb he hpl
theorem pe_cal0 (h : Cal X.prog X.w X.K X.mg X.base CX k x ps dvs sp) (hr : Room k X.A) (hx : Passes CX X E) (hg : Gl X x := by rfl) (hdb : (x == ("__debug__" : Str)) = false := by decide) :
    PE X (.Call (.Name x p) [] [] pos) (tCall sp dvs E tNil) := by
  obtain ⟨f, fd, ds, F, hm, hk, hb, hd⟩ := h
  exact pe_call0 F hr hg hm hk hb hd hx hdb
end
theorem pe_ty {X : Cx} {x : Str} {pos : Pos} (n : String) (hg : Gl X x) (hm : X.mg x = none) (hv : bootBuiltins x = some (.type n)) (hn : x ≠ "__name__" := by decide) (hd : (x == ("__debug__" : Str)) = false := by decide) : PE X (.Name x pos) (tC (.ty n)) := pe_bltn hg hm hv rfl hn hd
/-- all but p stays -/
def Kp (p : Addr) (H H' : Hp) : Prop := ∀ b o, b ≠ p → H b = some o → H' b = some o
theorem Kp.refl (p : Addr) (H : Hp) : Kp p H H := fun _ _ _ h => h
theorem Kp.trans {p : Addr} {H H1 H2 : Hp} (a : Kp p H H1) (b : Kp p H1 H2) : Kp p H H2 := fun c o n h => b c o n (a c o n h)
theorem Same.kp {p : Addr} {H H1 : Hp} (a : Same H H1) : Kp p H H1 := fun c o _ h => a c o h
theorem Same.upd {H : Hp} {p : Addr} {o : HO} (n : H p = none) : Same H (upd H p o) := fun b u e => by
  rw [upd_ne (ne_of_none e n)]; exact e
def HandAt (H : Hp) (p l : Addr) : Prop := ∃ (ns : List Int) (i rest st : Int), H p = some (.lst [.ref l, .int i, .int rest, .int st]) ∧ l ≠ p ∧ H l = some (.lst (ns.map V.int)) ∧ 0 ≤ i ∧ 0 ≤ rest ∧ (∀ n ∈ ns, 0 ≤ n) ∧ ns.length ≤ 63
theorem line63 {n : Nat} (h : n ≤ 1000) : n ≤ sizeLine := by rw [sizeLine_eq]; omega
theorem HandAt.same {H H' : Hp} {p l : Addr} (h : HandAt H p l) (s : Same H H') : HandAt H' p l := by
  obtain ⟨ns, i, rest, st, a, b, c, d⟩ := h
  exact ⟨ns, i, rest, st, s _ _ a, b, s _ _ c, d⟩
/-- a write elsewhere -/
theorem HandAt.write {H : Hp} {p l L : Addr} {o : HO} (h : HandAt H p l) (n1 : L ≠ p) (n2 : L ≠ l) : HandAt (upd H L o) p l := by
  obtain ⟨ns, i, rest, st, a, b, c, d⟩ := h
  exact ⟨ns, i, rest, st, (upd_ne (Ne.symm n1)).trans a, b, (upd_ne (Ne.symm n2)).trans c, d⟩
theorem HandAt.ne1 {H : Hp} {p l q : Addr} (h : HandAt H p l) (n : H q = none) : q ≠ p ∧ q ≠ l := by
  obtain ⟨ns, i, rest, st, a, b, c, d⟩ := h
  exact ⟨Ne.symm (ne_of_none a n), Ne.symm (ne_of_none c n)⟩
theorem HandAt.lst {H : Hp} {p l : Addr} (h : HandAt H p l) : ∃ xs, H p = some (.lst xs) := by
  obtain ⟨ns, i, rest, st, a, b, c, d⟩ := h
  exact ⟨_, a⟩
theorem seqT_kp {K : PySem.W.Frag} {H H' : Hp} {p l a : Addr} {xs : List V} (h : HandAt H p l) (k : Kp p H H') (s : SqT K H a xs) : SqT K H' a xs := by
  obtain ⟨ys, e⟩ := h.lst
  rcases s with (s | ⟨o, s⟩) | s
  · exact .inl (.inl (k _ _ (ne_of s e (fun z => by cases z)) s))
  · exact .inl (.inr ⟨o, k _ _ (ne_of s e (fun z => by cases z)) s⟩)
  · exact .inr s
theorem seqT_write {K : PySem.W.Frag} {H : Hp} {L a : Addr} {xs ys zs : List V} (h : H L = some (.lst ys)) (s : SqT K H a xs) : SqT K (upd H L (.lst zs)) a xs := by
  rcases s with (s | ⟨o, s⟩) | s
  · exact .inl (.inl ((upd_ne (ne_of s h (fun z => by cases z))).trans s))
  · exact .inl (.inr ⟨o, (upd_ne (ne_of s h (fun z => by cases z))).trans s⟩)
  · exact .inr s
theorem HandAt.upd {H : Hp} {p l : Addr} {ns : List Int} {i rest st : Int} (hl : H l = some (.lst (ns.map V.int))) (ne : l ≠ p) (h0 : 0 ≤ i) (h1 : 0 ≤ rest) (h2 : ∀ n ∈ ns, 0 ≤ n) (h3 : ns.length ≤ 63) :
    HandAt (L2.upd H p (.lst [.ref l, .int i, .int rest, .int st])) p l := ⟨ns, i, rest, st, upd_same, ne, (upd_ne ne).trans hl, h0, h1, h2, h3⟩
theorem Kp.upd {H : Hp} {p : Addr} {o : HO} : Kp p H (L2.upd H p o) := fun b u n e => by rw [upd_ne n]; exact e
theorem Kp.upd' {H H1 : Hp} {p : Addr} {o : HO} (k : Kp p H H1) : Kp p H (L2.upd H1 p o) := k.trans Kp.upd
theorem ints_at {ns : List Int} {i : Int} (h0 : 0 ≤ i) (h : i < (ns.map V.int).length) : ∃ c, c ∈ ns ∧ atI (ns.map V.int) i = some (.int c) := by
  rw [List.length_map] at h
  have e : i = ((i.toNat : Nat) : Int) := by omega
  have hl : i.toNat < ns.length := by omega
  refine ⟨ns[i.toNat], List.getElem_mem hl, at_of e ?_⟩
  rw [List.getElem?_map, List.getElem?_eq_getElem hl]
  rfl
def spStir : Sp := fun vs H Q _ => ∃ n t : Int, vs = [.int n, .int t] ∧ ∀ r : Int, Q (.int r) H
def spHand (K : PySem.W.Frag) : Sp := fun vs H Q _ => ∃ (a : Addr) (ns : List Int), vs = [.ref a] ∧ SqL K H a (ns.map V.int) ∧ ns.length ≤ 63 ∧ ∀ (p l : Addr) (H' : Hp), HandAt H' p l → Same H H' → Q (.ref p) H'
def spDraw : Sp := fun vs H Q _ => ∃ (p l : Addr) (m : Int), vs = [.ref p, .int m] ∧ HandAt H p l ∧ 0 < m ∧ m < 1073741824 ∧ ∀ (d : Int) (H' : Hp), 0 ≤ d → d < m → HandAt H' p l → Kp p H H' → Q (.int d) H'
end MB
set_option maxHeartbeats 2000000
namespace MB
open PySem PySem.Spec PyProof.Rows L2
def oexB (K : PySem.W.Frag) (C : Addr) : Bool := (match K.lookup C with
  | some ⟨.type "type", _, .cls cd, sl⟩ => (match cd.mro, sl.toList with
    | .ref C' :: bm, [_, _, _, _, some (.builtin n), _] => C' == C && (n == "ValueError.__new__" && (!cd.hasDel && (cd.hasDict && PySem.HandSPX.refsVE bm)))
    | _, _ => false)
  | _ => false) && (decide (PySem.W.findIn K (.ref C) "__setattr__" = some (some (.builtin "object.__setattr__"))) && (decide (PySem.W.subIn K (.ref C) (.type "BaseException") = some true) && (decide (PySem.W.typeIn K (.ref C) = some (.type "type")) && PySem.W.keepIn K (.ref C))))
theorem ba {a b : Bool} (h : (a && b) = true) : a = true ∧ b = true := Bool.and_eq_true_iff.mp h
theorem oexB_ok {K : PySem.W.Frag} {C : Addr} (h : oexB K C = true) : OexC K C := by
  obtain ⟨q, h⟩ := ba h
  obtain ⟨h1, h⟩ := ba h
  obtain ⟨h2, h⟩ := ba h
  obtain ⟨h3, h4⟩ := ba h
  refine ⟨?_, of_decide_eq_true h1, of_decide_eq_true h2, of_decide_eq_true h3, h4⟩
  split at q
  · rename_i dd cd sl ho
    split at q
    · rename_i C' bm k0 k1 k2 k3 n k5 hm hs
      obtain ⟨a1, q⟩ := ba q
      obtain ⟨a2, q⟩ := ba q
      obtain ⟨a3, q⟩ := ba q
      obtain ⟨a4, a5⟩ := ba q
      have e1 := eq_of_beq a1
      have e2 := eq_of_beq a2
      subst e1 e2
      obtain ⟨nm, bs, mro, ns, qn, hd, sn, sub, ab, col, del⟩ := cd
      dsimp only at hm a3 a4
      have e3 : del = false := by
        cases del with
        | false => rfl
        | true => cases a3
      subst hm a4 e3
      have hsl : sl = #[k0, k1, k2, k3, some (.builtin "ValueError.__new__"), k5] := by
        obtain ⟨l⟩ := sl
        simp only at hs
        rw [hs]
      subst hsl
      exact ⟨nm, qn, ns, bs, bm, sn, sub, ab, col, dd, k0, k1, k2, k3, k5, ho, a5⟩
    · cases q
  · cases q
def excCB (K : PySem.W.Frag) (D : Addr) : Bool := decide (PySem.W.findIn K (.ref D) "__getattribute__" = some (some (.builtin "BaseException.__getattribute__"))) && (decide (PySem.W.findIn K (.ref D) "__getattr__" = some none) && (decide (PySem.W.subIn K (.ref D) (.type "BaseException") = some true) && (PySem.W.hasDictIn K D &&
  (decide (PySem.W.findIn K (.ref D) "__class__" = some (some (.builtin "object.__class__"))) && (decide (PySem.W.specialIn K (.builtin "object.__class__") "__get__" = some (some (.builtin "getset_descriptor.__get__"))) && (decide (PySem.W.takesIn K (.builtin "object.__class__") = some true) && decide (PySem.W.mroIn K D (.type "object") = some true)))))))
theorem excCB_ok {K : PySem.W.Frag} {D : Addr} (h : excCB K D = true) : ExcC K D := by
  obtain ⟨h1, h⟩ := ba h
  obtain ⟨h2, h⟩ := ba h
  obtain ⟨h3, h⟩ := ba h
  obtain ⟨h4, h⟩ := ba h
  obtain ⟨h5, h⟩ := ba h
  obtain ⟨h6, h⟩ := ba h
  obtain ⟨h7, h8⟩ := ba h
  exact ⟨of_decide_eq_true h1, of_decide_eq_true h2, of_decide_eq_true h3, h4, of_decide_eq_true h5, of_decide_eq_true h6, of_decide_eq_true h7, of_decide_eq_true h8⟩
section
variable {X : Cx} {C : Addr} {bmB : List Value} {B newId initId : String}
/-- X() -/
theorem pmk_own0 {x : Str} {p pos : Pos} (F : ExcBaseFacts B newId initId bmB) (q : PySem.W.excIn X.K C bmB newId = true) (gC : X.mg x = some (.ref C)) (kC : PySem.W.keepIn X.K (.ref C) = true) (r : Raises X (.ref C)) (hg : Gl X x)
    (hdb : (x == ("__debug__" : Str)) = false := by decide) : PMk X (.Call (.Name x p) [] [] pos) (fun _ H Q => Q (.ref C) none H) := by
  intro pins s σ H Q I h
  refine wpAny_Call_Name_kw (ld_glob I hg gC ?_ hdb)
  refine PySem.W.callWith_K0 I.kIn kC ?_
  obtain ⟨bm, N, nm, qn, bs, hdct, sn, sub, ab, col, dd, k0, k1, k2, k3, k5, mN, hC, hN, hni, T⟩ := exc_obj I.kIn q
  refine wpAny_call_exc_subT F T hC hN hni (fun h' e hm => ?_) (Nat.zero_le _)
  exact mk_of I hm r h (I.hok.gone hm.new)
end
/-- isinstance(e, c) in a suite, whatever it caught: it caught a D without fields -/
def rIsX (K : PySem.W.Frag) (D a : Addr) (cls : Value) (d : Option Addr) : List V → Hp → VK → Prop := fun xs H Q => cls = .ref D ∧ d = none ∧ rIsE K D a xs H Q
theorem call_isX {X : Cx} {a D : Addr} {cls : Value} {d : Option Addr} {oe : Obj} {pn : List (Addr × Obj)} (C : ExcC X.K D) (hz : Zc cls d oe) (hf : ∃ vs, oe.data = .fields vs) : CallR (X.suite a ((a, oe) :: pn)) (.builtin "isinstance") (rIsX X.K D a cls d) := by
  intro pins s σ H xs us Q I r h
  obtain ⟨rfl, rfl, h⟩ := h
  exact call_isE C hz hf pins s σ H xs us Q I r h
def spInit1 (C : Addr) (f : Str) : Sp := fun vs H Q _ => ∃ (a : Addr) (v : V), vs = [.ref a, v] ∧ H a = some (exo a C none) ∧ ∀ dx, H dx = none → dx ≠ a → Q .non (upd (upd H dx (exd dx [(f, v)])) a (exo a C (some dx)))
def spInit2 (C : Addr) (f g : Str) : Sp := fun vs H Q _ => ∃ (a : Addr) (v u : V), vs = [.ref a, v, u] ∧ H a = some (exo a C none) ∧ ∀ dx, H dx = none → dx ≠ a → Q .non (upd (upd (upd H dx (exd dx [(f, v)])) a (exo a C (some dx))) dx (exd dx [(g, u), (f, v)]))
/-- what an __init__ that keeps spInit1 leaves of C(e) -/
theorem mk1 {C : Addr} {f : Str} {v : V} {H : Hp} {Q : XK} (q : ∀ d H', L2.Same H H' → H' d = some (.xd [(f, v)]) → Q (.ref C) (some d) H') :
    [v].length ≤ 1000 ∧ ∀ a, H a = none → spInit1 C f (.ref a :: ([v] ++ [])) (upd H a (exo a C none))
      (fun v H2 => v = .non ∧ ∃ (d : Addr) (fs : List (Str × V)), H2 a = some (exo a C (some d)) ∧ H2 d = some (exd d fs) ∧ H d = none ∧ Q (.ref C) (some d) (upd (del H2 a) d (.xd fs))) (fun _ _ _ => False) := by
  refine ⟨by show 1 ≤ 1000; decide, fun a ha => ⟨a, v, rfl, upd_same, fun dx h1 h2 => ⟨rfl, dx, [(f, v)], upd_same, ?_, ?_, ?_⟩⟩⟩
  · rw [upd_ne h2, upd_same]
  · rw [upd_ne h2] at h1
    exact h1
  · rw [upd_ne h2] at h1
    refine q dx _ (fun b o e => ?_) upd_same
    have n1 := ne_of_none e h1
    have n2 := ne_of_none e ha
    rw [upd_ne n1, del_ne n2, upd_ne n2, upd_ne n1, upd_ne n2]
    exact e
theorem mk2 {C : Addr} {f g : Str} {v u : V} {H : Hp} {Q : XK} (q : ∀ d H', L2.Same H H' → H' d = some (.xd [(g, u), (f, v)]) → Q (.ref C) (some d) H') :
    [v, u].length ≤ 1000 ∧ ∀ a, H a = none → spInit2 C f g (.ref a :: ([v, u] ++ [])) (upd H a (exo a C none))
      (fun v H2 => v = .non ∧ ∃ (d : Addr) (fs : List (Str × V)), H2 a = some (exo a C (some d)) ∧ H2 d = some (exd d fs) ∧ H d = none ∧ Q (.ref C) (some d) (upd (del H2 a) d (.xd fs))) (fun _ _ _ => False) := by
  refine ⟨by show 2 ≤ 1000; decide, fun a ha => ⟨a, v, u, rfl, upd_same, fun dx h1 h2 => ⟨rfl, dx, [(g, u), (f, v)], ?_, upd_same, ?_, ?_⟩⟩⟩
  · rw [upd_ne (Ne.symm h2), upd_same]
  · rw [upd_ne h2] at h1
    exact h1
  · rw [upd_ne h2] at h1
    refine q dx _ (fun b o e => ?_) upd_same
    have n1 := ne_of_none e h1
    have n2 := ne_of_none e ha
    rw [upd_ne n1, del_ne n2, upd_ne n1, upd_ne n2, upd_ne n1, upd_ne n2]
    exact e
section
variable {X : Cx} {CX : CXT} {k : Nat} {x : Str} {ps : List Str} {sp : Sp} {E : L2.St → XK} {e : Expr} {es : List Expr} {t : TA} {p pos : Pos}
/-- in a try: f(e, ..), f may raise -/
theorem pe_calS (h : Cal X.prog X.w X.K X.mg X.base (L2.CX X.prog X.w) k x ps [] sp) (hr : Room k X.A) (hx : ∀ σ, PassesAt (L2.CX X.prog X.w) X σ (E σ)) (ha : PA X (e :: es) t) (hg : Gl X x := by rfl) (hdb : (x == ("__debug__" : Str)) = false := by decide)
    (he : starEach (e :: es) X.env = (false, eval e X.env) :: starEach es X.env := by rfl) (hpl : (backTo pos (starEach es X.env)).any (·.1) = false := by rfl) : PE X (.Call (.Name x p) (e :: es) [] pos) (tCallS sp E t) := by
  obtain ⟨f, fd, ds, F, hm, hk, hb, hd⟩ := h
  cases hd
  exact pe_callS F hr hg hm hk hb hx ha hdb he hpl
end
theorem r_callS {σ : L2.St} {H : Hp} {Q : VK} {sp : Sp} {E : L2.St → XK} {t : TA} (q : t σ H fun vs H1 => sp vs H1 Q (E σ)) : tCallS sp E t σ H Q := q
end MB
set_option maxHeartbeats 4000000
namespace MB
open PySem PySem.Spec PyProof.Rows L2
/-- the reading of C(e, ..) -/
def tMkV (C : Addr) (sp : Sp) (ta : TA) : TE := fun σ H Q => ta σ H fun vs H1 => vs.length ≤ 1000 ∧ ∀ a, H1 a = none → sp (.ref a :: (vs ++ [])) (upd H1 a (exo a C none)) (fun v H2 => v = .non ∧ Q (.ref a) H2) (fun _ _ _ => False)
section
variable {X : Cx} {e : Expr} {es : List Expr} {ta : TA} {p pos : Pos} {CX : CXT} {x : Str} {C fI : Addr} {k : Nat} {fd : FuncData} {ps : List Str} {sp : Sp}
theorem pe_mkv (T : OexC X.K C) (iC : PySem.W.findIn X.K (.ref C) "__init__" = some (some (.ref fI))) (tI : PySem.W.typeIn X.K (.ref fI) = some (.type "function")) (F1 : FnOk X.prog X.w X.K X.mg X.base CX k fI fd ps sp) (hr : Room (k + 1) X.A) (hb : Binds X.K fd ps [])
    (hx : Passes CX X (fun _ _ _ => False)) (hm : X.mg x = some (.ref C)) (ha : PA X (e :: es) ta) (hg : Gl X x := by rfl) (hdb : (x == ("__debug__" : Str)) = false := by decide) (he : starEach (e :: es) X.env = (false, eval e X.env) :: starEach es X.env := by rfl)
    (hpl : (backTo pos (starEach es X.env)).any (·.1) = false := by rfl) : PE X (.Call (.Name x p) (e :: es) [] pos) (tMkV C sp ta) := by
  refine ⟨fun pins s σ H Q I h => ?_⟩
  obtain ⟨nm, q, N, bs, bm, sn, sub, ab, col, dd, k0, k1, k2, k3, k5, hC, hbm⟩ := T.cls
  refine wpAny_Call_Name_kw (ld_glob I hg hm ?_ hdb)
  refine PySem.W.callWith_K (h₀ := X.base) I.ok.mod.kin T.kC (thn (ha.run pos pins s σ H _ I h) fun us s1 ⟨vs, H1, I1, r1, hz, q1⟩ => ⟨I1.kIn, ?_⟩) he hpl
  show wpAny _ _ (call (.ref C) us) _ _ _
  obtain ⟨hp, g, dr, tk, os⟩ := s1
  have hsz : hp.objs.size ≤ hp.objs.size + 1 := Nat.le_succ _
  have hq := q1 _ (I1.hok.fresh hsz)
  have hget : ((hp.push (PySem.W.kdv_tup us)).push (PySem.HandSPX.excO C hp.objs.size)).get? (hp.objs.size + 1) = some (PySem.HandSPX.excO C hp.objs.size) := by heap_get
  have I2 := I1.laid (t' := tk) (a := hp.objs.size + 1) (o := exo (hp.objs.size + 1) C none) (h' := (hp.push (PySem.W.kdv_tup us)).push (PySem.HandSPX.excO C hp.objs.size)) (fun b o e => Heap.get?_push_of_some _ (Heap.get?_push_of_some _ e)) hsz (exo_ok hget)
  have r2 : Vals (V.ref (hp.objs.size + 1) :: (vs ++ [])) (Value.ref (hp.objs.size + 1) :: (us ++ [])) := .cons rfl (r1.append .nil)
  have hl : (Value.ref (hp.objs.size + 1) :: us ++ []).length = ps.length := (F1.len _ _ _ _ hq ▸ r2.length).symm
  have hB : BindsTo ⟨(hp.push (PySem.W.kdv_tup us)).push (PySem.HandSPX.excO C hp.objs.size), g, dr, tk, os⟩ fd ⟨Value.ref (hp.objs.size + 1) :: us, []⟩ (ps.zip (Value.ref (hp.objs.size + 1) :: (us ++ []))) := hb _ (Value.ref (hp.objs.size + 1) :: us) I2.kIn hl
  have hus : us.length ≤ sizeLine := by rw [← Paired.length r1]; exact line63 hz
  refine wpAny_call (PySem.HandSPX.call_own F.excBase_ValueError (fun Y => PySem.HandSPX.refsVE_contains Y bm hbm) (I1.kIn _ _ hC) (PySem.W.looks_findIn I1.kIn iC) (fun self => PySem.W.bind_fn I1.kIn self tI) hus
    (codeAny_mono (F1.run _ X.stack _ _ ⟨Value.ref (hp.objs.size + 1) :: us, []⟩ (Value.ref (hp.objs.size + 1) :: (us ++ [])) _ _ (fun _ _ _ => False) (hr.make C us []) (I2.env0.make C us []) hB r2 hq) fun r s' hq' => ?_))
  match r, hq' with
  | .error er, hq' => exact hx pins σ _ _ er s' I2 hq'
  | .ok (.ret u), hq' =>
    obtain ⟨v, H2, J, rv, ev, q2⟩ := I2.after hq'
    subst ev
    exact ⟨rv, V.ref (hp.objs.size + 1), H2, J, rfl, q2⟩
  | .ok .next, hq' => exact hq'.elim
  | .ok .brk, hq' => exact hq'.elim
  | .ok .cont, hq' => exact hq'.elim
/-- X(), an own class without fields -/
def Mk0Q (C : Addr) (H : Hp) (Q : VK) : Prop := ∀ a, H a = none → Q (.ref a) (upd H a (ExO (.ref C) a))
def tMk0 (C : Addr) : TE := fun _ H Q => Mk0Q C H Q
theorem pe_mk0 {bmB : List Value} {B newId initId : String} (F : ExcBaseFacts B newId initId bmB) (q : PySem.W.excIn X.K C bmB newId = true) (gC : X.mg x = some (.ref C)) (kC : PySem.W.keepIn X.K (.ref C) = true) (hg : Gl X x := by rfl)
    (hdb : (x == ("__debug__" : Str)) = false := by decide) : PE X (.Call (.Name x p) [] [] pos) (tMk0 C) := by
  refine ⟨fun pins s σ H Q I h => ?_⟩
  refine wpAny_Call_Name_kw (ld_glob I hg gC ?_ hdb)
  refine PySem.W.callWith_K0 I.kIn kC ?_
  obtain ⟨bm, N, nm, qn, bs, hdct, sn, sub, ab, col, dd, k0, k1, k2, k3, k5, mN, hC, hN, hni, T⟩ := exc_obj I.kIn q
  refine wpAny_call_exc_subT F T hC hN hni (fun h' a hm => ?_) (Nat.zero_le _)
  have hn : H a = none := I.hok.gone hm.new
  obtain ⟨t, ht, _, _⟩ := hm.there
  exact ⟨.ref a, _, I.laidN hm.keeps hm.new hn (exO_ok ht ⟨rfl, rfl⟩ rfl rfl rfl (show 4 < 6 by decide)), rfl, h a hn⟩
/-- e.f of such -/
def tXat (K : PySem.W.Frag) (n : Str) (te : TE) : TE := fun σ H Q => te σ H fun x H1 => ∃ (a C dx : Addr) (fs : List (Str × V)) (v : V), x = .ref a ∧ XfC K C ∧ PySem.W.findIn K (.ref C) n = some none ∧ H1 a = some (exo a C (some dx)) ∧ H1 dx = some (exd dx fs) ∧ fs.lookup n = some v ∧ Q v H1
theorem pe_xat {te : TE} {n : Str} (he : PE X e te) (hb : attributeBase e n X.env (eval e X.env) = eval e X.env := by rfl) : PE X (.Attribute e n pos) (tXat X.K n te) := by
  refine ⟨fun pins s σ H Q I h => ?_⟩
  refine attr_of hb (thn (he.run pins s σ H _ I h) fun u s1 ⟨x, H1, I1, rx, a, C, dx, fs, v, ex, T, hno, ea, ed, l, q⟩ => ?_)
  subst ex
  obtain rfl : u = Value.ref a := rx
  obtain ⟨t1, ha⟩ := exo_at I1.hok ea
  obtain ⟨mA, hns, rel⟩ := exd_at I1.hok ed
  obtain ⟨od, ho, hl⟩ := lookIn_ns hns
  obtain ⟨u, hu, ru⟩ := RelO.some_of (v := v) (o := mA n) (l ▸ rel n)
  exact HandSPX.exc_get I1.kIn (⟨ha, rfl, rfl, ho⟩ : PySem.W.InstAt s1.heap a _ C (some od)) T.ga T.gg T.exC (PySem.W.findObj_own T.hdC hno rfl (by rw [hl, hu])) (handed_of ru) ⟨v, H1, I1.tok _, ru, q⟩
end
/-- an exception of the class at C, with fields or without -/
def ExAt (H : Hp) (a C : Addr) : Prop := H a = some (ExO (.ref C) a) ∨ ∃ dx fs, H a = some (exo a C (some dx)) ∧ H dx = some (exd dx fs)
def rIsV (K : PySem.W.Frag) : RC := fun xs H Q => ∃ (a C : Addr) (c : V) (cv : Value) (b : Bool), xs = [.ref a, c] ∧ ExAt H a C ∧ ExcC K C ∧ (∀ u, RelV c u → u = cv) ∧ PySem.W.kitOne K (.ref C) cv = some b ∧ Q (.bl b) H
open PySem.W in
theorem kit_exv {K : Frag} {x D : Addr} {ox : Obj} {od : Option Obj} (c : ExcC K D) : KitX K (.ref x) (.ref D) (fun h => InstAt h x ox D od) := by
  obtain ⟨cd, hcd, _⟩ := any_some c.hd
  have hsome : (clsIn K D).isSome = true := by rw [hcd]; rfl
  refine ⟨fun _ _ _ I => I.type, fun _ _ X _ => ?_, fun h tp dd its n sl X htp => ?_, fun X I k => ?_⟩
  · unfold clsIn at hcd
    split at hcd
    · rename_i ho
      exact fun A' Q' E' s' k q => wpAny_bind (wpAny_loadPart (k _ _ (X _ _ ho)) (wpAny_pure q))
    · cases hcd
  · refine Bool.eq_false_iff.mpr fun q => ?_
    cases Value.ref.inj (beq_iff_eq.mp q)
    unfold clsIn at hcd
    split at hcd
    · rename_i ho
      exact nomatch (X _ _ ho).symm.trans htp
    · cases hcd
  · exact kx_classE X I c.hg c.hk c.hs (findObj_dataE hsome c.ha c.hn c.ht) c.hm k
theorem call_isV {X : Cx} : CallR X (.builtin "isinstance") (rIsV X.K) := by
  intro pins s σ H xs us Q I r h
  obtain ⟨a, C, c, cv, b, rfl, hx, hC, hcv, e, q⟩ := h
  have fin : ∀ {ox : Obj} {od : Option Obj}, PySem.W.InstAt s.heap a ox C od → wpAny (model X.prog X.w) X.A (call (.builtin "isinstance") [.ref a, cv]) (EP X pins σ Q) X.xe s := fun J =>
    PySem.W.kia_one (kit_exv hC) I.kIn J e (fun z => nomatch z) fun tk => ⟨.bl b, H, I.kept (t' := tk) fun _ _ z => z, rfl, q⟩
  cases r with
  | cons rx rr =>
    cases rr with
    | cons rt rr =>
      cases rr
      cases rx
      have ec := hcv _ rt
      subst ec
      rcases hx with hx | ⟨dx, fs, ha, hd⟩
      · obtain ⟨⟨⟨oc, od, oda, osl⟩, vs, ho, hz, hv, _⟩, _, _⟩ := I.hok a _ hx
        obtain ⟨h1, h2⟩ := hz
        dsimp only at h1 h2 hv
        subst h1 h2 hv
        exact fin (od := none) ⟨ho, rfl, rfl, trivial⟩
      · obtain ⟨t1, ho⟩ := exo_at I.hok ha
        obtain ⟨mA, hns, _⟩ := exd_at I.hok hd
        obtain ⟨od, hod, _⟩ := lookIn_ns hns
        exact fin (od := some od) ⟨ho, rfl, rfl, hod⟩
def rRepr (K : PySem.W.Frag) : RC := fun xs H Q => ∃ (a : Addr) (d : PyData), xs = [.ref a] ∧ Dp K H (.ref a) d ∧ d.showable = true ∧ d.hasDict = false ∧ d.depth ≤ 60 ∧ d.shown.length ≤ sizeLine ∧ Q (.str d.shown) H
theorem call_repr {X : Cx} (hg : X.A.guards = some []) (hu : X.A.units + 64 < cLine) : CallR X (.builtin "repr") (rRepr X.K) := by
  intro pins s σ H xs us Q I r h
  obtain ⟨a, d, rfl, hd, hs, hn, hp, hz, q⟩ := h
  obtain ⟨u, rfl, r1⟩ := vals1 r
  cases r1
  obtain ⟨as, rd⟩ := Dp.reads I d _ _ hd rfl
  exact repr_of_reads' rd hs (fun z => absurd (hn.symm.trans z) Bool.false_ne_true) hg (by omega) (fun _ _ e => e) (fun h' u tk k => ⟨.str _, H, I.kept (t' := tk) k, ⟨_, rfl⟩, q⟩) hz
end MB
set_option maxHeartbeats 4000000
namespace MB
open PySem PySem.Spec PyProof.Rows L2
structure FnG (P : Program) (w : World) (K : PySem.W.Frag) (mg : Str → Option Value) (base : Heap) (CX : CXT) (k : Nat) (f : Addr) (fd : FuncData) (ps : List Str) (sp : Sp) : Prop where
  len : ∀ vs H Q E, sp vs H Q E → vs.length = ps.length
  go : ∀ (A : Around) (outer : List Env) (s : Shared) (H : Hp) (args : Args) (us : List Value) (vs : List V) (Q : VK) (E : XK), A.guards = some [] → Room k A → Env0 P w K mg base A outer s H → BindsTo s fd args (ps.zip us) → Vals vs us → sp vs H Q E → codeAny (model P w) A (.call (.ref f) args) (CR CX outer P w H s Q E) s
section
variable {P : Program} {w : World} {K : PySem.W.Frag} {mg : Str → Option Value} {base : Heap} {CX : CXT} {k : Nat} {f : Addr} {x qual : Str} {params : Arguments} {body : List Stmt} {scope : Scope} {dvs : List V} {kws : List (Str × V)} {fd : FuncData} {N ps : List Str} {sp : Sp}
theorem okG (F : FunD K x qual params body scope dvs kws f fd) (S : FnScope N ps scope) (ln : ∀ vs H Q E, sp vs H Q E → vs.length = ps.length)
    (bd : ∀ (cdv : Value) (A : Around) (outer : List Env) (s : Shared) (H : Hp) (vs : List V) (Q : VK) (E : XK), A.guards = some [] → Room k (A.deeper (envOfC qual scope s.heap.objs.size f cdv)) → sp vs H Q E →
      ∃ t, PSs (cxOf CX P w K mg base N qual scope f cdv A outer s H E) body t ∧ t { nx := fun _ H' => Q .non H', rt := Q } (start N vs) H) : FnG P w K mg base CX (k + 1) f fd ps sp := by
  obtain ⟨oc, od, dV, kV, doc, pm, an, cdv, ct, osl, rfl, lk, hcd, _, _⟩ := F.ex
  refine ⟨ln, ?_⟩
  intro A outer s H args us vs Q E hg hr e0 hb r hsp
  have hl := ln _ _ _ _ hsp; have old := fun b o e => (e0.bs b o e).1
  have KX : K.In s.heap := e0.mod.kin.keeps old; have lim : s.heap.NoLimit := e0.mod.nolimit.keeps old
  refine codeAny_call_function hr.depth (KX _ _ lk) rfl S.co S.gen rfl (PySem.W.codeRec_of KX hcd) (hb _ _ _ _ (wpAny_newFunctionEnv_cells S.kind (fun y hy => ?_) fun env he s1 z => ?_))
  · exact (S.par y.1 (List.of_mem_zip hy).1).imp id fun q => ⟨q, PySem.W.cellsFrom_some _ _ _ (.inl q)⟩
  · subst he
    refine ⟨lim.keeps z.toInCall.keep, codeAny_func ?_⟩
    obtain ⟨t, ht, hq⟩ := bd cdv A outer s H vs Q E hg (hr.deeper _) hsp
    have I := inv_start (CX := CX) (E := E) S hr.hd e0 hl r z
    refine wpAny_mono (ht.run [] s1 (start N vs) H _ I hq) (fun fl s' hs => ?_) fun _ _ hs => hs
    match fl, hs with
    | .ret u, hs =>
      obtain ⟨v, _, H', J, rv, q⟩ := hs
      exact ⟨v, H', J.os, J.bare, J.base, J.hok, rv, q⟩
    | .next, hs =>
      obtain ⟨_, H', J, q⟩ := hs
      exact ⟨.non, H', J.os, J.bare, J.base, J.hok, rfl, q⟩
    | .brk, hs => exact hs.choose_spec.choose_spec.2.elim
    | .cont, hs => exact hs.choose_spec.choose_spec.2.elim
end
/-- a def of the text, called by its name, where no guard is up -/
def CalG (P : Program) (w : World) (K : PySem.W.Frag) (mg : Str → Option Value) (base : Heap) (CX : CXT) (k : Nat) (x : Str) (ps : List Str) (sp : Sp) : Prop :=
  ∃ (f : Addr) (fd : FuncData), FnG P w K mg base CX k f fd ps sp ∧ mg x = some (.ref f) ∧ PySem.W.keepIn K (.ref f) = true ∧ Binds K fd ps []
section
variable {X : Cx} {CX : CXT} {k : Nat} {x : Str} {ps : List Str} {sp : Sp} {E : XK} {e : Expr} {es : List Expr} {t : TA} {p pos : Pos}
theorem pe_calG (h : CalG X.prog X.w X.K X.mg X.base CX k x ps sp) (gd : X.A.guards = some []) (hr : Room k X.A) (hx : Passes CX X E) (ha : PA X (e :: es) t) (hg : Gl X x := by rfl) (hdb : (x == ("__debug__" : Str)) = false := by decide)
    (he : starEach (e :: es) X.env = (false, eval e X.env) :: starEach es X.env := by rfl) (hpl : (backTo pos (starEach es X.env)).any (·.1) = false := by rfl) : PE X (.Call (.Name x p) (e :: es) [] pos) (tCall sp [] E t) := by
  obtain ⟨f, fd, F, hm, hk, hb⟩ := h
  refine ⟨fun pins s σ H Q I h => wpAny_Call_Name_kw (ld_glob I hg hm ?_ hdb)⟩
  refine PySem.W.callWith_K (h₀ := X.base) I.ok.mod.kin hk (thn (ha.run pos pins s σ H _ I h) fun us s1 ⟨vs, H1, I1, r, q⟩ => ⟨I1.kIn, ?_⟩) he hpl
  have hl : (us ++ []).length = ps.length := by rw [← (r.append .nil).length]; exact F.len _ _ _ _ q
  refine wpAny_call (codeAny_mono (F.go X.A X.stack s1 H1 ⟨us, []⟩ _ (vs ++ []) Q E gd hr I1.env0 (hb s1 us I1.kIn hl) (r.append .nil) q) fun r s' hq => ?_)
  match r, hq with
  | .error er, hq => exact hx pins σ H1 s1 er s' I1 hq
  | .ok (.ret u), hq => exact I1.after hq
  | .ok .next, hq => exact hq.elim
  | .ok .brk, hq => exact hq.elim
  | .ok .cont, hq => exact hq.elim
end
section
variable {P : Program} {w : World} {K : PySem.W.Frag} {mg mb : Str → Option Value} {CX : CXT} {k : Nat} {fa a : Addr} {fd : FuncData} {x : Str} {sp : Sp} {s₁ : Shared} {vs : List Value} {ns : List Int} {H : Hp}
/-- from an abstract heap that tracks at most the script -/
theorem end_core (KX : K.In s₁.heap) (hns : s₁.heap.Ns mainGlobals mg) (hb : s₁.heap.Ns builtinsNs mb) (hbb : ∀ y : Str, y ≠ "__name__" → mb y = bootBuiltins y) (hlim : s₁.heap.NoLimit) (hg : s₁.gens = #[]) (ha : s₁.heap.get? a = some { cls := .type "list", data := .seq vs.toArray })
    (hr : Room k callerA) (F : ∀ base : Heap, K.In base → base.Ns mainGlobals mg → FnG P w K mg base CX k fa fd [x] sp) (bnd : ∀ (s : Shared) (u : Value), BindsTo s fd ⟨[u], []⟩ [(x, u)]) (hCX : ∀ H e s', CX [] H s₁ (fun _ _ _ => False) e s' → False)
    (hsp : sp [.ref a] H (fun v _ => v = .bl true) fun _ _ _ => False) (hO : Only H) (hok : HOk P w H s₁.heap) (hA : ∀ b, H b ≠ none → b = a) (hK : H a ≠ none → K.lookup a = none) :
    codeAny (model P w) callerA (.call (.ref fa) ⟨[.ref a], []⟩) (fun r s' => r = .ok (.ret (.bool true)) ∧ OldK s₁.heap s'.heap ∧ s'.os = s₁.os ∧ AllBare s'.gens) s₁ := by
  have free : ∀ {b : Addr}, (b = a → False) → H b = none := fun {b} n => Classical.byContradiction fun z => n (hA b z)
  have nsK : ∀ {b : Addr} {m : Str → Option Value}, s₁.heap.Ns b m → (hidT s₁.heap H).Ns b m := fun {b m} ⟨o, es, ep, e, d, r⟩ => ⟨o, es, ep, hidT_get e (free fun z => by subst z; rw [ha] at e; cases e; exact nomatch (show Data.seq vs.toArray _ = Data.dict es ep from d)), d, r⟩
  have hKb : K.In (hidT s₁.heap H) := fun b o e => hidT_get (KX b o e) (Classical.byContradiction fun z => by have y := hA b z; subst y; exact nomatch (hK z).symm.trans e)
  obtain ⟨mc, h1, h2⟩ := hlim
  have e0 : Env0 P w K mg (hidT s₁.heap H) callerA [] s₁ H := ⟨rfl, ⟨hKb, nsK hns, ⟨mb, nsK hb, hbb⟩, mc, nsK h1, h2⟩, fun _ _ e => of_hidT e, Nat.le_of_eq (hidT_size _ _), trivial, (fun _ z => nomatch z), hok, .of_eq hg⟩
  refine codeAny_mono ((F _ hKb (nsK hns)).go callerA [] s₁ H ⟨[.ref a], []⟩ [.ref a] [.ref a] _ _ rfl hr e0 (bnd s₁ (.ref a)) (.cons rfl .nil) hsp) fun r s' h => ?_
  match r, h with
  | .error e, h => exact (hCX H e s' h).elim
  | .ok .next, h => exact h.elim
  | .ok .brk, h => exact h.elim
  | .ok .cont, h => exact h.elim
  | .ok (.ret u), ⟨v, H', os, bare, un, hok', r', q⟩ =>
    obtain rfl : v = V.bl true := q
    obtain rfl : u = Value.bool true := r'
    refine ⟨rfl, OldK.of_keep fun b o e => ?_, os, bare⟩
    rcases hO b with z | ⟨ob, xs, z⟩
    · exact un.keep b o e z (fun y => nomatch y) (fun y => nomatch y)
    · obtain ⟨e1, _⟩ := hok b _ z; obtain ⟨e2, _⟩ := hok' b _ (un.frzs b ob _ z)
      exact (e.symm.trans e1) ▸ e2
theorem end_call (KX : K.In s₁.heap) (hns : s₁.heap.Ns mainGlobals mg) (hb : s₁.heap.Ns builtinsNs mb) (hbb : ∀ y : Str, y ≠ "__name__" → mb y = bootBuiltins y) (hlim : s₁.heap.NoLimit) (hg : s₁.gens = #[]) (ha : s₁.heap.get? a = some { cls := .type "list", data := .seq vs.toArray })
    (hi : IntsAre vs ns) (hl : ns.length ≤ sizeLine) (hr : Room k callerA) (F : ∀ base : Heap, K.In base → base.Ns mainGlobals mg → FnG P w K mg base CX k fa fd [x] sp) (bnd : ∀ (s : Shared) (u : Value), BindsTo s fd ⟨[u], []⟩ [(x, u)])
    (hsp : ∀ H : Hp, Only H → SqL K H a (ns.map V.int) → sp [.ref a] H (fun v _ => v = .bl true) fun _ _ _ => False) (hCX : ∀ H e s', CX [] H s₁ (fun _ _ _ => False) e s' → False) :
    codeAny (model P w) callerA (.call (.ref fa) ⟨[.ref a], []⟩) (fun r s' => r = .ok (.ret (.bool true)) ∧ OldK s₁.heap s'.heap ∧ s'.os = s₁.os ∧ AllBare s'.gens) s₁ := by
  have rv := vals_ints hi; have lenV := hi.length
  cases hk : K.lookup a with
  | some o =>
    cases Option.some.inj (ha.symm.trans (KX a o hk))
    exact end_core KX hns hb hbb hlim hg ha hr F bnd hCX (hsp (fun _ => none) (fun _ => .inl rfl) (.inr ⟨_, vs.toArray, _, hk, rfl, rfl, rfl, by rw [List.size_toArray, lenV]; exact hl, by simpa using rv⟩)) (fun _ => .inl rfl) (fun b u z => nomatch (show (none : Option HO) = some u from z)) (fun _ z => (z rfl).elim) fun z => (z rfl).elim
  | none =>
    have ne : ∀ {b : Addr}, b ≠ a → upd (fun _ => none) a (.frz { cls := .type "list", data := .seq vs.toArray } (.lst (ns.map V.int))) b = none := fun h => upd_ne h
    have hO : Only (upd (fun _ => none) a (.frz { cls := .type "list", data := .seq vs.toArray } (.lst (ns.map V.int)))) := fun b => by
      by_cases h : b = a
      · subst h; exact .inr ⟨_, _, upd_same⟩
      · exact .inl (ne h)
    refine end_core KX hns hb hbb hlim hg ha hr F bnd hCX (hsp _ hO (.inl (.inr ⟨_, upd_same⟩))) hO (fun b u z => ?_) (fun b z => Classical.byContradiction fun h => z (ne h)) fun _ => hk
    by_cases h : b = a
    · subst h; rw [upd_same] at z; cases z
      exact ⟨ha, by rw [List.length_map]; exact hl, vs, _, rv, ha⟩
    · exact nomatch (ne h).symm.trans z
end
theorem walk_ofG {l : PySem.W.OpenLaw} {n k : Nat} {q : Program} {loose : List Str} {XP : (Str → Option Value) → Heap → Prop} {YP : World → Heap → Prop} {d : DefRec} {CX : CXT} {x : Str} (hn : l.most = some n) (hn2 : n ≤ sizeLine) (hdf : d.params.defaults = []) (hr : Room k callerA)
    (F : ∀ (w : World) (mg : Str → Option Value) (fa : Addr) (h : Heap), YP w h → h.Ns mainGlobals mg → mg d.name = some (.ref fa) → ∃ (K : PySem.W.Frag) (fd : FuncData) (sp : Sp), K.In h ∧ (∀ (s : Shared) (u : Value), BindsTo s fd ⟨[u], []⟩ [(x, u)]) ∧
      (∀ (H : Hp) (a : Addr) (ns : List Int), ns.length ≤ n → Only H → SqL K H a (ns.map V.int) → sp [.ref a] H (fun v _ => v = .bl true) fun _ _ _ => False) ∧ ∀ base : Heap, K.In base → base.Ns mainGlobals mg → FnG l.prog w K mg base CX k fa fd [x] sp)
    (hCX : ∀ (H : Hp) (s : Shared) (e : Value) (s' : Shared), CX [] H s (fun _ _ _ => False) e s' → False) : PySem.W.WalkO q loose XP YP l.row.toRowW d [] (fun f vs => PySem.call f vs) := by
  refine Att.attach_call hn hdf ?_
  intro w s₀ s₁ mg mb fa o pm cd doc a vs ns G Y ho hd hcd hmg hobj hints hlen hg
  obtain ⟨K, fd, sp, KX, hb, hsp, hF⟩ := F w mg fa _ Y G.T.g hmg
  exact end_call KX G.T.g G.T.b G.T.builtins G.T.nolimit hg hobj hints (Nat.le_trans hlen hn2) hr hF hb (fun H hO hS => hsp H a ns hlen hO hS) (fun H => hCX H s₁)
end MB
set_option maxHeartbeats 2000000
namespace K82
open PySem PySem.Spec PyProof.Rows L2 MB
def top (i : Nat) : Stmt := PySem.Challenge.pw_letbychecks_k82_whole_errors_side_by_sid.main.body.getD i (.Pass ⟨0, 0, 0, 0⟩)
abbrev s_l_stir : Stmt := top 48
theorem sc_l_stir : FnScope ["_law_number", "_law_turn", "_law_once", "_law_twice"] ["_law_number", "_law_turn"] (defScope s_l_stir) := ⟨rfl, rfl, rfl, by decide +kernel, rfl, by decide +kernel, by decide +kernel⟩
abbrev s_l_hand : Stmt := top 49
theorem sc_l_hand : FnScope ["_law_script", "_law_state", "_law_place", "_law_cell"] ["_law_script"] (defScope s_l_hand) := ⟨rfl, rfl, rfl, by decide +kernel, rfl, by decide +kernel, by decide +kernel⟩
abbrev s_l_draw : Stmt := top 50
theorem sc_l_draw : FnScope ["_law_hand_here", "_law_many", "_law_cell", "_law_rest"] ["_law_hand_here", "_law_many"] (defScope s_l_draw) := ⟨rfl, rfl, rfl, by decide +kernel, rfl, by decide +kernel, by decide +kernel⟩
abbrev s_l_thing : Stmt := top 51
theorem sc_l_thing : FnScope ["_law_hand_here", "_law_pick"] ["_law_hand_here"] (defScope s_l_thing) := ⟨rfl, rfl, rfl, by decide +kernel, rfl, by decide +kernel, by decide +kernel⟩
abbrev s_l_fields_hold : Stmt := top 52
theorem sc_l_fields_hold : FnScope ["_law_one", "_law_other", "_law_ratio", "_law_code", "_law_bit", "_law_check", "_law_prices", "_law_row", "_law_told", "_law_word", "_law_many", "_law_text", "_law_barred", "_law_sheets", "_law_rows", "_law_weights", "_law_cover", "_law_marks", "_law_times", "_law_rest", "_law_cone", "_law_above", "_law_flips", "_law_received"] ["_law_one", "_law_other"] (defScope s_l_fields_hold) := ⟨rfl, rfl, rfl, by decide +kernel, rfl, by decide +kernel, by decide +kernel⟩
abbrev s_l_later_fields_hold : Stmt := top 53
theorem sc_l_later_fields_hold : FnScope ["_law_one", "_law_other", "_law_odd", "_law_stop", "_law_ring", "_law_corner", "_law_web", "_law_told", "_law_post", "_law_ties", "_law_around", "_law_apart", "_law_small", "_law_hidden", "_law_wish", "_law_pool", "_law_change"] ["_law_one", "_law_other"] (defScope s_l_later_fields_hold) := ⟨rfl, rfl, rfl, by decide +kernel, rfl, by decide +kernel, by decide +kernel⟩
abbrev s_l_all : Stmt := top 54
theorem sc_l_all : FnScope ["_law_one", "_law_other", "_law_out"] ["_law_one", "_law_other"] (defScope s_l_all) := ⟨rfl, rfl, rfl, by decide +kernel, rfl, by decide +kernel, by decide +kernel⟩
abbrev s_l_flags : Stmt := top 55
theorem sc_l_flags : FnScope ["_law_e", "_law_out"] ["_law_e"] (defScope s_l_flags) := ⟨rfl, rfl, rfl, by decide +kernel, rfl, by decide +kernel, by decide +kernel⟩
abbrev s_law : Stmt := top 56
theorem sc_law : FnScope ["_law_script", "_law_hand_here", "_law_one", "_law_other", "_law_made", "_law_at", "_law_flags_here", "_law_place"] ["_law_script"] (defScope s_law) := ⟨rfl, rfl, rfl, by decide +kernel, rfl, by decide +kernel, by decide +kernel⟩

abbrev s_BadRatio_init : Stmt := inClass (top 2) 0
theorem sc_BadRatio_init : FnScope ["self", "what"] ["self", "what"] (defScope s_BadRatio_init) := ⟨rfl, rfl, rfl, by decide +kernel, rfl, by decide +kernel, by decide +kernel⟩
def dd_BadRatio_init : He.DefD := ⟨("BadRatio", some "__init__"), "__init__", "BadRatio.__init__", defArgs s_BadRatio_init, defBody s_BadRatio_init, defScope s_BadRatio_init, [], []⟩
abbrev s_BadCode_init : Stmt := inClass (top 4) 0
theorem sc_BadCode_init : FnScope ["self", "what", "place"] ["self", "what", "place"] (defScope s_BadCode_init) := ⟨rfl, rfl, rfl, by decide +kernel, rfl, by decide +kernel, by decide +kernel⟩
def dd_BadCode_init : He.DefD := ⟨("BadCode", some "__init__"), "__init__", "BadCode.__init__", defArgs s_BadCode_init, defBody s_BadCode_init, defScope s_BadCode_init, [], []⟩
abbrev s_BadBit_init : Stmt := inClass (top 5) 0
theorem sc_BadBit_init : FnScope ["self", "bit"] ["self", "bit"] (defScope s_BadBit_init) := ⟨rfl, rfl, rfl, by decide +kernel, rfl, by decide +kernel, by decide +kernel⟩
def dd_BadBit_init : He.DefD := ⟨("BadBit", some "__init__"), "__init__", "BadBit.__init__", defArgs s_BadBit_init, defBody s_BadBit_init, defScope s_BadBit_init, [], []⟩
abbrev s_NoCheck_init : Stmt := inClass (top 6) 0
theorem sc_NoCheck_init : FnScope ["self", "number"] ["self", "number"] (defScope s_NoCheck_init) := ⟨rfl, rfl, rfl, by decide +kernel, rfl, by decide +kernel, by decide +kernel⟩
def dd_NoCheck_init : He.DefD := ⟨("NoCheck", some "__init__"), "__init__", "NoCheck.__init__", defArgs s_NoCheck_init, defBody s_NoCheck_init, defScope s_NoCheck_init, [], []⟩
abbrev s_BadPrices_init : Stmt := inClass (top 8) 0
theorem sc_BadPrices_init : FnScope ["self", "place"] ["self", "place"] (defScope s_BadPrices_init) := ⟨rfl, rfl, rfl, by decide +kernel, rfl, by decide +kernel, by decide +kernel⟩
def dd_BadPrices_init : He.DefD := ⟨("BadPrices", some "__init__"), "__init__", "BadPrices.__init__", defArgs s_BadPrices_init, defBody s_BadPrices_init, defScope s_BadPrices_init, [], []⟩
abbrev s_BadRow_init : Stmt := inClass (top 9) 0
theorem sc_BadRow_init : FnScope ["self", "place"] ["self", "place"] (defScope s_BadRow_init) := ⟨rfl, rfl, rfl, by decide +kernel, rfl, by decide +kernel, by decide +kernel⟩
def dd_BadRow_init : He.DefD := ⟨("BadRow", some "__init__"), "__init__", "BadRow.__init__", defArgs s_BadRow_init, defBody s_BadRow_init, defScope s_BadRow_init, [], []⟩
abbrev s_BadWord_init : Stmt := inClass (top 10) 0
theorem sc_BadWord_init : FnScope ["self", "number"] ["self", "number"] (defScope s_BadWord_init) := ⟨rfl, rfl, rfl, by decide +kernel, rfl, by decide +kernel, by decide +kernel⟩
def dd_BadWord_init : He.DefD := ⟨("BadWord", some "__init__"), "__init__", "BadWord.__init__", defArgs s_BadWord_init, defBody s_BadWord_init, defScope s_BadWord_init, [], []⟩
abbrev s_TooMany_init : Stmt := inClass (top 13) 0
theorem sc_TooMany_init : FnScope ["self", "most"] ["self", "most"] (defScope s_TooMany_init) := ⟨rfl, rfl, rfl, by decide +kernel, rfl, by decide +kernel, by decide +kernel⟩
def dd_TooMany_init : He.DefD := ⟨("TooMany", some "__init__"), "__init__", "TooMany.__init__", defArgs s_TooMany_init, defBody s_TooMany_init, defScope s_TooMany_init, [], []⟩
abbrev s_BadText_init : Stmt := inClass (top 14) 0
theorem sc_BadText_init : FnScope ["self", "place"] ["self", "place"] (defScope s_BadText_init) := ⟨rfl, rfl, rfl, by decide +kernel, rfl, by decide +kernel, by decide +kernel⟩
def dd_BadText_init : He.DefD := ⟨("BadText", some "__init__"), "__init__", "BadText.__init__", defArgs s_BadText_init, defBody s_BadText_init, defScope s_BadText_init, [], []⟩
abbrev s_NotLet_init : Stmt := inClass (top 15) 0
theorem sc_NotLet_init : FnScope ["self", "number", "lot"] ["self", "number", "lot"] (defScope s_NotLet_init) := ⟨rfl, rfl, rfl, by decide +kernel, rfl, by decide +kernel, by decide +kernel⟩
def dd_NotLet_init : He.DefD := ⟨("NotLet", some "__init__"), "__init__", "NotLet.__init__", defArgs s_NotLet_init, defBody s_NotLet_init, defScope s_NotLet_init, [], []⟩
abbrev s_BadSheets_init : Stmt := inClass (top 16) 0
theorem sc_BadSheets_init : FnScope ["self", "sheets"] ["self", "sheets"] (defScope s_BadSheets_init) := ⟨rfl, rfl, rfl, by decide +kernel, rfl, by decide +kernel, by decide +kernel⟩
def dd_BadSheets_init : He.DefD := ⟨("BadSheets", some "__init__"), "__init__", "BadSheets.__init__", defArgs s_BadSheets_init, defBody s_BadSheets_init, defScope s_BadSheets_init, [], []⟩
abbrev s_BadRows_init : Stmt := inClass (top 17) 0
theorem sc_BadRows_init : FnScope ["self", "number"] ["self", "number"] (defScope s_BadRows_init) := ⟨rfl, rfl, rfl, by decide +kernel, rfl, by decide +kernel, by decide +kernel⟩
def dd_BadRows_init : He.DefD := ⟨("BadRows", some "__init__"), "__init__", "BadRows.__init__", defArgs s_BadRows_init, defBody s_BadRows_init, defScope s_BadRows_init, [], []⟩
abbrev s_BadWeights_init : Stmt := inClass (top 18) 0
theorem sc_BadWeights_init : FnScope ["self", "place"] ["self", "place"] (defScope s_BadWeights_init) := ⟨rfl, rfl, rfl, by decide +kernel, rfl, by decide +kernel, by decide +kernel⟩
def dd_BadWeights_init : He.DefD := ⟨("BadWeights", some "__init__"), "__init__", "BadWeights.__init__", defArgs s_BadWeights_init, defBody s_BadWeights_init, defScope s_BadWeights_init, [], []⟩
abbrev s_BadCover_init : Stmt := inClass (top 19) 0
theorem sc_BadCover_init : FnScope ["self", "what", "number"] ["self", "what", "number"] (defScope s_BadCover_init) := ⟨rfl, rfl, rfl, by decide +kernel, rfl, by decide +kernel, by decide +kernel⟩
def dd_BadCover_init : He.DefD := ⟨("BadCover", some "__init__"), "__init__", "BadCover.__init__", defArgs s_BadCover_init, defBody s_BadCover_init, defScope s_BadCover_init, [], []⟩
abbrev s_BadMarks_init : Stmt := inClass (top 21) 0
theorem sc_BadMarks_init : FnScope ["self", "place"] ["self", "place"] (defScope s_BadMarks_init) := ⟨rfl, rfl, rfl, by decide +kernel, rfl, by decide +kernel, by decide +kernel⟩
def dd_BadMarks_init : He.DefD := ⟨("BadMarks", some "__init__"), "__init__", "BadMarks.__init__", defArgs s_BadMarks_init, defBody s_BadMarks_init, defScope s_BadMarks_init, [], []⟩
abbrev s_BadTimes_init : Stmt := inClass (top 23) 0
theorem sc_BadTimes_init : FnScope ["self", "times"] ["self", "times"] (defScope s_BadTimes_init) := ⟨rfl, rfl, rfl, by decide +kernel, rfl, by decide +kernel, by decide +kernel⟩
def dd_BadTimes_init : He.DefD := ⟨("BadTimes", some "__init__"), "__init__", "BadTimes.__init__", defArgs s_BadTimes_init, defBody s_BadTimes_init, defScope s_BadTimes_init, [], []⟩
abbrev s_LowRest_init : Stmt := inClass (top 24) 0
theorem sc_LowRest_init : FnScope ["self", "bit"] ["self", "bit"] (defScope s_LowRest_init) := ⟨rfl, rfl, rfl, by decide +kernel, rfl, by decide +kernel, by decide +kernel⟩
def dd_LowRest_init : He.DefD := ⟨("LowRest", some "__init__"), "__init__", "LowRest.__init__", defArgs s_LowRest_init, defBody s_LowRest_init, defScope s_LowRest_init, [], []⟩
abbrev s_BadCone_init : Stmt := inClass (top 25) 0
theorem sc_BadCone_init : FnScope ["self", "place"] ["self", "place"] (defScope s_BadCone_init) := ⟨rfl, rfl, rfl, by decide +kernel, rfl, by decide +kernel, by decide +kernel⟩
def dd_BadCone_init : He.DefD := ⟨("BadCone", some "__init__"), "__init__", "BadCone.__init__", defArgs s_BadCone_init, defBody s_BadCone_init, defScope s_BadCone_init, [], []⟩
abbrev s_NotCone_init : Stmt := inClass (top 26) 0
theorem sc_NotCone_init : FnScope ["self", "number", "bit"] ["self", "number", "bit"] (defScope s_NotCone_init) := ⟨rfl, rfl, rfl, by decide +kernel, rfl, by decide +kernel, by decide +kernel⟩
def dd_NotCone_init : He.DefD := ⟨("NotCone", some "__init__"), "__init__", "NotCone.__init__", defArgs s_NotCone_init, defBody s_NotCone_init, defScope s_NotCone_init, [], []⟩
abbrev s_BadMany_init : Stmt := inClass (top 27) 0
theorem sc_BadMany_init : FnScope ["self", "many"] ["self", "many"] (defScope s_BadMany_init) := ⟨rfl, rfl, rfl, by decide +kernel, rfl, by decide +kernel, by decide +kernel⟩
def dd_BadMany_init : He.DefD := ⟨("BadMany", some "__init__"), "__init__", "BadMany.__init__", defArgs s_BadMany_init, defBody s_BadMany_init, defScope s_BadMany_init, [], []⟩
abbrev s_BadReceived_init : Stmt := inClass (top 28) 0
theorem sc_BadReceived_init : FnScope ["self", "place"] ["self", "place"] (defScope s_BadReceived_init) := ⟨rfl, rfl, rfl, by decide +kernel, rfl, by decide +kernel, by decide +kernel⟩
def dd_BadReceived_init : He.DefD := ⟨("BadReceived", some "__init__"), "__init__", "BadReceived.__init__", defArgs s_BadReceived_init, defBody s_BadReceived_init, defScope s_BadReceived_init, [], []⟩
abbrev s_OddCount_init : Stmt := inClass (top 29) 0
theorem sc_OddCount_init : FnScope ["self", "number"] ["self", "number"] (defScope s_OddCount_init) := ⟨rfl, rfl, rfl, by decide +kernel, rfl, by decide +kernel, by decide +kernel⟩
def dd_OddCount_init : He.DefD := ⟨("OddCount", some "__init__"), "__init__", "OddCount.__init__", defArgs s_OddCount_init, defBody s_OddCount_init, defScope s_OddCount_init, [], []⟩
abbrev s_NotStop_init : Stmt := inClass (top 30) 0
theorem sc_NotStop_init : FnScope ["self", "number"] ["self", "number"] (defScope s_NotStop_init) := ⟨rfl, rfl, rfl, by decide +kernel, rfl, by decide +kernel, by decide +kernel⟩
def dd_NotStop_init : He.DefD := ⟨("NotStop", some "__init__"), "__init__", "NotStop.__init__", defArgs s_NotStop_init, defBody s_NotStop_init, defScope s_NotStop_init, [], []⟩
abbrev s_NotRingless_init : Stmt := inClass (top 31) 0
theorem sc_NotRingless_init : FnScope ["self", "ring"] ["self", "ring"] (defScope s_NotRingless_init) := ⟨rfl, rfl, rfl, by decide +kernel, rfl, by decide +kernel, by decide +kernel⟩
def dd_NotRingless_init : He.DefD := ⟨("NotRingless", some "__init__"), "__init__", "NotRingless.__init__", defArgs s_NotRingless_init, defBody s_NotRingless_init, defScope s_NotRingless_init, [], []⟩
abbrev s_NotCorner_init : Stmt := inClass (top 32) 0
theorem sc_NotCorner_init : FnScope ["self", "row"] ["self", "row"] (defScope s_NotCorner_init) := ⟨rfl, rfl, rfl, by decide +kernel, rfl, by decide +kernel, by decide +kernel⟩
def dd_NotCorner_init : He.DefD := ⟨("NotCorner", some "__init__"), "__init__", "NotCorner.__init__", defArgs s_NotCorner_init, defBody s_NotCorner_init, defScope s_NotCorner_init, [], []⟩
abbrev s_BadWeb_init : Stmt := inClass (top 33) 0
theorem sc_BadWeb_init : FnScope ["self", "what", "place"] ["self", "what", "place"] (defScope s_BadWeb_init) := ⟨rfl, rfl, rfl, by decide +kernel, rfl, by decide +kernel, by decide +kernel⟩
def dd_BadWeb_init : He.DefD := ⟨("BadWeb", some "__init__"), "__init__", "BadWeb.__init__", defArgs s_BadWeb_init, defBody s_BadWeb_init, defScope s_BadWeb_init, [], []⟩
abbrev s_BadPost_init : Stmt := inClass (top 34) 0
theorem sc_BadPost_init : FnScope ["self", "post"] ["self", "post"] (defScope s_BadPost_init) := ⟨rfl, rfl, rfl, by decide +kernel, rfl, by decide +kernel, by decide +kernel⟩
def dd_BadPost_init : He.DefD := ⟨("BadPost", some "__init__"), "__init__", "BadPost.__init__", defArgs s_BadPost_init, defBody s_BadPost_init, defScope s_BadPost_init, [], []⟩
abbrev s_NotTies_init : Stmt := inClass (top 35) 0
theorem sc_NotTies_init : FnScope ["self", "bit"] ["self", "bit"] (defScope s_NotTies_init) := ⟨rfl, rfl, rfl, by decide +kernel, rfl, by decide +kernel, by decide +kernel⟩
def dd_NotTies_init : He.DefD := ⟨("NotTies", some "__init__"), "__init__", "NotTies.__init__", defArgs s_NotTies_init, defBody s_NotTies_init, defScope s_NotTies_init, [], []⟩
abbrev s_NotRound_init : Stmt := inClass (top 36) 0
theorem sc_NotRound_init : FnScope ["self", "what"] ["self", "what"] (defScope s_NotRound_init) := ⟨rfl, rfl, rfl, by decide +kernel, rfl, by decide +kernel, by decide +kernel⟩
def dd_NotRound_init : He.DefD := ⟨("NotRound", some "__init__"), "__init__", "NotRound.__init__", defArgs s_NotRound_init, defBody s_NotRound_init, defScope s_NotRound_init, [], []⟩
abbrev s_NotApart_init : Stmt := inClass (top 37) 0
theorem sc_NotApart_init : FnScope ["self", "what"] ["self", "what"] (defScope s_NotApart_init) := ⟨rfl, rfl, rfl, by decide +kernel, rfl, by decide +kernel, by decide +kernel⟩
def dd_NotApart_init : He.DefD := ⟨("NotApart", some "__init__"), "__init__", "NotApart.__init__", defArgs s_NotApart_init, defBody s_NotApart_init, defScope s_NotApart_init, [], []⟩
abbrev s_NoSmall_init : Stmt := inClass (top 39) 0
theorem sc_NoSmall_init : FnScope ["self", "which"] ["self", "which"] (defScope s_NoSmall_init) := ⟨rfl, rfl, rfl, by decide +kernel, rfl, by decide +kernel, by decide +kernel⟩
def dd_NoSmall_init : He.DefD := ⟨("NoSmall", some "__init__"), "__init__", "NoSmall.__init__", defArgs s_NoSmall_init, defBody s_NoSmall_init, defScope s_NoSmall_init, [], []⟩
abbrev s_NotHidden_init : Stmt := inClass (top 41) 0
theorem sc_NotHidden_init : FnScope ["self", "what"] ["self", "what"] (defScope s_NotHidden_init) := ⟨rfl, rfl, rfl, by decide +kernel, rfl, by decide +kernel, by decide +kernel⟩
def dd_NotHidden_init : He.DefD := ⟨("NotHidden", some "__init__"), "__init__", "NotHidden.__init__", defArgs s_NotHidden_init, defBody s_NotHidden_init, defScope s_NotHidden_init, [], []⟩
abbrev s_BadWish_init : Stmt := inClass (top 42) 0
theorem sc_BadWish_init : FnScope ["self", "number"] ["self", "number"] (defScope s_BadWish_init) := ⟨rfl, rfl, rfl, by decide +kernel, rfl, by decide +kernel, by decide +kernel⟩
def dd_BadWish_init : He.DefD := ⟨("BadWish", some "__init__"), "__init__", "BadWish.__init__", defArgs s_BadWish_init, defBody s_BadWish_init, defScope s_BadWish_init, [], []⟩
abbrev s_BadPool_init : Stmt := inClass (top 43) 0
theorem sc_BadPool_init : FnScope ["self", "place"] ["self", "place"] (defScope s_BadPool_init) := ⟨rfl, rfl, rfl, by decide +kernel, rfl, by decide +kernel, by decide +kernel⟩
def dd_BadPool_init : He.DefD := ⟨("BadPool", some "__init__"), "__init__", "BadPool.__init__", defArgs s_BadPool_init, defBody s_BadPool_init, defScope s_BadPool_init, [], []⟩
abbrev s_BadEdit_init : Stmt := inClass (top 45) 0
theorem sc_BadEdit_init : FnScope ["self", "place"] ["self", "place"] (defScope s_BadEdit_init) := ⟨rfl, rfl, rfl, by decide +kernel, rfl, by decide +kernel, by decide +kernel⟩
def dd_BadEdit_init : He.DefD := ⟨("BadEdit", some "__init__"), "__init__", "BadEdit.__init__", defArgs s_BadEdit_init, defBody s_BadEdit_init, defScope s_BadEdit_init, [], []⟩

def dd_l_stir : He.DefD := ⟨("_law_stir", none), "_law_stir", "_law_stir", defArgs s_l_stir, defBody s_l_stir, defScope s_l_stir, [], []⟩
def dd_l_hand : He.DefD := ⟨("_law_hand", none), "_law_hand", "_law_hand", defArgs s_l_hand, defBody s_l_hand, defScope s_l_hand, [], []⟩
def dd_l_draw : He.DefD := ⟨("_law_draw", none), "_law_draw", "_law_draw", defArgs s_l_draw, defBody s_l_draw, defScope s_l_draw, [], []⟩
def dd_l_thing : He.DefD := ⟨("_law_thing", none), "_law_thing", "_law_thing", defArgs s_l_thing, defBody s_l_thing, defScope s_l_thing, [], []⟩
def dd_l_fields_hold : He.DefD := ⟨("_law_fields_hold", none), "_law_fields_hold", "_law_fields_hold", defArgs s_l_fields_hold, defBody s_l_fields_hold, defScope s_l_fields_hold, [], []⟩
def dd_l_later_fields_hold : He.DefD := ⟨("_law_later_fields_hold", none), "_law_later_fields_hold", "_law_later_fields_hold", defArgs s_l_later_fields_hold, defBody s_l_later_fields_hold, defScope s_l_later_fields_hold, [], []⟩
def dd_l_all : He.DefD := ⟨("_law_all", none), "_law_all", "_law_all", defArgs s_l_all, defBody s_l_all, defScope s_l_all, [], []⟩
def dd_l_flags : He.DefD := ⟨("_law_flags", none), "_law_flags", "_law_flags", defArgs s_l_flags, defBody s_l_flags, defScope s_l_flags, [], []⟩
def dd_law : He.DefD := ⟨("law", none), "law", "law", defArgs s_law, defBody s_law, defScope s_law, [], []⟩

def fa0 : List He.Fa := [.free "isinstance", .free "int", .free "str", .free "len", .free "abs", .free "range", .free "enumerate", .free "repr", .free "ValueError", .glo "_law_stir", .glo "_law_hand", .glo "_law_draw", .glo "_law_thing", .glo "_law_fields_hold", .glo "_law_later_fields_hold", .glo "_law_all", .glo "_law_flags", .glo "law", .glo "CodeError", .glo "BadRatio"]
def fa1 : List He.Fa := [.glo "DividedByNought", .glo "BadCode", .glo "BadBit", .glo "NoCheck", .glo "BadLot", .glo "BadPrices", .glo "BadRow", .glo "BadWord", .glo "BadOrder", .glo "UnlikeBits", .glo "TooMany", .glo "BadText", .glo "NotLet", .glo "BadSheets", .glo "BadRows", .glo "BadWeights", .glo "BadCover", .glo "BadWire", .glo "BadMarks", .glo "UnlikeCode"]
def fa2 : List He.Fa := [.glo "BadTimes", .glo "LowRest", .glo "BadCone", .glo "NotCone", .glo "BadMany", .glo "BadReceived", .glo "OddCount", .glo "NotStop", .glo "NotRingless", .glo "NotCorner", .glo "BadWeb", .glo "BadPost", .glo "NotTies", .glo "NotRound", .glo "NotApart", .glo "NothingLeft", .glo "NoSmall", .glo "NoSum", .glo "NotHidden", .glo "BadWish"]
def fa3 : List He.Fa := [.glo "BadPool", .glo "BadPicks", .glo "BadEdit", .glo "NothingDone"]
def fa : List He.Fa := fa0 ++ fa1 ++ fa2 ++ fa3
def fn0 : List He.DefD := [dd_l_stir, dd_l_hand, dd_l_draw, dd_l_thing, dd_l_fields_hold, dd_l_later_fields_hold, dd_l_all, dd_l_flags, dd_law, dd_BadRatio_init, dd_BadCode_init, dd_BadBit_init, dd_NoCheck_init, dd_BadPrices_init, dd_BadRow_init, dd_BadWord_init, dd_TooMany_init, dd_BadText_init, dd_NotLet_init, dd_BadSheets_init]
def fn1 : List He.DefD := [dd_BadRows_init, dd_BadWeights_init, dd_BadCover_init, dd_BadMarks_init, dd_BadTimes_init, dd_LowRest_init, dd_BadCone_init, dd_NotCone_init, dd_BadMany_init, dd_BadReceived_init, dd_OddCount_init, dd_NotStop_init, dd_NotRingless_init, dd_NotCorner_init, dd_BadWeb_init, dd_BadPost_init, dd_NotTies_init, dd_NotRound_init, dd_NotApart_init, dd_NoSmall_init]
def fn2 : List He.DefD := [dd_NotHidden_init, dd_BadWish_init, dd_BadPool_init, dd_BadEdit_init]
def fn : List He.DefD := fn0 ++ fn1 ++ fn2
def cs0 : List (PySem.Str × List PySem.Str) := [("BadRatio", ["what"]), ("DividedByNought", []), ("BadCode", ["what", "place"]), ("BadBit", ["bit"]), ("NoCheck", ["number"]), ("BadLot", []), ("BadPrices", ["place"]), ("BadRow", ["place"]), ("BadWord", ["number"]), ("BadOrder", []), ("UnlikeBits", []), ("TooMany", ["most"]), ("BadText", ["place"]), ("NotLet", ["number", "lot"]), ("BadSheets", ["sheets"])]
def cs1 : List (PySem.Str × List PySem.Str) := [("BadRows", ["number"]), ("BadWeights", ["place"]), ("BadCover", ["what", "number"]), ("BadWire", []), ("BadMarks", ["place"]), ("UnlikeCode", []), ("BadTimes", ["times"]), ("LowRest", ["bit"]), ("BadCone", ["place"]), ("NotCone", ["number", "bit"]), ("BadMany", ["many"]), ("BadReceived", ["place"]), ("OddCount", ["number"]), ("NotStop", ["number"]), ("NotRingless", ["ring"])]
def cs2 : List (PySem.Str × List PySem.Str) := [("NotCorner", ["row"]), ("BadWeb", ["what", "place"]), ("BadPost", ["post"]), ("NotTies", ["bit"]), ("NotRound", ["what"]), ("NotApart", ["what"]), ("NothingLeft", []), ("NoSmall", ["which"]), ("NoSum", []), ("NotHidden", ["what"]), ("BadWish", ["number"]), ("BadPool", ["place"]), ("BadPicks", []), ("BadEdit", ["place"]), ("NothingDone", [])]
def cs : List (PySem.Str × List PySem.Str) := cs0 ++ cs1 ++ cs2

def nm (i : Nat) : PySem.Str := (cs.getD i ("", [])).1
def fl (i : Nat) : List PySem.Str := (cs.getD i ("", [])).2
/-- the class at i of the table -/
def ca (K : PySem.W.Frag) (i : Nat) : Addr := He.ga K (nm i)
def clsB (K : PySem.W.Frag) (p : PySem.Str × List PySem.Str) : Bool := MB.excCB K (He.ga K p.1) && (match p.2 with
  | [] => (He.Fa.exc p.1).ok K
  | fs => MB.oexB K (He.ga K p.1) && (decide (PySem.W.findIn K (.ref (He.ga K p.1)) "__init__" = some (some (.ref (He.ma K (He.ga K p.1) "__init__")))) && (decide (PySem.W.typeIn K (.ref (He.ma K (He.ga K p.1) "__init__")) = some (.type "function")) &&
      (xfB K (He.ga K p.1) && fs.all fun f => decide (PySem.W.findIn K (.ref (He.ga K p.1)) f = some none)))))
/-- the addresses: made one behind another -/
def incB : List Nat → Bool
  | a :: b :: r => Nat.blt a b && incB (b :: r)
  | _ => true
theorem inc_lt : ∀ {l : List Nat}, incB l = true → ∀ {i j a b : Nat}, i < j → l[i]? = some a → l[j]? = some b → a < b
  | [], _, i, j, a, b, _, e, _ => nomatch e
  | [x], _, i, j + 1, a, b, _, _, e => nomatch e
  | x :: y :: r, h, i, j + 1, a, b, hij, e1, e2 => by
    obtain ⟨h1, h2⟩ := He.ba h
    have h1 : x < y := Nat.le_of_ble_eq_true h1
    cases i with
    | zero =>
      cases e1
      cases j with
      | zero =>
        cases e2
        exact h1
      | succ j => exact Nat.lt_trans h1 (inc_lt h2 (i := 0) (j := j + 1) (Nat.succ_pos j) rfl e2)
    | succ i => exact inc_lt h2 (Nat.lt_of_succ_lt_succ hij) e1 e2
def al (K : PySem.W.Frag) : List Nat := He.ga K "CodeError" :: cs.map fun p => He.ga K p.1
def mroB (K : PySem.W.Frag) (C : Addr) : Bool := (match PySem.W.clsIn K C with
  | some cd => decide (cd.mro = [.ref C, .ref (He.ga K "CodeError"), .type "ValueError", .type "Exception", .type "BaseException", .type "object"])
  | none => false) && (PySem.W.typeIn K (.ref C) == some (.type "type"))
def kitB (K : PySem.W.Frag) (i : Nat) : Bool := decide (PySem.W.kitOne K (.ref (ca K i)) (.ref (He.ga K "CodeError")) = some true) && (decide (PySem.W.kitOne K (.ref (ca K i)) (.type "ValueError") = some true) && mroB K (ca K i))
def ex (K : PySem.W.Frag) : Bool := cs.all (clsB K) && ((List.range 45).all (kitB K) && incB (al K))
structure Txt (K : PySem.W.Frag) (mg : Str → Option Value) : Prop where
  h : ∃ h : Heap, K.In h ∧ h.Ns mainGlobals mg
  c : He.SaysD fa fn K
  e : ex K = true
section
variable {K : PySem.W.Frag} {mg : Str → Option Value}
theorem Txt.free (T : Txt K mg) (i : Nat) {x : Str} (h : fa[i]? = some (.free x) := by rfl) : mg x = none := by
  obtain ⟨h', X, G⟩ := T.h
  exact He.free_ok X G (T.c.fact i h)
theorem Txt.glo (T : Txt K mg) (i : Nat) {x : Str} (h : fa[i]? = some (.glo x) := by rfl) : mg x = some (.ref (He.ga K x)) := by
  obtain ⟨h', X, G⟩ := T.h
  exact He.glo_ok X G (T.c.fact i h)
theorem Txt.cl (T : Txt K mg) {i : Nat} {p : PySem.Str × List PySem.Str} (h : cs[i]? = some p) : clsB K p = true := List.all_eq_true.mp (He.ba T.e).1 _ (List.mem_of_getElem? h)
section
variable {i : Nat} {x f : PySem.Str} {fs : List PySem.Str}
theorem Txt.ec (T : Txt K mg) (h : i < 45) : ExcC K (ca K i) := by
  have e : cs[i]? = some (nm i, fl i) := by
    have hl : i < cs.length := h
    unfold nm fl
    rw [List.getD_eq_getElem?_getD, List.getElem?_eq_getElem hl]
    rfl
  exact MB.excCB_ok (He.ba (T.cl e)).1
theorem Txt.de (T : Txt K mg) (i : Nat) (h : cs[i]? = some (x, fs)) (hf : fs = []) : PySem.W.excIn K (He.ga K x) He.veBase "ValueError.__new__" = true ∧ PySem.W.keepIn K (.ref (He.ga K x)) = true ∧ PySem.W.subIn K (.ref (He.ga K x)) (.type "BaseException") = some true ∧
    PySem.W.typeIn K (.ref (He.ga K x)) = some (.type "type") := by
  subst hf
  exact He.exc_ok (He.ba (T.cl h)).2
theorem Txt.fb (T : Txt K mg) (i : Nat) (h : cs[i]? = some (x, fs)) (hf : (fs == []) = false) : MB.oexB K (He.ga K x) = true ∧ PySem.W.findIn K (.ref (He.ga K x)) "__init__" = some (some (.ref (He.ma K (He.ga K x) "__init__"))) ∧
    PySem.W.typeIn K (.ref (He.ma K (He.ga K x) "__init__")) = some (.type "function") ∧ xfB K (He.ga K x) = true ∧ ∀ f ∈ fs, PySem.W.findIn K (.ref (He.ga K x)) f = some none := by
  have q := (He.ba (T.cl h)).2
  cases fs with
  | nil => cases hf
  | cons a l =>
    obtain ⟨q1, q⟩ := He.ba q
    obtain ⟨q2, q⟩ := He.ba q
    obtain ⟨q3, q⟩ := He.ba q
    obtain ⟨q4, q⟩ := He.ba q
    exact ⟨q1, of_decide_eq_true q2, of_decide_eq_true q3, q4, fun f hf => of_decide_eq_true (List.all_eq_true.mp q f hf)⟩
theorem Txt.bo (T : Txt K mg) (i : Nat) (h : cs[i]? = some (x, fs)) (hf : (fs == []) = false) : OexC K (He.ga K x) := MB.oexB_ok (T.fb i h hf).1
theorem Txt.bi (T : Txt K mg) (i : Nat) (h : cs[i]? = some (x, fs)) (hf : (fs == []) = false) : PySem.W.findIn K (.ref (He.ga K x)) "__init__" = some (some (.ref (He.ma K (He.ga K x) "__init__"))) := (T.fb i h hf).2.1
theorem Txt.bt (T : Txt K mg) (i : Nat) (h : cs[i]? = some (x, fs)) (hf : (fs == []) = false) : PySem.W.typeIn K (.ref (He.ma K (He.ga K x) "__init__")) = some (.type "function") := (T.fb i h hf).2.2.1
theorem Txt.bx (T : Txt K mg) (i : Nat) (h : cs[i]? = some (x, fs)) (hf : (fs == []) = false) : XfC K (He.ga K x) := xfB_ok (T.fb i h hf).2.2.2.1
theorem Txt.bn (T : Txt K mg) (i j : Nat) (h : cs[i]? = some (x, fs)) (hf : fs[j]? = some f) : PySem.W.findIn K (.ref (He.ga K x)) f = some none := by
  have hm := List.mem_of_getElem? hf
  cases fs with
  | nil => cases hm
  | cons a l => exact (T.fb i h rfl).2.2.2.2 f hm
theorem Txt.ki (T : Txt K mg) (h : i < 45) : kitB K i = true := List.all_eq_true.mp (He.ba (He.ba T.e).2).1 i (List.mem_range.mpr h)
theorem Txt.k1 (T : Txt K mg) (h : i < 45) : PySem.W.kitOne K (.ref (ca K i)) (.ref (He.ga K "CodeError")) = some true := of_decide_eq_true (He.ba (T.ki h)).1
theorem Txt.k2 (T : Txt K mg) (h : i < 45) : PySem.W.kitOne K (.ref (ca K i)) (.type "ValueError") = some true := of_decide_eq_true (He.ba (He.ba (T.ki h)).2).1
theorem al_at (K : PySem.W.Frag) (h : i < 45) : (al K)[i + 1]? = some (ca K i) := by
  have hl : i < cs.length := h
  show (cs.map fun p => He.ga K p.1)[i]? = some (ca K i)
  unfold ca nm
  rw [List.getElem?_map, List.getD_eq_getElem?_getD, List.getElem?_eq_getElem hl]
  rfl
theorem Txt.inj (T : Txt K mg) (h : i < 45) {j : Nat} (hj : j < 45) (n : i ≠ j) : ca K i ≠ ca K j := fun e => by
  have q := (He.ba (He.ba T.e).2).2
  rcases Nat.lt_or_gt_of_ne n with z | z
  · have y : ca K i < ca K j := inc_lt q (Nat.succ_lt_succ z) (al_at K h) (al_at K hj)
    exact absurd e (Nat.ne_of_lt y)
  · have y : ca K j < ca K i := inc_lt q (Nat.succ_lt_succ z) (al_at K hj) (al_at K h)
    exact absurd e.symm (Nat.ne_of_lt y)
theorem Txt.ncode (T : Txt K mg) (h : i < 45) : ca K i ≠ He.ga K "CodeError" := fun e => by
  have z : He.ga K "CodeError" < ca K i := inc_lt (He.ba (He.ba T.e).2).2 (Nat.succ_pos i) rfl (al_at K h)
  exact Nat.lt_irrefl _ (e ▸ z)
theorem Txt.mro (T : Txt K mg) (h : i < 45) : (∃ cd, PySem.W.clsIn K (ca K i) = some cd ∧ cd.mro = [.ref (ca K i), .ref (He.ga K "CodeError"), .type "ValueError", .type "Exception", .type "BaseException", .type "object"]) ∧ (PySem.W.typeIn K (.ref (ca K i)) == some (.type "type")) = true := by
  obtain ⟨q1, q2⟩ := He.ba (He.ba (He.ba (T.ki h)).2).2
  refine ⟨?_, q2⟩
  split at q1
  · rename_i cd e
    exact ⟨cd, e, of_decide_eq_true q1⟩
  · cases q1
theorem Txt.kt (T : Txt K mg) (h : i < 45) (j : Nat) (hj : j < 45) : PySem.W.kitOne K (.ref (ca K i)) (.ref (ca K j)) = some (decide (i = j)) := by
  by_cases n : i = j
  · subst n
    unfold PySem.W.kitOne
    rw [if_pos (beq_self_eq_true _), decide_eq_true rfl]
  · have ne : ∀ {a b : Addr}, a ≠ b → ((Value.ref a : Value) == .ref b) = false := fun d => Bool.eq_false_iff.mpr fun z => d (Value.ref.inj (beq_iff_eq.mp z))
    obtain ⟨⟨cd, e1, e2⟩, _⟩ := T.mro h
    obtain ⟨⟨cj, f1, f2⟩, f3⟩ := T.mro hj
    unfold PySem.W.kitOne
    rw [ne (T.inj h hj n), if_neg Bool.false_ne_true, decide_eq_false n]
    show (if ((PySem.W.clsIn K (ca K j)).isSome && PySem.W.typeIn K (.ref (ca K j)) == some (.type "type")) = true then PySem.W.mroIn K (ca K i) (.ref (ca K j)) else none) = some false
    rw [f1, f3]
    refine (if_pos (by rfl)).trans ?_
    unfold PySem.W.mroIn
    rw [e1, Option.bind_some, e2]
    refine (if_neg (show ¬ (false = true) from Bool.false_ne_true)).trans ?_
    have m : List.contains [Value.ref (ca K i), .ref (He.ga K "CodeError"), .type "ValueError", .type "Exception", .type "BaseException", .type "object"] (.ref (ca K j)) = false := by
      refine Bool.eq_false_iff.mpr fun z => ?_
      have z := List.contains_iff_mem.mp z
      simp only [List.mem_cons, List.not_mem_nil, Value.ref.injEq, reduceCtorEq, or_false] at z
      rcases z with z | z
      · exact T.inj h hj n z.symm
      · exact T.ncode hj z
    rw [m]
end
end
end K82
set_option maxHeartbeats 0
namespace K82
open PySem PySem.Spec PyProof.Rows L2 MB
abbrev R : PySem.W.OpenRow := PySem.W.OpenLaw.row PySem.Challenge.rw_letbychecks_k82_whole_errors_side_by_sid
def names0 : List PySem.Str := ["CodeError", "BadRatio", "DividedByNought", "BadCode", "BadBit", "NoCheck", "BadLot", "BadPrices", "BadRow", "BadWord", "BadOrder", "UnlikeBits", "TooMany", "BadText", "NotLet", "BadSheets", "BadRows", "BadWeights", "BadCover", "BadWire"]
def names1 : List PySem.Str := ["BadMarks", "UnlikeCode", "BadTimes", "LowRest", "BadCone", "NotCone", "BadMany", "BadReceived", "OddCount", "NotStop", "NotRingless", "NotCorner", "BadWeb", "BadPost", "NotTies", "NotRound", "NotApart", "NothingLeft", "NoSmall", "NoSum"]
def names2 : List PySem.Str := ["NotHidden", "BadWish", "BadPool", "BadPicks", "BadEdit", "NothingDone", "_law_stir", "_law_hand", "_law_draw", "_law_thing", "_law_fields_hold", "_law_later_fields_hold", "_law_all", "_law_flags"]
def names : List PySem.Str := names0 ++ names1 ++ names2

abbrev hk : PySem.W.Hook := He.hookX 5 fa fn [] [] ex
def ob (s : PySem.W.SharedT) : He.AlX := He.obsX 5 fa fn [] [] ex (HandSHeadRun.getT s)
theorem ob_eq (s : PySem.W.SharedT) : ob s = hk.obs s.abs := He.obsX_eq (HandSHeadRun.getT_eq s)
theorem run (w : World) : HandSHeadRun.RunEq R (PySem.W.view R.prog [56]) hk ob 40000 names w := by
  intro os
  kernel_rfl
end K82
namespace MB
open PySem PySem.Spec PyProof.Rows L2
theorem pe_gref {X : Cx} {x : Str} {pos : Pos} {a : Addr} (hg : Gl X x) (hm : X.mg x = some (.ref a)) (hd : (x == ("__debug__" : Str)) = false := by decide) : PE X (.Name x pos) (tC (.ref a)) := pe_glob hg hm rfl hd
theorem newT {xs : List V} {H : Hp} {Q : VK} (l : xs.length ≤ sizeLine) (q : ∀ p H', H p = none → L2.Same H H' → H' p = some (.tup xs) → Q (.ref p) H') : NewT xs H Q := ⟨l, fun p hp => q p _ hp (MB.Same.upd hp) upd_same⟩
theorem newL {xs : List V} {H : Hp} {Q : VK} (l : xs.length ≤ sizeLine) (q : ∀ p H', H p = none → L2.Same H H' → H' p = some (.lst xs) → Q (.ref p) H') : NewL xs H Q := ⟨l, fun p hp => q p _ hp (MB.Same.upd hp) upd_same⟩
def rStrI : RC := fun xs H Q => ∃ i, xs = [.int i] ∧ i.natAbs.log2 < 1920 ∧ Q (.str (toString i)) H
def rAddS : R2 := fun x y H Q => ∃ i j, x = .str i ∧ y = .str j ∧ i.length + j.length ≤ sizeLine ∧ Q (.str (i ++ j)) H
theorem k_strI {X : Cx} : CallR X (.type "str") rStrI := call_str_int
theorem k_addS {X : Cx} : OpR X (binaryOp .Add) rAddS := op_add_str
/-- what a making of an exception asks -/
def MkvQ (C : Addr) (sp : Sp) (vs : List V) (H1 : Hp) (Q : VK) : Prop := vs.length ≤ 1000 ∧ ∀ a, H1 a = none → sp (.ref a :: (vs ++ [])) (upd H1 a (exo a C none)) (fun v H2 => v = .non ∧ Q (.ref a) H2) (fun _ _ _ => False)
def XatQ (K : PySem.W.Frag) (n : Str) (x : V) (H1 : Hp) (Q : VK) : Prop := ∃ (a C dx : Addr) (fs : List (Str × V)) (v : V), x = .ref a ∧ XfC K C ∧ PySem.W.findIn K (.ref C) n = some none ∧ H1 a = some (exo a C (some dx)) ∧ H1 dx = some (exd dx fs) ∧ fs.lookup n = some v ∧ Q v H1
section
variable {σ : L2.St} {H : Hp} {Q : VK}
theorem r_mkv {C : Addr} {sp : Sp} {ta : TA} (q : ta σ H fun vs H1 => MkvQ C sp vs H1 Q) : tMkV C sp ta σ H Q := q
theorem r_mk0 {C : Addr} (q : Mk0Q C H Q) : tMk0 C σ H Q := q
theorem r_xat {K : PySem.W.Frag} {n : Str} {te : TE} (q : te σ H fun x H1 => XatQ K n x H1 Q) : tXat K n te σ H Q := q
/-- an exception with these fields -/
def ExF (H : Hp) (a C : Addr) (fs : List (Str × V)) : Prop := ∃ dx, H a = some (exo a C (some dx)) ∧ H dx = some (exd dx fs)
theorem ExF.same {H H' : Hp} {a C : Addr} {fs : List (Str × V)} (h : ExF H a C fs) (s : L2.Same H H') : ExF H' a C fs := by
  obtain ⟨dx, h1, h2⟩ := h
  exact ⟨dx, s _ _ h1, s _ _ h2⟩
theorem ExF.at {H : Hp} {a C : Addr} {fs : List (Str × V)} (h : ExF H a C fs) : ExAt H a C := by
  obtain ⟨dx, h1, h2⟩ := h
  exact .inr ⟨dx, fs, h1, h2⟩
theorem ExAt.same {H H' : Hp} {a C : Addr} (h : ExAt H a C) (s : L2.Same H H') : ExAt H' a C := by
  rcases h with h | ⟨dx, fs, h1, h2⟩
  · exact .inl (s _ _ h)
  · exact .inr ⟨dx, fs, s _ _ h1, s _ _ h2⟩
theorem mkv1 {C : Addr} {f : Str} {v : V} (q : ∀ a H', L2.Same H H' → ExF H' a C [(f, v)] → Q (.ref a) H') : MkvQ C (spInit1 C f) [v] H Q := by
  refine ⟨show 1 ≤ 1000 by decide, fun a ha => ⟨a, v, rfl, upd_same, fun dx h1 h2 => ⟨rfl, q a _ (fun b o e => ?_) ⟨dx, upd_same, ?_⟩⟩⟩⟩
  · rw [upd_ne h2] at h1
    have n1 := ne_of_none e ha
    rw [upd_ne n1, upd_ne (ne_of_none e h1), upd_ne n1]
    exact e
  · rw [upd_ne h2, upd_same]
theorem mkv2 {C : Addr} {f g : Str} {v u : V} (q : ∀ a H', L2.Same H H' → ExF H' a C [(g, u), (f, v)] → Q (.ref a) H') : MkvQ C (spInit2 C f g) [v, u] H Q := by
  refine ⟨show 2 ≤ 1000 by decide, fun a ha => ⟨a, v, u, rfl, upd_same, fun dx h1 h2 => ⟨rfl, q a _ (fun b o e => ?_) ⟨dx, ?_, upd_same⟩⟩⟩⟩
  · rw [upd_ne h2] at h1
    have n1 := ne_of_none e ha
    have n2 := ne_of_none e h1
    rw [upd_ne n2, upd_ne n1, upd_ne n2, upd_ne n1]
    exact e
  · rw [upd_ne (Ne.symm h2), upd_same]
theorem xatF {K : PySem.W.Frag} {n : Str} {a C : Addr} {fs : List (Str × V)} {v : V} (x : XfC K C) (hn : PySem.W.findIn K (.ref C) n = some none) (h : ExF H a C fs) (l : fs.lookup n = some v) (q : Q v H) : XatQ K n (.ref a) H Q := by
  obtain ⟨dx, h1, h2⟩ := h
  exact ⟨a, C, dx, fs, v, rfl, x, hn, h1, h2, l, q⟩
theorem r_isV {K : PySem.W.Frag} {a C : Addr} {c : V} {cv : Value} {b : Bool} (h : ExAt H a C) (hC : ExcC K C) (r : ∀ u, RelV c u → u = cv) (e : PySem.W.kitOne K (.ref C) cv = some b) (q : Q (.bl b) H) : rIsV K [.ref a, c] H Q := ⟨a, C, c, cv, b, rfl, h, hC, r, e, q⟩
theorem r_strI {i : Int} (h : i.natAbs.log2 < 1920) (q : Q (.str (toString i)) H) : rStrI [.int i] H Q := ⟨i, rfl, h, q⟩
theorem r_addS {i j : Str} (h : i.length + j.length ≤ sizeLine) (q : Q (.str (i ++ j)) H) : rAddS (.str i) (.str j) H Q := ⟨i, j, rfl, rfl, h, q⟩
theorem r_cat {a b : Addr} {xs ys : List V} (h1 : H a = some (.lst xs)) (h2 : H b = some (.lst ys)) (l : xs.length + ys.length ≤ sizeLine) (q : ∀ p H', H p = none → L2.Same H H' → H' p = some (.lst (xs ++ ys)) → Q (.ref p) H') : rCat (.ref a) (.ref b) H Q :=
  ⟨a, b, xs, ys, rfl, rfl, h1, h2, l, fun p hp => q p _ hp (MB.Same.upd hp) upd_same⟩
theorem r_reprD {K : PySem.W.Frag} {a : Addr} {d : PyData} (h : Dp K H (.ref a) d) (h1 : d.showable = true) (h2 : d.hasDict = false) (h3 : d.depth ≤ 60) (h4 : d.shown.length ≤ sizeLine) (q : Q (.str d.shown) H) : rRepr K [.ref a] H Q := ⟨a, d, rfl, h, h1, h2, h3, h4, q⟩
end
end MB
namespace K82
open PySem PySem.Spec PyProof.Rows L2 MB
section
variable {P : Program} {w : World} {K : PySem.W.Frag} {mg : Str → Option Value} {base : Heap}
theorem i_BadRatio (T : Txt K mg) : ∃ fd : FuncData, FnOk P w K mg base CX0 1 (He.ma K (He.ga K "BadRatio") "__init__") fd ["self", "what"] (spInit1 (He.ga K "BadRatio") "what") ∧ Binds K fd ["self", "what"] [] := by
  obtain ⟨fd, F⟩ := T.c.def_ 9 (d := dd_BadRatio_init) rfl
  refine ⟨fd, FunD.ok (CX := CX0) F sc_BadRatio_init (fun vs H Q E h => ?_) (fun cdv A outer s H vs Q E hr h => ?_), F.bindsN fun _ _ _ _ _ _ us hl => match us, hl with | [_, _], _ => rfl⟩
  · exact h.elim fun a ⟨v, e, _⟩ => by rw [e]; rfl
  · obtain ⟨a, v, rfl, ha, k⟩ := h
    refine ⟨_, PSs.nox (pss_one (ps_ost (pv 0) (pv 1))), MB.st0 (σ := [some (.ref a), some v]) rfl ?_⟩
    exact ⟨_, rfl, _, rfl, a, _, rfl, T.bo 0 rfl rfl, T.bn 0 0 rfl rfl, .inl ⟨ha, fun dx h1 h2 => k dx h1 h2⟩⟩
theorem i_BadCode (T : Txt K mg) : ∃ fd : FuncData, FnOk P w K mg base CX0 1 (He.ma K (He.ga K "BadCode") "__init__") fd ["self", "what", "place"] (spInit2 (He.ga K "BadCode") "what" "place") ∧ Binds K fd ["self", "what", "place"] [] := by
  obtain ⟨fd, F⟩ := T.c.def_ 10 (d := dd_BadCode_init) rfl
  refine ⟨fd, FunD.ok (CX := CX0) F sc_BadCode_init (fun vs H Q E h => ?_) (fun cdv A outer s H vs Q E hr h => ?_), F.bindsN fun _ _ _ _ _ _ us hl => match us, hl with | [_, _, _], _ => rfl⟩
  · exact h.elim fun a ⟨v, u, e, _⟩ => by rw [e]; rfl
  · obtain ⟨a, v, u, rfl, ha, k⟩ := h
    refine ⟨_, PSs.nox (pss_cons (ps_ost (pv 0) (pv 1)) (pss_one (ps_ost (pv 0) (pv 2)))), MB.st0 (σ := [some (.ref a), some v, some u]) rfl ?_⟩
    exact ⟨_, rfl, _, rfl, a, _, rfl, T.bo 2 rfl rfl, T.bn 2 0 rfl rfl, .inl ⟨ha, fun dx h1 h2 => ⟨_, rfl, _, rfl, a, _, rfl, T.bo 2 rfl rfl, T.bn 2 1 rfl rfl, .inr ⟨dx, _, upd_same, (upd_ne h2).trans upd_same, (by show 1 ≤ 900; decide), k dx h1 h2⟩⟩⟩⟩
theorem i_BadBit (T : Txt K mg) : ∃ fd : FuncData, FnOk P w K mg base CX0 1 (He.ma K (He.ga K "BadBit") "__init__") fd ["self", "bit"] (spInit1 (He.ga K "BadBit") "bit") ∧ Binds K fd ["self", "bit"] [] := by
  obtain ⟨fd, F⟩ := T.c.def_ 11 (d := dd_BadBit_init) rfl
  refine ⟨fd, FunD.ok (CX := CX0) F sc_BadBit_init (fun vs H Q E h => ?_) (fun cdv A outer s H vs Q E hr h => ?_), F.bindsN fun _ _ _ _ _ _ us hl => match us, hl with | [_, _], _ => rfl⟩
  · exact h.elim fun a ⟨v, e, _⟩ => by rw [e]; rfl
  · obtain ⟨a, v, rfl, ha, k⟩ := h
    refine ⟨_, PSs.nox (pss_one (ps_ost (pv 0) (pv 1))), MB.st0 (σ := [some (.ref a), some v]) rfl ?_⟩
    exact ⟨_, rfl, _, rfl, a, _, rfl, T.bo 3 rfl rfl, T.bn 3 0 rfl rfl, .inl ⟨ha, fun dx h1 h2 => k dx h1 h2⟩⟩
theorem i_NoCheck (T : Txt K mg) : ∃ fd : FuncData, FnOk P w K mg base CX0 1 (He.ma K (He.ga K "NoCheck") "__init__") fd ["self", "number"] (spInit1 (He.ga K "NoCheck") "number") ∧ Binds K fd ["self", "number"] [] := by
  obtain ⟨fd, F⟩ := T.c.def_ 12 (d := dd_NoCheck_init) rfl
  refine ⟨fd, FunD.ok (CX := CX0) F sc_NoCheck_init (fun vs H Q E h => ?_) (fun cdv A outer s H vs Q E hr h => ?_), F.bindsN fun _ _ _ _ _ _ us hl => match us, hl with | [_, _], _ => rfl⟩
  · exact h.elim fun a ⟨v, e, _⟩ => by rw [e]; rfl
  · obtain ⟨a, v, rfl, ha, k⟩ := h
    refine ⟨_, PSs.nox (pss_one (ps_ost (pv 0) (pv 1))), MB.st0 (σ := [some (.ref a), some v]) rfl ?_⟩
    exact ⟨_, rfl, _, rfl, a, _, rfl, T.bo 4 rfl rfl, T.bn 4 0 rfl rfl, .inl ⟨ha, fun dx h1 h2 => k dx h1 h2⟩⟩
theorem i_BadPrices (T : Txt K mg) : ∃ fd : FuncData, FnOk P w K mg base CX0 1 (He.ma K (He.ga K "BadPrices") "__init__") fd ["self", "place"] (spInit1 (He.ga K "BadPrices") "place") ∧ Binds K fd ["self", "place"] [] := by
  obtain ⟨fd, F⟩ := T.c.def_ 13 (d := dd_BadPrices_init) rfl
  refine ⟨fd, FunD.ok (CX := CX0) F sc_BadPrices_init (fun vs H Q E h => ?_) (fun cdv A outer s H vs Q E hr h => ?_), F.bindsN fun _ _ _ _ _ _ us hl => match us, hl with | [_, _], _ => rfl⟩
  · exact h.elim fun a ⟨v, e, _⟩ => by rw [e]; rfl
  · obtain ⟨a, v, rfl, ha, k⟩ := h
    refine ⟨_, PSs.nox (pss_one (ps_ost (pv 0) (pv 1))), MB.st0 (σ := [some (.ref a), some v]) rfl ?_⟩
    exact ⟨_, rfl, _, rfl, a, _, rfl, T.bo 6 rfl rfl, T.bn 6 0 rfl rfl, .inl ⟨ha, fun dx h1 h2 => k dx h1 h2⟩⟩
theorem i_BadRow (T : Txt K mg) : ∃ fd : FuncData, FnOk P w K mg base CX0 1 (He.ma K (He.ga K "BadRow") "__init__") fd ["self", "place"] (spInit1 (He.ga K "BadRow") "place") ∧ Binds K fd ["self", "place"] [] := by
  obtain ⟨fd, F⟩ := T.c.def_ 14 (d := dd_BadRow_init) rfl
  refine ⟨fd, FunD.ok (CX := CX0) F sc_BadRow_init (fun vs H Q E h => ?_) (fun cdv A outer s H vs Q E hr h => ?_), F.bindsN fun _ _ _ _ _ _ us hl => match us, hl with | [_, _], _ => rfl⟩
  · exact h.elim fun a ⟨v, e, _⟩ => by rw [e]; rfl
  · obtain ⟨a, v, rfl, ha, k⟩ := h
    refine ⟨_, PSs.nox (pss_one (ps_ost (pv 0) (pv 1))), MB.st0 (σ := [some (.ref a), some v]) rfl ?_⟩
    exact ⟨_, rfl, _, rfl, a, _, rfl, T.bo 7 rfl rfl, T.bn 7 0 rfl rfl, .inl ⟨ha, fun dx h1 h2 => k dx h1 h2⟩⟩
theorem i_BadWord (T : Txt K mg) : ∃ fd : FuncData, FnOk P w K mg base CX0 1 (He.ma K (He.ga K "BadWord") "__init__") fd ["self", "number"] (spInit1 (He.ga K "BadWord") "number") ∧ Binds K fd ["self", "number"] [] := by
  obtain ⟨fd, F⟩ := T.c.def_ 15 (d := dd_BadWord_init) rfl
  refine ⟨fd, FunD.ok (CX := CX0) F sc_BadWord_init (fun vs H Q E h => ?_) (fun cdv A outer s H vs Q E hr h => ?_), F.bindsN fun _ _ _ _ _ _ us hl => match us, hl with | [_, _], _ => rfl⟩
  · exact h.elim fun a ⟨v, e, _⟩ => by rw [e]; rfl
  · obtain ⟨a, v, rfl, ha, k⟩ := h
    refine ⟨_, PSs.nox (pss_one (ps_ost (pv 0) (pv 1))), MB.st0 (σ := [some (.ref a), some v]) rfl ?_⟩
    exact ⟨_, rfl, _, rfl, a, _, rfl, T.bo 8 rfl rfl, T.bn 8 0 rfl rfl, .inl ⟨ha, fun dx h1 h2 => k dx h1 h2⟩⟩
theorem i_TooMany (T : Txt K mg) : ∃ fd : FuncData, FnOk P w K mg base CX0 1 (He.ma K (He.ga K "TooMany") "__init__") fd ["self", "most"] (spInit1 (He.ga K "TooMany") "most") ∧ Binds K fd ["self", "most"] [] := by
  obtain ⟨fd, F⟩ := T.c.def_ 16 (d := dd_TooMany_init) rfl
  refine ⟨fd, FunD.ok (CX := CX0) F sc_TooMany_init (fun vs H Q E h => ?_) (fun cdv A outer s H vs Q E hr h => ?_), F.bindsN fun _ _ _ _ _ _ us hl => match us, hl with | [_, _], _ => rfl⟩
  · exact h.elim fun a ⟨v, e, _⟩ => by rw [e]; rfl
  · obtain ⟨a, v, rfl, ha, k⟩ := h
    refine ⟨_, PSs.nox (pss_one (ps_ost (pv 0) (pv 1))), MB.st0 (σ := [some (.ref a), some v]) rfl ?_⟩
    exact ⟨_, rfl, _, rfl, a, _, rfl, T.bo 11 rfl rfl, T.bn 11 0 rfl rfl, .inl ⟨ha, fun dx h1 h2 => k dx h1 h2⟩⟩
theorem i_BadText (T : Txt K mg) : ∃ fd : FuncData, FnOk P w K mg base CX0 1 (He.ma K (He.ga K "BadText") "__init__") fd ["self", "place"] (spInit1 (He.ga K "BadText") "place") ∧ Binds K fd ["self", "place"] [] := by
  obtain ⟨fd, F⟩ := T.c.def_ 17 (d := dd_BadText_init) rfl
  refine ⟨fd, FunD.ok (CX := CX0) F sc_BadText_init (fun vs H Q E h => ?_) (fun cdv A outer s H vs Q E hr h => ?_), F.bindsN fun _ _ _ _ _ _ us hl => match us, hl with | [_, _], _ => rfl⟩
  · exact h.elim fun a ⟨v, e, _⟩ => by rw [e]; rfl
  · obtain ⟨a, v, rfl, ha, k⟩ := h
    refine ⟨_, PSs.nox (pss_one (ps_ost (pv 0) (pv 1))), MB.st0 (σ := [some (.ref a), some v]) rfl ?_⟩
    exact ⟨_, rfl, _, rfl, a, _, rfl, T.bo 12 rfl rfl, T.bn 12 0 rfl rfl, .inl ⟨ha, fun dx h1 h2 => k dx h1 h2⟩⟩
theorem i_NotLet (T : Txt K mg) : ∃ fd : FuncData, FnOk P w K mg base CX0 1 (He.ma K (He.ga K "NotLet") "__init__") fd ["self", "number", "lot"] (spInit2 (He.ga K "NotLet") "number" "lot") ∧ Binds K fd ["self", "number", "lot"] [] := by
  obtain ⟨fd, F⟩ := T.c.def_ 18 (d := dd_NotLet_init) rfl
  refine ⟨fd, FunD.ok (CX := CX0) F sc_NotLet_init (fun vs H Q E h => ?_) (fun cdv A outer s H vs Q E hr h => ?_), F.bindsN fun _ _ _ _ _ _ us hl => match us, hl with | [_, _, _], _ => rfl⟩
  · exact h.elim fun a ⟨v, u, e, _⟩ => by rw [e]; rfl
  · obtain ⟨a, v, u, rfl, ha, k⟩ := h
    refine ⟨_, PSs.nox (pss_cons (ps_ost (pv 0) (pv 1)) (pss_one (ps_ost (pv 0) (pv 2)))), MB.st0 (σ := [some (.ref a), some v, some u]) rfl ?_⟩
    exact ⟨_, rfl, _, rfl, a, _, rfl, T.bo 13 rfl rfl, T.bn 13 0 rfl rfl, .inl ⟨ha, fun dx h1 h2 => ⟨_, rfl, _, rfl, a, _, rfl, T.bo 13 rfl rfl, T.bn 13 1 rfl rfl, .inr ⟨dx, _, upd_same, (upd_ne h2).trans upd_same, (by show 1 ≤ 900; decide), k dx h1 h2⟩⟩⟩⟩
theorem i_BadSheets (T : Txt K mg) : ∃ fd : FuncData, FnOk P w K mg base CX0 1 (He.ma K (He.ga K "BadSheets") "__init__") fd ["self", "sheets"] (spInit1 (He.ga K "BadSheets") "sheets") ∧ Binds K fd ["self", "sheets"] [] := by
  obtain ⟨fd, F⟩ := T.c.def_ 19 (d := dd_BadSheets_init) rfl
  refine ⟨fd, FunD.ok (CX := CX0) F sc_BadSheets_init (fun vs H Q E h => ?_) (fun cdv A outer s H vs Q E hr h => ?_), F.bindsN fun _ _ _ _ _ _ us hl => match us, hl with | [_, _], _ => rfl⟩
  · exact h.elim fun a ⟨v, e, _⟩ => by rw [e]; rfl
  · obtain ⟨a, v, rfl, ha, k⟩ := h
    refine ⟨_, PSs.nox (pss_one (ps_ost (pv 0) (pv 1))), MB.st0 (σ := [some (.ref a), some v]) rfl ?_⟩
    exact ⟨_, rfl, _, rfl, a, _, rfl, T.bo 14 rfl rfl, T.bn 14 0 rfl rfl, .inl ⟨ha, fun dx h1 h2 => k dx h1 h2⟩⟩
theorem i_BadRows (T : Txt K mg) : ∃ fd : FuncData, FnOk P w K mg base CX0 1 (He.ma K (He.ga K "BadRows") "__init__") fd ["self", "number"] (spInit1 (He.ga K "BadRows") "number") ∧ Binds K fd ["self", "number"] [] := by
  obtain ⟨fd, F⟩ := T.c.def_ 20 (d := dd_BadRows_init) rfl
  refine ⟨fd, FunD.ok (CX := CX0) F sc_BadRows_init (fun vs H Q E h => ?_) (fun cdv A outer s H vs Q E hr h => ?_), F.bindsN fun _ _ _ _ _ _ us hl => match us, hl with | [_, _], _ => rfl⟩
  · exact h.elim fun a ⟨v, e, _⟩ => by rw [e]; rfl
  · obtain ⟨a, v, rfl, ha, k⟩ := h
    refine ⟨_, PSs.nox (pss_one (ps_ost (pv 0) (pv 1))), MB.st0 (σ := [some (.ref a), some v]) rfl ?_⟩
    exact ⟨_, rfl, _, rfl, a, _, rfl, T.bo 15 rfl rfl, T.bn 15 0 rfl rfl, .inl ⟨ha, fun dx h1 h2 => k dx h1 h2⟩⟩
theorem i_BadWeights (T : Txt K mg) : ∃ fd : FuncData, FnOk P w K mg base CX0 1 (He.ma K (He.ga K "BadWeights") "__init__") fd ["self", "place"] (spInit1 (He.ga K "BadWeights") "place") ∧ Binds K fd ["self", "place"] [] := by
  obtain ⟨fd, F⟩ := T.c.def_ 21 (d := dd_BadWeights_init) rfl
  refine ⟨fd, FunD.ok (CX := CX0) F sc_BadWeights_init (fun vs H Q E h => ?_) (fun cdv A outer s H vs Q E hr h => ?_), F.bindsN fun _ _ _ _ _ _ us hl => match us, hl with | [_, _], _ => rfl⟩
  · exact h.elim fun a ⟨v, e, _⟩ => by rw [e]; rfl
  · obtain ⟨a, v, rfl, ha, k⟩ := h
    refine ⟨_, PSs.nox (pss_one (ps_ost (pv 0) (pv 1))), MB.st0 (σ := [some (.ref a), some v]) rfl ?_⟩
    exact ⟨_, rfl, _, rfl, a, _, rfl, T.bo 16 rfl rfl, T.bn 16 0 rfl rfl, .inl ⟨ha, fun dx h1 h2 => k dx h1 h2⟩⟩
theorem i_BadCover (T : Txt K mg) : ∃ fd : FuncData, FnOk P w K mg base CX0 1 (He.ma K (He.ga K "BadCover") "__init__") fd ["self", "what", "number"] (spInit2 (He.ga K "BadCover") "what" "number") ∧ Binds K fd ["self", "what", "number"] [] := by
  obtain ⟨fd, F⟩ := T.c.def_ 22 (d := dd_BadCover_init) rfl
  refine ⟨fd, FunD.ok (CX := CX0) F sc_BadCover_init (fun vs H Q E h => ?_) (fun cdv A outer s H vs Q E hr h => ?_), F.bindsN fun _ _ _ _ _ _ us hl => match us, hl with | [_, _, _], _ => rfl⟩
  · exact h.elim fun a ⟨v, u, e, _⟩ => by rw [e]; rfl
  · obtain ⟨a, v, u, rfl, ha, k⟩ := h
    refine ⟨_, PSs.nox (pss_cons (ps_ost (pv 0) (pv 1)) (pss_one (ps_ost (pv 0) (pv 2)))), MB.st0 (σ := [some (.ref a), some v, some u]) rfl ?_⟩
    exact ⟨_, rfl, _, rfl, a, _, rfl, T.bo 17 rfl rfl, T.bn 17 0 rfl rfl, .inl ⟨ha, fun dx h1 h2 => ⟨_, rfl, _, rfl, a, _, rfl, T.bo 17 rfl rfl, T.bn 17 1 rfl rfl, .inr ⟨dx, _, upd_same, (upd_ne h2).trans upd_same, (by show 1 ≤ 900; decide), k dx h1 h2⟩⟩⟩⟩
theorem i_BadMarks (T : Txt K mg) : ∃ fd : FuncData, FnOk P w K mg base CX0 1 (He.ma K (He.ga K "BadMarks") "__init__") fd ["self", "place"] (spInit1 (He.ga K "BadMarks") "place") ∧ Binds K fd ["self", "place"] [] := by
  obtain ⟨fd, F⟩ := T.c.def_ 23 (d := dd_BadMarks_init) rfl
  refine ⟨fd, FunD.ok (CX := CX0) F sc_BadMarks_init (fun vs H Q E h => ?_) (fun cdv A outer s H vs Q E hr h => ?_), F.bindsN fun _ _ _ _ _ _ us hl => match us, hl with | [_, _], _ => rfl⟩
  · exact h.elim fun a ⟨v, e, _⟩ => by rw [e]; rfl
  · obtain ⟨a, v, rfl, ha, k⟩ := h
    refine ⟨_, PSs.nox (pss_one (ps_ost (pv 0) (pv 1))), MB.st0 (σ := [some (.ref a), some v]) rfl ?_⟩
    exact ⟨_, rfl, _, rfl, a, _, rfl, T.bo 19 rfl rfl, T.bn 19 0 rfl rfl, .inl ⟨ha, fun dx h1 h2 => k dx h1 h2⟩⟩
theorem i_BadTimes (T : Txt K mg) : ∃ fd : FuncData, FnOk P w K mg base CX0 1 (He.ma K (He.ga K "BadTimes") "__init__") fd ["self", "times"] (spInit1 (He.ga K "BadTimes") "times") ∧ Binds K fd ["self", "times"] [] := by
  obtain ⟨fd, F⟩ := T.c.def_ 24 (d := dd_BadTimes_init) rfl
  refine ⟨fd, FunD.ok (CX := CX0) F sc_BadTimes_init (fun vs H Q E h => ?_) (fun cdv A outer s H vs Q E hr h => ?_), F.bindsN fun _ _ _ _ _ _ us hl => match us, hl with | [_, _], _ => rfl⟩
  · exact h.elim fun a ⟨v, e, _⟩ => by rw [e]; rfl
  · obtain ⟨a, v, rfl, ha, k⟩ := h
    refine ⟨_, PSs.nox (pss_one (ps_ost (pv 0) (pv 1))), MB.st0 (σ := [some (.ref a), some v]) rfl ?_⟩
    exact ⟨_, rfl, _, rfl, a, _, rfl, T.bo 21 rfl rfl, T.bn 21 0 rfl rfl, .inl ⟨ha, fun dx h1 h2 => k dx h1 h2⟩⟩
theorem i_LowRest (T : Txt K mg) : ∃ fd : FuncData, FnOk P w K mg base CX0 1 (He.ma K (He.ga K "LowRest") "__init__") fd ["self", "bit"] (spInit1 (He.ga K "LowRest") "bit") ∧ Binds K fd ["self", "bit"] [] := by
  obtain ⟨fd, F⟩ := T.c.def_ 25 (d := dd_LowRest_init) rfl
  refine ⟨fd, FunD.ok (CX := CX0) F sc_LowRest_init (fun vs H Q E h => ?_) (fun cdv A outer s H vs Q E hr h => ?_), F.bindsN fun _ _ _ _ _ _ us hl => match us, hl with | [_, _], _ => rfl⟩
  · exact h.elim fun a ⟨v, e, _⟩ => by rw [e]; rfl
  · obtain ⟨a, v, rfl, ha, k⟩ := h
    refine ⟨_, PSs.nox (pss_one (ps_ost (pv 0) (pv 1))), MB.st0 (σ := [some (.ref a), some v]) rfl ?_⟩
    exact ⟨_, rfl, _, rfl, a, _, rfl, T.bo 22 rfl rfl, T.bn 22 0 rfl rfl, .inl ⟨ha, fun dx h1 h2 => k dx h1 h2⟩⟩
theorem i_BadCone (T : Txt K mg) : ∃ fd : FuncData, FnOk P w K mg base CX0 1 (He.ma K (He.ga K "BadCone") "__init__") fd ["self", "place"] (spInit1 (He.ga K "BadCone") "place") ∧ Binds K fd ["self", "place"] [] := by
  obtain ⟨fd, F⟩ := T.c.def_ 26 (d := dd_BadCone_init) rfl
  refine ⟨fd, FunD.ok (CX := CX0) F sc_BadCone_init (fun vs H Q E h => ?_) (fun cdv A outer s H vs Q E hr h => ?_), F.bindsN fun _ _ _ _ _ _ us hl => match us, hl with | [_, _], _ => rfl⟩
  · exact h.elim fun a ⟨v, e, _⟩ => by rw [e]; rfl
  · obtain ⟨a, v, rfl, ha, k⟩ := h
    refine ⟨_, PSs.nox (pss_one (ps_ost (pv 0) (pv 1))), MB.st0 (σ := [some (.ref a), some v]) rfl ?_⟩
    exact ⟨_, rfl, _, rfl, a, _, rfl, T.bo 23 rfl rfl, T.bn 23 0 rfl rfl, .inl ⟨ha, fun dx h1 h2 => k dx h1 h2⟩⟩
theorem i_NotCone (T : Txt K mg) : ∃ fd : FuncData, FnOk P w K mg base CX0 1 (He.ma K (He.ga K "NotCone") "__init__") fd ["self", "number", "bit"] (spInit2 (He.ga K "NotCone") "number" "bit") ∧ Binds K fd ["self", "number", "bit"] [] := by
  obtain ⟨fd, F⟩ := T.c.def_ 27 (d := dd_NotCone_init) rfl
  refine ⟨fd, FunD.ok (CX := CX0) F sc_NotCone_init (fun vs H Q E h => ?_) (fun cdv A outer s H vs Q E hr h => ?_), F.bindsN fun _ _ _ _ _ _ us hl => match us, hl with | [_, _, _], _ => rfl⟩
  · exact h.elim fun a ⟨v, u, e, _⟩ => by rw [e]; rfl
  · obtain ⟨a, v, u, rfl, ha, k⟩ := h
    refine ⟨_, PSs.nox (pss_cons (ps_ost (pv 0) (pv 1)) (pss_one (ps_ost (pv 0) (pv 2)))), MB.st0 (σ := [some (.ref a), some v, some u]) rfl ?_⟩
    exact ⟨_, rfl, _, rfl, a, _, rfl, T.bo 24 rfl rfl, T.bn 24 0 rfl rfl, .inl ⟨ha, fun dx h1 h2 => ⟨_, rfl, _, rfl, a, _, rfl, T.bo 24 rfl rfl, T.bn 24 1 rfl rfl, .inr ⟨dx, _, upd_same, (upd_ne h2).trans upd_same, (by show 1 ≤ 900; decide), k dx h1 h2⟩⟩⟩⟩
theorem i_BadMany (T : Txt K mg) : ∃ fd : FuncData, FnOk P w K mg base CX0 1 (He.ma K (He.ga K "BadMany") "__init__") fd ["self", "many"] (spInit1 (He.ga K "BadMany") "many") ∧ Binds K fd ["self", "many"] [] := by
  obtain ⟨fd, F⟩ := T.c.def_ 28 (d := dd_BadMany_init) rfl
  refine ⟨fd, FunD.ok (CX := CX0) F sc_BadMany_init (fun vs H Q E h => ?_) (fun cdv A outer s H vs Q E hr h => ?_), F.bindsN fun _ _ _ _ _ _ us hl => match us, hl with | [_, _], _ => rfl⟩
  · exact h.elim fun a ⟨v, e, _⟩ => by rw [e]; rfl
  · obtain ⟨a, v, rfl, ha, k⟩ := h
    refine ⟨_, PSs.nox (pss_one (ps_ost (pv 0) (pv 1))), MB.st0 (σ := [some (.ref a), some v]) rfl ?_⟩
    exact ⟨_, rfl, _, rfl, a, _, rfl, T.bo 25 rfl rfl, T.bn 25 0 rfl rfl, .inl ⟨ha, fun dx h1 h2 => k dx h1 h2⟩⟩
theorem i_BadReceived (T : Txt K mg) : ∃ fd : FuncData, FnOk P w K mg base CX0 1 (He.ma K (He.ga K "BadReceived") "__init__") fd ["self", "place"] (spInit1 (He.ga K "BadReceived") "place") ∧ Binds K fd ["self", "place"] [] := by
  obtain ⟨fd, F⟩ := T.c.def_ 29 (d := dd_BadReceived_init) rfl
  refine ⟨fd, FunD.ok (CX := CX0) F sc_BadReceived_init (fun vs H Q E h => ?_) (fun cdv A outer s H vs Q E hr h => ?_), F.bindsN fun _ _ _ _ _ _ us hl => match us, hl with | [_, _], _ => rfl⟩
  · exact h.elim fun a ⟨v, e, _⟩ => by rw [e]; rfl
  · obtain ⟨a, v, rfl, ha, k⟩ := h
    refine ⟨_, PSs.nox (pss_one (ps_ost (pv 0) (pv 1))), MB.st0 (σ := [some (.ref a), some v]) rfl ?_⟩
    exact ⟨_, rfl, _, rfl, a, _, rfl, T.bo 26 rfl rfl, T.bn 26 0 rfl rfl, .inl ⟨ha, fun dx h1 h2 => k dx h1 h2⟩⟩
theorem i_OddCount (T : Txt K mg) : ∃ fd : FuncData, FnOk P w K mg base CX0 1 (He.ma K (He.ga K "OddCount") "__init__") fd ["self", "number"] (spInit1 (He.ga K "OddCount") "number") ∧ Binds K fd ["self", "number"] [] := by
  obtain ⟨fd, F⟩ := T.c.def_ 30 (d := dd_OddCount_init) rfl
  refine ⟨fd, FunD.ok (CX := CX0) F sc_OddCount_init (fun vs H Q E h => ?_) (fun cdv A outer s H vs Q E hr h => ?_), F.bindsN fun _ _ _ _ _ _ us hl => match us, hl with | [_, _], _ => rfl⟩
  · exact h.elim fun a ⟨v, e, _⟩ => by rw [e]; rfl
  · obtain ⟨a, v, rfl, ha, k⟩ := h
    refine ⟨_, PSs.nox (pss_one (ps_ost (pv 0) (pv 1))), MB.st0 (σ := [some (.ref a), some v]) rfl ?_⟩
    exact ⟨_, rfl, _, rfl, a, _, rfl, T.bo 27 rfl rfl, T.bn 27 0 rfl rfl, .inl ⟨ha, fun dx h1 h2 => k dx h1 h2⟩⟩
theorem i_NotStop (T : Txt K mg) : ∃ fd : FuncData, FnOk P w K mg base CX0 1 (He.ma K (He.ga K "NotStop") "__init__") fd ["self", "number"] (spInit1 (He.ga K "NotStop") "number") ∧ Binds K fd ["self", "number"] [] := by
  obtain ⟨fd, F⟩ := T.c.def_ 31 (d := dd_NotStop_init) rfl
  refine ⟨fd, FunD.ok (CX := CX0) F sc_NotStop_init (fun vs H Q E h => ?_) (fun cdv A outer s H vs Q E hr h => ?_), F.bindsN fun _ _ _ _ _ _ us hl => match us, hl with | [_, _], _ => rfl⟩
  · exact h.elim fun a ⟨v, e, _⟩ => by rw [e]; rfl
  · obtain ⟨a, v, rfl, ha, k⟩ := h
    refine ⟨_, PSs.nox (pss_one (ps_ost (pv 0) (pv 1))), MB.st0 (σ := [some (.ref a), some v]) rfl ?_⟩
    exact ⟨_, rfl, _, rfl, a, _, rfl, T.bo 28 rfl rfl, T.bn 28 0 rfl rfl, .inl ⟨ha, fun dx h1 h2 => k dx h1 h2⟩⟩
theorem i_NotRingless (T : Txt K mg) : ∃ fd : FuncData, FnOk P w K mg base CX0 1 (He.ma K (He.ga K "NotRingless") "__init__") fd ["self", "ring"] (spInit1 (He.ga K "NotRingless") "ring") ∧ Binds K fd ["self", "ring"] [] := by
  obtain ⟨fd, F⟩ := T.c.def_ 32 (d := dd_NotRingless_init) rfl
  refine ⟨fd, FunD.ok (CX := CX0) F sc_NotRingless_init (fun vs H Q E h => ?_) (fun cdv A outer s H vs Q E hr h => ?_), F.bindsN fun _ _ _ _ _ _ us hl => match us, hl with | [_, _], _ => rfl⟩
  · exact h.elim fun a ⟨v, e, _⟩ => by rw [e]; rfl
  · obtain ⟨a, v, rfl, ha, k⟩ := h
    refine ⟨_, PSs.nox (pss_one (ps_ost (pv 0) (pv 1))), MB.st0 (σ := [some (.ref a), some v]) rfl ?_⟩
    exact ⟨_, rfl, _, rfl, a, _, rfl, T.bo 29 rfl rfl, T.bn 29 0 rfl rfl, .inl ⟨ha, fun dx h1 h2 => k dx h1 h2⟩⟩
theorem i_NotCorner (T : Txt K mg) : ∃ fd : FuncData, FnOk P w K mg base CX0 1 (He.ma K (He.ga K "NotCorner") "__init__") fd ["self", "row"] (spInit1 (He.ga K "NotCorner") "row") ∧ Binds K fd ["self", "row"] [] := by
  obtain ⟨fd, F⟩ := T.c.def_ 33 (d := dd_NotCorner_init) rfl
  refine ⟨fd, FunD.ok (CX := CX0) F sc_NotCorner_init (fun vs H Q E h => ?_) (fun cdv A outer s H vs Q E hr h => ?_), F.bindsN fun _ _ _ _ _ _ us hl => match us, hl with | [_, _], _ => rfl⟩
  · exact h.elim fun a ⟨v, e, _⟩ => by rw [e]; rfl
  · obtain ⟨a, v, rfl, ha, k⟩ := h
    refine ⟨_, PSs.nox (pss_one (ps_ost (pv 0) (pv 1))), MB.st0 (σ := [some (.ref a), some v]) rfl ?_⟩
    exact ⟨_, rfl, _, rfl, a, _, rfl, T.bo 30 rfl rfl, T.bn 30 0 rfl rfl, .inl ⟨ha, fun dx h1 h2 => k dx h1 h2⟩⟩
theorem i_BadWeb (T : Txt K mg) : ∃ fd : FuncData, FnOk P w K mg base CX0 1 (He.ma K (He.ga K "BadWeb") "__init__") fd ["self", "what", "place"] (spInit2 (He.ga K "BadWeb") "what" "place") ∧ Binds K fd ["self", "what", "place"] [] := by
  obtain ⟨fd, F⟩ := T.c.def_ 34 (d := dd_BadWeb_init) rfl
  refine ⟨fd, FunD.ok (CX := CX0) F sc_BadWeb_init (fun vs H Q E h => ?_) (fun cdv A outer s H vs Q E hr h => ?_), F.bindsN fun _ _ _ _ _ _ us hl => match us, hl with | [_, _, _], _ => rfl⟩
  · exact h.elim fun a ⟨v, u, e, _⟩ => by rw [e]; rfl
  · obtain ⟨a, v, u, rfl, ha, k⟩ := h
    refine ⟨_, PSs.nox (pss_cons (ps_ost (pv 0) (pv 1)) (pss_one (ps_ost (pv 0) (pv 2)))), MB.st0 (σ := [some (.ref a), some v, some u]) rfl ?_⟩
    exact ⟨_, rfl, _, rfl, a, _, rfl, T.bo 31 rfl rfl, T.bn 31 0 rfl rfl, .inl ⟨ha, fun dx h1 h2 => ⟨_, rfl, _, rfl, a, _, rfl, T.bo 31 rfl rfl, T.bn 31 1 rfl rfl, .inr ⟨dx, _, upd_same, (upd_ne h2).trans upd_same, (by show 1 ≤ 900; decide), k dx h1 h2⟩⟩⟩⟩
theorem i_BadPost (T : Txt K mg) : ∃ fd : FuncData, FnOk P w K mg base CX0 1 (He.ma K (He.ga K "BadPost") "__init__") fd ["self", "post"] (spInit1 (He.ga K "BadPost") "post") ∧ Binds K fd ["self", "post"] [] := by
  obtain ⟨fd, F⟩ := T.c.def_ 35 (d := dd_BadPost_init) rfl
  refine ⟨fd, FunD.ok (CX := CX0) F sc_BadPost_init (fun vs H Q E h => ?_) (fun cdv A outer s H vs Q E hr h => ?_), F.bindsN fun _ _ _ _ _ _ us hl => match us, hl with | [_, _], _ => rfl⟩
  · exact h.elim fun a ⟨v, e, _⟩ => by rw [e]; rfl
  · obtain ⟨a, v, rfl, ha, k⟩ := h
    refine ⟨_, PSs.nox (pss_one (ps_ost (pv 0) (pv 1))), MB.st0 (σ := [some (.ref a), some v]) rfl ?_⟩
    exact ⟨_, rfl, _, rfl, a, _, rfl, T.bo 32 rfl rfl, T.bn 32 0 rfl rfl, .inl ⟨ha, fun dx h1 h2 => k dx h1 h2⟩⟩
theorem i_NotTies (T : Txt K mg) : ∃ fd : FuncData, FnOk P w K mg base CX0 1 (He.ma K (He.ga K "NotTies") "__init__") fd ["self", "bit"] (spInit1 (He.ga K "NotTies") "bit") ∧ Binds K fd ["self", "bit"] [] := by
  obtain ⟨fd, F⟩ := T.c.def_ 36 (d := dd_NotTies_init) rfl
  refine ⟨fd, FunD.ok (CX := CX0) F sc_NotTies_init (fun vs H Q E h => ?_) (fun cdv A outer s H vs Q E hr h => ?_), F.bindsN fun _ _ _ _ _ _ us hl => match us, hl with | [_, _], _ => rfl⟩
  · exact h.elim fun a ⟨v, e, _⟩ => by rw [e]; rfl
  · obtain ⟨a, v, rfl, ha, k⟩ := h
    refine ⟨_, PSs.nox (pss_one (ps_ost (pv 0) (pv 1))), MB.st0 (σ := [some (.ref a), some v]) rfl ?_⟩
    exact ⟨_, rfl, _, rfl, a, _, rfl, T.bo 33 rfl rfl, T.bn 33 0 rfl rfl, .inl ⟨ha, fun dx h1 h2 => k dx h1 h2⟩⟩
theorem i_NotRound (T : Txt K mg) : ∃ fd : FuncData, FnOk P w K mg base CX0 1 (He.ma K (He.ga K "NotRound") "__init__") fd ["self", "what"] (spInit1 (He.ga K "NotRound") "what") ∧ Binds K fd ["self", "what"] [] := by
  obtain ⟨fd, F⟩ := T.c.def_ 37 (d := dd_NotRound_init) rfl
  refine ⟨fd, FunD.ok (CX := CX0) F sc_NotRound_init (fun vs H Q E h => ?_) (fun cdv A outer s H vs Q E hr h => ?_), F.bindsN fun _ _ _ _ _ _ us hl => match us, hl with | [_, _], _ => rfl⟩
  · exact h.elim fun a ⟨v, e, _⟩ => by rw [e]; rfl
  · obtain ⟨a, v, rfl, ha, k⟩ := h
    refine ⟨_, PSs.nox (pss_one (ps_ost (pv 0) (pv 1))), MB.st0 (σ := [some (.ref a), some v]) rfl ?_⟩
    exact ⟨_, rfl, _, rfl, a, _, rfl, T.bo 34 rfl rfl, T.bn 34 0 rfl rfl, .inl ⟨ha, fun dx h1 h2 => k dx h1 h2⟩⟩
theorem i_NotApart (T : Txt K mg) : ∃ fd : FuncData, FnOk P w K mg base CX0 1 (He.ma K (He.ga K "NotApart") "__init__") fd ["self", "what"] (spInit1 (He.ga K "NotApart") "what") ∧ Binds K fd ["self", "what"] [] := by
  obtain ⟨fd, F⟩ := T.c.def_ 38 (d := dd_NotApart_init) rfl
  refine ⟨fd, FunD.ok (CX := CX0) F sc_NotApart_init (fun vs H Q E h => ?_) (fun cdv A outer s H vs Q E hr h => ?_), F.bindsN fun _ _ _ _ _ _ us hl => match us, hl with | [_, _], _ => rfl⟩
  · exact h.elim fun a ⟨v, e, _⟩ => by rw [e]; rfl
  · obtain ⟨a, v, rfl, ha, k⟩ := h
    refine ⟨_, PSs.nox (pss_one (ps_ost (pv 0) (pv 1))), MB.st0 (σ := [some (.ref a), some v]) rfl ?_⟩
    exact ⟨_, rfl, _, rfl, a, _, rfl, T.bo 35 rfl rfl, T.bn 35 0 rfl rfl, .inl ⟨ha, fun dx h1 h2 => k dx h1 h2⟩⟩
theorem i_NoSmall (T : Txt K mg) : ∃ fd : FuncData, FnOk P w K mg base CX0 1 (He.ma K (He.ga K "NoSmall") "__init__") fd ["self", "which"] (spInit1 (He.ga K "NoSmall") "which") ∧ Binds K fd ["self", "which"] [] := by
  obtain ⟨fd, F⟩ := T.c.def_ 39 (d := dd_NoSmall_init) rfl
  refine ⟨fd, FunD.ok (CX := CX0) F sc_NoSmall_init (fun vs H Q E h => ?_) (fun cdv A outer s H vs Q E hr h => ?_), F.bindsN fun _ _ _ _ _ _ us hl => match us, hl with | [_, _], _ => rfl⟩
  · exact h.elim fun a ⟨v, e, _⟩ => by rw [e]; rfl
  · obtain ⟨a, v, rfl, ha, k⟩ := h
    refine ⟨_, PSs.nox (pss_one (ps_ost (pv 0) (pv 1))), MB.st0 (σ := [some (.ref a), some v]) rfl ?_⟩
    exact ⟨_, rfl, _, rfl, a, _, rfl, T.bo 37 rfl rfl, T.bn 37 0 rfl rfl, .inl ⟨ha, fun dx h1 h2 => k dx h1 h2⟩⟩
theorem i_NotHidden (T : Txt K mg) : ∃ fd : FuncData, FnOk P w K mg base CX0 1 (He.ma K (He.ga K "NotHidden") "__init__") fd ["self", "what"] (spInit1 (He.ga K "NotHidden") "what") ∧ Binds K fd ["self", "what"] [] := by
  obtain ⟨fd, F⟩ := T.c.def_ 40 (d := dd_NotHidden_init) rfl
  refine ⟨fd, FunD.ok (CX := CX0) F sc_NotHidden_init (fun vs H Q E h => ?_) (fun cdv A outer s H vs Q E hr h => ?_), F.bindsN fun _ _ _ _ _ _ us hl => match us, hl with | [_, _], _ => rfl⟩
  · exact h.elim fun a ⟨v, e, _⟩ => by rw [e]; rfl
  · obtain ⟨a, v, rfl, ha, k⟩ := h
    refine ⟨_, PSs.nox (pss_one (ps_ost (pv 0) (pv 1))), MB.st0 (σ := [some (.ref a), some v]) rfl ?_⟩
    exact ⟨_, rfl, _, rfl, a, _, rfl, T.bo 39 rfl rfl, T.bn 39 0 rfl rfl, .inl ⟨ha, fun dx h1 h2 => k dx h1 h2⟩⟩
theorem i_BadWish (T : Txt K mg) : ∃ fd : FuncData, FnOk P w K mg base CX0 1 (He.ma K (He.ga K "BadWish") "__init__") fd ["self", "number"] (spInit1 (He.ga K "BadWish") "number") ∧ Binds K fd ["self", "number"] [] := by
  obtain ⟨fd, F⟩ := T.c.def_ 41 (d := dd_BadWish_init) rfl
  refine ⟨fd, FunD.ok (CX := CX0) F sc_BadWish_init (fun vs H Q E h => ?_) (fun cdv A outer s H vs Q E hr h => ?_), F.bindsN fun _ _ _ _ _ _ us hl => match us, hl with | [_, _], _ => rfl⟩
  · exact h.elim fun a ⟨v, e, _⟩ => by rw [e]; rfl
  · obtain ⟨a, v, rfl, ha, k⟩ := h
    refine ⟨_, PSs.nox (pss_one (ps_ost (pv 0) (pv 1))), MB.st0 (σ := [some (.ref a), some v]) rfl ?_⟩
    exact ⟨_, rfl, _, rfl, a, _, rfl, T.bo 40 rfl rfl, T.bn 40 0 rfl rfl, .inl ⟨ha, fun dx h1 h2 => k dx h1 h2⟩⟩
theorem i_BadPool (T : Txt K mg) : ∃ fd : FuncData, FnOk P w K mg base CX0 1 (He.ma K (He.ga K "BadPool") "__init__") fd ["self", "place"] (spInit1 (He.ga K "BadPool") "place") ∧ Binds K fd ["self", "place"] [] := by
  obtain ⟨fd, F⟩ := T.c.def_ 42 (d := dd_BadPool_init) rfl
  refine ⟨fd, FunD.ok (CX := CX0) F sc_BadPool_init (fun vs H Q E h => ?_) (fun cdv A outer s H vs Q E hr h => ?_), F.bindsN fun _ _ _ _ _ _ us hl => match us, hl with | [_, _], _ => rfl⟩
  · exact h.elim fun a ⟨v, e, _⟩ => by rw [e]; rfl
  · obtain ⟨a, v, rfl, ha, k⟩ := h
    refine ⟨_, PSs.nox (pss_one (ps_ost (pv 0) (pv 1))), MB.st0 (σ := [some (.ref a), some v]) rfl ?_⟩
    exact ⟨_, rfl, _, rfl, a, _, rfl, T.bo 41 rfl rfl, T.bn 41 0 rfl rfl, .inl ⟨ha, fun dx h1 h2 => k dx h1 h2⟩⟩
theorem i_BadEdit (T : Txt K mg) : ∃ fd : FuncData, FnOk P w K mg base CX0 1 (He.ma K (He.ga K "BadEdit") "__init__") fd ["self", "place"] (spInit1 (He.ga K "BadEdit") "place") ∧ Binds K fd ["self", "place"] [] := by
  obtain ⟨fd, F⟩ := T.c.def_ 43 (d := dd_BadEdit_init) rfl
  refine ⟨fd, FunD.ok (CX := CX0) F sc_BadEdit_init (fun vs H Q E h => ?_) (fun cdv A outer s H vs Q E hr h => ?_), F.bindsN fun _ _ _ _ _ _ us hl => match us, hl with | [_, _], _ => rfl⟩
  · exact h.elim fun a ⟨v, e, _⟩ => by rw [e]; rfl
  · obtain ⟨a, v, rfl, ha, k⟩ := h
    refine ⟨_, PSs.nox (pss_one (ps_ost (pv 0) (pv 1))), MB.st0 (σ := [some (.ref a), some v]) rfl ?_⟩
    exact ⟨_, rfl, _, rfl, a, _, rfl, T.bo 43 rfl rfl, T.bn 43 0 rfl rfl, .inl ⟨ha, fun dx h1 h2 => k dx h1 h2⟩⟩

end
end K82
set_option Elab.async false
set_option linter.all false
set_option maxRecDepth 100000
set_option maxHeartbeats 4000000
local macro_rules | `(tactic| walk_at "cm") => `(tactic| first
  | assumption
  | exact Or.inr ⟨by decide, by decide⟩
  | exact Or.inl ⟨by decide, by decide⟩
  | exact Or.inr ⟨by omega, by omega⟩
  | exact Or.inl ⟨by omega, by omega⟩
  | (show (0 : Int) < _; omega)
  | exact ⟨by decide, by decide⟩
  | exact ⟨by omega, by omega⟩
  | exact ⟨by decide, by decide, by decide⟩
  | assumption)
local macro_rules | `(tactic| walk_at "ls") => `(tactic| first
  | assumption
  | exact L2.upd_same
  | exact (L2.upd_ne (by assumption)).trans (by assumption)
  | exact (L2.upd_ne (Ne.symm (by assumption))).trans (by assumption)
  | exact (L2.upd_ne (by assumption)).trans L2.upd_same)
local macro_rules | `(tactic| walk_at "sq") => `(tactic| first
  | assumption
  | exact L2.SqL.of (by walk_at "ls")
  | exact L2.SqT.of (by walk_at "ls"))
local macro_rules | `(tactic| walk_at "ty") => `(tactic| first
  | exact L2.TyX.base (L2.TyOf.int _)
  | exact L2.TyX.base (L2.TyOf.bl _)
  | exact L2.TyX.base (L2.TyOf.str _)
  | exact L2.TyX.base L2.TyOf.non
  | exact K82.ty_tup (by walk_at "sq")
  | exact K82.ty_lst (by walk_at "ls"))
local macro_rules | `(tactic| walk_at "kit") => `(tactic| first
  | exact K82.kit_ii | exact K82.kit_bi | exact K82.kit_si | exact K82.kit_ni | exact K82.kit_li | exact K82.kit_ti
  | exact K82.kit_ib | exact K82.kit_bb | exact K82.kit_sb | exact K82.kit_nb | exact K82.kit_lb | exact K82.kit_tb
  | exact K82.kit_it | exact K82.kit_bt | exact K82.kit_st | exact K82.kit_nt | exact K82.kit_lt | exact K82.kit_tt)
local macro_rules | `(tactic| walk_at "rd") => `(tactic| repeat (first
  | ((with_reducible apply MB.r_var); (next => rfl))
  | with_reducible refine MB.r_c ?_
  | with_reducible refine MB.r_op ?_
  | with_reducible refine MB.r_un ?_
  | with_reducible refine MB.r_nil ?_
  | with_reducible refine MB.r_cons ?_
  | with_reducible refine MB.r_I0 ?_
  | ((with_reducible apply MB.r_I); (next => walk_at "cm"))
  | with_reducible refine MB.r_U ?_
  | ((with_reducible apply MB.r_eq); (next => rfl))
  | ((with_reducible apply MB.r_ne); (next => rfl))
  | with_reducible refine MB.r_seq ?_
  | with_reducible refine MB.r_asg ?_
  | with_reducible refine MB.r_name ?_
  | with_reducible refine MB.r_sub ?_
  | with_reducible refine MB.r_ret ?_
  | with_reducible refine MB.r_next ?_
  | with_reducible refine MB.r_break ?_
  | with_reducible refine MB.r_drop ?_
  | with_reducible refine MB.r_ifS ?_
  | with_reducible refine MB.r_test ?_
  | with_reducible refine MB.r_tB ?_
  | with_reducible refine MB.r_bl ?_
  | with_reducible refine MB.r_and ?_
  | with_reducible refine MB.r_or ?_
  | with_reducible refine MB.r_not ?_
  | with_reducible refine MB.r_andV ?_
  | with_reducible refine MB.r_orV ?_
  | with_reducible refine MB.r_notV ?_
  | with_reducible refine MB.r_tIf ?_
  | with_reducible refine MB.r_chain ?_
  | with_reducible refine MB.r_call ?_
  | with_reducible refine MB.r_CB ?_
  | with_reducible refine MB.r_tup ?_
  | with_reducible refine MB.r_lst ?_
  | with_reducible refine MB.r_par ?_
  | with_reducible refine MB.r_two ?_
  | with_reducible refine MB.r_int1 ?_
  | with_reducible refine MB.r_int1b ?_
  | with_reducible refine MB.r_abs ?_
  | with_reducible refine MB.r_gcd ?_
  | with_reducible refine MB.r_mkv ?_
  | with_reducible refine MB.r_mk0 ?_
  | with_reducible refine MB.r_xat ?_
  | with_reducible refine MB.r_isNo ?_
  | with_reducible refine MB.r_callS ?_
  | with_reducible refine MB.if_nt ?_
  | with_reducible refine MB.if_nf ?_
  | with_reducible refine MB.if_n0 ?_
  | with_reducible refine MB.if_n1 ?_
  | with_reducible refine MB.if_n2 ?_
  | with_reducible refine MB.if_n3 ?_
  | with_reducible refine MB.if_n4 ?_
  | with_reducible refine MB.if_m0 ?_
  | with_reducible refine MB.if_m1 ?_
  | with_reducible refine MB.if_m2 ?_
  | with_reducible refine MB.if_m3 ?_
  | with_reducible refine MB.if_m4 ?_
  | ((with_reducible apply K82.r_isi); (next => walk_at "ty"); (next => walk_at "kit"))
  | with_reducible refine MB.r_yes ?_
  | with_reducible refine MB.r_gcons ?_
  | with_reducible refine MB.r_gnil ?_
  | ((with_reducible apply MB.r_gtup); (next => walk_at "sq"); (next => rfl))
  | with_reducible refine L2.iteF ?_
  | with_reducible refine L2.iteT ?_
  | ((with_reducible apply MB.r_ixL); (next => walk_at "sq"); (next => rfl))
  | ((with_reducible apply MB.r_ixT); (next => walk_at "sq"); (next => rfl))
  | ((with_reducible apply MB.r_lenQ); (next => first | exact Or.inl (by walk_at "sq") | exact Or.inr (by walk_at "sq")))
  | ((with_reducible apply MB.r_setL); (next => walk_at "ls"); (next => rfl))
  | with_reducible refine MB.r_notNo ?_))
namespace K82
open PySem PySem.Spec PyProof.Rows L2 MB
/-- what _law_thing hands out -/
inductive Thg (K : PySem.W.Frag) (H : Hp) : V → PyData → Prop
  | int (i : Int) : -1 ≤ i → i < 1000000 → Thg K H (.int i) (.int i)
  | txt (n : Int) : 0 ≤ n → n < 99 → Thg K H (.str (Str.ofString "text" ++ Str.ofString (toString n))) (.str (Str.ofString "text" ++ Str.ofString (toString n)))
  | non : Thg K H .non .none
  | two (a : Addr) (n : Int) : SqT K H a [.int n, .int 1] → 0 ≤ n → n < 9 → Thg K H (.ref a) (.tuple [.int n, .int 1])
  | nul : Thg K H (.str "") (.str "")
theorem txt_le {m : Int} (h0 : 0 ≤ m) (h1 : m < 99) : (Str.ofString "text").length + (Str.ofString (toString m)).length ≤ sizeLine := by
  have a : (Str.ofString "text").length = 4 := by decide +kernel
  have b := PyProof.Rows.toString_length_le h0 (k := 2) (by decide) (by omega)
  rw [a, sizeLine_eq]
  omega
theorem txt_rep : (List.range 99).all (fun n => decide ((reprText (Str.ofString "text" ++ Str.ofString (toString (n : Int)))).length ≤ 100)) = true := by decide +kernel
section
variable {K : PySem.W.Frag} {H H' : Hp} {v : V} {d : PyData}
theorem sqT_same {a : Addr} {xs : List V} (s : L2.Same H H') (h : SqT K H a xs) : SqT K H' a xs := by
  rcases h with (h | ⟨o, h⟩) | h
  · exact .inl (.inl (s _ _ h))
  · exact .inl (.inr ⟨o, s _ _ h⟩)
  · exact .inr h
theorem Thg.same (h : Thg K H v d) (s : L2.Same H H') : Thg K H' v d := by
  cases h with
  | int i a b => exact .int i a b
  | txt n a b => exact .txt n a b
  | non => exact .non
  | two q n a b c => exact .two q n (sqT_same s a) b c
  | nul => exact .nul
theorem Thg.kp {p l : Addr} (h : Thg K H v d) (hh : HandAt H p l) (k : Kp p H H') : Thg K H' v d := by
  cases h with
  | int i a b => exact .int i a b
  | txt n a b => exact .txt n a b
  | non => exact .non
  | two q n a b c => exact .two q n (seqT_kp hh k a) b c
  | nul => exact .nul
theorem Thg.dp (h : Thg K H v d) : Dp K H v d := by
  cases h with
  | int i a b => exact .int i
  | txt n a b => exact .str _
  | non => exact .non
  | two q n a b c => exact .tup a (.cons (.int _) (.cons (.int _) .nil))
  | nul => exact .str _
structure Small (d : PyData) : Prop where
  show_ : d.showable = true
  dict : d.hasDict = false
  depth : d.depth ≤ 4
  len : d.shown.length ≤ 2500
theorem log_small {i : Int} (a : -1 ≤ i) (b : i < 1000000) : i.natAbs.log2 < 1920 := by
  have h : i.natAbs < 2 ^ 20 := by omega
  by_cases z : i.natAbs = 0
  · rw [z]; decide
  · exact Nat.lt_of_lt_of_le ((Nat.log2_lt z).mpr h) (by decide)
theorem Thg.small (h : Thg K H v d) : Small d := by
  cases h with
  | int i a b => exact ⟨decide_eq_true (log_small a b), rfl, Nat.le_of_ble_eq_true rfl, Nat.le_trans (PyProof.Rows.int_text_len_1921 (log_small a b)) (by decide)⟩
  | txt n a b =>
    refine ⟨rfl, rfl, Nat.le_of_ble_eq_true rfl, ?_⟩
    have e := List.all_eq_true.mp txt_rep n.toNat (List.mem_range.mpr (by omega))
    rw [Int.toNat_of_nonneg a] at e
    exact Nat.le_trans (of_decide_eq_true e) (by decide)
  | non => exact ⟨rfl, rfl, Nat.le_of_ble_eq_true rfl, by decide +kernel⟩
  | two q n a b c =>
    have hz := log_small (i := n) (by omega) (by omega)
    refine ⟨?_, rfl, Nat.le_of_ble_eq_true rfl, ?_⟩
    · show (decide (n.natAbs.log2 < 1920) && (decide ((1 : Int).natAbs.log2 < 1920) && true)) = true
      rw [decide_eq_true hz]
      decide
    · refine Nat.le_trans (tupleText_len_le _) ?_
      have e := PyProof.Rows.toString_length_le b (k := 1) (by decide) (by omega)
      have e1 : (Str.ofString (toString (1 : Int))).length ≤ 1 := PyProof.Rows.toString_length_le (by decide) (by decide) (by decide)
      show ([(Str.ofString (toString n)).length, (Str.ofString (toString (1 : Int))).length].sum) + 2 * 2 + 3 ≤ 2500
      show (Str.ofString (toString n)).length + ((Str.ofString (toString (1 : Int))).length + 0) + 2 * 2 + 3 ≤ 2500
      omega
  | nul => exact ⟨rfl, rfl, Nat.le_of_ble_eq_true rfl, by decide +kernel⟩
end
def spThing (K : PySem.W.Frag) : Sp := fun vs H Q _ => ∃ (p l : Addr), vs = [.ref p] ∧ HandAt H p l ∧ ∀ (v : V) (d : PyData) (H' : Hp), Thg K H' v d → HandAt H' p l → Kp p H H' → Q v H'
section
variable {P : Program} {w : World} {K : PySem.W.Frag} {mg : Str → Option Value} {base : Heap}
theorem c_l_stir (T : Txt K mg) : Cal P w K mg base CX0 1 "_law_stir" ["_law_number", "_law_turn"] [] spStir := by
  obtain ⟨fd, F⟩ := T.c.def_ 0 (d := dd_l_stir) rfl
  refine ⟨_, fd, [], FunD.ok (CX := CX0) F sc_l_stir (fun vs H Q E h => ?_) (fun cdv A outer s H vs Q E hr h => ?_), T.glo 9, F.kp, F.bindsN fun _ _ _ _ _ _ us hl => match us, hl with | [_, _], _ => rfl, .nil⟩
  · obtain ⟨n, t, rfl, _⟩ := h
    rfl
  · obtain ⟨n, t, rfl, k⟩ := h
    refine ⟨_, PSs.nox (pss_cons (ps_set (i := 2) sc_l_stir.nd rfl (Or.inl rfl) (pe_op op_mod (pe_callTy k_int1 rfl (T.free 1) (by decide +kernel) (pa_cons (pe_op op_add (pe_op op_add (pe_op op_mul (pv 0) pe_int) (pe_op op_mul (pv 1) pe_int)) pe_int) pa_nil)) pe_int))
 (pss_cons (ps_set (i := 3) sc_l_stir.nd rfl (Or.inl rfl) (pe_op op_mod (pe_callTy k_int1 rfl (T.free 1) (by decide +kernel) (pa_cons (pe_op op_add (pe_op op_add (pe_op op_mul (pv 2) (pv 2)) (pe_op op_mul (pv 1) pe_int)) (pe_op op_fdiv (pv 2) pe_int)) pa_nil)) pe_int))
 (pss_one (ps_ret (pe_op op_fdiv (pe_op op_mod (pe_callTy k_int1 rfl (T.free 1) (by decide +kernel) (pa_cons (pe_op op_add (pe_op op_mul (pv 3) pe_int) (pe_op op_fdiv (pv 2) pe_int)) pa_nil)) pe_int) pe_int))))), ?_⟩
    refine MB.st0 (σ := [some (.int n), some (.int t), none, none]) rfl ?_
    walk_at "rd"
    exact k _
theorem c_l_draw (T : Txt K mg) : Cal P w K mg base CX0 2 "_law_draw" ["_law_hand_here", "_law_many"] [] spDraw := by
  have c_l_stir : Cal P w K mg base CX0 1 "_law_stir" ["_law_number", "_law_turn"] [] spStir := c_l_stir T
  obtain ⟨fd, F⟩ := T.c.def_ 2 (d := dd_l_draw) rfl
  refine ⟨_, fd, [], FunD.ok (CX := CX0) F sc_l_draw (fun vs H Q E h => ?_) (fun cdv A outer s H vs Q E hr h => ?_), T.glo 11, F.kp, F.bindsN fun _ _ _ _ _ _ us hl => match us, hl with | [_, _], _ => rfl, .nil⟩
  · obtain ⟨p, l, m, rfl, _⟩ := h
    rfl
  · obtain ⟨p, l, m, rfl, ⟨ns, i, rest, st, hp, ne, hl, h0, h1, h2, h3⟩, hm, hm2, k⟩ := h
    refine ⟨_, PSs.nox (pss_cons (ps_if (PW.pt (pw_and (pt_cmpR op_eq (pe_ix ix_list (pv 0) pe_int (fun _ _ => rfl)) pe_int (nomark _)) (pw_and1 (pt_cmpR op_lt (pe_ix ix_list (pv 0) pe_int (fun _ _ => rfl)) (pe_callB k_len rfl (T.free 3) PySem.boot_len (pa_cons (pe_ix ix_list (pv 0) pe_int (fun _ _ => rfl)) pa_nil)) (nomark _)))))
  (pss_cons (ps_set (i := 2) sc_l_draw.nd rfl (Or.inl rfl) (pe_ix ix_list (pe_ix ix_list (pv 0) pe_int (fun _ _ => rfl)) (pe_ix ix_list (pv 0) pe_int (fun _ _ => rfl)) (fun _ _ => rfl)))
 (pss_cons (ps_asg (pe_op op_add (pe_ix ix_list (pv 0) pe_int (fun _ _ => rfl)) pe_int) (pg_sub (pv 0) pe_int set_list (by intros; rfl)))
 (pss_cons (ps_if (pt_cmpR op_lt (pv 2) (pe_op op_pow pe_int pe_int) (nomark _))
  (pss_one (ps_ret (pe_op op_mod (pe_callTy k_int1 rfl (T.free 1) (by decide +kernel) (pa_cons (pe_cal c_l_stir (hr.mono (by decide)) pass0 (pa_cons (pv 2) (pa_cons (pe_ix ix_list (pv 0) pe_int (fun _ _ => rfl)) pa_nil))) pa_nil)) (pv 1))))
  pss_nil)
 (pss_one (ps_asg (pv 2) (pg_sub (pv 0) pe_int set_list (by intros; rfl)))))))
  pss_nil)
 (pss_cons (ps_if (pt_cmpR op_gt (pe_ix ix_list (pv 0) pe_int (fun _ _ => rfl)) pe_int (nomark _))
  (pss_cons (ps_set (i := 3) sc_l_draw.nd rfl (Or.inl rfl) (pe_ix ix_list (pv 0) pe_int (fun _ _ => rfl)))
 (pss_cons (ps_asg (pe_op op_fdiv (pv 3) (pv 1)) (pg_sub (pv 0) pe_int set_list (by intros; rfl)))
 (pss_one (ps_ret (pe_op op_mod (pe_callTy k_int1 rfl (T.free 1) (by decide +kernel) (pa_cons (pv 3) pa_nil)) (pv 1))))))
  pss_nil)
 (pss_cons (ps_asg (pe_op op_mod (pe_callTy k_int1 rfl (T.free 1) (by decide +kernel) (pa_cons (pe_op op_add (pe_ix ix_list (pv 0) pe_int (fun _ _ => rfl)) pe_int) pa_nil)) pe_int) (pg_sub (pv 0) pe_int set_list (by intros; rfl)))
 (pss_one (ps_ret (pe_op op_mod (pe_callTy k_int1 rfl (T.free 1) (by decide +kernel) (pa_cons (pe_cal c_l_stir (hr.mono (by decide)) pass0 (pa_cons (pe_ix ix_list (pv 0) pe_int (fun _ _ => rfl)) (pa_cons (pe_ix ix_list (pv 0) pe_int (fun _ _ => rfl)) pa_nil))) pa_nil)) (pv 1))))))), ?_⟩
    refine MB.st0 (σ := [some (.ref p), some (.int m), none, none]) rfl ?_
    have fin : ∀ (z : Int) (H' : Hp), HandAt H' p l → Kp p H H' → Q (.int (z % m)) H' := fun z H' a b => k _ _ (Int.emod_nonneg _ (by omega)) (Int.emod_lt_of_pos _ hm) a b
    walk_at "rd"
    walk_at "rd"
    refine if_d (fun hr0 => ?_) (fun hr0 => ?_)
    · walk_at "rd"
      refine if_d (fun hi => ?_) (fun hi => ?_)
      · walk_at "rd"
        obtain ⟨c, hc, ea⟩ := ints_at h0 hi
        refine r_ixL (SqL.of hl) ea ?_
        walk_at "rd"
        refine if_d (fun hcc => ?_) (fun hcc => ?_)
        · walk_at "rd"
          refine ⟨_, _, rfl, fun r => ?_⟩
          walk_at "rd"
          exact fin r _ (HandAt.upd hl ne (by omega) h1 h2 h3) (Kp.upd' (Kp.refl _ _))
        · have hc0 := h2 c hc
          walk_at "rd"
          refine if_d (fun hc => ?_) (fun hc => ?_)
          · walk_at "rd"
            exact fin _ _ (HandAt.upd ((upd_ne ne).trans ((upd_ne ne).trans hl)) ne (by omega) (Int.ediv_nonneg hc0 (by omega)) h2 h3) (Kp.upd' (Kp.upd' (Kp.upd' (Kp.refl _ _))))
          · walk_at "rd"
            refine ⟨_, _, rfl, fun r => ?_⟩
            walk_at "rd"
            exact fin r _ (HandAt.upd ((upd_ne ne).trans ((upd_ne ne).trans hl)) ne (by omega) hc0 h2 h3) (Kp.upd' (Kp.upd' (Kp.upd' (Kp.refl _ _))))
      · walk_at "rd"
        refine if_d (fun hc => ?_) (fun hc => ?_)
        · walk_at "rd"
          exact fin _ _ (HandAt.upd hl ne (by omega) (Int.ediv_nonneg h1 (by omega)) h2 h3) (Kp.upd' (Kp.refl _ _))
        · walk_at "rd"
          refine ⟨_, _, rfl, fun r => ?_⟩
          walk_at "rd"
          exact fin r _ (HandAt.upd hl ne h0 h1 h2 h3) (Kp.upd' (Kp.refl _ _))
    · walk_at "rd"
      refine if_d (fun hc => ?_) (fun hc => ?_)
      · walk_at "rd"
        exact fin _ _ (HandAt.upd hl ne (by omega) (Int.ediv_nonneg h1 (by omega)) h2 h3) (Kp.upd' (Kp.refl _ _))
      · walk_at "rd"
        refine ⟨_, _, rfl, fun r => ?_⟩
        walk_at "rd"
        exact fin r _ (HandAt.upd hl ne h0 h1 h2 h3) (Kp.upd' (Kp.refl _ _))
theorem c_l_hand (T : Txt K mg) : Cal P w K mg base CX0 1 "_law_hand" ["_law_script"] [] (spHand K) := by
  obtain ⟨fd, F⟩ := T.c.def_ 1 (d := dd_l_hand) rfl
  refine ⟨_, fd, [], FunD.ok (CX := CX0) F sc_l_hand (fun vs H Q E h => ?_) (fun cdv A outer s H vs Q E hr h => ?_), T.glo 10, F.kp, F.bindsN fun _ _ _ _ _ _ us hl => match us, hl with | [_], _ => rfl, .nil⟩
  · obtain ⟨a, ns, rfl, _⟩ := h
    rfl
  · obtain ⟨a, ns, rfl, hS, hlen, k⟩ := h
    refine ⟨_, PSs.nox (pss_cons (ps_set (i := 1) sc_l_hand.nd rfl (Or.inl rfl) pe_int)
 (pss_cons (ps_for PassesOwn.never rfl (pi_enum rfl (T.free 6) (pa_cons (pv 0) pa_nil)) (pg_tup rfl (pgs_cons (pg_name (i := 2) sc_l_hand.nd rfl (Or.inl rfl)) (pgs_cons (pg_name (i := 3) sc_l_hand.nd rfl (Or.inl rfl)) pgs_nil)))
  (pss_one (ps_set (i := 1) sc_l_hand.nd rfl (Or.inl rfl) (pe_op op_mod (pe_callTy k_int1 rfl (T.free 1) (by decide +kernel) (pa_cons (pe_op op_add (pe_op op_add (pe_op op_mul (pv 1) pe_int) (pe_op op_mul (pe_callTy k_int1 rfl (T.free 1) (by decide +kernel) (pa_cons (pv 3) pa_nil)) (pe_op op_add (pe_op op_mul pe_int (pv 2)) pe_int))) pe_int) pa_nil)) pe_int))))
 (pss_one (ps_ret (pe_lst (pa_cons (pe_lc (own := [("_law_cell", 3)]) (g := gName 3) (tt := tYes) rfl sc_l_hand.nd (pi_list (pv 0)) (blkOk_by (N := ["_law_script", "_law_state", "_law_place", "_law_cell"]) (sc := defScope s_l_hand) (by decide +kernel)) (fun _ _ _ _ _ => pg_name (i := 3) sc_l_hand.nd rfl (Or.inl rfl)) (fun _ _ _ _ _ => pts_nil) (fun _ _ _ _ _ => (pe_callB k_abs rfl (T.free 4) (by decide +kernel) (pa_cons (pe_callTy k_int1 rfl (T.free 1) (by decide +kernel) (pa_cons (pv 3) pa_nil)) pa_nil)))) (pa_cons pe_int (pa_cons pe_int (pa_cons (pv 1) pa_nil))))))))), ?_⟩
    refine MB.st0 (σ := [some (.ref a), none, none, none]) rfl ?_
    walk_at "rd"
    refine ⟨_, rfl, a, ns.map V.int, rfl, hS, for_it (walk_enum (K := K) (a := a) (xs := ns.map V.int)) (fun i σ H' => ∃ (z : Int) (u v : Option V), σ = [some (.ref a), some (.int z), u, v] ∧ L2.Same H H') ⟨7, none, none, rfl, L2.Same.refl H⟩
      (fun i σ H' _ ⟨_, _, _, _, s⟩ => s.seq hS) ?_ ?_⟩
    · rintro i x σ H1 H2 hi ⟨z, u, v, rfl, s1⟩ Y
      obtain ⟨T, x, y, rfl, hT, rfl, e1, e2⟩ := Y
      cases e1
      obtain ⟨c, _, rfl⟩ := int_at e2
      rw [List.length_map] at hi
      have hi2 : (i : Int) < 63 := by omega
      walk_at "rd"
      exact ⟨_, _, _, rfl, s1.trans (MB.Same.upd hT)⟩
    · rintro σ H1 ⟨z, u, v, rfl, s1⟩
      walk_at "rd"
      refine ⟨_, rfl, a, rfl, ⟨_, s1.seq hS⟩, fun D hD => lc_list (K := K) (a := a) (xs := ns.map V.int) (fun i H' => ∃ ms : List Int, H' D = some (.lst (ms.map V.int)) ∧ ms.length = i ∧ (∀ m ∈ ms, 0 ≤ m) ∧ L2.Same H1 H') ⟨[], upd_same, rfl, List.forall_mem_nil _, MB.Same.upd hD⟩
        (fun i H' _ ⟨_, _, _, _, s⟩ => (s1.trans s).seq hS) ?_ ?_⟩
      · rintro i x H2 hi ⟨ms, hm, hml, hm0, s2⟩
        have hil : i < (ns.map V.int).length := (List.getElem?_eq_some_iff.mp hi).1
        rw [List.length_map] at hil
        obtain ⟨c, _, rfl⟩ := int_at hi
        walk_at "rd"
        refine ⟨rfl, ?_⟩
        walk_at "rd"
        have hz : 0 ≤ (if c < 0 then -c else c) := by split <;> omega
        refine ⟨_, hm, small1000 (by rw [List.length_map]; omega), ms ++ [if c < 0 then -c else c], ?_, ?_, ?_, ?_⟩
        · rw [upd_same, List.map_append]; rfl
        · rw [List.length_append, hml]; rfl
        · intro m hmem
          rcases List.mem_append.mp hmem with h | h
          · exact hm0 m h
          · rw [List.mem_singleton.mp h]; exact hz
        · intro b o e
          rw [upd_ne (ne_of_none e hD)]
          exact s2 b o e
      · rintro H2 ⟨ms, hm, hml, hm0, s2⟩
        rw [List.length_map] at hml
        walk_at "rd"
        refine ⟨by show 4 ≤ sizeLine; decide, fun p hp => ?_⟩
        have ne : D ≠ p := ne_of_none hm hp
        exact k p D _ ⟨ms, 0, 0, z, upd_same, ne, (upd_ne ne).trans hm, by decide, by decide, hm0, by omega⟩ ((s1.trans s2).trans (MB.Same.upd hp))
theorem c_l_thing (T : Txt K mg) : Cal P w K mg base CX0 3 "_law_thing" ["_law_hand_here"] [] (spThing K) := by
  have c_l_draw : Cal P w K mg base CX0 2 "_law_draw" ["_law_hand_here", "_law_many"] [] spDraw := c_l_draw T
  obtain ⟨fd, F⟩ := T.c.def_ 3 (d := dd_l_thing) rfl
  refine ⟨_, fd, [], FunD.ok (CX := CX0) F sc_l_thing (fun vs H Q E h => ?_) (fun cdv A outer s H vs Q E hr h => ?_), T.glo 12, F.kp, F.bindsN fun _ _ _ _ _ _ us hl => match us, hl with | [_], _ => rfl, .nil⟩
  · obtain ⟨p, l, rfl, _⟩ := h
    rfl
  · obtain ⟨p, l, rfl, hh, k⟩ := h
    refine ⟨_, PSs.nox (pss_cons (ps_set (i := 1) sc_l_thing.nd rfl (Or.inl rfl) (pe_cal c_l_draw (hr.mono (by decide)) pass0 (pa_cons (pv 0) (pa_cons pe_int pa_nil))))
 (pss_one (ps_ret (pe_ix ix_tup (pe_tup (pa_cons (pe_op op_sub (pe_cal c_l_draw (hr.mono (by decide)) pass0 (pa_cons (pv 0) (pa_cons (pe_op op_pow pe_int pe_int) pa_nil))) pe_int) (pa_cons (pe_op k_addS pe_str (pe_callTy k_strI rfl (T.free 2) (by decide +kernel) (pa_cons (pe_cal c_l_draw (hr.mono (by decide)) pass0 (pa_cons (pv 0) (pa_cons pe_int pa_nil))) pa_nil))) (pa_cons pe_non (pa_cons (pe_tup (pa_cons (pe_cal c_l_draw (hr.mono (by decide)) pass0 (pa_cons (pv 0) (pa_cons pe_int pa_nil))) (pa_cons pe_int pa_nil))) (pa_cons pe_str pa_nil)))))) (pv 1) (fun _ _ => rfl))))), ?_⟩
    refine MB.st0 (σ := [some (.ref p), none]) rfl ?_
    walk_at "rd"
    refine ⟨p, l, _, rfl, hh, by decide, by decide, fun pk H1 p0 p5 hh1 kp1 => ?_⟩
    walk_at "rd"
    refine ⟨p, l, _, rfl, hh1, by decide, by decide, fun n H2 n0 n1 hh2 kp2 => ?_⟩
    walk_at "rd"
    refine ⟨p, l, _, rfl, hh2, by decide, by decide, fun m H3 m0 m1 hh3 kp3 => ?_⟩
    walk_at "rd"
    refine r_strI (Nat.lt_of_le_of_lt (Nat.log2_le_self _) (by omega)) ?_
    walk_at "rd"
    refine r_addS (txt_le m0 m1) ?_
    walk_at "rd"
    refine ⟨p, l, _, rfl, hh3, by decide, by decide, fun c H4 c0 c1 hh4 kp4 => ?_⟩
    walk_at "rd"
    refine newT (by show 2 ≤ sizeLine; decide) fun a H5 ha s5 e5 => ?_
    walk_at "rd"
    refine newT (by show 5 ≤ sizeLine; decide) fun b H6 hb s6 e6 => ?_
    walk_at "rd"
    have kk : Kp p H H6 := ((((kp1.trans kp2).trans kp3).trans kp4).trans (Same.kp s5)).trans (Same.kp s6)
    have hh6 := (hh4.same s5).same s6
    have n1' : n < 1000000 := n1
    have cs5 : pk = 0 ∨ pk = 1 ∨ pk = 2 ∨ pk = 3 ∨ pk = 4 := by omega
    rcases cs5 with rfl | rfl | rfl | rfl | rfl <;> walk_at "rd"
    · exact k _ _ H6 (.int _ (by omega) (by omega)) hh6 kk
    · exact k _ _ H6 (.txt m m0 m1) hh6 kk
    · exact k _ _ H6 .non hh6 kk
    · exact k _ _ H6 (.two a c (SqT.of (s6 _ _ e5)) c0 c1) hh6 kk
    · exact k _ _ H6 .nul hh6 kk
end
end K82
namespace K82
open PySem PySem.Spec PyProof.Rows L2 MB
def bools (i n : Nat) : List V := (List.range n).map fun j => .bl (decide (i = j))
def spFlags (K : PySem.W.Frag) : Sp := fun vs H Q _ => ∃ (a : Addr) (i : Nat), vs = [.ref a] ∧ i < 45 ∧ ExAt H a (ca K i) ∧ ∀ L H', L2.Same H H' → H' L = some (.lst (bools i 45)) → Q (.ref L) H'
section
variable {P : Program} {w : World} {K : PySem.W.Frag} {mg : Str → Option Value} {base : Heap}
theorem c_l_flags (T : Txt K mg) : Cal P w K mg base CX0 1 "_law_flags" ["_law_e"] [] (spFlags K) := by
  obtain ⟨fd, F⟩ := T.c.def_ 7 (d := dd_l_flags) rfl
  refine ⟨_, fd, [], FunD.ok (CX := CX0) F sc_l_flags (fun vs H Q E h => ?_) (fun cdv A outer s H vs Q E hr h => ?_), T.glo 16, F.kp, F.bindsN fun _ _ _ _ _ _ us hl => match us, hl with | [_], _ => rfl, .nil⟩
  · obtain ⟨a, i, rfl, _⟩ := h
    rfl
  · obtain ⟨a, i, rfl, hi, h0, k⟩ := h
    have hC : ExcC K (ca K i) := T.ec hi
    have st : ∀ {H' : Hp} {j : Nat} {Q' : VK}, ExAt H' a (ca K i) → j < 45 → Q' (.bl (decide (i = j))) H' → rIsV K [.ref a, .ref (ca K j)] H' Q' := fun x hj q => r_isV x hC (fun _ e => e) (T.kt hi _ hj) q
    refine ⟨_, PSs.nox (pss_cons (ps_set (i := 1) sc_l_flags.nd rfl (Or.inl rfl) (pe_lst (pa_cons (pe_callB call_isV rfl (T.free 0) (by decide +kernel) (pa_cons (pv 0) (pa_cons (pe_gref rfl (T.glo 19)) pa_nil))) (pa_cons (pe_callB call_isV rfl (T.free 0) (by decide +kernel) (pa_cons (pv 0) (pa_cons (pe_gref rfl (T.glo 20)) pa_nil))) (pa_cons (pe_callB call_isV rfl (T.free 0) (by decide +kernel) (pa_cons (pv 0) (pa_cons (pe_gref rfl (T.glo 21)) pa_nil))) (pa_cons (pe_callB call_isV rfl (T.free 0) (by decide +kernel) (pa_cons (pv 0) (pa_cons (pe_gref rfl (T.glo 22)) pa_nil))) pa_nil))))))
 (pss_cons (ps_set (i := 1) sc_l_flags.nd rfl (Or.inl rfl) (pe_op op_cat (pv 1) (pe_lst (pa_cons (pe_callB call_isV rfl (T.free 0) (by decide +kernel) (pa_cons (pv 0) (pa_cons (pe_gref rfl (T.glo 23)) pa_nil))) (pa_cons (pe_callB call_isV rfl (T.free 0) (by decide +kernel) (pa_cons (pv 0) (pa_cons (pe_gref rfl (T.glo 24)) pa_nil))) (pa_cons (pe_callB call_isV rfl (T.free 0) (by decide +kernel) (pa_cons (pv 0) (pa_cons (pe_gref rfl (T.glo 25)) pa_nil))) (pa_cons (pe_callB call_isV rfl (T.free 0) (by decide +kernel) (pa_cons (pv 0) (pa_cons (pe_gref rfl (T.glo 26)) pa_nil))) pa_nil)))))))
 (pss_cons (ps_set (i := 1) sc_l_flags.nd rfl (Or.inl rfl) (pe_op op_cat (pv 1) (pe_lst (pa_cons (pe_callB call_isV rfl (T.free 0) (by decide +kernel) (pa_cons (pv 0) (pa_cons (pe_gref rfl (T.glo 27)) pa_nil))) (pa_cons (pe_callB call_isV rfl (T.free 0) (by decide +kernel) (pa_cons (pv 0) (pa_cons (pe_gref rfl (T.glo 28)) pa_nil))) (pa_cons (pe_callB call_isV rfl (T.free 0) (by decide +kernel) (pa_cons (pv 0) (pa_cons (pe_gref rfl (T.glo 29)) pa_nil))) (pa_cons (pe_callB call_isV rfl (T.free 0) (by decide +kernel) (pa_cons (pv 0) (pa_cons (pe_gref rfl (T.glo 30)) pa_nil))) pa_nil)))))))
 (pss_cons (ps_set (i := 1) sc_l_flags.nd rfl (Or.inl rfl) (pe_op op_cat (pv 1) (pe_lst (pa_cons (pe_callB call_isV rfl (T.free 0) (by decide +kernel) (pa_cons (pv 0) (pa_cons (pe_gref rfl (T.glo 31)) pa_nil))) (pa_cons (pe_callB call_isV rfl (T.free 0) (by decide +kernel) (pa_cons (pv 0) (pa_cons (pe_gref rfl (T.glo 32)) pa_nil))) (pa_cons (pe_callB call_isV rfl (T.free 0) (by decide +kernel) (pa_cons (pv 0) (pa_cons (pe_gref rfl (T.glo 33)) pa_nil))) (pa_cons (pe_callB call_isV rfl (T.free 0) (by decide +kernel) (pa_cons (pv 0) (pa_cons (pe_gref rfl (T.glo 34)) pa_nil))) pa_nil)))))))
 (pss_cons (ps_set (i := 1) sc_l_flags.nd rfl (Or.inl rfl) (pe_op op_cat (pv 1) (pe_lst (pa_cons (pe_callB call_isV rfl (T.free 0) (by decide +kernel) (pa_cons (pv 0) (pa_cons (pe_gref rfl (T.glo 35)) pa_nil))) (pa_cons (pe_callB call_isV rfl (T.free 0) (by decide +kernel) (pa_cons (pv 0) (pa_cons (pe_gref rfl (T.glo 36)) pa_nil))) (pa_cons (pe_callB call_isV rfl (T.free 0) (by decide +kernel) (pa_cons (pv 0) (pa_cons (pe_gref rfl (T.glo 37)) pa_nil))) (pa_cons (pe_callB call_isV rfl (T.free 0) (by decide +kernel) (pa_cons (pv 0) (pa_cons (pe_gref rfl (T.glo 38)) pa_nil))) pa_nil)))))))
 (pss_cons (ps_set (i := 1) sc_l_flags.nd rfl (Or.inl rfl) (pe_op op_cat (pv 1) (pe_lst (pa_cons (pe_callB call_isV rfl (T.free 0) (by decide +kernel) (pa_cons (pv 0) (pa_cons (pe_gref rfl (T.glo 39)) pa_nil))) (pa_cons (pe_callB call_isV rfl (T.free 0) (by decide +kernel) (pa_cons (pv 0) (pa_cons (pe_gref rfl (T.glo 40)) pa_nil))) (pa_cons (pe_callB call_isV rfl (T.free 0) (by decide +kernel) (pa_cons (pv 0) (pa_cons (pe_gref rfl (T.glo 41)) pa_nil))) (pa_cons (pe_callB call_isV rfl (T.free 0) (by decide +kernel) (pa_cons (pv 0) (pa_cons (pe_gref rfl (T.glo 42)) pa_nil))) pa_nil)))))))
 (pss_cons (ps_set (i := 1) sc_l_flags.nd rfl (Or.inl rfl) (pe_op op_cat (pv 1) (pe_lst (pa_cons (pe_callB call_isV rfl (T.free 0) (by decide +kernel) (pa_cons (pv 0) (pa_cons (pe_gref rfl (T.glo 43)) pa_nil))) (pa_cons (pe_callB call_isV rfl (T.free 0) (by decide +kernel) (pa_cons (pv 0) (pa_cons (pe_gref rfl (T.glo 44)) pa_nil))) (pa_cons (pe_callB call_isV rfl (T.free 0) (by decide +kernel) (pa_cons (pv 0) (pa_cons (pe_gref rfl (T.glo 45)) pa_nil))) (pa_cons (pe_callB call_isV rfl (T.free 0) (by decide +kernel) (pa_cons (pv 0) (pa_cons (pe_gref rfl (T.glo 46)) pa_nil))) pa_nil)))))))
 (pss_cons (ps_set (i := 1) sc_l_flags.nd rfl (Or.inl rfl) (pe_op op_cat (pv 1) (pe_lst (pa_cons (pe_callB call_isV rfl (T.free 0) (by decide +kernel) (pa_cons (pv 0) (pa_cons (pe_gref rfl (T.glo 47)) pa_nil))) (pa_cons (pe_callB call_isV rfl (T.free 0) (by decide +kernel) (pa_cons (pv 0) (pa_cons (pe_gref rfl (T.glo 48)) pa_nil))) (pa_cons (pe_callB call_isV rfl (T.free 0) (by decide +kernel) (pa_cons (pv 0) (pa_cons (pe_gref rfl (T.glo 49)) pa_nil))) (pa_cons (pe_callB call_isV rfl (T.free 0) (by decide +kernel) (pa_cons (pv 0) (pa_cons (pe_gref rfl (T.glo 50)) pa_nil))) pa_nil)))))))
 (pss_cons (ps_set (i := 1) sc_l_flags.nd rfl (Or.inl rfl) (pe_op op_cat (pv 1) (pe_lst (pa_cons (pe_callB call_isV rfl (T.free 0) (by decide +kernel) (pa_cons (pv 0) (pa_cons (pe_gref rfl (T.glo 51)) pa_nil))) (pa_cons (pe_callB call_isV rfl (T.free 0) (by decide +kernel) (pa_cons (pv 0) (pa_cons (pe_gref rfl (T.glo 52)) pa_nil))) (pa_cons (pe_callB call_isV rfl (T.free 0) (by decide +kernel) (pa_cons (pv 0) (pa_cons (pe_gref rfl (T.glo 53)) pa_nil))) (pa_cons (pe_callB call_isV rfl (T.free 0) (by decide +kernel) (pa_cons (pv 0) (pa_cons (pe_gref rfl (T.glo 54)) pa_nil))) pa_nil)))))))
 (pss_cons (ps_set (i := 1) sc_l_flags.nd rfl (Or.inl rfl) (pe_op op_cat (pv 1) (pe_lst (pa_cons (pe_callB call_isV rfl (T.free 0) (by decide +kernel) (pa_cons (pv 0) (pa_cons (pe_gref rfl (T.glo 55)) pa_nil))) (pa_cons (pe_callB call_isV rfl (T.free 0) (by decide +kernel) (pa_cons (pv 0) (pa_cons (pe_gref rfl (T.glo 56)) pa_nil))) (pa_cons (pe_callB call_isV rfl (T.free 0) (by decide +kernel) (pa_cons (pv 0) (pa_cons (pe_gref rfl (T.glo 57)) pa_nil))) (pa_cons (pe_callB call_isV rfl (T.free 0) (by decide +kernel) (pa_cons (pv 0) (pa_cons (pe_gref rfl (T.glo 58)) pa_nil))) pa_nil)))))))
 (pss_cons (ps_set (i := 1) sc_l_flags.nd rfl (Or.inl rfl) (pe_op op_cat (pv 1) (pe_lst (pa_cons (pe_callB call_isV rfl (T.free 0) (by decide +kernel) (pa_cons (pv 0) (pa_cons (pe_gref rfl (T.glo 59)) pa_nil))) (pa_cons (pe_callB call_isV rfl (T.free 0) (by decide +kernel) (pa_cons (pv 0) (pa_cons (pe_gref rfl (T.glo 60)) pa_nil))) (pa_cons (pe_callB call_isV rfl (T.free 0) (by decide +kernel) (pa_cons (pv 0) (pa_cons (pe_gref rfl (T.glo 61)) pa_nil))) (pa_cons (pe_callB call_isV rfl (T.free 0) (by decide +kernel) (pa_cons (pv 0) (pa_cons (pe_gref rfl (T.glo 62)) pa_nil))) pa_nil)))))))
 (pss_one (ps_ret (pe_op op_cat (pv 1) (pe_lst (pa_cons (pe_callB call_isV rfl (T.free 0) (by decide +kernel) (pa_cons (pv 0) (pa_cons (pe_gref rfl (T.glo 63)) pa_nil))) pa_nil)))))))))))))))), ?_⟩
    refine MB.st0 (σ := [some (.ref a), none]) rfl ?_
    walk_at "rd"
    refine st (j := 0) h0 (by decide) ?_
    walk_at "rd"
    refine st (j := 1) h0 (by decide) ?_
    walk_at "rd"
    refine st (j := 2) h0 (by decide) ?_
    walk_at "rd"
    refine st (j := 3) h0 (by decide) ?_
    walk_at "rd"
    refine newL (by show 4 ≤ sizeLine; decide) fun L0 H0 _ s0 e0 => ?_
    have x0 := h0.same s0
    walk_at "rd"
    refine st (j := 4) x0 (by decide) ?_
    walk_at "rd"
    refine st (j := 5) x0 (by decide) ?_
    walk_at "rd"
    refine st (j := 6) x0 (by decide) ?_
    walk_at "rd"
    refine st (j := 7) x0 (by decide) ?_
    walk_at "rd"
    refine newL (by show 4 ≤ sizeLine; decide) fun L1 H1 _ s1 e1 => ?_
    walk_at "rd"
    refine r_cat (s1 _ _ e0) e1 (by show 8 ≤ sizeLine; decide) fun M1 G1 _ t1 f1 => ?_
    have S1 := (s0.trans s1).trans t1
    have x1 := (x0.same s1).same t1
    walk_at "rd"
    refine st (j := 8) x1 (by decide) ?_
    walk_at "rd"
    refine st (j := 9) x1 (by decide) ?_
    walk_at "rd"
    refine st (j := 10) x1 (by decide) ?_
    walk_at "rd"
    refine st (j := 11) x1 (by decide) ?_
    walk_at "rd"
    refine newL (by show 4 ≤ sizeLine; decide) fun L2 H2 _ s2 e2 => ?_
    walk_at "rd"
    refine r_cat (s2 _ _ f1) e2 (by show 12 ≤ sizeLine; decide) fun M2 G2 _ t2 f2 => ?_
    have S2 := (S1.trans s2).trans t2
    have x2 := (x1.same s2).same t2
    walk_at "rd"
    refine st (j := 12) x2 (by decide) ?_
    walk_at "rd"
    refine st (j := 13) x2 (by decide) ?_
    walk_at "rd"
    refine st (j := 14) x2 (by decide) ?_
    walk_at "rd"
    refine st (j := 15) x2 (by decide) ?_
    walk_at "rd"
    refine newL (by show 4 ≤ sizeLine; decide) fun L3 H3 _ s3 e3 => ?_
    walk_at "rd"
    refine r_cat (s3 _ _ f2) e3 (by show 16 ≤ sizeLine; decide) fun M3 G3 _ t3 f3 => ?_
    have S3 := (S2.trans s3).trans t3
    have x3 := (x2.same s3).same t3
    walk_at "rd"
    refine st (j := 16) x3 (by decide) ?_
    walk_at "rd"
    refine st (j := 17) x3 (by decide) ?_
    walk_at "rd"
    refine st (j := 18) x3 (by decide) ?_
    walk_at "rd"
    refine st (j := 19) x3 (by decide) ?_
    walk_at "rd"
    refine newL (by show 4 ≤ sizeLine; decide) fun L4 H4 _ s4 e4 => ?_
    walk_at "rd"
    refine r_cat (s4 _ _ f3) e4 (by show 20 ≤ sizeLine; decide) fun M4 G4 _ t4 f4 => ?_
    have S4 := (S3.trans s4).trans t4
    have x4 := (x3.same s4).same t4
    walk_at "rd"
    refine st (j := 20) x4 (by decide) ?_
    walk_at "rd"
    refine st (j := 21) x4 (by decide) ?_
    walk_at "rd"
    refine st (j := 22) x4 (by decide) ?_
    walk_at "rd"
    refine st (j := 23) x4 (by decide) ?_
    walk_at "rd"
    refine newL (by show 4 ≤ sizeLine; decide) fun L5 H5 _ s5 e5 => ?_
    walk_at "rd"
    refine r_cat (s5 _ _ f4) e5 (by show 24 ≤ sizeLine; decide) fun M5 G5 _ t5 f5 => ?_
    have S5 := (S4.trans s5).trans t5
    have x5 := (x4.same s5).same t5
    walk_at "rd"
    refine st (j := 24) x5 (by decide) ?_
    walk_at "rd"
    refine st (j := 25) x5 (by decide) ?_
    walk_at "rd"
    refine st (j := 26) x5 (by decide) ?_
    walk_at "rd"
    refine st (j := 27) x5 (by decide) ?_
    walk_at "rd"
    refine newL (by show 4 ≤ sizeLine; decide) fun L6 H6 _ s6 e6 => ?_
    walk_at "rd"
    refine r_cat (s6 _ _ f5) e6 (by show 28 ≤ sizeLine; decide) fun M6 G6 _ t6 f6 => ?_
    have S6 := (S5.trans s6).trans t6
    have x6 := (x5.same s6).same t6
    walk_at "rd"
    refine st (j := 28) x6 (by decide) ?_
    walk_at "rd"
    refine st (j := 29) x6 (by decide) ?_
    walk_at "rd"
    refine st (j := 30) x6 (by decide) ?_
    walk_at "rd"
    refine st (j := 31) x6 (by decide) ?_
    walk_at "rd"
    refine newL (by show 4 ≤ sizeLine; decide) fun L7 H7 _ s7 e7 => ?_
    walk_at "rd"
    refine r_cat (s7 _ _ f6) e7 (by show 32 ≤ sizeLine; decide) fun M7 G7 _ t7 f7 => ?_
    have S7 := (S6.trans s7).trans t7
    have x7 := (x6.same s7).same t7
    walk_at "rd"
    refine st (j := 32) x7 (by decide) ?_
    walk_at "rd"
    refine st (j := 33) x7 (by decide) ?_
    walk_at "rd"
    refine st (j := 34) x7 (by decide) ?_
    walk_at "rd"
    refine st (j := 35) x7 (by decide) ?_
    walk_at "rd"
    refine newL (by show 4 ≤ sizeLine; decide) fun L8 H8 _ s8 e8 => ?_
    walk_at "rd"
    refine r_cat (s8 _ _ f7) e8 (by show 36 ≤ sizeLine; decide) fun M8 G8 _ t8 f8 => ?_
    have S8 := (S7.trans s8).trans t8
    have x8 := (x7.same s8).same t8
    walk_at "rd"
    refine st (j := 36) x8 (by decide) ?_
    walk_at "rd"
    refine st (j := 37) x8 (by decide) ?_
    walk_at "rd"
    refine st (j := 38) x8 (by decide) ?_
    walk_at "rd"
    refine st (j := 39) x8 (by decide) ?_
    walk_at "rd"
    refine newL (by show 4 ≤ sizeLine; decide) fun L9 H9 _ s9 e9 => ?_
    walk_at "rd"
    refine r_cat (s9 _ _ f8) e9 (by show 40 ≤ sizeLine; decide) fun M9 G9 _ t9 f9 => ?_
    have S9 := (S8.trans s9).trans t9
    have x9 := (x8.same s9).same t9
    walk_at "rd"
    refine st (j := 40) x9 (by decide) ?_
    walk_at "rd"
    refine st (j := 41) x9 (by decide) ?_
    walk_at "rd"
    refine st (j := 42) x9 (by decide) ?_
    walk_at "rd"
    refine st (j := 43) x9 (by decide) ?_
    walk_at "rd"
    refine newL (by show 4 ≤ sizeLine; decide) fun L10 H10 _ s10 e10 => ?_
    walk_at "rd"
    refine r_cat (s10 _ _ f9) e10 (by show 44 ≤ sizeLine; decide) fun M10 G10 _ t10 f10 => ?_
    have S10 := (S9.trans s10).trans t10
    have x10 := (x9.same s10).same t10
    walk_at "rd"
    refine st (j := 44) x10 (by decide) ?_
    walk_at "rd"
    refine newL (by show 1 ≤ sizeLine; decide) fun L11 H11 _ s11 e11 => ?_
    walk_at "rd"
    refine r_cat (s11 _ _ f10) e11 (by show 45 ≤ sizeLine; decide) fun M11 G11 _ t11 f11 => ?_
    have S11 := (S10.trans s11).trans t11
    walk_at "rd"
    exact k _ _ S11 f11
/-- the classes of the table, made one behind another -/
structure Made (K : PySem.W.Frag) (H0 : Hp) (as : List Addr) (H : Hp) : Prop where
  old : L2.Same H0 H
  at_ : ∀ j a, as[j]? = some a → ExAt H a (ca K j)
theorem Made.same {H0 H H' : Hp} {as : List Addr} (h : Made K H0 as H) (s : L2.Same H H') : Made K H0 as H' := ⟨h.old.trans s, fun j a e => (h.at_ j a e).same s⟩
theorem Made.add {H0 H H' : Hp} {as : List Addr} {a : Addr} (h : Made K H0 as H) (s : L2.Same H H') (e : ExAt H' a (ca K as.length)) : Made K H0 (as ++ [a]) H' := by
  refine ⟨h.old.trans s, fun j b q => ?_⟩
  by_cases hj : j < as.length
  · rw [List.getElem?_append_left hj] at q
    exact (h.at_ j b q).same s
  · rw [List.getElem?_append_right (by omega)] at q
    cases z : j - as.length with
    | zero =>
      rw [z] at q
      cases q
      have : j = as.length := by omega
      rw [this]
      exact e
    | succ n =>
      rw [z] at q
      cases q
theorem mk0 {H : Hp} {Q : VK} {C : Addr} (q : ∀ a H', L2.Same H H' → ExAt H' a C → Q (.ref a) H') : Mk0Q C H Q := fun a h => q a _ (MB.Same.upd h) (.inl upd_same)
def spAll (K : PySem.W.Frag) : Sp := fun vs H Q _ => ∃ (v u : V), vs = [v, u] ∧ ∀ L as H', Made K H as H' → as.length = 45 → H' L = some (.lst (as.map V.ref)) → Q (.ref L) H'
theorem c_l_all (T : Txt K mg) : Cal P w K mg base CX0 3 "_law_all" ["_law_one", "_law_other"] [] (spAll K) := by
  obtain ⟨fd, F⟩ := T.c.def_ 6 (d := dd_l_all) rfl
  obtain ⟨f_BadRatio, I_BadRatio⟩ := i_BadRatio (P := P) (w := w) (base := base) T
  obtain ⟨f_BadCode, I_BadCode⟩ := i_BadCode (P := P) (w := w) (base := base) T
  obtain ⟨f_BadBit, I_BadBit⟩ := i_BadBit (P := P) (w := w) (base := base) T
  obtain ⟨f_NoCheck, I_NoCheck⟩ := i_NoCheck (P := P) (w := w) (base := base) T
  obtain ⟨f_BadPrices, I_BadPrices⟩ := i_BadPrices (P := P) (w := w) (base := base) T
  obtain ⟨f_BadRow, I_BadRow⟩ := i_BadRow (P := P) (w := w) (base := base) T
  obtain ⟨f_BadWord, I_BadWord⟩ := i_BadWord (P := P) (w := w) (base := base) T
  obtain ⟨f_TooMany, I_TooMany⟩ := i_TooMany (P := P) (w := w) (base := base) T
  obtain ⟨f_BadText, I_BadText⟩ := i_BadText (P := P) (w := w) (base := base) T
  obtain ⟨f_NotLet, I_NotLet⟩ := i_NotLet (P := P) (w := w) (base := base) T
  obtain ⟨f_BadSheets, I_BadSheets⟩ := i_BadSheets (P := P) (w := w) (base := base) T
  obtain ⟨f_BadRows, I_BadRows⟩ := i_BadRows (P := P) (w := w) (base := base) T
  obtain ⟨f_BadWeights, I_BadWeights⟩ := i_BadWeights (P := P) (w := w) (base := base) T
  obtain ⟨f_BadCover, I_BadCover⟩ := i_BadCover (P := P) (w := w) (base := base) T
  obtain ⟨f_BadMarks, I_BadMarks⟩ := i_BadMarks (P := P) (w := w) (base := base) T
  obtain ⟨f_BadTimes, I_BadTimes⟩ := i_BadTimes (P := P) (w := w) (base := base) T
  obtain ⟨f_LowRest, I_LowRest⟩ := i_LowRest (P := P) (w := w) (base := base) T
  obtain ⟨f_BadCone, I_BadCone⟩ := i_BadCone (P := P) (w := w) (base := base) T
  obtain ⟨f_NotCone, I_NotCone⟩ := i_NotCone (P := P) (w := w) (base := base) T
  obtain ⟨f_BadMany, I_BadMany⟩ := i_BadMany (P := P) (w := w) (base := base) T
  obtain ⟨f_BadReceived, I_BadReceived⟩ := i_BadReceived (P := P) (w := w) (base := base) T
  obtain ⟨f_OddCount, I_OddCount⟩ := i_OddCount (P := P) (w := w) (base := base) T
  obtain ⟨f_NotStop, I_NotStop⟩ := i_NotStop (P := P) (w := w) (base := base) T
  obtain ⟨f_NotRingless, I_NotRingless⟩ := i_NotRingless (P := P) (w := w) (base := base) T
  obtain ⟨f_NotCorner, I_NotCorner⟩ := i_NotCorner (P := P) (w := w) (base := base) T
  obtain ⟨f_BadWeb, I_BadWeb⟩ := i_BadWeb (P := P) (w := w) (base := base) T
  obtain ⟨f_BadPost, I_BadPost⟩ := i_BadPost (P := P) (w := w) (base := base) T
  obtain ⟨f_NotTies, I_NotTies⟩ := i_NotTies (P := P) (w := w) (base := base) T
  obtain ⟨f_NotRound, I_NotRound⟩ := i_NotRound (P := P) (w := w) (base := base) T
  obtain ⟨f_NotApart, I_NotApart⟩ := i_NotApart (P := P) (w := w) (base := base) T
  obtain ⟨f_NoSmall, I_NoSmall⟩ := i_NoSmall (P := P) (w := w) (base := base) T
  obtain ⟨f_NotHidden, I_NotHidden⟩ := i_NotHidden (P := P) (w := w) (base := base) T
  obtain ⟨f_BadWish, I_BadWish⟩ := i_BadWish (P := P) (w := w) (base := base) T
  obtain ⟨f_BadPool, I_BadPool⟩ := i_BadPool (P := P) (w := w) (base := base) T
  obtain ⟨f_BadEdit, I_BadEdit⟩ := i_BadEdit (P := P) (w := w) (base := base) T
  refine ⟨_, fd, [], FunD.ok (CX := CX0) F sc_l_all (fun vs H Q E h => ?_) (fun cdv A outer s H vs Q E hr h => ?_), T.glo 15, F.kp, F.bindsN fun _ _ _ _ _ _ us hl => match us, hl with | [_, _], _ => rfl, .nil⟩
  · obtain ⟨a, i, rfl, _⟩ := h
    rfl
  · obtain ⟨a, i, rfl, k⟩ := h
    refine ⟨_, PSs.nox (pss_cons (ps_set (i := 2) sc_l_all.nd rfl (Or.inl rfl) (pe_lst (pa_cons (pe_mkv (T.bo 0 rfl rfl) (T.bi 0 rfl rfl) (T.bt 0 rfl rfl) I_BadRatio.1 (hr.mono (by decide)) I_BadRatio.2 pass0 (T.glo 19) (pa_cons (pv 0) pa_nil)) (pa_cons (pe_mk0 PySem.F.excBase_ValueError (T.de 1 rfl rfl).1 (T.glo 20) (T.de 1 rfl rfl).2.1) (pa_cons (pe_mkv (T.bo 2 rfl rfl) (T.bi 2 rfl rfl) (T.bt 2 rfl rfl) I_BadCode.1 (hr.mono (by decide)) I_BadCode.2 pass0 (T.glo 21) (pa_cons (pv 0) (pa_cons (pv 1) pa_nil))) (pa_cons (pe_mkv (T.bo 3 rfl rfl) (T.bi 3 rfl rfl) (T.bt 3 rfl rfl) I_BadBit.1 (hr.mono (by decide)) I_BadBit.2 pass0 (T.glo 22) (pa_cons (pv 0) pa_nil)) (pa_cons (pe_mkv (T.bo 4 rfl rfl) (T.bi 4 rfl rfl) (T.bt 4 rfl rfl) I_NoCheck.1 (hr.mono (by decide)) I_NoCheck.2 pass0 (T.glo 23) (pa_cons (pv 0) pa_nil)) (pa_cons (pe_mk0 PySem.F.excBase_ValueError (T.de 5 rfl rfl).1 (T.glo 24) (T.de 5 rfl rfl).2.1) (pa_cons (pe_mkv (T.bo 6 rfl rfl) (T.bi 6 rfl rfl) (T.bt 6 rfl rfl) I_BadPrices.1 (hr.mono (by decide)) I_BadPrices.2 pass0 (T.glo 25) (pa_cons (pv 0) pa_nil)) pa_nil)))))))))
 (pss_cons (ps_set (i := 2) sc_l_all.nd rfl (Or.inl rfl) (pe_op op_cat (pv 2) (pe_lst (pa_cons (pe_mkv (T.bo 7 rfl rfl) (T.bi 7 rfl rfl) (T.bt 7 rfl rfl) I_BadRow.1 (hr.mono (by decide)) I_BadRow.2 pass0 (T.glo 26) (pa_cons (pv 0) pa_nil)) (pa_cons (pe_mkv (T.bo 8 rfl rfl) (T.bi 8 rfl rfl) (T.bt 8 rfl rfl) I_BadWord.1 (hr.mono (by decide)) I_BadWord.2 pass0 (T.glo 27) (pa_cons (pv 0) pa_nil)) (pa_cons (pe_mk0 PySem.F.excBase_ValueError (T.de 9 rfl rfl).1 (T.glo 28) (T.de 9 rfl rfl).2.1) (pa_cons (pe_mk0 PySem.F.excBase_ValueError (T.de 10 rfl rfl).1 (T.glo 29) (T.de 10 rfl rfl).2.1) (pa_cons (pe_mkv (T.bo 11 rfl rfl) (T.bi 11 rfl rfl) (T.bt 11 rfl rfl) I_TooMany.1 (hr.mono (by decide)) I_TooMany.2 pass0 (T.glo 30) (pa_cons (pv 0) pa_nil)) (pa_cons (pe_mkv (T.bo 12 rfl rfl) (T.bi 12 rfl rfl) (T.bt 12 rfl rfl) I_BadText.1 (hr.mono (by decide)) I_BadText.2 pass0 (T.glo 31) (pa_cons (pv 0) pa_nil)) (pa_cons (pe_mkv (T.bo 13 rfl rfl) (T.bi 13 rfl rfl) (T.bt 13 rfl rfl) I_NotLet.1 (hr.mono (by decide)) I_NotLet.2 pass0 (T.glo 32) (pa_cons (pv 0) (pa_cons (pv 1) pa_nil))) pa_nil))))))))))
 (pss_cons (ps_set (i := 2) sc_l_all.nd rfl (Or.inl rfl) (pe_op op_cat (pv 2) (pe_lst (pa_cons (pe_mkv (T.bo 14 rfl rfl) (T.bi 14 rfl rfl) (T.bt 14 rfl rfl) I_BadSheets.1 (hr.mono (by decide)) I_BadSheets.2 pass0 (T.glo 33) (pa_cons (pv 0) pa_nil)) (pa_cons (pe_mkv (T.bo 15 rfl rfl) (T.bi 15 rfl rfl) (T.bt 15 rfl rfl) I_BadRows.1 (hr.mono (by decide)) I_BadRows.2 pass0 (T.glo 34) (pa_cons (pv 0) pa_nil)) (pa_cons (pe_mkv (T.bo 16 rfl rfl) (T.bi 16 rfl rfl) (T.bt 16 rfl rfl) I_BadWeights.1 (hr.mono (by decide)) I_BadWeights.2 pass0 (T.glo 35) (pa_cons (pv 0) pa_nil)) (pa_cons (pe_mkv (T.bo 17 rfl rfl) (T.bi 17 rfl rfl) (T.bt 17 rfl rfl) I_BadCover.1 (hr.mono (by decide)) I_BadCover.2 pass0 (T.glo 36) (pa_cons (pv 0) (pa_cons (pv 1) pa_nil))) (pa_cons (pe_mk0 PySem.F.excBase_ValueError (T.de 18 rfl rfl).1 (T.glo 37) (T.de 18 rfl rfl).2.1) (pa_cons (pe_mkv (T.bo 19 rfl rfl) (T.bi 19 rfl rfl) (T.bt 19 rfl rfl) I_BadMarks.1 (hr.mono (by decide)) I_BadMarks.2 pass0 (T.glo 38) (pa_cons (pv 0) pa_nil)) (pa_cons (pe_mk0 PySem.F.excBase_ValueError (T.de 20 rfl rfl).1 (T.glo 39) (T.de 20 rfl rfl).2.1) pa_nil))))))))))
 (pss_cons (ps_set (i := 2) sc_l_all.nd rfl (Or.inl rfl) (pe_op op_cat (pv 2) (pe_lst (pa_cons (pe_mkv (T.bo 21 rfl rfl) (T.bi 21 rfl rfl) (T.bt 21 rfl rfl) I_BadTimes.1 (hr.mono (by decide)) I_BadTimes.2 pass0 (T.glo 40) (pa_cons (pv 0) pa_nil)) (pa_cons (pe_mkv (T.bo 22 rfl rfl) (T.bi 22 rfl rfl) (T.bt 22 rfl rfl) I_LowRest.1 (hr.mono (by decide)) I_LowRest.2 pass0 (T.glo 41) (pa_cons (pv 0) pa_nil)) (pa_cons (pe_mkv (T.bo 23 rfl rfl) (T.bi 23 rfl rfl) (T.bt 23 rfl rfl) I_BadCone.1 (hr.mono (by decide)) I_BadCone.2 pass0 (T.glo 42) (pa_cons (pv 0) pa_nil)) (pa_cons (pe_mkv (T.bo 24 rfl rfl) (T.bi 24 rfl rfl) (T.bt 24 rfl rfl) I_NotCone.1 (hr.mono (by decide)) I_NotCone.2 pass0 (T.glo 43) (pa_cons (pv 0) (pa_cons (pv 1) pa_nil))) (pa_cons (pe_mkv (T.bo 25 rfl rfl) (T.bi 25 rfl rfl) (T.bt 25 rfl rfl) I_BadMany.1 (hr.mono (by decide)) I_BadMany.2 pass0 (T.glo 44) (pa_cons (pv 0) pa_nil)) (pa_cons (pe_mkv (T.bo 26 rfl rfl) (T.bi 26 rfl rfl) (T.bt 26 rfl rfl) I_BadReceived.1 (hr.mono (by decide)) I_BadReceived.2 pass0 (T.glo 45) (pa_cons (pv 0) pa_nil)) (pa_cons (pe_mkv (T.bo 27 rfl rfl) (T.bi 27 rfl rfl) (T.bt 27 rfl rfl) I_OddCount.1 (hr.mono (by decide)) I_OddCount.2 pass0 (T.glo 46) (pa_cons (pv 0) pa_nil)) pa_nil))))))))))
 (pss_cons (ps_set (i := 2) sc_l_all.nd rfl (Or.inl rfl) (pe_op op_cat (pv 2) (pe_lst (pa_cons (pe_mkv (T.bo 28 rfl rfl) (T.bi 28 rfl rfl) (T.bt 28 rfl rfl) I_NotStop.1 (hr.mono (by decide)) I_NotStop.2 pass0 (T.glo 47) (pa_cons (pv 0) pa_nil)) (pa_cons (pe_mkv (T.bo 29 rfl rfl) (T.bi 29 rfl rfl) (T.bt 29 rfl rfl) I_NotRingless.1 (hr.mono (by decide)) I_NotRingless.2 pass0 (T.glo 48) (pa_cons (pv 0) pa_nil)) (pa_cons (pe_mkv (T.bo 30 rfl rfl) (T.bi 30 rfl rfl) (T.bt 30 rfl rfl) I_NotCorner.1 (hr.mono (by decide)) I_NotCorner.2 pass0 (T.glo 49) (pa_cons (pv 0) pa_nil)) (pa_cons (pe_mkv (T.bo 31 rfl rfl) (T.bi 31 rfl rfl) (T.bt 31 rfl rfl) I_BadWeb.1 (hr.mono (by decide)) I_BadWeb.2 pass0 (T.glo 50) (pa_cons (pv 0) (pa_cons (pv 1) pa_nil))) (pa_cons (pe_mkv (T.bo 32 rfl rfl) (T.bi 32 rfl rfl) (T.bt 32 rfl rfl) I_BadPost.1 (hr.mono (by decide)) I_BadPost.2 pass0 (T.glo 51) (pa_cons (pv 0) pa_nil)) (pa_cons (pe_mkv (T.bo 33 rfl rfl) (T.bi 33 rfl rfl) (T.bt 33 rfl rfl) I_NotTies.1 (hr.mono (by decide)) I_NotTies.2 pass0 (T.glo 52) (pa_cons (pv 0) pa_nil)) (pa_cons (pe_mkv (T.bo 34 rfl rfl) (T.bi 34 rfl rfl) (T.bt 34 rfl rfl) I_NotRound.1 (hr.mono (by decide)) I_NotRound.2 pass0 (T.glo 53) (pa_cons (pv 0) pa_nil)) pa_nil))))))))))
 (pss_cons (ps_set (i := 2) sc_l_all.nd rfl (Or.inl rfl) (pe_op op_cat (pv 2) (pe_lst (pa_cons (pe_mkv (T.bo 35 rfl rfl) (T.bi 35 rfl rfl) (T.bt 35 rfl rfl) I_NotApart.1 (hr.mono (by decide)) I_NotApart.2 pass0 (T.glo 54) (pa_cons (pv 0) pa_nil)) (pa_cons (pe_mk0 PySem.F.excBase_ValueError (T.de 36 rfl rfl).1 (T.glo 55) (T.de 36 rfl rfl).2.1) (pa_cons (pe_mkv (T.bo 37 rfl rfl) (T.bi 37 rfl rfl) (T.bt 37 rfl rfl) I_NoSmall.1 (hr.mono (by decide)) I_NoSmall.2 pass0 (T.glo 56) (pa_cons (pv 0) pa_nil)) (pa_cons (pe_mk0 PySem.F.excBase_ValueError (T.de 38 rfl rfl).1 (T.glo 57) (T.de 38 rfl rfl).2.1) (pa_cons (pe_mkv (T.bo 39 rfl rfl) (T.bi 39 rfl rfl) (T.bt 39 rfl rfl) I_NotHidden.1 (hr.mono (by decide)) I_NotHidden.2 pass0 (T.glo 58) (pa_cons (pv 0) pa_nil)) (pa_cons (pe_mkv (T.bo 40 rfl rfl) (T.bi 40 rfl rfl) (T.bt 40 rfl rfl) I_BadWish.1 (hr.mono (by decide)) I_BadWish.2 pass0 (T.glo 59) (pa_cons (pv 0) pa_nil)) (pa_cons (pe_mkv (T.bo 41 rfl rfl) (T.bi 41 rfl rfl) (T.bt 41 rfl rfl) I_BadPool.1 (hr.mono (by decide)) I_BadPool.2 pass0 (T.glo 60) (pa_cons (pv 0) pa_nil)) (pa_cons (pe_mk0 PySem.F.excBase_ValueError (T.de 42 rfl rfl).1 (T.glo 61) (T.de 42 rfl rfl).2.1) pa_nil)))))))))))
 (pss_one (ps_ret (pe_op op_cat (pv 2) (pe_lst (pa_cons (pe_mkv (T.bo 43 rfl rfl) (T.bi 43 rfl rfl) (T.bt 43 rfl rfl) I_BadEdit.1 (hr.mono (by decide)) I_BadEdit.2 pass0 (T.glo 62) (pa_cons (pv 0) pa_nil)) (pa_cons (pe_mk0 PySem.F.excBase_ValueError (T.de 44 rfl rfl).1 (T.glo 63) (T.de 44 rfl rfl).2.1) pa_nil)))))))))))), ?_⟩
    refine MB.st0 (σ := [some a, some i, none]) rfl ?_
    have L0 : Made K H [] H := ⟨L2.Same.refl H, fun j b q => nomatch q⟩
    walk_at "rd"
    refine mkv1 fun a0 H0 s0 e0 => ?_
    have L1 : Made K H [a0] H0 := L0.add s0 e0.at
    walk_at "rd"
    refine mk0 fun a1 H1 s1 e1 => ?_
    have L2 : Made K H [a0, a1] H1 := L1.add s1 e1
    walk_at "rd"
    refine mkv2 fun a2 H2 s2 e2 => ?_
    have L3 : Made K H [a0, a1, a2] H2 := L2.add s2 e2.at
    walk_at "rd"
    refine mkv1 fun a3 H3 s3 e3 => ?_
    have L4 : Made K H [a0, a1, a2, a3] H3 := L3.add s3 e3.at
    walk_at "rd"
    refine mkv1 fun a4 H4 s4 e4 => ?_
    have L5 : Made K H [a0, a1, a2, a3, a4] H4 := L4.add s4 e4.at
    walk_at "rd"
    refine mk0 fun a5 H5 s5 e5 => ?_
    have L6 : Made K H [a0, a1, a2, a3, a4, a5] H5 := L5.add s5 e5
    walk_at "rd"
    refine mkv1 fun a6 H6 s6 e6 => ?_
    have L7 : Made K H [a0, a1, a2, a3, a4, a5, a6] H6 := L6.add s6 e6.at
    walk_at "rd"
    refine newL (by show 7 ≤ sizeLine; decide) fun N0 G0 _ t0 u0 => ?_
    replace L7 := L7.same t0
    walk_at "rd"
    walk_at "rd"
    refine mkv1 fun a7 H7 s7 e7 => ?_
    have L8 : Made K H [a0, a1, a2, a3, a4, a5, a6, a7] H7 := L7.add s7 e7.at
    have q7 := s7 _ _ u0
    walk_at "rd"
    refine mkv1 fun a8 H8 s8 e8 => ?_
    have L9 : Made K H [a0, a1, a2, a3, a4, a5, a6, a7, a8] H8 := L8.add s8 e8.at
    have q8 := s8 _ _ q7
    walk_at "rd"
    refine mk0 fun a9 H9 s9 e9 => ?_
    have L10 : Made K H [a0, a1, a2, a3, a4, a5, a6, a7, a8, a9] H9 := L9.add s9 e9
    have q9 := s9 _ _ q8
    walk_at "rd"
    refine mk0 fun a10 H10 s10 e10 => ?_
    have L11 : Made K H [a0, a1, a2, a3, a4, a5, a6, a7, a8, a9, a10] H10 := L10.add s10 e10
    have q10 := s10 _ _ q9
    walk_at "rd"
    refine mkv1 fun a11 H11 s11 e11 => ?_
    have L12 : Made K H [a0, a1, a2, a3, a4, a5, a6, a7, a8, a9, a10, a11] H11 := L11.add s11 e11.at
    have q11 := s11 _ _ q10
    walk_at "rd"
    refine mkv1 fun a12 H12 s12 e12 => ?_
    have L13 : Made K H [a0, a1, a2, a3, a4, a5, a6, a7, a8, a9, a10, a11, a12] H12 := L12.add s12 e12.at
    have q12 := s12 _ _ q11
    walk_at "rd"
    refine mkv2 fun a13 H13 s13 e13 => ?_
    have L14 : Made K H [a0, a1, a2, a3, a4, a5, a6, a7, a8, a9, a10, a11, a12, a13] H13 := L13.add s13 e13.at
    have q13 := s13 _ _ q12
    walk_at "rd"
    refine newL (by show 7 ≤ sizeLine; decide) fun N1 G1 _ t1 u1 => ?_
    replace L14 := L14.same t1
    walk_at "rd"
    refine r_cat (t1 _ _ q13) u1 (by show 14 ≤ sizeLine; decide) fun M1 J1 _ v1 w1 => ?_
    replace L14 := L14.same v1
    replace w1 : J1 M1 = some (.lst [.ref a0, .ref a1, .ref a2, .ref a3, .ref a4, .ref a5, .ref a6, .ref a7, .ref a8, .ref a9, .ref a10, .ref a11, .ref a12, .ref a13]) := w1
    walk_at "rd"
    walk_at "rd"
    refine mkv1 fun a14 H14 s14 e14 => ?_
    have L15 : Made K H [a0, a1, a2, a3, a4, a5, a6, a7, a8, a9, a10, a11, a12, a13, a14] H14 := L14.add s14 e14.at
    have q14 := s14 _ _ w1
    walk_at "rd"
    refine mkv1 fun a15 H15 s15 e15 => ?_
    have L16 : Made K H [a0, a1, a2, a3, a4, a5, a6, a7, a8, a9, a10, a11, a12, a13, a14, a15] H15 := L15.add s15 e15.at
    have q15 := s15 _ _ q14
    walk_at "rd"
    refine mkv1 fun a16 H16 s16 e16 => ?_
    have L17 : Made K H [a0, a1, a2, a3, a4, a5, a6, a7, a8, a9, a10, a11, a12, a13, a14, a15, a16] H16 := L16.add s16 e16.at
    have q16 := s16 _ _ q15
    walk_at "rd"
    refine mkv2 fun a17 H17 s17 e17 => ?_
    have L18 : Made K H [a0, a1, a2, a3, a4, a5, a6, a7, a8, a9, a10, a11, a12, a13, a14, a15, a16, a17] H17 := L17.add s17 e17.at
    have q17 := s17 _ _ q16
    walk_at "rd"
    refine mk0 fun a18 H18 s18 e18 => ?_
    have L19 : Made K H [a0, a1, a2, a3, a4, a5, a6, a7, a8, a9, a10, a11, a12, a13, a14, a15, a16, a17, a18] H18 := L18.add s18 e18
    have q18 := s18 _ _ q17
    walk_at "rd"
    refine mkv1 fun a19 H19 s19 e19 => ?_
    have L20 : Made K H [a0, a1, a2, a3, a4, a5, a6, a7, a8, a9, a10, a11, a12, a13, a14, a15, a16, a17, a18, a19] H19 := L19.add s19 e19.at
    have q19 := s19 _ _ q18
    walk_at "rd"
    refine mk0 fun a20 H20 s20 e20 => ?_
    have L21 : Made K H [a0, a1, a2, a3, a4, a5, a6, a7, a8, a9, a10, a11, a12, a13, a14, a15, a16, a17, a18, a19, a20] H20 := L20.add s20 e20
    have q20 := s20 _ _ q19
    walk_at "rd"
    refine newL (by show 7 ≤ sizeLine; decide) fun N2 G2 _ t2 u2 => ?_
    replace L21 := L21.same t2
    walk_at "rd"
    refine r_cat (t2 _ _ q20) u2 (by show 21 ≤ sizeLine; decide) fun M2 J2 _ v2 w2 => ?_
    replace L21 := L21.same v2
    replace w2 : J2 M2 = some (.lst [.ref a0, .ref a1, .ref a2, .ref a3, .ref a4, .ref a5, .ref a6, .ref a7, .ref a8, .ref a9, .ref a10, .ref a11, .ref a12, .ref a13, .ref a14, .ref a15, .ref a16, .ref a17, .ref a18, .ref a19, .ref a20]) := w2
    walk_at "rd"
    walk_at "rd"
    refine mkv1 fun a21 H21 s21 e21 => ?_
    have L22 : Made K H [a0, a1, a2, a3, a4, a5, a6, a7, a8, a9, a10, a11, a12, a13, a14, a15, a16, a17, a18, a19, a20, a21] H21 := L21.add s21 e21.at
    have q21 := s21 _ _ w2
    walk_at "rd"
    refine mkv1 fun a22 H22 s22 e22 => ?_
    have L23 : Made K H [a0, a1, a2, a3, a4, a5, a6, a7, a8, a9, a10, a11, a12, a13, a14, a15, a16, a17, a18, a19, a20, a21, a22] H22 := L22.add s22 e22.at
    have q22 := s22 _ _ q21
    walk_at "rd"
    refine mkv1 fun a23 H23 s23 e23 => ?_
    have L24 : Made K H [a0, a1, a2, a3, a4, a5, a6, a7, a8, a9, a10, a11, a12, a13, a14, a15, a16, a17, a18, a19, a20, a21, a22, a23] H23 := L23.add s23 e23.at
    have q23 := s23 _ _ q22
    walk_at "rd"
    refine mkv2 fun a24 H24 s24 e24 => ?_
    have L25 : Made K H [a0, a1, a2, a3, a4, a5, a6, a7, a8, a9, a10, a11, a12, a13, a14, a15, a16, a17, a18, a19, a20, a21, a22, a23, a24] H24 := L24.add s24 e24.at
    have q24 := s24 _ _ q23
    walk_at "rd"
    refine mkv1 fun a25 H25 s25 e25 => ?_
    have L26 : Made K H [a0, a1, a2, a3, a4, a5, a6, a7, a8, a9, a10, a11, a12, a13, a14, a15, a16, a17, a18, a19, a20, a21, a22, a23, a24, a25] H25 := L25.add s25 e25.at
    have q25 := s25 _ _ q24
    walk_at "rd"
    refine mkv1 fun a26 H26 s26 e26 => ?_
    have L27 : Made K H [a0, a1, a2, a3, a4, a5, a6, a7, a8, a9, a10, a11, a12, a13, a14, a15, a16, a17, a18, a19, a20, a21, a22, a23, a24, a25, a26] H26 := L26.add s26 e26.at
    have q26 := s26 _ _ q25
    walk_at "rd"
    refine mkv1 fun a27 H27 s27 e27 => ?_
    have L28 : Made K H [a0, a1, a2, a3, a4, a5, a6, a7, a8, a9, a10, a11, a12, a13, a14, a15, a16, a17, a18, a19, a20, a21, a22, a23, a24, a25, a26, a27] H27 := L27.add s27 e27.at
    have q27 := s27 _ _ q26
    walk_at "rd"
    refine newL (by show 7 ≤ sizeLine; decide) fun N3 G3 _ t3 u3 => ?_
    replace L28 := L28.same t3
    walk_at "rd"
    refine r_cat (t3 _ _ q27) u3 (by show 28 ≤ sizeLine; decide) fun M3 J3 _ v3 w3 => ?_
    replace L28 := L28.same v3
    replace w3 : J3 M3 = some (.lst [.ref a0, .ref a1, .ref a2, .ref a3, .ref a4, .ref a5, .ref a6, .ref a7, .ref a8, .ref a9, .ref a10, .ref a11, .ref a12, .ref a13, .ref a14, .ref a15, .ref a16, .ref a17, .ref a18, .ref a19, .ref a20, .ref a21, .ref a22, .ref a23, .ref a24, .ref a25, .ref a26, .ref a27]) := w3
    walk_at "rd"
    walk_at "rd"
    refine mkv1 fun a28 H28 s28 e28 => ?_
    have L29 : Made K H [a0, a1, a2, a3, a4, a5, a6, a7, a8, a9, a10, a11, a12, a13, a14, a15, a16, a17, a18, a19, a20, a21, a22, a23, a24, a25, a26, a27, a28] H28 := L28.add s28 e28.at
    have q28 := s28 _ _ w3
    walk_at "rd"
    refine mkv1 fun a29 H29 s29 e29 => ?_
    have L30 : Made K H [a0, a1, a2, a3, a4, a5, a6, a7, a8, a9, a10, a11, a12, a13, a14, a15, a16, a17, a18, a19, a20, a21, a22, a23, a24, a25, a26, a27, a28, a29] H29 := L29.add s29 e29.at
    have q29 := s29 _ _ q28
    walk_at "rd"
    refine mkv1 fun a30 H30 s30 e30 => ?_
    have L31 : Made K H [a0, a1, a2, a3, a4, a5, a6, a7, a8, a9, a10, a11, a12, a13, a14, a15, a16, a17, a18, a19, a20, a21, a22, a23, a24, a25, a26, a27, a28, a29, a30] H30 := L30.add s30 e30.at
    have q30 := s30 _ _ q29
    walk_at "rd"
    refine mkv2 fun a31 H31 s31 e31 => ?_
    have L32 : Made K H [a0, a1, a2, a3, a4, a5, a6, a7, a8, a9, a10, a11, a12, a13, a14, a15, a16, a17, a18, a19, a20, a21, a22, a23, a24, a25, a26, a27, a28, a29, a30, a31] H31 := L31.add s31 e31.at
    have q31 := s31 _ _ q30
    walk_at "rd"
    refine mkv1 fun a32 H32 s32 e32 => ?_
    have L33 : Made K H [a0, a1, a2, a3, a4, a5, a6, a7, a8, a9, a10, a11, a12, a13, a14, a15, a16, a17, a18, a19, a20, a21, a22, a23, a24, a25, a26, a27, a28, a29, a30, a31, a32] H32 := L32.add s32 e32.at
    have q32 := s32 _ _ q31
    walk_at "rd"
    refine mkv1 fun a33 H33 s33 e33 => ?_
    have L34 : Made K H [a0, a1, a2, a3, a4, a5, a6, a7, a8, a9, a10, a11, a12, a13, a14, a15, a16, a17, a18, a19, a20, a21, a22, a23, a24, a25, a26, a27, a28, a29, a30, a31, a32, a33] H33 := L33.add s33 e33.at
    have q33 := s33 _ _ q32
    walk_at "rd"
    refine mkv1 fun a34 H34 s34 e34 => ?_
    have L35 : Made K H [a0, a1, a2, a3, a4, a5, a6, a7, a8, a9, a10, a11, a12, a13, a14, a15, a16, a17, a18, a19, a20, a21, a22, a23, a24, a25, a26, a27, a28, a29, a30, a31, a32, a33, a34] H34 := L34.add s34 e34.at
    have q34 := s34 _ _ q33
    walk_at "rd"
    refine newL (by show 7 ≤ sizeLine; decide) fun N4 G4 _ t4 u4 => ?_
    replace L35 := L35.same t4
    walk_at "rd"
    refine r_cat (t4 _ _ q34) u4 (by show 35 ≤ sizeLine; decide) fun M4 J4 _ v4 w4 => ?_
    replace L35 := L35.same v4
    replace w4 : J4 M4 = some (.lst [.ref a0, .ref a1, .ref a2, .ref a3, .ref a4, .ref a5, .ref a6, .ref a7, .ref a8, .ref a9, .ref a10, .ref a11, .ref a12, .ref a13, .ref a14, .ref a15, .ref a16, .ref a17, .ref a18, .ref a19, .ref a20, .ref a21, .ref a22, .ref a23, .ref a24, .ref a25, .ref a26, .ref a27, .ref a28, .ref a29, .ref a30, .ref a31, .ref a32, .ref a33, .ref a34]) := w4
    walk_at "rd"
    walk_at "rd"
    refine mkv1 fun a35 H35 s35 e35 => ?_
    have L36 : Made K H [a0, a1, a2, a3, a4, a5, a6, a7, a8, a9, a10, a11, a12, a13, a14, a15, a16, a17, a18, a19, a20, a21, a22, a23, a24, a25, a26, a27, a28, a29, a30, a31, a32, a33, a34, a35] H35 := L35.add s35 e35.at
    have q35 := s35 _ _ w4
    walk_at "rd"
    refine mk0 fun a36 H36 s36 e36 => ?_
    have L37 : Made K H [a0, a1, a2, a3, a4, a5, a6, a7, a8, a9, a10, a11, a12, a13, a14, a15, a16, a17, a18, a19, a20, a21, a22, a23, a24, a25, a26, a27, a28, a29, a30, a31, a32, a33, a34, a35, a36] H36 := L36.add s36 e36
    have q36 := s36 _ _ q35
    walk_at "rd"
    refine mkv1 fun a37 H37 s37 e37 => ?_
    have L38 : Made K H [a0, a1, a2, a3, a4, a5, a6, a7, a8, a9, a10, a11, a12, a13, a14, a15, a16, a17, a18, a19, a20, a21, a22, a23, a24, a25, a26, a27, a28, a29, a30, a31, a32, a33, a34, a35, a36, a37] H37 := L37.add s37 e37.at
    have q37 := s37 _ _ q36
    walk_at "rd"
    refine mk0 fun a38 H38 s38 e38 => ?_
    have L39 : Made K H [a0, a1, a2, a3, a4, a5, a6, a7, a8, a9, a10, a11, a12, a13, a14, a15, a16, a17, a18, a19, a20, a21, a22, a23, a24, a25, a26, a27, a28, a29, a30, a31, a32, a33, a34, a35, a36, a37, a38] H38 := L38.add s38 e38
    have q38 := s38 _ _ q37
    walk_at "rd"
    refine mkv1 fun a39 H39 s39 e39 => ?_
    have L40 : Made K H [a0, a1, a2, a3, a4, a5, a6, a7, a8, a9, a10, a11, a12, a13, a14, a15, a16, a17, a18, a19, a20, a21, a22, a23, a24, a25, a26, a27, a28, a29, a30, a31, a32, a33, a34, a35, a36, a37, a38, a39] H39 := L39.add s39 e39.at
    have q39 := s39 _ _ q38
    walk_at "rd"
    refine mkv1 fun a40 H40 s40 e40 => ?_
    have L41 : Made K H [a0, a1, a2, a3, a4, a5, a6, a7, a8, a9, a10, a11, a12, a13, a14, a15, a16, a17, a18, a19, a20, a21, a22, a23, a24, a25, a26, a27, a28, a29, a30, a31, a32, a33, a34, a35, a36, a37, a38, a39, a40] H40 := L40.add s40 e40.at
    have q40 := s40 _ _ q39
    walk_at "rd"
    refine mkv1 fun a41 H41 s41 e41 => ?_
    have L42 : Made K H [a0, a1, a2, a3, a4, a5, a6, a7, a8, a9, a10, a11, a12, a13, a14, a15, a16, a17, a18, a19, a20, a21, a22, a23, a24, a25, a26, a27, a28, a29, a30, a31, a32, a33, a34, a35, a36, a37, a38, a39, a40, a41] H41 := L41.add s41 e41.at
    have q41 := s41 _ _ q40
    walk_at "rd"
    refine mk0 fun a42 H42 s42 e42 => ?_
    have L43 : Made K H [a0, a1, a2, a3, a4, a5, a6, a7, a8, a9, a10, a11, a12, a13, a14, a15, a16, a17, a18, a19, a20, a21, a22, a23, a24, a25, a26, a27, a28, a29, a30, a31, a32, a33, a34, a35, a36, a37, a38, a39, a40, a41, a42] H42 := L42.add s42 e42
    have q42 := s42 _ _ q41
    walk_at "rd"
    refine newL (by show 8 ≤ sizeLine; decide) fun N5 G5 _ t5 u5 => ?_
    replace L43 := L43.same t5
    walk_at "rd"
    refine r_cat (t5 _ _ q42) u5 (by show 43 ≤ sizeLine; decide) fun M5 J5 _ v5 w5 => ?_
    replace L43 := L43.same v5
    replace w5 : J5 M5 = some (.lst [.ref a0, .ref a1, .ref a2, .ref a3, .ref a4, .ref a5, .ref a6, .ref a7, .ref a8, .ref a9, .ref a10, .ref a11, .ref a12, .ref a13, .ref a14, .ref a15, .ref a16, .ref a17, .ref a18, .ref a19, .ref a20, .ref a21, .ref a22, .ref a23, .ref a24, .ref a25, .ref a26, .ref a27, .ref a28, .ref a29, .ref a30, .ref a31, .ref a32, .ref a33, .ref a34, .ref a35, .ref a36, .ref a37, .ref a38, .ref a39, .ref a40, .ref a41, .ref a42]) := w5
    walk_at "rd"
    walk_at "rd"
    refine mkv1 fun a43 H43 s43 e43 => ?_
    have L44 : Made K H [a0, a1, a2, a3, a4, a5, a6, a7, a8, a9, a10, a11, a12, a13, a14, a15, a16, a17, a18, a19, a20, a21, a22, a23, a24, a25, a26, a27, a28, a29, a30, a31, a32, a33, a34, a35, a36, a37, a38, a39, a40, a41, a42, a43] H43 := L43.add s43 e43.at
    have q43 := s43 _ _ w5
    walk_at "rd"
    refine mk0 fun a44 H44 s44 e44 => ?_
    have L45 : Made K H [a0, a1, a2, a3, a4, a5, a6, a7, a8, a9, a10, a11, a12, a13, a14, a15, a16, a17, a18, a19, a20, a21, a22, a23, a24, a25, a26, a27, a28, a29, a30, a31, a32, a33, a34, a35, a36, a37, a38, a39, a40, a41, a42, a43, a44] H44 := L44.add s44 e44
    have q44 := s44 _ _ q43
    walk_at "rd"
    refine newL (by show 2 ≤ sizeLine; decide) fun N6 G6 _ t6 u6 => ?_
    replace L45 := L45.same t6
    walk_at "rd"
    refine r_cat (t6 _ _ q44) u6 (by show 45 ≤ sizeLine; decide) fun M6 J6 _ v6 w6 => ?_
    replace L45 := L45.same v6
    replace w6 : J6 M6 = some (.lst [.ref a0, .ref a1, .ref a2, .ref a3, .ref a4, .ref a5, .ref a6, .ref a7, .ref a8, .ref a9, .ref a10, .ref a11, .ref a12, .ref a13, .ref a14, .ref a15, .ref a16, .ref a17, .ref a18, .ref a19, .ref a20, .ref a21, .ref a22, .ref a23, .ref a24, .ref a25, .ref a26, .ref a27, .ref a28, .ref a29, .ref a30, .ref a31, .ref a32, .ref a33, .ref a34, .ref a35, .ref a36, .ref a37, .ref a38, .ref a39, .ref a40, .ref a41, .ref a42, .ref a43, .ref a44]) := w6
    walk_at "rd"
    exact k _ [a0, a1, a2, a3, a4, a5, a6, a7, a8, a9, a10, a11, a12, a13, a14, a15, a16, a17, a18, a19, a20, a21, a22, a23, a24, a25, a26, a27, a28, a29, a30, a31, a32, a33, a34, a35, a36, a37, a38, a39, a40, a41, a42, a43, a44] _ L45 rfl w6
end
end K82
namespace K82
open PySem PySem.Spec PyProof.Rows L2 MB
theorem if_same {x : V} {A B : Prop} (h : B) : if (!decide (x = x)) = true then A else B := by
  rw [decide_eq_true rfl]
  exact iteF h
theorem if_self {x : V} {A B : Prop} (h : A) : if decide (x = x) = true then A else B := by
  rw [decide_eq_true rfl]
  exact iteT h
theorem smalls : ∀ {ds : List PyData}, (∀ d ∈ ds, Small d) → PyData.showableAll ds = true ∧ PyData.hasDictAll ds = false ∧ PyData.depthAll ds ≤ 4 ∧ ((PyData.shownAll ds).map (·.length)).sum ≤ 2500 * ds.length ∧ (PyData.shownAll ds).length = ds.length
  | [], _ => ⟨rfl, rfl, Nat.le_of_ble_eq_true rfl, Nat.le_refl _, rfl⟩
  | d :: ds, h => by
    obtain ⟨h1, h2⟩ := List.forall_mem_cons.mp h
    obtain ⟨a1, a2, a3, a4, a5⟩ := smalls h2
    refine ⟨?_, ?_, ?_, ?_, ?_⟩
    · show (d.showable && PyData.showableAll ds) = true
      rw [h1.show_, a1]
      rfl
    · show (d.hasDict || PyData.hasDictAll ds) = false
      rw [h1.dict, a2]
      rfl
    · have := h1.depth
      simp only [PyData.depthAll]
      omega
    · have := h1.len
      show d.shown.length + ((PyData.shownAll ds).map (·.length)).sum ≤ 2500 * (ds.length + 1)
      omega
    · show (PyData.shownAll ds).length + 1 = ds.length + 1
      rw [a5]
theorem reprOf {K : PySem.W.Frag} {H : Hp} {Q : VK} {L : Addr} {xs : List V} {ds : List PyData} (e : SqL K H L xs) (h : DpAll K H xs ds) (hs : ∀ d ∈ ds, Small d) (hl : ds.length ≤ 20) (q : Q (.str (PyData.shown (.list ds))) H) : rRepr K [.ref L] H Q := by
  obtain ⟨a1, a2, a3, a4, a5⟩ := smalls hs
  refine r_reprD (.lst e h) a1 a2 ?_ ?_ q
  · simp only [PyData.depth]
    omega
  · refine Nat.le_trans (listText_len_le _) ?_
    rw [a5, sizeLine_eq]
    omega
section
variable {K : PySem.W.Frag} {n f : Str} {H : Hp} {Q : VK} {a C : Addr} {v u : V}
theorem xat1 (x : XfC K C) (hn : PySem.W.findIn K (.ref C) n = some none) (h : ExF H a C [(n, v)]) (q : Q v H) : XatQ K n (.ref a) H Q := xatF x hn h (by rw [lookup_put, if_pos rfl]) q
theorem xat2a (x : XfC K C) (hn : PySem.W.findIn K (.ref C) n = some none) (h : ExF H a C [(n, u), (f, v)]) (q : Q u H) : XatQ K n (.ref a) H Q := xatF x hn h (by rw [lookup_put, if_pos rfl]) q
theorem xat2b (e : decide (n = f) = false) (x : XfC K C) (hn : PySem.W.findIn K (.ref C) n = some none) (h : ExF H a C [(f, u), (n, v)]) (q : Q v H) : XatQ K n (.ref a) H Q := xatF x hn h (by rw [lookup_put, if_neg (of_decide_eq_false e), lookup_put, if_pos rfl]) q
end
def spFld (K : PySem.W.Frag) : Sp := fun vs H Q _ => ∃ (v u : V) (d e : PyData), vs = [v, u] ∧ Thg K H v d ∧ Thg K H u e ∧ ∀ H', L2.Same H H' → Q (.bl true) H'
section
variable {P : Program} {w : World} {K : PySem.W.Frag} {mg : Str → Option Value} {base : Heap}
theorem c_l_later_fields_hold (T : Txt K mg) : CalG P w K mg base CX0 3 "_law_later_fields_hold" ["_law_one", "_law_other"] (spFld K) := by
  obtain ⟨fd, F⟩ := T.c.def_ 5 (d := dd_l_later_fields_hold) rfl
  obtain ⟨f_OddCount, I_OddCount⟩ := i_OddCount (P := P) (w := w) (base := base) T
  obtain ⟨f_NotStop, I_NotStop⟩ := i_NotStop (P := P) (w := w) (base := base) T
  obtain ⟨f_NotRingless, I_NotRingless⟩ := i_NotRingless (P := P) (w := w) (base := base) T
  obtain ⟨f_NotCorner, I_NotCorner⟩ := i_NotCorner (P := P) (w := w) (base := base) T
  obtain ⟨f_BadWeb, I_BadWeb⟩ := i_BadWeb (P := P) (w := w) (base := base) T
  obtain ⟨f_BadPost, I_BadPost⟩ := i_BadPost (P := P) (w := w) (base := base) T
  obtain ⟨f_NotTies, I_NotTies⟩ := i_NotTies (P := P) (w := w) (base := base) T
  obtain ⟨f_NotRound, I_NotRound⟩ := i_NotRound (P := P) (w := w) (base := base) T
  obtain ⟨f_NotApart, I_NotApart⟩ := i_NotApart (P := P) (w := w) (base := base) T
  obtain ⟨f_NoSmall, I_NoSmall⟩ := i_NoSmall (P := P) (w := w) (base := base) T
  obtain ⟨f_NotHidden, I_NotHidden⟩ := i_NotHidden (P := P) (w := w) (base := base) T
  obtain ⟨f_BadWish, I_BadWish⟩ := i_BadWish (P := P) (w := w) (base := base) T
  obtain ⟨f_BadPool, I_BadPool⟩ := i_BadPool (P := P) (w := w) (base := base) T
  obtain ⟨f_BadEdit, I_BadEdit⟩ := i_BadEdit (P := P) (w := w) (base := base) T
  refine ⟨_, fd, okG (CX := CX0) F sc_l_later_fields_hold (fun vs H Q E h => ?_) (fun cdv A outer s H vs Q E hgd hr h => ?_), T.glo 14, F.kp, F.bindsN fun _ _ _ _ _ _ us hl => match us, hl with | [_, _], _ => rfl⟩
  · obtain ⟨v, u, d, e, rfl, _⟩ := h
    rfl
  · obtain ⟨v, u, d, e, rfl, hv, hu, k⟩ := h
    refine ⟨_, PSs.nox (pss_cons (ps_asg (pe_tup (pa_cons (pe_mkv (T.bo 27 rfl rfl) (T.bi 27 rfl rfl) (T.bt 27 rfl rfl) I_OddCount.1 (hr.mono (by decide)) I_OddCount.2 pass0 (T.glo 46) (pa_cons (pv 0) pa_nil)) (pa_cons (pe_mkv (T.bo 28 rfl rfl) (T.bi 28 rfl rfl) (T.bt 28 rfl rfl) I_NotStop.1 (hr.mono (by decide)) I_NotStop.2 pass0 (T.glo 47) (pa_cons (pv 0) pa_nil)) (pa_cons (pe_mkv (T.bo 29 rfl rfl) (T.bi 29 rfl rfl) (T.bt 29 rfl rfl) I_NotRingless.1 (hr.mono (by decide)) I_NotRingless.2 pass0 (T.glo 48) (pa_cons (pv 0) pa_nil)) (pa_cons (pe_mkv (T.bo 30 rfl rfl) (T.bi 30 rfl rfl) (T.bt 30 rfl rfl) I_NotCorner.1 (hr.mono (by decide)) I_NotCorner.2 pass0 (T.glo 49) (pa_cons (pv 0) pa_nil)) (pa_cons (pe_mkv (T.bo 31 rfl rfl) (T.bi 31 rfl rfl) (T.bt 31 rfl rfl) I_BadWeb.1 (hr.mono (by decide)) I_BadWeb.2 pass0 (T.glo 50) (pa_cons (pv 0) (pa_cons (pv 1) pa_nil))) pa_nil)))))) (pg_tup rfl (pgs_cons (pg_name (i := 2) sc_l_later_fields_hold.nd rfl (Or.inl rfl)) (pgs_cons (pg_name (i := 3) sc_l_later_fields_hold.nd rfl (Or.inl rfl)) (pgs_cons (pg_name (i := 4) sc_l_later_fields_hold.nd rfl (Or.inl rfl)) (pgs_cons (pg_name (i := 5) sc_l_later_fields_hold.nd rfl (Or.inl rfl)) (pgs_cons (pg_name (i := 6) sc_l_later_fields_hold.nd rfl (Or.inl rfl)) pgs_nil)))))))
 (pss_cons (ps_set (i := 7) sc_l_later_fields_hold.nd rfl (Or.inl rfl) (pe_lst (pa_cons (pe_xat (pv 2)) (pa_cons (pe_xat (pv 3)) (pa_cons (pe_xat (pv 4)) (pa_cons (pe_xat (pv 5)) (pa_cons (pe_xat (pv 6)) (pa_cons (pe_xat (pv 6)) pa_nil))))))))
 (pss_cons (ps_if (pt_cmpR op_ne (pe_callB (call_repr hgd hr.units) rfl (T.free 7) (by decide +kernel) (pa_cons (pv 7) pa_nil)) (pe_callB (call_repr hgd hr.units) rfl (T.free 7) (by decide +kernel) (pa_cons (pe_lst (pa_cons (pv 0) (pa_cons (pv 0) (pa_cons (pv 0) (pa_cons (pv 0) (pa_cons (pv 0) (pa_cons (pv 1) pa_nil))))))) pa_nil)) (nomark _))
  (pss_one (ps_ret pe_bl))
  pss_nil)
 (pss_cons (ps_asg (pe_tup (pa_cons (pe_mkv (T.bo 32 rfl rfl) (T.bi 32 rfl rfl) (T.bt 32 rfl rfl) I_BadPost.1 (hr.mono (by decide)) I_BadPost.2 pass0 (T.glo 51) (pa_cons (pv 0) pa_nil)) (pa_cons (pe_mkv (T.bo 33 rfl rfl) (T.bi 33 rfl rfl) (T.bt 33 rfl rfl) I_NotTies.1 (hr.mono (by decide)) I_NotTies.2 pass0 (T.glo 52) (pa_cons (pv 0) pa_nil)) (pa_cons (pe_mkv (T.bo 34 rfl rfl) (T.bi 34 rfl rfl) (T.bt 34 rfl rfl) I_NotRound.1 (hr.mono (by decide)) I_NotRound.2 pass0 (T.glo 53) (pa_cons (pv 0) pa_nil)) (pa_cons (pe_mkv (T.bo 35 rfl rfl) (T.bi 35 rfl rfl) (T.bt 35 rfl rfl) I_NotApart.1 (hr.mono (by decide)) I_NotApart.2 pass0 (T.glo 54) (pa_cons (pv 0) pa_nil)) (pa_cons (pe_mkv (T.bo 37 rfl rfl) (T.bi 37 rfl rfl) (T.bt 37 rfl rfl) I_NoSmall.1 (hr.mono (by decide)) I_NoSmall.2 pass0 (T.glo 56) (pa_cons (pv 0) pa_nil)) pa_nil)))))) (pg_tup rfl (pgs_cons (pg_name (i := 8) sc_l_later_fields_hold.nd rfl (Or.inl rfl)) (pgs_cons (pg_name (i := 9) sc_l_later_fields_hold.nd rfl (Or.inl rfl)) (pgs_cons (pg_name (i := 10) sc_l_later_fields_hold.nd rfl (Or.inl rfl)) (pgs_cons (pg_name (i := 11) sc_l_later_fields_hold.nd rfl (Or.inl rfl)) (pgs_cons (pg_name (i := 12) sc_l_later_fields_hold.nd rfl (Or.inl rfl)) pgs_nil)))))))
 (pss_cons (ps_set (i := 7) sc_l_later_fields_hold.nd rfl (Or.inl rfl) (pe_lst (pa_cons (pe_xat (pv 8)) (pa_cons (pe_xat (pv 9)) (pa_cons (pe_xat (pv 10)) (pa_cons (pe_xat (pv 11)) (pa_cons (pe_xat (pv 12)) pa_nil)))))))
 (pss_cons (ps_if (pt_cmpR op_ne (pe_callB (call_repr hgd hr.units) rfl (T.free 7) (by decide +kernel) (pa_cons (pv 7) pa_nil)) (pe_callB (call_repr hgd hr.units) rfl (T.free 7) (by decide +kernel) (pa_cons (pe_lst (pa_cons (pv 0) (pa_cons (pv 0) (pa_cons (pv 0) (pa_cons (pv 0) (pa_cons (pv 0) pa_nil)))))) pa_nil)) (nomark _))
  (pss_one (ps_ret pe_bl))
  pss_nil)
 (pss_cons (ps_asg (pe_tup (pa_cons (pe_mkv (T.bo 39 rfl rfl) (T.bi 39 rfl rfl) (T.bt 39 rfl rfl) I_NotHidden.1 (hr.mono (by decide)) I_NotHidden.2 pass0 (T.glo 58) (pa_cons (pv 0) pa_nil)) (pa_cons (pe_mkv (T.bo 40 rfl rfl) (T.bi 40 rfl rfl) (T.bt 40 rfl rfl) I_BadWish.1 (hr.mono (by decide)) I_BadWish.2 pass0 (T.glo 59) (pa_cons (pv 0) pa_nil)) (pa_cons (pe_mkv (T.bo 41 rfl rfl) (T.bi 41 rfl rfl) (T.bt 41 rfl rfl) I_BadPool.1 (hr.mono (by decide)) I_BadPool.2 pass0 (T.glo 60) (pa_cons (pv 0) pa_nil)) (pa_cons (pe_mkv (T.bo 43 rfl rfl) (T.bi 43 rfl rfl) (T.bt 43 rfl rfl) I_BadEdit.1 (hr.mono (by decide)) I_BadEdit.2 pass0 (T.glo 62) (pa_cons (pv 0) pa_nil)) pa_nil))))) (pg_tup rfl (pgs_cons (pg_name (i := 13) sc_l_later_fields_hold.nd rfl (Or.inl rfl)) (pgs_cons (pg_name (i := 14) sc_l_later_fields_hold.nd rfl (Or.inl rfl)) (pgs_cons (pg_name (i := 15) sc_l_later_fields_hold.nd rfl (Or.inl rfl)) (pgs_cons (pg_name (i := 16) sc_l_later_fields_hold.nd rfl (Or.inl rfl)) pgs_nil))))))
 (pss_one (ps_ret (pe_cmpR op_eq (pe_callB (call_repr hgd hr.units) rfl (T.free 7) (by decide +kernel) (pa_cons (pe_lst (pa_cons (pe_xat (pv 13)) (pa_cons (pe_xat (pv 14)) (pa_cons (pe_xat (pv 15)) (pa_cons (pe_xat (pv 16)) pa_nil))))) pa_nil)) (pe_callB (call_repr hgd hr.units) rfl (T.free 7) (by decide +kernel) (pa_cons (pe_lst (pa_cons (pv 0) (pa_cons (pv 0) (pa_cons (pv 0) (pa_cons (pv 0) pa_nil))))) pa_nil)) (nomark _))))))))))), ?_⟩
    refine MB.st0 (σ := [some v, some u, none, none, none, none, none, none, none, none, none, none, none, none, none, none, none]) rfl ?_
    have S : L2.Same H H := L2.Same.refl H
    walk_at "rd"
    refine mkv1 fun a0 H0 s0 x0 => ?_
    replace S := S.trans s0
    replace hv := hv.same s0
    replace hu := hu.same s0
    walk_at "rd"
    refine mkv1 fun a1 H1 s1 x1 => ?_
    replace S := S.trans s1
    replace hv := hv.same s1
    replace hu := hu.same s1
    replace x0 := x0.same s1
    walk_at "rd"
    refine mkv1 fun a2 H2 s2 x2 => ?_
    replace S := S.trans s2
    replace hv := hv.same s2
    replace hu := hu.same s2
    replace x0 := x0.same s2
    replace x1 := x1.same s2
    walk_at "rd"
    refine mkv1 fun a3 H3 s3 x3 => ?_
    replace S := S.trans s3
    replace hv := hv.same s3
    replace hu := hu.same s3
    replace x0 := x0.same s3
    replace x1 := x1.same s3
    replace x2 := x2.same s3
    walk_at "rd"
    refine mkv2 fun a4 H4 s4 x4 => ?_
    replace S := S.trans s4
    replace hv := hv.same s4
    replace hu := hu.same s4
    replace x0 := x0.same s4
    replace x1 := x1.same s4
    replace x2 := x2.same s4
    replace x3 := x3.same s4
    walk_at "rd"
    refine newT (by show 5 ≤ sizeLine; decide) fun p5 H5 _ s5 e5 => ?_
    replace S := S.trans s5
    replace hv := hv.same s5
    replace hu := hu.same s5
    replace x0 := x0.same s5
    replace x1 := x1.same s5
    replace x2 := x2.same s5
    replace x3 := x3.same s5
    replace x4 := x4.same s5
    walk_at "rd"
    dsimp only [List.set]
    walk_at "rd"
    refine xat1 (T.bx 27 rfl rfl) (T.bn 27 0 rfl rfl) x0 ?_
    walk_at "rd"
    refine xat1 (T.bx 28 rfl rfl) (T.bn 28 0 rfl rfl) x1 ?_
    walk_at "rd"
    refine xat1 (T.bx 29 rfl rfl) (T.bn 29 0 rfl rfl) x2 ?_
    walk_at "rd"
    refine xat1 (T.bx 30 rfl rfl) (T.bn 30 0 rfl rfl) x3 ?_
    walk_at "rd"
    refine xat2b (by decide +kernel) (T.bx 31 rfl rfl) (T.bn 31 0 rfl rfl) x4 ?_
    walk_at "rd"
    refine xat2a (T.bx 31 rfl rfl) (T.bn 31 1 rfl rfl) x4 ?_
    walk_at "rd"
    refine newL (by show 6 ≤ sizeLine; decide) fun t6 H6 _ s6 e6 => ?_
    replace S := S.trans s6
    replace hv := hv.same s6
    replace hu := hu.same s6
    replace x0 := x0.same s6
    replace x1 := x1.same s6
    replace x2 := x2.same s6
    replace x3 := x3.same s6
    replace x4 := x4.same s6
    walk_at "rd"
    dsimp only [List.set]
    walk_at "rd"
    refine reprOf (SqL.of e6) (.cons hv.dp (.cons hv.dp (.cons hv.dp (.cons hv.dp (.cons hv.dp (.cons hu.dp DpAll.nil)))))) (List.forall_mem_cons.mpr ⟨hv.small, (List.forall_mem_cons.mpr ⟨hv.small, (List.forall_mem_cons.mpr ⟨hv.small, (List.forall_mem_cons.mpr ⟨hv.small, (List.forall_mem_cons.mpr ⟨hv.small, (List.forall_mem_cons.mpr ⟨hu.small, (List.forall_mem_nil _)⟩)⟩)⟩)⟩)⟩)⟩) (Nat.le_of_ble_eq_true rfl) ?_
    walk_at "rd"
    refine newL (by show 6 ≤ sizeLine; decide) fun t7 H7 _ s7 e7 => ?_
    replace S := S.trans s7
    replace hv := hv.same s7
    replace hu := hu.same s7
    replace x0 := x0.same s7
    replace x1 := x1.same s7
    replace x2 := x2.same s7
    replace x3 := x3.same s7
    replace x4 := x4.same s7
    walk_at "rd"
    refine reprOf (SqL.of e7) (.cons hv.dp (.cons hv.dp (.cons hv.dp (.cons hv.dp (.cons hv.dp (.cons hu.dp DpAll.nil)))))) (List.forall_mem_cons.mpr ⟨hv.small, (List.forall_mem_cons.mpr ⟨hv.small, (List.forall_mem_cons.mpr ⟨hv.small, (List.forall_mem_cons.mpr ⟨hv.small, (List.forall_mem_cons.mpr ⟨hv.small, (List.forall_mem_cons.mpr ⟨hu.small, (List.forall_mem_nil _)⟩)⟩)⟩)⟩)⟩)⟩) (Nat.le_of_ble_eq_true rfl) ?_
    walk_at "rd"
    refine if_same ?_
    walk_at "rd"
    refine mkv1 fun a8 H8 s8 x8 => ?_
    replace S := S.trans s8
    replace hv := hv.same s8
    replace hu := hu.same s8
    walk_at "rd"
    refine mkv1 fun a9 H9 s9 x9 => ?_
    replace S := S.trans s9
    replace hv := hv.same s9
    replace hu := hu.same s9
    replace x8 := x8.same s9
    walk_at "rd"
    refine mkv1 fun a10 H10 s10 x10 => ?_
    replace S := S.trans s10
    replace hv := hv.same s10
    replace hu := hu.same s10
    replace x8 := x8.same s10
    replace x9 := x9.same s10
    walk_at "rd"
    refine mkv1 fun a11 H11 s11 x11 => ?_
    replace S := S.trans s11
    replace hv := hv.same s11
    replace hu := hu.same s11
    replace x8 := x8.same s11
    replace x9 := x9.same s11
    replace x10 := x10.same s11
    walk_at "rd"
    refine mkv1 fun a12 H12 s12 x12 => ?_
    replace S := S.trans s12
    replace hv := hv.same s12
    replace hu := hu.same s12
    replace x8 := x8.same s12
    replace x9 := x9.same s12
    replace x10 := x10.same s12
    replace x11 := x11.same s12
    walk_at "rd"
    refine newT (by show 5 ≤ sizeLine; decide) fun p13 H13 _ s13 e13 => ?_
    replace S := S.trans s13
    replace hv := hv.same s13
    replace hu := hu.same s13
    replace x8 := x8.same s13
    replace x9 := x9.same s13
    replace x10 := x10.same s13
    replace x11 := x11.same s13
    replace x12 := x12.same s13
    walk_at "rd"
    dsimp only [List.set]
    walk_at "rd"
    refine xat1 (T.bx 32 rfl rfl) (T.bn 32 0 rfl rfl) x8 ?_
    walk_at "rd"
    refine xat1 (T.bx 33 rfl rfl) (T.bn 33 0 rfl rfl) x9 ?_
    walk_at "rd"
    refine xat1 (T.bx 34 rfl rfl) (T.bn 34 0 rfl rfl) x10 ?_
    walk_at "rd"
    refine xat1 (T.bx 35 rfl rfl) (T.bn 35 0 rfl rfl) x11 ?_
    walk_at "rd"
    refine xat1 (T.bx 37 rfl rfl) (T.bn 37 0 rfl rfl) x12 ?_
    walk_at "rd"
    refine newL (by show 5 ≤ sizeLine; decide) fun t14 H14 _ s14 e14 => ?_
    replace S := S.trans s14
    replace hv := hv.same s14
    replace hu := hu.same s14
    replace x8 := x8.same s14
    replace x9 := x9.same s14
    replace x10 := x10.same s14
    replace x11 := x11.same s14
    replace x12 := x12.same s14
    walk_at "rd"
    dsimp only [List.set]
    walk_at "rd"
    refine reprOf (SqL.of e14) (.cons hv.dp (.cons hv.dp (.cons hv.dp (.cons hv.dp (.cons hv.dp DpAll.nil))))) (List.forall_mem_cons.mpr ⟨hv.small, (List.forall_mem_cons.mpr ⟨hv.small, (List.forall_mem_cons.mpr ⟨hv.small, (List.forall_mem_cons.mpr ⟨hv.small, (List.forall_mem_cons.mpr ⟨hv.small, (List.forall_mem_nil _)⟩)⟩)⟩)⟩)⟩) (Nat.le_of_ble_eq_true rfl) ?_
    walk_at "rd"
    refine newL (by show 5 ≤ sizeLine; decide) fun t15 H15 _ s15 e15 => ?_
    replace S := S.trans s15
    replace hv := hv.same s15
    replace hu := hu.same s15
    replace x8 := x8.same s15
    replace x9 := x9.same s15
    replace x10 := x10.same s15
    replace x11 := x11.same s15
    replace x12 := x12.same s15
    walk_at "rd"
    refine reprOf (SqL.of e15) (.cons hv.dp (.cons hv.dp (.cons hv.dp (.cons hv.dp (.cons hv.dp DpAll.nil))))) (List.forall_mem_cons.mpr ⟨hv.small, (List.forall_mem_cons.mpr ⟨hv.small, (List.forall_mem_cons.mpr ⟨hv.small, (List.forall_mem_cons.mpr ⟨hv.small, (List.forall_mem_cons.mpr ⟨hv.small, (List.forall_mem_nil _)⟩)⟩)⟩)⟩)⟩) (Nat.le_of_ble_eq_true rfl) ?_
    walk_at "rd"
    refine if_same ?_
    walk_at "rd"
    refine mkv1 fun a16 H16 s16 x16 => ?_
    replace S := S.trans s16
    replace hv := hv.same s16
    replace hu := hu.same s16
    walk_at "rd"
    refine mkv1 fun a17 H17 s17 x17 => ?_
    replace S := S.trans s17
    replace hv := hv.same s17
    replace hu := hu.same s17
    replace x16 := x16.same s17
    walk_at "rd"
    refine mkv1 fun a18 H18 s18 x18 => ?_
    replace S := S.trans s18
    replace hv := hv.same s18
    replace hu := hu.same s18
    replace x16 := x16.same s18
    replace x17 := x17.same s18
    walk_at "rd"
    refine mkv1 fun a19 H19 s19 x19 => ?_
    replace S := S.trans s19
    replace hv := hv.same s19
    replace hu := hu.same s19
    replace x16 := x16.same s19
    replace x17 := x17.same s19
    replace x18 := x18.same s19
    walk_at "rd"
    refine newT (by show 4 ≤ sizeLine; decide) fun p20 H20 _ s20 e20 => ?_
    replace S := S.trans s20
    replace hv := hv.same s20
    replace hu := hu.same s20
    replace x16 := x16.same s20
    replace x17 := x17.same s20
    replace x18 := x18.same s20
    replace x19 := x19.same s20
    walk_at "rd"
    dsimp only [List.set]
    walk_at "rd"
    refine xat1 (T.bx 39 rfl rfl) (T.bn 39 0 rfl rfl) x16 ?_
    walk_at "rd"
    refine xat1 (T.bx 40 rfl rfl) (T.bn 40 0 rfl rfl) x17 ?_
    walk_at "rd"
    refine xat1 (T.bx 41 rfl rfl) (T.bn 41 0 rfl rfl) x18 ?_
    walk_at "rd"
    refine xat1 (T.bx 43 rfl rfl) (T.bn 43 0 rfl rfl) x19 ?_
    walk_at "rd"
    refine newL (by show 4 ≤ sizeLine; decide) fun t21 H21 _ s21 e21 => ?_
    replace S := S.trans s21
    replace hv := hv.same s21
    replace hu := hu.same s21
    replace x16 := x16.same s21
    replace x17 := x17.same s21
    replace x18 := x18.same s21
    replace x19 := x19.same s21
    walk_at "rd"
    refine reprOf (SqL.of e21) (.cons hv.dp (.cons hv.dp (.cons hv.dp (.cons hv.dp DpAll.nil)))) (List.forall_mem_cons.mpr ⟨hv.small, (List.forall_mem_cons.mpr ⟨hv.small, (List.forall_mem_cons.mpr ⟨hv.small, (List.forall_mem_cons.mpr ⟨hv.small, (List.forall_mem_nil _)⟩)⟩)⟩)⟩) (Nat.le_of_ble_eq_true rfl) ?_
    walk_at "rd"
    refine newL (by show 4 ≤ sizeLine; decide) fun t22 H22 _ s22 e22 => ?_
    replace S := S.trans s22
    replace hv := hv.same s22
    replace hu := hu.same s22
    replace x16 := x16.same s22
    replace x17 := x17.same s22
    replace x18 := x18.same s22
    replace x19 := x19.same s22
    walk_at "rd"
    refine reprOf (SqL.of e22) (.cons hv.dp (.cons hv.dp (.cons hv.dp (.cons hv.dp DpAll.nil)))) (List.forall_mem_cons.mpr ⟨hv.small, (List.forall_mem_cons.mpr ⟨hv.small, (List.forall_mem_cons.mpr ⟨hv.small, (List.forall_mem_cons.mpr ⟨hv.small, (List.forall_mem_nil _)⟩)⟩)⟩)⟩) (Nat.le_of_ble_eq_true rfl) ?_
    walk_at "rd"
    rw [decide_eq_true rfl]
    exact k _ S
theorem c_l_fields_hold (T : Txt K mg) : CalG P w K mg base CX0 4 "_law_fields_hold" ["_law_one", "_law_other"] (spFld K) := by
  have c_l_later_fields_hold := c_l_later_fields_hold (P := P) (w := w) (base := base) T
  obtain ⟨fd, F⟩ := T.c.def_ 4 (d := dd_l_fields_hold) rfl
  obtain ⟨f_BadRatio, I_BadRatio⟩ := i_BadRatio (P := P) (w := w) (base := base) T
  obtain ⟨f_BadCode, I_BadCode⟩ := i_BadCode (P := P) (w := w) (base := base) T
  obtain ⟨f_BadBit, I_BadBit⟩ := i_BadBit (P := P) (w := w) (base := base) T
  obtain ⟨f_NoCheck, I_NoCheck⟩ := i_NoCheck (P := P) (w := w) (base := base) T
  obtain ⟨f_BadPrices, I_BadPrices⟩ := i_BadPrices (P := P) (w := w) (base := base) T
  obtain ⟨f_BadRow, I_BadRow⟩ := i_BadRow (P := P) (w := w) (base := base) T
  obtain ⟨f_BadWord, I_BadWord⟩ := i_BadWord (P := P) (w := w) (base := base) T
  obtain ⟨f_TooMany, I_TooMany⟩ := i_TooMany (P := P) (w := w) (base := base) T
  obtain ⟨f_BadText, I_BadText⟩ := i_BadText (P := P) (w := w) (base := base) T
  obtain ⟨f_NotLet, I_NotLet⟩ := i_NotLet (P := P) (w := w) (base := base) T
  obtain ⟨f_BadSheets, I_BadSheets⟩ := i_BadSheets (P := P) (w := w) (base := base) T
  obtain ⟨f_BadRows, I_BadRows⟩ := i_BadRows (P := P) (w := w) (base := base) T
  obtain ⟨f_BadWeights, I_BadWeights⟩ := i_BadWeights (P := P) (w := w) (base := base) T
  obtain ⟨f_BadCover, I_BadCover⟩ := i_BadCover (P := P) (w := w) (base := base) T
  obtain ⟨f_BadMarks, I_BadMarks⟩ := i_BadMarks (P := P) (w := w) (base := base) T
  obtain ⟨f_BadTimes, I_BadTimes⟩ := i_BadTimes (P := P) (w := w) (base := base) T
  obtain ⟨f_LowRest, I_LowRest⟩ := i_LowRest (P := P) (w := w) (base := base) T
  obtain ⟨f_BadCone, I_BadCone⟩ := i_BadCone (P := P) (w := w) (base := base) T
  obtain ⟨f_NotCone, I_NotCone⟩ := i_NotCone (P := P) (w := w) (base := base) T
  obtain ⟨f_BadMany, I_BadMany⟩ := i_BadMany (P := P) (w := w) (base := base) T
  obtain ⟨f_BadReceived, I_BadReceived⟩ := i_BadReceived (P := P) (w := w) (base := base) T
  refine ⟨_, fd, okG (CX := CX0) F sc_l_fields_hold (fun vs H Q E h => ?_) (fun cdv A outer s H vs Q E hgd hr h => ?_), T.glo 13, F.kp, F.bindsN fun _ _ _ _ _ _ us hl => match us, hl with | [_, _], _ => rfl⟩
  · obtain ⟨v, u, d, e, rfl, _⟩ := h
    rfl
  · obtain ⟨v, u, d, e, rfl, hv, hu, k⟩ := h
    refine ⟨_, PSs.nox (pss_cons (ps_asg (pe_tup (pa_cons (pe_mkv (T.bo 0 rfl rfl) (T.bi 0 rfl rfl) (T.bt 0 rfl rfl) I_BadRatio.1 (hr.mono (by decide)) I_BadRatio.2 pass0 (T.glo 19) (pa_cons (pv 0) pa_nil)) (pa_cons (pe_mkv (T.bo 2 rfl rfl) (T.bi 2 rfl rfl) (T.bt 2 rfl rfl) I_BadCode.1 (hr.mono (by decide)) I_BadCode.2 pass0 (T.glo 21) (pa_cons (pv 0) (pa_cons (pv 1) pa_nil))) (pa_cons (pe_mkv (T.bo 3 rfl rfl) (T.bi 3 rfl rfl) (T.bt 3 rfl rfl) I_BadBit.1 (hr.mono (by decide)) I_BadBit.2 pass0 (T.glo 22) (pa_cons (pv 0) pa_nil)) (pa_cons (pe_mkv (T.bo 4 rfl rfl) (T.bi 4 rfl rfl) (T.bt 4 rfl rfl) I_NoCheck.1 (hr.mono (by decide)) I_NoCheck.2 pass0 (T.glo 23) (pa_cons (pv 0) pa_nil)) (pa_cons (pe_mkv (T.bo 6 rfl rfl) (T.bi 6 rfl rfl) (T.bt 6 rfl rfl) I_BadPrices.1 (hr.mono (by decide)) I_BadPrices.2 pass0 (T.glo 25) (pa_cons (pv 0) pa_nil)) (pa_cons (pe_mkv (T.bo 7 rfl rfl) (T.bi 7 rfl rfl) (T.bt 7 rfl rfl) I_BadRow.1 (hr.mono (by decide)) I_BadRow.2 pass0 (T.glo 26) (pa_cons (pv 0) pa_nil)) pa_nil))))))) (pg_tup rfl (pgs_cons (pg_name (i := 2) sc_l_fields_hold.nd rfl (Or.inl rfl)) (pgs_cons (pg_name (i := 3) sc_l_fields_hold.nd rfl (Or.inl rfl)) (pgs_cons (pg_name (i := 4) sc_l_fields_hold.nd rfl (Or.inl rfl)) (pgs_cons (pg_name (i := 5) sc_l_fields_hold.nd rfl (Or.inl rfl)) (pgs_cons (pg_name (i := 6) sc_l_fields_hold.nd rfl (Or.inl rfl)) (pgs_cons (pg_name (i := 7) sc_l_fields_hold.nd rfl (Or.inl rfl)) pgs_nil))))))))
 (pss_cons (ps_set (i := 8) sc_l_fields_hold.nd rfl (Or.inl rfl) (pe_lst (pa_cons (pe_xat (pv 2)) (pa_cons (pe_xat (pv 3)) (pa_cons (pe_xat (pv 3)) (pa_cons (pe_xat (pv 4)) (pa_cons (pe_xat (pv 5)) (pa_cons (pe_xat (pv 6)) (pa_cons (pe_xat (pv 7)) pa_nil)))))))))
 (pss_cons (ps_if (pt_cmpR op_ne (pe_callB (call_repr hgd hr.units) rfl (T.free 7) (by decide +kernel) (pa_cons (pv 8) pa_nil)) (pe_callB (call_repr hgd hr.units) rfl (T.free 7) (by decide +kernel) (pa_cons (pe_lst (pa_cons (pv 0) (pa_cons (pv 0) (pa_cons (pv 1) (pa_cons (pv 0) (pa_cons (pv 0) (pa_cons (pv 0) (pa_cons (pv 0) pa_nil)))))))) pa_nil)) (nomark _))
  (pss_one (ps_ret pe_bl))
  pss_nil)
 (pss_cons (ps_asg (pe_tup (pa_cons (pe_mkv (T.bo 8 rfl rfl) (T.bi 8 rfl rfl) (T.bt 8 rfl rfl) I_BadWord.1 (hr.mono (by decide)) I_BadWord.2 pass0 (T.glo 27) (pa_cons (pv 0) pa_nil)) (pa_cons (pe_mkv (T.bo 11 rfl rfl) (T.bi 11 rfl rfl) (T.bt 11 rfl rfl) I_TooMany.1 (hr.mono (by decide)) I_TooMany.2 pass0 (T.glo 30) (pa_cons (pv 0) pa_nil)) (pa_cons (pe_mkv (T.bo 12 rfl rfl) (T.bi 12 rfl rfl) (T.bt 12 rfl rfl) I_BadText.1 (hr.mono (by decide)) I_BadText.2 pass0 (T.glo 31) (pa_cons (pv 0) pa_nil)) (pa_cons (pe_mkv (T.bo 13 rfl rfl) (T.bi 13 rfl rfl) (T.bt 13 rfl rfl) I_NotLet.1 (hr.mono (by decide)) I_NotLet.2 pass0 (T.glo 32) (pa_cons (pv 0) (pa_cons (pv 1) pa_nil))) (pa_cons (pe_mkv (T.bo 14 rfl rfl) (T.bi 14 rfl rfl) (T.bt 14 rfl rfl) I_BadSheets.1 (hr.mono (by decide)) I_BadSheets.2 pass0 (T.glo 33) (pa_cons (pv 0) pa_nil)) pa_nil)))))) (pg_tup rfl (pgs_cons (pg_name (i := 9) sc_l_fields_hold.nd rfl (Or.inl rfl)) (pgs_cons (pg_name (i := 10) sc_l_fields_hold.nd rfl (Or.inl rfl)) (pgs_cons (pg_name (i := 11) sc_l_fields_hold.nd rfl (Or.inl rfl)) (pgs_cons (pg_name (i := 12) sc_l_fields_hold.nd rfl (Or.inl rfl)) (pgs_cons (pg_name (i := 13) sc_l_fields_hold.nd rfl (Or.inl rfl)) pgs_nil)))))))
 (pss_cons (ps_set (i := 8) sc_l_fields_hold.nd rfl (Or.inl rfl) (pe_lst (pa_cons (pe_xat (pv 9)) (pa_cons (pe_xat (pv 10)) (pa_cons (pe_xat (pv 11)) (pa_cons (pe_xat (pv 12)) (pa_cons (pe_xat (pv 12)) (pa_cons (pe_xat (pv 13)) pa_nil))))))))
 (pss_cons (ps_if (pt_cmpR op_ne (pe_callB (call_repr hgd hr.units) rfl (T.free 7) (by decide +kernel) (pa_cons (pv 8) pa_nil)) (pe_callB (call_repr hgd hr.units) rfl (T.free 7) (by decide +kernel) (pa_cons (pe_lst (pa_cons (pv 0) (pa_cons (pv 0) (pa_cons (pv 0) (pa_cons (pv 0) (pa_cons (pv 1) (pa_cons (pv 0) pa_nil))))))) pa_nil)) (nomark _))
  (pss_one (ps_ret pe_bl))
  pss_nil)
 (pss_cons (ps_asg (pe_tup (pa_cons (pe_mkv (T.bo 15 rfl rfl) (T.bi 15 rfl rfl) (T.bt 15 rfl rfl) I_BadRows.1 (hr.mono (by decide)) I_BadRows.2 pass0 (T.glo 34) (pa_cons (pv 0) pa_nil)) (pa_cons (pe_mkv (T.bo 16 rfl rfl) (T.bi 16 rfl rfl) (T.bt 16 rfl rfl) I_BadWeights.1 (hr.mono (by decide)) I_BadWeights.2 pass0 (T.glo 35) (pa_cons (pv 0) pa_nil)) (pa_cons (pe_mkv (T.bo 17 rfl rfl) (T.bi 17 rfl rfl) (T.bt 17 rfl rfl) I_BadCover.1 (hr.mono (by decide)) I_BadCover.2 pass0 (T.glo 36) (pa_cons (pv 0) (pa_cons (pv 1) pa_nil))) (pa_cons (pe_mkv (T.bo 19 rfl rfl) (T.bi 19 rfl rfl) (T.bt 19 rfl rfl) I_BadMarks.1 (hr.mono (by decide)) I_BadMarks.2 pass0 (T.glo 38) (pa_cons (pv 0) pa_nil)) (pa_cons (pe_mkv (T.bo 21 rfl rfl) (T.bi 21 rfl rfl) (T.bt 21 rfl rfl) I_BadTimes.1 (hr.mono (by decide)) I_BadTimes.2 pass0 (T.glo 40) (pa_cons (pv 0) pa_nil)) pa_nil)))))) (pg_tup rfl (pgs_cons (pg_name (i := 14) sc_l_fields_hold.nd rfl (Or.inl rfl)) (pgs_cons (pg_name (i := 15) sc_l_fields_hold.nd rfl (Or.inl rfl)) (pgs_cons (pg_name (i := 16) sc_l_fields_hold.nd rfl (Or.inl rfl)) (pgs_cons (pg_name (i := 17) sc_l_fields_hold.nd rfl (Or.inl rfl)) (pgs_cons (pg_name (i := 18) sc_l_fields_hold.nd rfl (Or.inl rfl)) pgs_nil)))))))
 (pss_cons (ps_set (i := 8) sc_l_fields_hold.nd rfl (Or.inl rfl) (pe_lst (pa_cons (pe_xat (pv 14)) (pa_cons (pe_xat (pv 15)) (pa_cons (pe_xat (pv 16)) (pa_cons (pe_xat (pv 16)) (pa_cons (pe_xat (pv 17)) (pa_cons (pe_xat (pv 18)) pa_nil))))))))
 (pss_cons (ps_if (pt_cmpR op_ne (pe_callB (call_repr hgd hr.units) rfl (T.free 7) (by decide +kernel) (pa_cons (pv 8) pa_nil)) (pe_callB (call_repr hgd hr.units) rfl (T.free 7) (by decide +kernel) (pa_cons (pe_lst (pa_cons (pv 0) (pa_cons (pv 0) (pa_cons (pv 0) (pa_cons (pv 1) (pa_cons (pv 0) (pa_cons (pv 0) pa_nil))))))) pa_nil)) (nomark _))
  (pss_one (ps_ret pe_bl))
  pss_nil)
 (pss_cons (ps_asg (pe_tup (pa_cons (pe_mkv (T.bo 22 rfl rfl) (T.bi 22 rfl rfl) (T.bt 22 rfl rfl) I_LowRest.1 (hr.mono (by decide)) I_LowRest.2 pass0 (T.glo 41) (pa_cons (pv 0) pa_nil)) (pa_cons (pe_mkv (T.bo 23 rfl rfl) (T.bi 23 rfl rfl) (T.bt 23 rfl rfl) I_BadCone.1 (hr.mono (by decide)) I_BadCone.2 pass0 (T.glo 42) (pa_cons (pv 0) pa_nil)) (pa_cons (pe_mkv (T.bo 24 rfl rfl) (T.bi 24 rfl rfl) (T.bt 24 rfl rfl) I_NotCone.1 (hr.mono (by decide)) I_NotCone.2 pass0 (T.glo 43) (pa_cons (pv 0) (pa_cons (pv 1) pa_nil))) (pa_cons (pe_mkv (T.bo 25 rfl rfl) (T.bi 25 rfl rfl) (T.bt 25 rfl rfl) I_BadMany.1 (hr.mono (by decide)) I_BadMany.2 pass0 (T.glo 44) (pa_cons (pv 0) pa_nil)) (pa_cons (pe_mkv (T.bo 26 rfl rfl) (T.bi 26 rfl rfl) (T.bt 26 rfl rfl) I_BadReceived.1 (hr.mono (by decide)) I_BadReceived.2 pass0 (T.glo 45) (pa_cons (pv 0) pa_nil)) pa_nil)))))) (pg_tup rfl (pgs_cons (pg_name (i := 19) sc_l_fields_hold.nd rfl (Or.inl rfl)) (pgs_cons (pg_name (i := 20) sc_l_fields_hold.nd rfl (Or.inl rfl)) (pgs_cons (pg_name (i := 21) sc_l_fields_hold.nd rfl (Or.inl rfl)) (pgs_cons (pg_name (i := 22) sc_l_fields_hold.nd rfl (Or.inl rfl)) (pgs_cons (pg_name (i := 23) sc_l_fields_hold.nd rfl (Or.inl rfl)) pgs_nil)))))))
 (pss_cons (ps_set (i := 8) sc_l_fields_hold.nd rfl (Or.inl rfl) (pe_lst (pa_cons (pe_xat (pv 19)) (pa_cons (pe_xat (pv 20)) (pa_cons (pe_xat (pv 21)) (pa_cons (pe_xat (pv 21)) (pa_cons (pe_xat (pv 22)) (pa_cons (pe_xat (pv 23)) pa_nil))))))))
 (pss_one (ps_ret (pe_and (pe_cmpR op_eq (pe_callB (call_repr hgd hr.units) rfl (T.free 7) (by decide +kernel) (pa_cons (pv 8) pa_nil)) (pe_callB (call_repr hgd hr.units) rfl (T.free 7) (by decide +kernel) (pa_cons (pe_lst (pa_cons (pv 0) (pa_cons (pv 0) (pa_cons (pv 0) (pa_cons (pv 1) (pa_cons (pv 0) (pa_cons (pv 0) pa_nil))))))) pa_nil)) (nomark _)) (pe_one (pe_calG c_l_later_fields_hold hgd (hr.mono (by decide)) pass0 (pa_cons (pv 0) (pa_cons (pv 1) pa_nil)))))))))))))))))), ?_⟩
    refine MB.st0 (σ := [some v, some u, none, none, none, none, none, none, none, none, none, none, none, none, none, none, none, none, none, none, none, none, none, none]) rfl ?_
    have S : L2.Same H H := L2.Same.refl H
    walk_at "rd"
    refine mkv1 fun a0 H0 s0 x0 => ?_
    replace S := S.trans s0
    replace hv := hv.same s0
    replace hu := hu.same s0
    walk_at "rd"
    refine mkv2 fun a1 H1 s1 x1 => ?_
    replace S := S.trans s1
    replace hv := hv.same s1
    replace hu := hu.same s1
    replace x0 := x0.same s1
    walk_at "rd"
    refine mkv1 fun a2 H2 s2 x2 => ?_
    replace S := S.trans s2
    replace hv := hv.same s2
    replace hu := hu.same s2
    replace x0 := x0.same s2
    replace x1 := x1.same s2
    walk_at "rd"
    refine mkv1 fun a3 H3 s3 x3 => ?_
    replace S := S.trans s3
    replace hv := hv.same s3
    replace hu := hu.same s3
    replace x0 := x0.same s3
    replace x1 := x1.same s3
    replace x2 := x2.same s3
    walk_at "rd"
    refine mkv1 fun a4 H4 s4 x4 => ?_
    replace S := S.trans s4
    replace hv := hv.same s4
    replace hu := hu.same s4
    replace x0 := x0.same s4
    replace x1 := x1.same s4
    replace x2 := x2.same s4
    replace x3 := x3.same s4
    walk_at "rd"
    refine mkv1 fun a5 H5 s5 x5 => ?_
    replace S := S.trans s5
    replace hv := hv.same s5
    replace hu := hu.same s5
    replace x0 := x0.same s5
    replace x1 := x1.same s5
    replace x2 := x2.same s5
    replace x3 := x3.same s5
    replace x4 := x4.same s5
    walk_at "rd"
    refine newT (by show 6 ≤ sizeLine; decide) fun p6 H6 _ s6 e6 => ?_
    replace S := S.trans s6
    replace hv := hv.same s6
    replace hu := hu.same s6
    replace x0 := x0.same s6
    replace x1 := x1.same s6
    replace x2 := x2.same s6
    replace x3 := x3.same s6
    replace x4 := x4.same s6
    replace x5 := x5.same s6
    walk_at "rd"
    dsimp only [List.set]
    walk_at "rd"
    refine xat1 (T.bx 0 rfl rfl) (T.bn 0 0 rfl rfl) x0 ?_
    walk_at "rd"
    refine xat2b (by decide +kernel) (T.bx 2 rfl rfl) (T.bn 2 0 rfl rfl) x1 ?_
    walk_at "rd"
    refine xat2a (T.bx 2 rfl rfl) (T.bn 2 1 rfl rfl) x1 ?_
    walk_at "rd"
    refine xat1 (T.bx 3 rfl rfl) (T.bn 3 0 rfl rfl) x2 ?_
    walk_at "rd"
    refine xat1 (T.bx 4 rfl rfl) (T.bn 4 0 rfl rfl) x3 ?_
    walk_at "rd"
    refine xat1 (T.bx 6 rfl rfl) (T.bn 6 0 rfl rfl) x4 ?_
    walk_at "rd"
    refine xat1 (T.bx 7 rfl rfl) (T.bn 7 0 rfl rfl) x5 ?_
    walk_at "rd"
    refine newL (by show 7 ≤ sizeLine; decide) fun t7 H7 _ s7 e7 => ?_
    replace S := S.trans s7
    replace hv := hv.same s7
    replace hu := hu.same s7
    replace x0 := x0.same s7
    replace x1 := x1.same s7
    replace x2 := x2.same s7
    replace x3 := x3.same s7
    replace x4 := x4.same s7
    replace x5 := x5.same s7
    walk_at "rd"
    dsimp only [List.set]
    walk_at "rd"
    refine reprOf (SqL.of e7) (.cons hv.dp (.cons hv.dp (.cons hu.dp (.cons hv.dp (.cons hv.dp (.cons hv.dp (.cons hv.dp DpAll.nil))))))) (List.forall_mem_cons.mpr ⟨hv.small, (List.forall_mem_cons.mpr ⟨hv.small, (List.forall_mem_cons.mpr ⟨hu.small, (List.forall_mem_cons.mpr ⟨hv.small, (List.forall_mem_cons.mpr ⟨hv.small, (List.forall_mem_cons.mpr ⟨hv.small, (List.forall_mem_cons.mpr ⟨hv.small, (List.forall_mem_nil _)⟩)⟩)⟩)⟩)⟩)⟩)⟩) (Nat.le_of_ble_eq_true rfl) ?_
    walk_at "rd"
    refine newL (by show 7 ≤ sizeLine; decide) fun t8 H8 _ s8 e8 => ?_
    replace S := S.trans s8
    replace hv := hv.same s8
    replace hu := hu.same s8
    replace x0 := x0.same s8
    replace x1 := x1.same s8
    replace x2 := x2.same s8
    replace x3 := x3.same s8
    replace x4 := x4.same s8
    replace x5 := x5.same s8
    walk_at "rd"
    refine reprOf (SqL.of e8) (.cons hv.dp (.cons hv.dp (.cons hu.dp (.cons hv.dp (.cons hv.dp (.cons hv.dp (.cons hv.dp DpAll.nil))))))) (List.forall_mem_cons.mpr ⟨hv.small, (List.forall_mem_cons.mpr ⟨hv.small, (List.forall_mem_cons.mpr ⟨hu.small, (List.forall_mem_cons.mpr ⟨hv.small, (List.forall_mem_cons.mpr ⟨hv.small, (List.forall_mem_cons.mpr ⟨hv.small, (List.forall_mem_cons.mpr ⟨hv.small, (List.forall_mem_nil _)⟩)⟩)⟩)⟩)⟩)⟩)⟩) (Nat.le_of_ble_eq_true rfl) ?_
    walk_at "rd"
    refine if_same ?_
    walk_at "rd"
    refine mkv1 fun a9 H9 s9 x9 => ?_
    replace S := S.trans s9
    replace hv := hv.same s9
    replace hu := hu.same s9
    walk_at "rd"
    refine mkv1 fun a10 H10 s10 x10 => ?_
    replace S := S.trans s10
    replace hv := hv.same s10
    replace hu := hu.same s10
    replace x9 := x9.same s10
    walk_at "rd"
    refine mkv1 fun a11 H11 s11 x11 => ?_
    replace S := S.trans s11
    replace hv := hv.same s11
    replace hu := hu.same s11
    replace x9 := x9.same s11
    replace x10 := x10.same s11
    walk_at "rd"
    refine mkv2 fun a12 H12 s12 x12 => ?_
    replace S := S.trans s12
    replace hv := hv.same s12
    replace hu := hu.same s12
    replace x9 := x9.same s12
    replace x10 := x10.same s12
    replace x11 := x11.same s12
    walk_at "rd"
    refine mkv1 fun a13 H13 s13 x13 => ?_
    replace S := S.trans s13
    replace hv := hv.same s13
    replace hu := hu.same s13
    replace x9 := x9.same s13
    replace x10 := x10.same s13
    replace x11 := x11.same s13
    replace x12 := x12.same s13
    walk_at "rd"
    refine newT (by show 5 ≤ sizeLine; decide) fun p14 H14 _ s14 e14 => ?_
    replace S := S.trans s14
    replace hv := hv.same s14
    replace hu := hu.same s14
    replace x9 := x9.same s14
    replace x10 := x10.same s14
    replace x11 := x11.same s14
    replace x12 := x12.same s14
    replace x13 := x13.same s14
    walk_at "rd"
    dsimp only [List.set]
    walk_at "rd"
    refine xat1 (T.bx 8 rfl rfl) (T.bn 8 0 rfl rfl) x9 ?_
    walk_at "rd"
    refine xat1 (T.bx 11 rfl rfl) (T.bn 11 0 rfl rfl) x10 ?_
    walk_at "rd"
    refine xat1 (T.bx 12 rfl rfl) (T.bn 12 0 rfl rfl) x11 ?_
    walk_at "rd"
    refine xat2b (by decide +kernel) (T.bx 13 rfl rfl) (T.bn 13 0 rfl rfl) x12 ?_
    walk_at "rd"
    refine xat2a (T.bx 13 rfl rfl) (T.bn 13 1 rfl rfl) x12 ?_
    walk_at "rd"
    refine xat1 (T.bx 14 rfl rfl) (T.bn 14 0 rfl rfl) x13 ?_
    walk_at "rd"
    refine newL (by show 6 ≤ sizeLine; decide) fun t15 H15 _ s15 e15 => ?_
    replace S := S.trans s15
    replace hv := hv.same s15
    replace hu := hu.same s15
    replace x9 := x9.same s15
    replace x10 := x10.same s15
    replace x11 := x11.same s15
    replace x12 := x12.same s15
    replace x13 := x13.same s15
    walk_at "rd"
    dsimp only [List.set]
    walk_at "rd"
    refine reprOf (SqL.of e15) (.cons hv.dp (.cons hv.dp (.cons hv.dp (.cons hv.dp (.cons hu.dp (.cons hv.dp DpAll.nil)))))) (List.forall_mem_cons.mpr ⟨hv.small, (List.forall_mem_cons.mpr ⟨hv.small, (List.forall_mem_cons.mpr ⟨hv.small, (List.forall_mem_cons.mpr ⟨hv.small, (List.forall_mem_cons.mpr ⟨hu.small, (List.forall_mem_cons.mpr ⟨hv.small, (List.forall_mem_nil _)⟩)⟩)⟩)⟩)⟩)⟩) (Nat.le_of_ble_eq_true rfl) ?_
    walk_at "rd"
    refine newL (by show 6 ≤ sizeLine; decide) fun t16 H16 _ s16 e16 => ?_
    replace S := S.trans s16
    replace hv := hv.same s16
    replace hu := hu.same s16
    replace x9 := x9.same s16
    replace x10 := x10.same s16
    replace x11 := x11.same s16
    replace x12 := x12.same s16
    replace x13 := x13.same s16
    walk_at "rd"
    refine reprOf (SqL.of e16) (.cons hv.dp (.cons hv.dp (.cons hv.dp (.cons hv.dp (.cons hu.dp (.cons hv.dp DpAll.nil)))))) (List.forall_mem_cons.mpr ⟨hv.small, (List.forall_mem_cons.mpr ⟨hv.small, (List.forall_mem_cons.mpr ⟨hv.small, (List.forall_mem_cons.mpr ⟨hv.small, (List.forall_mem_cons.mpr ⟨hu.small, (List.forall_mem_cons.mpr ⟨hv.small, (List.forall_mem_nil _)⟩)⟩)⟩)⟩)⟩)⟩) (Nat.le_of_ble_eq_true rfl) ?_
    walk_at "rd"
    refine if_same ?_
    walk_at "rd"
    refine mkv1 fun a17 H17 s17 x17 => ?_
    replace S := S.trans s17
    replace hv := hv.same s17
    replace hu := hu.same s17
    walk_at "rd"
    refine mkv1 fun a18 H18 s18 x18 => ?_
    replace S := S.trans s18
    replace hv := hv.same s18
    replace hu := hu.same s18
    replace x17 := x17.same s18
    walk_at "rd"
    refine mkv2 fun a19 H19 s19 x19 => ?_
    replace S := S.trans s19
    replace hv := hv.same s19
    replace hu := hu.same s19
    replace x17 := x17.same s19
    replace x18 := x18.same s19
    walk_at "rd"
    refine mkv1 fun a20 H20 s20 x20 => ?_
    replace S := S.trans s20
    replace hv := hv.same s20
    replace hu := hu.same s20
    replace x17 := x17.same s20
    replace x18 := x18.same s20
    replace x19 := x19.same s20
    walk_at "rd"
    refine mkv1 fun a21 H21 s21 x21 => ?_
    replace S := S.trans s21
    replace hv := hv.same s21
    replace hu := hu.same s21
    replace x17 := x17.same s21
    replace x18 := x18.same s21
    replace x19 := x19.same s21
    replace x20 := x20.same s21
    walk_at "rd"
    refine newT (by show 5 ≤ sizeLine; decide) fun p22 H22 _ s22 e22 => ?_
    replace S := S.trans s22
    replace hv := hv.same s22
    replace hu := hu.same s22
    replace x17 := x17.same s22
    replace x18 := x18.same s22
    replace x19 := x19.same s22
    replace x20 := x20.same s22
    replace x21 := x21.same s22
    walk_at "rd"
    dsimp only [List.set]
    walk_at "rd"
    refine xat1 (T.bx 15 rfl rfl) (T.bn 15 0 rfl rfl) x17 ?_
    walk_at "rd"
    refine xat1 (T.bx 16 rfl rfl) (T.bn 16 0 rfl rfl) x18 ?_
    walk_at "rd"
    refine xat2b (by decide +kernel) (T.bx 17 rfl rfl) (T.bn 17 0 rfl rfl) x19 ?_
    walk_at "rd"
    refine xat2a (T.bx 17 rfl rfl) (T.bn 17 1 rfl rfl) x19 ?_
    walk_at "rd"
    refine xat1 (T.bx 19 rfl rfl) (T.bn 19 0 rfl rfl) x20 ?_
    walk_at "rd"
    refine xat1 (T.bx 21 rfl rfl) (T.bn 21 0 rfl rfl) x21 ?_
    walk_at "rd"
    refine newL (by show 6 ≤ sizeLine; decide) fun t23 H23 _ s23 e23 => ?_
    replace S := S.trans s23
    replace hv := hv.same s23
    replace hu := hu.same s23
    replace x17 := x17.same s23
    replace x18 := x18.same s23
    replace x19 := x19.same s23
    replace x20 := x20.same s23
    replace x21 := x21.same s23
    walk_at "rd"
    dsimp only [List.set]
    walk_at "rd"
    refine reprOf (SqL.of e23) (.cons hv.dp (.cons hv.dp (.cons hv.dp (.cons hu.dp (.cons hv.dp (.cons hv.dp DpAll.nil)))))) (List.forall_mem_cons.mpr ⟨hv.small, (List.forall_mem_cons.mpr ⟨hv.small, (List.forall_mem_cons.mpr ⟨hv.small, (List.forall_mem_cons.mpr ⟨hu.small, (List.forall_mem_cons.mpr ⟨hv.small, (List.forall_mem_cons.mpr ⟨hv.small, (List.forall_mem_nil _)⟩)⟩)⟩)⟩)⟩)⟩) (Nat.le_of_ble_eq_true rfl) ?_
    walk_at "rd"
    refine newL (by show 6 ≤ sizeLine; decide) fun t24 H24 _ s24 e24 => ?_
    replace S := S.trans s24
    replace hv := hv.same s24
    replace hu := hu.same s24
    replace x17 := x17.same s24
    replace x18 := x18.same s24
    replace x19 := x19.same s24
    replace x20 := x20.same s24
    replace x21 := x21.same s24
    walk_at "rd"
    refine reprOf (SqL.of e24) (.cons hv.dp (.cons hv.dp (.cons hv.dp (.cons hu.dp (.cons hv.dp (.cons hv.dp DpAll.nil)))))) (List.forall_mem_cons.mpr ⟨hv.small, (List.forall_mem_cons.mpr ⟨hv.small, (List.forall_mem_cons.mpr ⟨hv.small, (List.forall_mem_cons.mpr ⟨hu.small, (List.forall_mem_cons.mpr ⟨hv.small, (List.forall_mem_cons.mpr ⟨hv.small, (List.forall_mem_nil _)⟩)⟩)⟩)⟩)⟩)⟩) (Nat.le_of_ble_eq_true rfl) ?_
    walk_at "rd"
    refine if_same ?_
    walk_at "rd"
    refine mkv1 fun a25 H25 s25 x25 => ?_
    replace S := S.trans s25
    replace hv := hv.same s25
    replace hu := hu.same s25
    walk_at "rd"
    refine mkv1 fun a26 H26 s26 x26 => ?_
    replace S := S.trans s26
    replace hv := hv.same s26
    replace hu := hu.same s26
    replace x25 := x25.same s26
    walk_at "rd"
    refine mkv2 fun a27 H27 s27 x27 => ?_
    replace S := S.trans s27
    replace hv := hv.same s27
    replace hu := hu.same s27
    replace x25 := x25.same s27
    replace x26 := x26.same s27
    walk_at "rd"
    refine mkv1 fun a28 H28 s28 x28 => ?_
    replace S := S.trans s28
    replace hv := hv.same s28
    replace hu := hu.same s28
    replace x25 := x25.same s28
    replace x26 := x26.same s28
    replace x27 := x27.same s28
    walk_at "rd"
    refine mkv1 fun a29 H29 s29 x29 => ?_
    replace S := S.trans s29
    replace hv := hv.same s29
    replace hu := hu.same s29
    replace x25 := x25.same s29
    replace x26 := x26.same s29
    replace x27 := x27.same s29
    replace x28 := x28.same s29
    walk_at "rd"
    refine newT (by show 5 ≤ sizeLine; decide) fun p30 H30 _ s30 e30 => ?_
    replace S := S.trans s30
    replace hv := hv.same s30
    replace hu := hu.same s30
    replace x25 := x25.same s30
    replace x26 := x26.same s30
    replace x27 := x27.same s30
    replace x28 := x28.same s30
    replace x29 := x29.same s30
    walk_at "rd"
    dsimp only [List.set]
    walk_at "rd"
    refine xat1 (T.bx 22 rfl rfl) (T.bn 22 0 rfl rfl) x25 ?_
    walk_at "rd"
    refine xat1 (T.bx 23 rfl rfl) (T.bn 23 0 rfl rfl) x26 ?_
    walk_at "rd"
    refine xat2b (by decide +kernel) (T.bx 24 rfl rfl) (T.bn 24 0 rfl rfl) x27 ?_
    walk_at "rd"
    refine xat2a (T.bx 24 rfl rfl) (T.bn 24 1 rfl rfl) x27 ?_
    walk_at "rd"
    refine xat1 (T.bx 25 rfl rfl) (T.bn 25 0 rfl rfl) x28 ?_
    walk_at "rd"
    refine xat1 (T.bx 26 rfl rfl) (T.bn 26 0 rfl rfl) x29 ?_
    walk_at "rd"
    refine newL (by show 6 ≤ sizeLine; decide) fun t31 H31 _ s31 e31 => ?_
    replace S := S.trans s31
    replace hv := hv.same s31
    replace hu := hu.same s31
    replace x25 := x25.same s31
    replace x26 := x26.same s31
    replace x27 := x27.same s31
    replace x28 := x28.same s31
    replace x29 := x29.same s31
    walk_at "rd"
    dsimp only [List.set]
    walk_at "rd"
    refine reprOf (SqL.of e31) (.cons hv.dp (.cons hv.dp (.cons hv.dp (.cons hu.dp (.cons hv.dp (.cons hv.dp DpAll.nil)))))) (List.forall_mem_cons.mpr ⟨hv.small, (List.forall_mem_cons.mpr ⟨hv.small, (List.forall_mem_cons.mpr ⟨hv.small, (List.forall_mem_cons.mpr ⟨hu.small, (List.forall_mem_cons.mpr ⟨hv.small, (List.forall_mem_cons.mpr ⟨hv.small, (List.forall_mem_nil _)⟩)⟩)⟩)⟩)⟩)⟩) (Nat.le_of_ble_eq_true rfl) ?_
    walk_at "rd"
    refine newL (by show 6 ≤ sizeLine; decide) fun t32 H32 _ s32 e32 => ?_
    replace S := S.trans s32
    replace hv := hv.same s32
    replace hu := hu.same s32
    replace x25 := x25.same s32
    replace x26 := x26.same s32
    replace x27 := x27.same s32
    replace x28 := x28.same s32
    replace x29 := x29.same s32
    walk_at "rd"
    refine reprOf (SqL.of e32) (.cons hv.dp (.cons hv.dp (.cons hv.dp (.cons hu.dp (.cons hv.dp (.cons hv.dp DpAll.nil)))))) (List.forall_mem_cons.mpr ⟨hv.small, (List.forall_mem_cons.mpr ⟨hv.small, (List.forall_mem_cons.mpr ⟨hv.small, (List.forall_mem_cons.mpr ⟨hu.small, (List.forall_mem_cons.mpr ⟨hv.small, (List.forall_mem_cons.mpr ⟨hv.small, (List.forall_mem_nil _)⟩)⟩)⟩)⟩)⟩)⟩) (Nat.le_of_ble_eq_true rfl) ?_
    walk_at "rd"
    refine if_self ?_
    walk_at "rd"
    refine ⟨_, _, _, _, rfl, hv, hu, fun Hz sz => ?_⟩
    walk_at "rd"
    exact k _ (S.trans sz)
end
end K82
namespace MB
open PySem PySem.Spec PyProof.Rows L2
def RngQ (vs : List V) (H : Hp) (R : It → Hp → Prop) : Prop := ∃ j : Int, vs = [.int j] ∧ -(2 ^ 62) ≤ j ∧ j < 2 ^ 62 ∧ R (Itr 0 j.toNat) H
theorem r_rng1 {σ : L2.St} {H : Hp} {R : It → Hp → Prop} {ta : TA} (q : ta σ H fun vs H1 => RngQ vs H1 R) : iRng1 ta σ H R := q
theorem r_for {σ : L2.St} {H : Hp} {D : Ends} {wi : TI} {g : TG} {tb : TS} (q : wi σ H fun J H1 => ∃ W : Nat → Nat → L2.St → Hp → Prop, (∃ m, W 0 m σ H1) ∧ ∀ i m σ H, W i m σ H →
  (J.stop i H ∧ D.nx σ H) ∨ (J.go i H ∧ ∃ N : L2.St → Hp → Prop, (∀ σ' H', N σ' H' → ∃ m', m' < m ∧ W (i + 1) m' σ' H') ∧ ∀ x H', J.yld i H x H' → g x σ H' fun σ2 H2 => tb { D with nx := N, ct := N, bk := D.nx } σ2 H2)) : tFor wi g tb D σ H := q
end MB
namespace K82
open PySem PySem.Spec PyProof.Rows L2 MB
def hits (i j : Nat) : List V := if i < j then [.int i] else []
theorem hits0 (i : Nat) : hits i 0 = [] := if_neg (Nat.not_lt_zero _)
theorem hits_at (i : Nat) : hits i (i + 1) = hits i i ++ [.int (0 + (i : Int))] := by
  unfold hits
  rw [if_pos (Nat.lt_succ_self i), if_neg (Nat.lt_irrefl i), Int.zero_add]
  rfl
theorem hits_ne {i j : Nat} (h : i ≠ j) : hits i (j + 1) = hits i j := by
  unfold hits
  by_cases z : i < j
  · rw [if_pos z, if_pos (by omega)]
  · rw [if_neg z, if_neg (by omega)]
theorem hits_all {i : Nat} (h : i < 45) : hits i 45 = [.int i] := if_pos h
theorem hits_len (i j : Nat) : (hits i j).length < sizeLine := by
  unfold hits
  split
  · show 1 < sizeLine
    decide
  · show 0 < sizeLine
    decide
theorem same_write {H H' : Hp} {D : Addr} {o : HO} (s : L2.Same H H') (n : H D = none) : L2.Same H (upd H' D o) := fun b u z => by
  rw [upd_ne (ne_of_none z n)]
  exact s b u z
theorem eq_one (i : Int) : PyData.eqv (.list [.int i]) (.list [.int (0 + i)]) = true := by simp [PyData.eqv, PyData.eqvAll]
def spLaw (K : PySem.W.Frag) : Sp := fun vs H Q _ => ∃ (a : Addr) (ns : List Int), vs = [.ref a] ∧ SqL K H a (ns.map V.int) ∧ ns.length ≤ 63 ∧ ∀ H', Q (.bl true) H'
section
variable {P : Program} {w : World} {K : PySem.W.Frag} {mg : Str → Option Value} {base : Heap}
theorem ok_law (T : Txt K mg) {fd : FuncData} (F : FunD K "law" "law" (defArgs s_law) (defBody s_law) (defScope s_law) [] [] (He.ga K "law") fd) : FnG P w K mg base CX0 5 (He.ga K "law") fd ["_law_script"] (spLaw K) := by
  have c_l_hand : Cal P w K mg base CX0 1 "_law_hand" ["_law_script"] [] (spHand K) := c_l_hand T
  have c_l_thing : Cal P w K mg base CX0 3 "_law_thing" ["_law_hand_here"] [] (spThing K) := c_l_thing T
  have c_l_all : Cal P w K mg base CX0 3 "_law_all" ["_law_one", "_law_other"] [] (spAll K) := c_l_all T
  have c_l_flags : Cal P w K mg base CX0 1 "_law_flags" ["_law_e"] [] (spFlags K) := c_l_flags T
  have c_l_fields_hold : CalG P w K mg base CX0 4 "_law_fields_hold" ["_law_one", "_law_other"] (spFld K) := c_l_fields_hold T
  refine okG (CX := CX0) F sc_law (fun vs H Q E h => ?_) (fun cdv A outer s H vs Q E hgd hr h => ?_)
  · obtain ⟨a, ns, rfl, _⟩ := h
    rfl
  · obtain ⟨a, ns, rfl, hS, hlen, k⟩ := h
    refine ⟨_, PSs.nox (pss_cons (ps_set (i := 1) sc_law.nd rfl (Or.inl rfl) (pe_cal c_l_hand (hr.mono (by decide)) pass0 (pa_cons (pv 0) pa_nil)))
 (pss_cons (ps_set (i := 2) sc_law.nd rfl (Or.inl rfl) (pe_cal c_l_thing (hr.mono (by decide)) pass0 (pa_cons (pv 1) pa_nil)))
 (pss_cons (ps_set (i := 3) sc_law.nd rfl (Or.inl rfl) (pe_cal c_l_thing (hr.mono (by decide)) pass0 (pa_cons (pv 1) pa_nil)))
 (pss_cons (ps_set (i := 4) sc_law.nd rfl (Or.inl rfl) (pe_cal c_l_all (hr.mono (by decide)) pass0 (pa_cons (pv 2) (pa_cons (pv 3) pa_nil))))
 (pss_cons (ps_for PassesOwn.never rfl (pi_range1 rfl (T.free 5) (pa_cons pe_int pa_nil)) (pg_name (i := 5) sc_law.nd rfl (Or.inl rfl))
  (pss_cons (ps_if (PW.pt (pw_or (pt_not (pt_val (pe_callB call_isV rfl (T.free 0) (by decide +kernel) (pa_cons (pe_ix ix_list (pv 4) (pv 5) (fun _ _ => rfl)) (pa_cons (pe_gref rfl (T.glo 18)) pa_nil))))) (pw_or1 (pt_not (pt_val (pe_callB call_isV rfl (T.free 0) (by decide +kernel) (pa_cons (pe_ix ix_list (pv 4) (pv 5) (fun _ _ => rfl)) (pa_cons (pe_ty "ValueError" rfl (T.free 8) (by decide +kernel)) pa_nil))))))))
  (pss_one (ps_ret pe_bl))
  pss_nil)
 (pss_cons (ps_set (i := 6) sc_law.nd rfl (Or.inr rfl) (pe_cal c_l_flags (hr.mono (by decide)) pass0 (pa_cons (pe_ix ix_list (pv 4) (pv 5) (fun _ _ => rfl)) pa_nil)))
 (pss_one (ps_if (pt_cmpR (op_neD hr.units) (pe_lc (own := [("_law_place", 7)]) (g := gName 7) rfl sc_law.nd (pi_range1 rfl (T.free 5) (pa_cons pe_int pa_nil)) (blkOk_by (N := ["_law_script", "_law_hand_here", "_law_one", "_law_other", "_law_made", "_law_at", "_law_flags_here", "_law_place"]) (sc := defScope s_law) (by decide +kernel)) (fun _ _ _ _ _ => pg_name (i := 7) sc_law.nd rfl (Or.inl rfl)) (fun _ _ _ _ _ => pts_one (pt_val (pe_ix (show IxR _ (rIxL K) from ix_list) (pv 6) (pv 7) (fun _ _ => rfl)))) (fun _ _ _ _ _ => (pv 7))) (pe_lst (pa_cons (pv 5) pa_nil)) (nomark _))
  (pss_one (ps_ret pe_bl))
  pss_nil)))))
 (pss_one (ps_ret (pe_and (pe_calG c_l_fields_hold hgd (hr.mono (by decide)) pass0 (pa_cons (pv 2) (pa_cons (pv 3) pa_nil))) (pe_one (pe_calG c_l_fields_hold hgd (hr.mono (by decide)) pass0 (pa_cons (pv 3) (pa_cons (pv 2) pa_nil)))))))))))), ?_⟩
    refine MB.st0 (σ := [some (.ref a), none, none, none, none, none, none, none]) rfl ?_
    walk_at "rd"
    refine ⟨a, ns, rfl, hS, hlen, fun p l H1 hh s1 => ?_⟩
    walk_at "rd"
    refine ⟨p, l, rfl, hh, fun v d H2 hv hh2 k2 => ?_⟩
    walk_at "rd"
    refine ⟨p, l, rfl, hh2, fun u e H3 hu hh3 k3 => ?_⟩
    have hv3 := hv.kp hh2 k3
    walk_at "rd"
    refine ⟨v, u, rfl, fun L as H4 mk hl eL => ?_⟩
    have hv4 := hv3.same mk.old
    have hu4 := hu.same mk.old
    walk_at "rd"
    refine r_for (r_rng1 ?_)
    walk_at "rd"
    refine ⟨45, rfl, by decide, by decide, for_range (n := 45) (fun i σ H' => ∃ (x y : Option V), σ = [some (.ref a), some (.ref p), some v, some u, some (.ref L), x, y, none] ∧ L2.Same H4 H') ⟨none, none, rfl, L2.Same.refl _⟩ ?_ ?_⟩
    · rintro i σ H5 hi ⟨x, y, rfl, s5⟩
      obtain ⟨b, hb⟩ : ∃ b, as[i]? = some b := ⟨_, List.getElem?_eq_getElem (by omega)⟩
      have ha : atI (as.map V.ref) (0 + (i : Int)) = some (.ref b) := at_of (show (0 + (i : Int)) = ((i : Nat) : Int) by omega) (by rw [List.getElem?_map, hb]; rfl)
      have xb : ExAt H5 b (ca K i) := (mk.at_ i b hb).same s5
      walk_at "rd"
      refine r_ixL (SqL.of (s5 _ _ eL)) ha ?_
      walk_at "rd"
      refine r_isV xb (T.ec hi) (fun _ e => e) (T.k1 hi) ?_
      walk_at "rd"
      refine r_ixL (SqL.of (s5 _ _ eL)) ha ?_
      walk_at "rd"
      refine r_isV xb (T.ec hi) (fun _ e => e) (T.k2 hi) ?_
      walk_at "rd"
      refine r_ixL (SqL.of (s5 _ _ eL)) ha ?_
      walk_at "rd"
      refine ⟨b, i, rfl, hi, xb, fun F H6 s6 e6 => ?_⟩
      walk_at "rd"
      refine r_rng1 ?_
      walk_at "rd"
      refine ⟨45, rfl, by decide, by decide, fun D hD => lc_range (lo := 0) (n := 45) (fun j H' => L2.Same H6 H' ∧ H' D = some (.lst (hits i j))) ⟨MB.Same.upd hD, by rw [hits0]; exact upd_same⟩ ?_ ?_⟩
      · rintro j H7 hj ⟨s7, e7⟩
        have hf : atI (bools i 45) (0 + (j : Int)) = some (.bl (decide (i = j))) := at_of (show (0 + (j : Int)) = ((j : Nat) : Int) by omega) (by unfold bools; rw [List.getElem?_map, List.getElem?_range hj]; rfl)
        walk_at "rd"
        refine ⟨rfl, ?_⟩
        walk_at "rd"
        refine r_ixL (SqL.of (s7 _ _ e6)) hf ?_
        walk_at "rd"
        refine if_d (fun h => ?_) (fun h => ?_)
        · subst h
          walk_at "rd"
          exact ⟨_, e7, hits_len _ _, same_write s7 hD, by rw [hits_at]; exact upd_same⟩
        · exact ⟨s7, by rw [hits_ne h]; exact e7⟩
      · rintro H8 ⟨s8, e8⟩
        rw [hits_all hi] at e8
        walk_at "rd"
        refine newL (by show 1 ≤ sizeLine; decide) fun M H9 _ s9 e9 => ?_
        refine ⟨_, _, .lst (SqL.of (s9 _ _ e8)) (.cons (.int _) .nil), .lst (SqL.of e9) (.cons (.int _) .nil), rfl, rfl, ?_⟩
        rw [eq_one]
        walk_at "rd"
        exact ⟨_, _, rfl, ((s5.trans s6).trans s8).trans s9⟩
    · rintro σ H5 ⟨x, y, rfl, s5⟩
      walk_at "rd"
      refine ⟨v, u, d, e, rfl, hv4.same s5, hu4.same s5, fun H6 s6 => ?_⟩
      walk_at "rd"
      refine ⟨u, v, e, d, rfl, (hu4.same s5).same s6, (hv4.same s5).same s6, fun H7 s7 => ?_⟩
      walk_at "rd"
      exact k _
end
end K82
set_option maxHeartbeats 0
namespace K82
open PySem PySem.Spec PyProof.Rows L2 MB
theorem facts {P : Program} {w : World} {K : PySem.W.Frag} {h : Heap} {mg : Str → Option Value} {f : Addr} (X : K.In h) (GG : h.Ns mainGlobals mg) (hfa : mg ("law" : Str) = some (.ref f)) (c : He.SaysX fa fn [] [] ex w h K) :
    ∃ fd : FuncData, (∀ (s : Shared) (v : Value), BindsTo s fd ⟨[v], []⟩ [("_law_script", v)]) ∧ ∀ base : Heap, K.In base → base.Ns mainGlobals mg → FnG P w K mg base CX0 5 f fd ["_law_script"] (spLaw K) := by
  have T : Txt K mg := ⟨⟨h, X, GG⟩, c.t.d, c.more⟩
  obtain ⟨fd, F⟩ := T.c.def_ 8 (d := dd_law) rfl
  have e := hfa.symm.trans (T.glo 17)
  cases e
  have b := FunD.bindsA (ps := ["_law_script"]) F fun _ _ _ _ _ _ us hl => match us, hl with | [_], _ => rfl
  exact ⟨fd, fun s v => b s [v] rfl, fun base _ _ => ok_law T F⟩
end K82
open PySem PySem.W PySem.Calls PyProof.Rows
theorem PySem.Challenge.cw_letbychecks_k82_whole_errors_side_by_sid_holds : PySem.Challenge.rw_letbychecks_k82_whole_errors_side_by_sid.Holds := by
  w_on; o_law
  refine HandSHeadRun.head_any (r := K82.R) (q := view K82.R.prog [56]) (H := K82.hk) (ob := K82.ob) (M := 40000) (loose := K82.names) (d := HandSHeadRun.topDef K82.R.prog 56) (kwd := []) K82.ob_eq (by kernel_rfl) (fun s => by kernel_rfl) K82.run
    (by kernel_rfl) (by kernel_rfl) (by kernel_rfl) (by rfl) (by first | assumption | decide +kernel) (by decide +kernel) ⟨rfl, rfl, rfl, rfl, rfl, by decide +kernel⟩ ?hw ?hc
  case hw => w_witness2
  case hc =>
    refine MB.walk_ofG (l := PySem.Challenge.rw_letbychecks_k82_whole_errors_side_by_sid) (n := 63) (k := 5) (x := "_law_script") (CX := L2.CX0) rfl (by decide) (by kernel_rfl) ⟨rfl, by decide, by decide⟩ ?F (fun _ _ _ _ z => z)
    intro w mg fa h Y GG hmg0
    obtain ⟨K, KX, c⟩ := Y
    have hmg : mg ("law" : PySem.Str) = some (.ref fa) := by
      have e : (HandSHeadRun.topDef K82.R.prog 56).name = ("law" : PySem.Str) := by kernel_rfl
      rw [← e]
      exact hmg0
    obtain ⟨fd, hb, hF⟩ := K82.facts (P := (PySem.Challenge.rw_letbychecks_k82_whole_errors_side_by_sid).prog) (w := w) KX GG hmg c
    exact ⟨K, fd, K82.spLaw K, KX, hb, fun H a ns hl _ hS => ⟨a, ns, rfl, hS, hl, fun _ => rfl⟩, hF⟩
#print axioms PySem.Challenge.cw_letbychecks_k82_whole_errors_side_by_sid_holds
