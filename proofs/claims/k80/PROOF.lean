import PyProof.Rows.All
import Wide.All
import OpenK.AllK
import Wide.FinOn
import HandS.Base
import HandS.Call
import HandS.List
import HandS.Comp
import HandS.Iter
import HandS.Walk
import HandS.Ends
import HandS.Words
import HandS.WordsList
import HandS.WordsExc
import HandS.Exc
import HandS.ExcOwn
import HandS.ExcInit
import HandS.ExcIs
import HandS.IsInst
import HandS.Defaults
import HandS.Gcd
import HandS.Wide
import HandS.ExcField
import HandS.ExcValue
import KE.KExcIs
import PyProof.ReprRoads
import HandS.HeadEnd
import HandS.SortInts
import HandS.TupAny
import HandS.TryMany
import HandS.HeadHook1
import HandS.HeadHook2
import HandS.HeadHook3
import HandS.HeadHook4
import KE.GoesNew
import HandS.Zip
import HandS.SetFor
import HandS.NamedTupSort
import HandS.More
import HandS.Deep
import HandS.Conv
import HandS.SortKw
import HandS.Style
import PyProof.WalksMore
import KE.KStar
import KE.KMathG
import PyProof.CompFree
import HandS.SetKeys
import HandS.Rev
import HandS.RevTup
import PyProof.ListNew
import PySem.Challenge.RW_letbychecks_k80_whole_pieces_and_rings_o
import KE.KStateDown
import Lean
import HandS.Head0
import HandS.Head1
import HandS.Head2
import HandS.Head3
set_option Elab.async false
set_option linter.all false
set_option maxRecDepth 100000
set_option maxHeartbeats 2000000
namespace MB
open PySem PySem.Spec PyProof.Rows L2
def BlQ (x : V) (H : Hp) (Q : Bool → Hp → Prop) : Prop := ∃ k, x = .bl k ∧ Q k H
def TwoQ (vs : List V) (H : Hp) (R : V → V → Hp → Prop) : Prop := ∃ v w, vs = [v, w] ∧ R v w H
def NewT (xs : List V) (H : Hp) (Q : VK) : Prop := xs.length ≤ sizeLine ∧ ∀ p, H p = none → Q (.ref p) (upd H p (.tup xs))
def NewL (xs : List V) (H : Hp) (Q : VK) : Prop := xs.length ≤ sizeLine ∧ ∀ p, H p = none → Q (.ref p) (upd H p (.lst xs))
abbrev RC := List V → Hp → VK → Prop
def rInt1 : RC := fun xs H Q => (∃ i, xs = [.int i] ∧ Q (.int i) H) ∨ ∃ k, xs = [.bl k] ∧ Q (.int (if k then 1 else 0)) H
def rAbs : RC := fun xs H Q => ∃ i, xs = [.int i] ∧ Q (.int (if i < 0 then -i else i)) H
def rLenQ (K : PySem.W.Frag) : RC := fun xs H Q => ∃ p ys, xs = [.ref p] ∧ (SqL K H p ys ∨ SqT K H p ys) ∧ Q (.int ys.length) H
def rListOf (K : PySem.W.Frag) : RC := fun xs H Q => ∃ p ys, xs = [.ref p] ∧ (SqL K H p ys ∨ SqT K H p ys) ∧ ∀ l, H l = none → Q (.ref l) (upd H l (.lst ys))
def rTupOf (K : PySem.W.Frag) : RC := fun xs H Q => ∃ p ys, xs = [.ref p] ∧ ((SqL K H p ys ∧ ∀ l, H l = none → Q (.ref l) (upd H l (.tup ys))) ∨ (SqT K H p ys ∧ Q (.ref p) H))
def rIsNo : R2 := fun x y H Q => y = .non ∧ Q (.bl (decide (x = .non))) H
def rNotNo : R2 := fun x y H Q => y = .non ∧ Q (.bl (!decide (x = .non))) H
section rules
variable {X : Cx}
theorem k_int1 : CallR X (.type "int") rInt1 := call_int1
theorem k_abs : CallR X (.builtin "abs") rAbs := call_abs
theorem k_len : CallR X (.builtin "len") (rLenQ X.K) := call_len_seq
theorem k_listOf : CallR X (.type "list") (rListOf X.K) := call_list_of
theorem k_tupOf : CallR X (.type "tuple") (rTupOf X.K) := call_tuple_of
theorem k_isN : OpR X (compareOp .Is) rIsNo := op_isN
theorem k_notN : OpR X (compareOp .IsNot) rNotNo := op_notN
end rules
section readings
variable {σ : L2.St} {H : Hp} {Q : VK} {D : Ends}
theorem r_var {i : Nat} {v : V} (h : σ[i]? = some (some v)) (q : Q v H) : tVar i σ H Q := ⟨v, h, q⟩
theorem r_c {v : V} (q : Q v H) : tC v σ H Q := q
theorem r_op {r : R2} {ta tb : TE} (q : ta σ H fun x H1 => tb σ H1 fun y H2 => r x y H2 Q) : tOp r ta tb σ H Q := q
theorem r_un {r : V → Hp → VK → Prop} {ta : TE} (q : ta σ H fun x H1 => r x H1 Q) : tUn r ta σ H Q := q
theorem r_nil {Q : List V → Hp → Prop} (q : Q [] H) : tNil σ H Q := q
theorem r_cons {Q : List V → Hp → Prop} {ta : TE} {tr : TA} (q : ta σ H fun x H1 => tr σ H1 fun xs H2 => Q (x :: xs) H2) : tCons ta tr σ H Q := q
theorem r_I {C : Int → Int → Prop} {g : Int → Int → V} {i j : Int} (c : C i j) (q : Q (g i j) H) : rI C g (.int i) (.int j) H Q := ⟨i, j, rfl, rfl, c, q⟩
theorem r_I0 {g : Int → Int → V} {i j : Int} (q : Q (g i j) H) : rI0 g (.int i) (.int j) H Q := ⟨i, j, rfl, rfl, q⟩
theorem r_U {g : Int → V} {i : Int} (q : Q (g i) H) : rU g (.int i) H Q := ⟨i, rfl, q⟩
theorem r_eq {x y : V} (s : scal x y = true) (q : Q (.bl (decide (x = y))) H) : rEq x y H Q := ⟨s, q⟩
theorem r_ne {x y : V} (s : scal x y = true) (q : Q (.bl (!decide (x = y))) H) : rNe x y H Q := ⟨s, q⟩
theorem r_seq {t u : TS} (q : t { D with nx := u D } σ H) : tSeq t u D σ H := q
theorem r_asg {te : TE} {g : TG} (q : te σ H fun x H1 => g x σ H1 D.nx) : tAsg te g D σ H := q
theorem r_name {Q : L2.St → Hp → Prop} {i : Nat} {v : V} (q : Q (σ.set i (some v)) H) : gName i v σ H Q := q
theorem r_sub {Q : L2.St → Hp → Prop} {to ti : TE} {t : TSet} {v : V} (q : to σ H fun o H1 => ti σ H1 fun i H2 => t o i v H2 fun H3 => Q σ H3) : gSub to ti t v σ H Q := q
theorem r_ret {te : TE} (q : te σ H D.rt) : tRet te D σ H := q
theorem r_next (q : D.nx σ H) : tNext D σ H := q
theorem r_break (q : D.bk σ H) : tBreak D σ H := q
theorem r_drop {te : TE} (q : te σ H fun _ H1 => D.nx σ H1) : tDrop te D σ H := q
theorem r_ifS {c : TT} {t u : TS} (q : c σ H fun b H1 => if b = true then t D σ H1 else u D σ H1) : tIfS c t u D σ H := q
theorem r_test {t : TE} {Q : Bool → Hp → Prop} (q : t σ H fun x H' => BlQ x H' Q) : tTest t σ H Q := q
theorem r_tB {t : TE} {Q : Bool → Hp → Prop} (q : t σ H fun x H' => BlQ x H' Q) : tB t σ H Q := q
theorem r_bl {b : Bool} {Q : Bool → Hp → Prop} (q : Q b H) : BlQ (.bl b) H Q := ⟨b, rfl, q⟩
theorem r_and {t u : TT} {Q : Bool → Hp → Prop} (q : t σ H fun c H1 => if c = true then u σ H1 Q else Q false H1) : tAnd t u σ H Q := q
theorem r_or {t u : TT} {Q : Bool → Hp → Prop} (q : t σ H fun c H1 => if c = true then Q true H1 else u σ H1 Q) : tOr t u σ H Q := q
theorem r_not {t : TT} {Q : Bool → Hp → Prop} (q : t σ H fun c H1 => Q (!c) H1) : tNot t σ H Q := q
theorem r_andV {ta tb : TE} (q : ta σ H fun x H1 => BlQ x H1 fun c H1 => if c = true then tb σ H1 Q else Q (.bl false) H1) : tAndV ta tb σ H Q := q
theorem r_orV {ta tb : TE} (q : ta σ H fun x H1 => BlQ x H1 fun c H1 => if c = true then Q (.bl true) H1 else tb σ H1 Q) : tOrV ta tb σ H Q := q
theorem r_notV {ta : TE} (q : ta σ H fun x H1 => BlQ x H1 fun c H1 => Q (.bl (!c)) H1) : tNotV ta σ H Q := q
theorem r_isN {ta : TE} (q : ta σ H fun x H1 => Q (.bl (decide (x = .non))) H1) : tIsN ta σ H Q := q
theorem r_notN {ta : TE} (q : ta σ H fun x H1 => Q (.bl (!decide (x = .non))) H1) : tNotN ta σ H Q := q
theorem r_tIf {t : TT} {ta tb : TE} (q : t σ H fun c H1 => if c = true then ta σ H1 Q else tb σ H1 Q) : tIf t ta tb σ H Q := q
theorem r_chain {r r' : R2} {ta tb tc : TE} (q : ta σ H fun x H1 => tb σ H1 fun y H2 => r x y H2 fun z H3 => BlQ z H3 fun k H3 => if k = true then tc σ H3 fun w' H4 => r' y w' H4 Q else Q (.bl false) H3) : tChain r r' ta tb tc σ H Q := q
theorem r_call {sp : Sp} {dvs : List V} {E : XK} {t : TA} (q : t σ H fun vs H1 => sp (vs ++ dvs) H1 Q E) : tCall sp dvs E t σ H Q := q
theorem r_CB {r : List V → Hp → VK → Prop} {t : TA} (q : t σ H fun vs H1 => r vs H1 Q) : tCB r t σ H Q := q
theorem r_tup {t : TA} (q : t σ H fun xs H1 => NewT xs H1 Q) : tTup t σ H Q := q
theorem r_lst {t : TA} (q : t σ H fun xs H1 => NewL xs H1 Q) : tLst t σ H Q := q
theorem r_par {i j : Nat} {ta : TA} (q : ta σ H fun vs H1 => TwoQ vs H1 fun v w H1 => D.nx ((σ.set i (some v)).set j (some w)) H1) : tPar i j ta D σ H := q
theorem r_two {v w : V} {R : V → V → Hp → Prop} (q : R v w H) : TwoQ [v, w] H R := ⟨v, w, rfl, q⟩
theorem r_ixL {K : PySem.W.Frag} {p : Addr} {xs : List V} {i : Int} {v : V} (s : SqL K H p xs) (a : atI xs i = some v) (q : Q v H) : rIxL K (.ref p) (.int i) H Q := ⟨p, xs, i, v, rfl, rfl, s, a, q⟩
theorem r_ixT {K : PySem.W.Frag} {p : Addr} {xs : List V} {i : Int} {v : V} (s : SqT K H p xs) (a : atI xs i = some v) (q : Q v H) : rIxT K (.ref p) (.int i) H Q := ⟨p, xs, i, v, rfl, rfl, s, a, q⟩
theorem r_setL {p : Addr} {xs : List V} {k : Int} {j : Nat} {v : V} {Q : Hp → Prop} (h : H p = some (.lst xs)) (e : ixN xs.length k = some j) (q : Q (upd H p (.lst (xs.set j v)))) : rSetL (.ref p) (.int k) v H Q := ⟨p, xs, k, j, rfl, rfl, h, e, q⟩
theorem r_lenQ {K : PySem.W.Frag} {p : Addr} {ys : List V} (s : SqL K H p ys ∨ SqT K H p ys) (q : Q (.int ys.length) H) : rLenQ K [.ref p] H Q := ⟨p, ys, rfl, s, q⟩
theorem r_isNo {x : V} (q : Q (.bl (decide (x = .non))) H) : rIsNo x .non H Q := ⟨rfl, q⟩
theorem r_notNo {x : V} (q : Q (.bl (!decide (x = .non))) H) : rNotNo x .non H Q := ⟨rfl, q⟩
theorem r_int1 {i : Int} (q : Q (.int i) H) : rInt1 [.int i] H Q := .inl ⟨i, rfl, q⟩
theorem r_int1b {b : Bool} (q : Q (.int (if b then 1 else 0)) H) : rInt1 [.bl b] H Q := .inr ⟨b, rfl, q⟩
theorem r_abs {i : Int} (q : Q (.int (if i < 0 then -i else i)) H) : rAbs [.int i] H Q := ⟨i, rfl, q⟩
theorem r_gcd {a b : Int} (q : Q (.int ((Nat.gcd a.natAbs b.natAbs : Nat) : Int)) H) : rGcd [.int a, .int b] H Q := ⟨a, b, rfl, q⟩
theorem r_yes {Q : Bool → Hp → Prop} (q : Q true H) : tYes σ H Q := q
theorem r_gtup {K : PySem.W.Frag} {n : Nat} {t : TGs} {a : Addr} {xs : List V} {Q : L2.St → Hp → Prop} (s : SqT K H a xs) (l : xs.length = n) (q : t xs σ H Q) : gTup K n t (.ref a) σ H Q := ⟨a, xs, rfl, s, l, q⟩
theorem r_gcons {t : TG} {u : TGs} {v : V} {r : List V} {Q : L2.St → Hp → Prop} (q : t v σ H fun σ' H' => u r σ' H' Q) : gCons t u (v :: r) σ H Q := ⟨v, r, rfl, q⟩
theorem r_gnil {Q : L2.St → Hp → Prop} (q : Q σ H) : gNil [] σ H Q := ⟨rfl, q⟩
end readings
theorem int_at {ns : List Int} {i : Nat} {y : V} (h : (ns.map V.int)[i]? = some y) : ∃ c, ns[i]? = some c ∧ y = .int c := by
  rw [List.getElem?_map] at h
  cases e : ns[i]? with
  | none => rw [e] at h; cases h
  | some c => rw [e] at h; exact ⟨c, rfl, (Option.some.inj h).symm⟩
theorem st0 {N : List Str} {vs : List V} {σ : L2.St} {t : TS} {D : Ends} {H : Hp} (e : start N vs = σ) (q : t D σ H) : t D (start N vs) H := by rw [e]; exact q
theorem if_d {c : Prop} [Decidable c] {A B : Prop} (h1 : c → A) (h2 : ¬ c → B) : if decide c = true then A else B := by
  by_cases h : c
  · rw [decide_eq_true h, if_pos rfl]; exact h1 h
  · rw [decide_eq_false h, if_neg Bool.false_ne_true]; exact h2 h
theorem if_nd {c : Prop} [Decidable c] {A B : Prop} (h1 : ¬ c → A) (h2 : c → B) : if (!decide c) = true then A else B := by
  by_cases h : c
  · rw [decide_eq_true h]; exact iteF (h2 h)
  · rw [decide_eq_false h]; exact iteT (h1 h)
theorem if_b {b : Bool} {A B : Prop} (h1 : b = true → A) (h2 : b = false → B) : if b = true then A else B := by
  cases b
  · exact iteF (h2 rfl)
  · exact iteT (h1 rfl)
theorem if_yes {b : Bool} {A B : Prop} (h : b = true) (h1 : A) : if b = true then A else B := by rw [if_pos h]; exact h1
theorem if_no {b : Bool} {A B : Prop} (h : b = false) (h1 : B) : if b = true then A else B := by rw [h]; exact iteF h1
section
variable {A B : Prop}
theorem if_nt (h : B) : if (!true) = true then A else B := iteF h
theorem if_nf (h : A) : if (!false) = true then A else B := iteT h
theorem if_n0 (h : A) : if decide (V.non = V.non) = true then A else B := iteT h
theorem if_n1 {i : Int} (h : B) : if decide (V.int i = V.non) = true then A else B := iteF h
theorem if_n2 {i : Bool} (h : B) : if decide (V.bl i = V.non) = true then A else B := iteF h
theorem if_n3 {i : Str} (h : B) : if decide (V.str i = V.non) = true then A else B := iteF h
theorem if_n4 {i : Addr} (h : B) : if decide (V.ref i = V.non) = true then A else B := iteF h
theorem if_m0 (h : B) : if (!decide (V.non = V.non)) = true then A else B := iteF h
theorem if_m1 {i : Int} (h : A) : if (!decide (V.int i = V.non)) = true then A else B := iteT h
theorem if_m2 {i : Bool} (h : A) : if (!decide (V.bl i = V.non)) = true then A else B := iteT h
theorem if_m3 {i : Str} (h : A) : if (!decide (V.str i = V.non)) = true then A else B := iteT h
theorem if_m4 {i : Addr} (h : A) : if (!decide (V.ref i = V.non)) = true then A else B := iteT h
theorem vd_int {i j : Int} : decide (V.int i = V.int j) = decide (i = j) := by
  by_cases h : i = j
  · rw [h, decide_eq_true rfl, decide_eq_true rfl]
  · rw [decide_eq_false h, decide_eq_false fun e => h (V.int.inj e)]
/-- two ints compared -/
theorem if_i {i j : Int} (h1 : i = j → A) (h2 : i ≠ j → B) : if decide (V.int i = V.int j) = true then A else B := by rw [vd_int]; exact if_d h1 h2
theorem if_ni {i j : Int} (h1 : i ≠ j → A) (h2 : i = j → B) : if (!decide (V.int i = V.int j)) = true then A else B := by rw [vd_int]; exact if_nd h1 h2
end
def Cal (P : Program) (w : World) (K : PySem.W.Frag) (mg : Str → Option Value) (base : Heap) (CX : CXT) (k : Nat) (x : Str) (ps : List Str) (dvs : List V) (sp : Sp) : Prop :=
  ∃ (f : Addr) (fd : FuncData) (ds : List Value), FnOk P w K mg base CX k f fd ps sp ∧ mg x = some (.ref f) ∧ PySem.W.keepIn K (.ref f) = true ∧ Binds K fd ps ds ∧ Vals dvs ds
section
variable {X : Cx} {CX : CXT} {k : Nat} {x : Str} {ps : List Str} {dvs : List V} {sp : Sp} {E : XK} {e : Expr} {es : List Expr} {t : TA} {p pos : Pos}
theorem pe_cal (h : Cal X.prog X.w X.K X.mg X.base CX k x ps dvs sp) (hr : Room k X.A) (hx : Passes CX X E) (ha : PA X (e :: es) t) (hg : Gl X x := by rfl) (hdb : (x == ("__debug__" : Str)) = false := by decide)
    (he : starEach (e :: es) X.env = (false, eval e X.env) :: starEach es X.env := by rfl) (hpl : (backTo pos (starEach es X.env)).any (·.1) = false := by rfl) : PE X (.Call (.Name x p) (e :: es) [] pos) (tCall sp dvs E t) := by
  obtain ⟨f, fd, ds, F, hm, hk, hb, hd⟩ := h
  exact pe_call F hr hg hm hk hb hd hx ha hdb he hpl
theorem pe_cal0 (h : Cal X.prog X.w X.K X.mg X.base CX k x ps dvs sp) (hr : Room k X.A) (hx : Passes CX X E) (hg : Gl X x := by rfl) (hdb : (x == ("__debug__" : Str)) = false := by decide) :
    PE X (.Call (.Name x p) [] [] pos) (tCall sp dvs E tNil) := by
  obtain ⟨f, fd, ds, F, hm, hk, hb, hd⟩ := h
  exact pe_call0 F hr hg hm hk hb hd hx hdb
end
theorem pe_ty {X : Cx} {x : Str} {pos : Pos} (n : String) (hg : Gl X x) (hm : X.mg x = none) (hv : bootBuiltins x = some (.type n)) (hn : x ≠ "__name__" := by decide) (hd : (x == ("__debug__" : Str)) = false := by decide) : PE X (.Name x pos) (tC (.ty n)) := pe_bltn hg hm hv rfl hn hd
/-- all but p stays -/
def Kp (p : Addr) (H H' : Hp) : Prop := ∀ b o, b ≠ p → H b = some o → H' b = some o
theorem Kp.refl (p : Addr) (H : Hp) : Kp p H H := fun _ _ _ h => h
theorem Kp.trans {p : Addr} {H H1 H2 : Hp} (a : Kp p H H1) (b : Kp p H1 H2) : Kp p H H2 := fun c o n h => b c o n (a c o n h)
theorem Same.kp {p : Addr} {H H1 : Hp} (a : Same H H1) : Kp p H H1 := fun c o _ h => a c o h
theorem Same.upd {H : Hp} {p : Addr} {o : HO} (n : H p = none) : Same H (upd H p o) := fun b u e => by
  rw [upd_ne (ne_of_none e n)]; exact e
def HandAt (H : Hp) (p l : Addr) : Prop := ∃ (ns : List Int) (i rest st : Int), H p = some (.lst [.ref l, .int i, .int rest, .int st]) ∧ l ≠ p ∧ H l = some (.lst (ns.map V.int)) ∧ 0 ≤ i ∧ 0 ≤ rest ∧ (∀ n ∈ ns, 0 ≤ n) ∧ ns.length ≤ 63
theorem line63 {n : Nat} (h : n ≤ 1000) : n ≤ sizeLine := by rw [sizeLine_eq]; omega
theorem HandAt.same {H H' : Hp} {p l : Addr} (h : HandAt H p l) (s : Same H H') : HandAt H' p l := by
  obtain ⟨ns, i, rest, st, a, b, c, d⟩ := h
  exact ⟨ns, i, rest, st, s _ _ a, b, s _ _ c, d⟩
/-- a write elsewhere -/
theorem HandAt.write {H : Hp} {p l L : Addr} {o : HO} (h : HandAt H p l) (n1 : L ≠ p) (n2 : L ≠ l) : HandAt (upd H L o) p l := by
  obtain ⟨ns, i, rest, st, a, b, c, d⟩ := h
  exact ⟨ns, i, rest, st, (upd_ne (Ne.symm n1)).trans a, b, (upd_ne (Ne.symm n2)).trans c, d⟩
theorem HandAt.ne1 {H : Hp} {p l q : Addr} (h : HandAt H p l) (n : H q = none) : q ≠ p ∧ q ≠ l := by
  obtain ⟨ns, i, rest, st, a, b, c, d⟩ := h
  exact ⟨Ne.symm (ne_of_none a n), Ne.symm (ne_of_none c n)⟩
theorem HandAt.lst {H : Hp} {p l : Addr} (h : HandAt H p l) : ∃ xs, H p = some (.lst xs) := by
  obtain ⟨ns, i, rest, st, a, b, c, d⟩ := h
  exact ⟨_, a⟩
theorem seqT_kp {K : PySem.W.Frag} {H H' : Hp} {p l a : Addr} {xs : List V} (h : HandAt H p l) (k : Kp p H H') (s : SqT K H a xs) : SqT K H' a xs := by
  obtain ⟨ys, e⟩ := h.lst
  rcases s with (s | ⟨o, s⟩) | s
  · exact .inl (.inl (k _ _ (ne_of s e (fun z => by cases z)) s))
  · exact .inl (.inr ⟨o, k _ _ (ne_of s e (fun z => by cases z)) s⟩)
  · exact .inr s
theorem seqT_write {K : PySem.W.Frag} {H : Hp} {L a : Addr} {xs ys zs : List V} (h : H L = some (.lst ys)) (s : SqT K H a xs) : SqT K (upd H L (.lst zs)) a xs := by
  rcases s with (s | ⟨o, s⟩) | s
  · exact .inl (.inl ((upd_ne (ne_of s h (fun z => by cases z))).trans s))
  · exact .inl (.inr ⟨o, (upd_ne (ne_of s h (fun z => by cases z))).trans s⟩)
  · exact .inr s
theorem HandAt.upd {H : Hp} {p l : Addr} {ns : List Int} {i rest st : Int} (hl : H l = some (.lst (ns.map V.int))) (ne : l ≠ p) (h0 : 0 ≤ i) (h1 : 0 ≤ rest) (h2 : ∀ n ∈ ns, 0 ≤ n) (h3 : ns.length ≤ 63) :
    HandAt (L2.upd H p (.lst [.ref l, .int i, .int rest, .int st])) p l := ⟨ns, i, rest, st, upd_same, ne, (upd_ne ne).trans hl, h0, h1, h2, h3⟩
theorem Kp.upd {H : Hp} {p : Addr} {o : HO} : Kp p H (L2.upd H p o) := fun b u n e => by rw [upd_ne n]; exact e
theorem Kp.upd' {H H1 : Hp} {p : Addr} {o : HO} (k : Kp p H H1) : Kp p H (L2.upd H1 p o) := k.trans Kp.upd
theorem ints_at {ns : List Int} {i : Int} (h0 : 0 ≤ i) (h : i < (ns.map V.int).length) : ∃ c, c ∈ ns ∧ atI (ns.map V.int) i = some (.int c) := by
  rw [List.length_map] at h
  have e : i = ((i.toNat : Nat) : Int) := by omega
  have hl : i.toNat < ns.length := by omega
  refine ⟨ns[i.toNat], List.getElem_mem hl, at_of e ?_⟩
  rw [List.getElem?_map, List.getElem?_eq_getElem hl]
  rfl
def spStir : Sp := fun vs H Q _ => ∃ n t : Int, vs = [.int n, .int t] ∧ ∀ r : Int, Q (.int r) H
def spHand (K : PySem.W.Frag) : Sp := fun vs H Q _ => ∃ (a : Addr) (ns : List Int), vs = [.ref a] ∧ SqL K H a (ns.map V.int) ∧ ns.length ≤ 63 ∧ ∀ (p l : Addr) (H' : Hp), HandAt H' p l → Same H H' → Q (.ref p) H'
def spDraw : Sp := fun vs H Q _ => ∃ (p l : Addr) (m : Int), vs = [.ref p, .int m] ∧ HandAt H p l ∧ 0 < m ∧ m < 1073741824 ∧ ∀ (d : Int) (H' : Hp), 0 ≤ d → d < m → HandAt H' p l → Kp p H H' → Q (.int d) H'
end MB
set_option maxHeartbeats 2000000
namespace MB
open PySem PySem.Spec PyProof.Rows L2
def oexB (K : PySem.W.Frag) (C : Addr) : Bool := (match K.lookup C with
  | some ⟨.type "type", _, .cls cd, sl⟩ => (match cd.mro, sl.toList with
    | .ref C' :: bm, [_, _, _, _, some (.builtin n), _] => C' == C && (n == "ValueError.__new__" && (!cd.hasDel && (cd.hasDict && PySem.HandSPX.refsVE bm)))
    | _, _ => false)
  | _ => false) && (decide (PySem.W.findIn K (.ref C) "__setattr__" = some (some (.builtin "object.__setattr__"))) && (decide (PySem.W.subIn K (.ref C) (.type "BaseException") = some true) && (decide (PySem.W.typeIn K (.ref C) = some (.type "type")) && PySem.W.keepIn K (.ref C))))
theorem ba {a b : Bool} (h : (a && b) = true) : a = true ∧ b = true := Bool.and_eq_true_iff.mp h
theorem oexB_ok {K : PySem.W.Frag} {C : Addr} (h : oexB K C = true) : OexC K C := by
  obtain ⟨q, h⟩ := ba h
  obtain ⟨h1, h⟩ := ba h
  obtain ⟨h2, h⟩ := ba h
  obtain ⟨h3, h4⟩ := ba h
  refine ⟨?_, of_decide_eq_true h1, of_decide_eq_true h2, of_decide_eq_true h3, h4⟩
  split at q
  · rename_i dd cd sl ho
    split at q
    · rename_i C' bm k0 k1 k2 k3 n k5 hm hs
      obtain ⟨a1, q⟩ := ba q
      obtain ⟨a2, q⟩ := ba q
      obtain ⟨a3, q⟩ := ba q
      obtain ⟨a4, a5⟩ := ba q
      have e1 := eq_of_beq a1
      have e2 := eq_of_beq a2
      subst e1 e2
      obtain ⟨nm, bs, mro, ns, qn, hd, sn, sub, ab, col, del⟩ := cd
      dsimp only at hm a3 a4
      have e3 : del = false := by
        cases del with
        | false => rfl
        | true => cases a3
      subst hm a4 e3
      have hsl : sl = #[k0, k1, k2, k3, some (.builtin "ValueError.__new__"), k5] := by
        obtain ⟨l⟩ := sl
        simp only at hs
        rw [hs]
      subst hsl
      exact ⟨nm, qn, ns, bs, bm, sn, sub, ab, col, dd, k0, k1, k2, k3, k5, ho, a5⟩
    · cases q
  · cases q
def excCB (K : PySem.W.Frag) (D : Addr) : Bool := decide (PySem.W.findIn K (.ref D) "__getattribute__" = some (some (.builtin "BaseException.__getattribute__"))) && (decide (PySem.W.findIn K (.ref D) "__getattr__" = some none) && (decide (PySem.W.subIn K (.ref D) (.type "BaseException") = some true) && (PySem.W.hasDictIn K D &&
  (decide (PySem.W.findIn K (.ref D) "__class__" = some (some (.builtin "object.__class__"))) && (decide (PySem.W.specialIn K (.builtin "object.__class__") "__get__" = some (some (.builtin "getset_descriptor.__get__"))) && (decide (PySem.W.takesIn K (.builtin "object.__class__") = some true) && decide (PySem.W.mroIn K D (.type "object") = some true)))))))
theorem excCB_ok {K : PySem.W.Frag} {D : Addr} (h : excCB K D = true) : ExcC K D := by
  obtain ⟨h1, h⟩ := ba h
  obtain ⟨h2, h⟩ := ba h
  obtain ⟨h3, h⟩ := ba h
  obtain ⟨h4, h⟩ := ba h
  obtain ⟨h5, h⟩ := ba h
  obtain ⟨h6, h⟩ := ba h
  obtain ⟨h7, h8⟩ := ba h
  exact ⟨of_decide_eq_true h1, of_decide_eq_true h2, of_decide_eq_true h3, h4, of_decide_eq_true h5, of_decide_eq_true h6, of_decide_eq_true h7, of_decide_eq_true h8⟩
section
variable {X : Cx} {C : Addr} {bmB : List Value} {B newId initId : String}
/-- X() -/
theorem pmk_own0 {x : Str} {p pos : Pos} (F : ExcBaseFacts B newId initId bmB) (q : PySem.W.excIn X.K C bmB newId = true) (gC : X.mg x = some (.ref C)) (kC : PySem.W.keepIn X.K (.ref C) = true) (r : Raises X (.ref C)) (hg : Gl X x)
    (hdb : (x == ("__debug__" : Str)) = false := by decide) : PMk X (.Call (.Name x p) [] [] pos) (fun _ H Q => Q (.ref C) none H) := by
  intro pins s σ H Q I h
  refine wpAny_Call_Name_kw (ld_glob I hg gC ?_ hdb)
  refine PySem.W.callWith_K0 I.kIn kC ?_
  obtain ⟨bm, N, nm, qn, bs, hdct, sn, sub, ab, col, dd, k0, k1, k2, k3, k5, mN, hC, hN, hni, T⟩ := exc_obj I.kIn q
  refine wpAny_call_exc_subT F T hC hN hni (fun h' e hm => ?_) (Nat.zero_le _)
  exact mk_of I hm r h (I.hok.gone hm.new)
end
/-- isinstance(e, c) in a suite, whatever it caught: it caught a D without fields -/
def rIsX (K : PySem.W.Frag) (D a : Addr) (cls : Value) (d : Option Addr) : List V → Hp → VK → Prop := fun xs H Q => cls = .ref D ∧ d = none ∧ rIsE K D a xs H Q
theorem call_isX {X : Cx} {a D : Addr} {cls : Value} {d : Option Addr} {oe : Obj} {pn : List (Addr × Obj)} (C : ExcC X.K D) (hz : Zc cls d oe) (hf : ∃ vs, oe.data = .fields vs) : CallR (X.suite a ((a, oe) :: pn)) (.builtin "isinstance") (rIsX X.K D a cls d) := by
  intro pins s σ H xs us Q I r h
  obtain ⟨rfl, rfl, h⟩ := h
  exact call_isE C hz hf pins s σ H xs us Q I r h
def spInit1 (C : Addr) (f : Str) : Sp := fun vs H Q _ => ∃ (a : Addr) (v : V), vs = [.ref a, v] ∧ H a = some (exo a C none) ∧ ∀ dx, H dx = none → dx ≠ a → Q .non (upd (upd H dx (exd dx [(f, v)])) a (exo a C (some dx)))
def spInit2 (C : Addr) (f g : Str) : Sp := fun vs H Q _ => ∃ (a : Addr) (v u : V), vs = [.ref a, v, u] ∧ H a = some (exo a C none) ∧ ∀ dx, H dx = none → dx ≠ a → Q .non (upd (upd (upd H dx (exd dx [(f, v)])) a (exo a C (some dx))) dx (exd dx [(g, u), (f, v)]))
/-- what an __init__ that keeps spInit1 leaves of C(e) -/
theorem mk1 {C : Addr} {f : Str} {v : V} {H : Hp} {Q : XK} (q : ∀ d H', L2.Same H H' → H' d = some (.xd [(f, v)]) → Q (.ref C) (some d) H') :
    [v].length ≤ 1000 ∧ ∀ a, H a = none → spInit1 C f (.ref a :: ([v] ++ [])) (upd H a (exo a C none))
      (fun v H2 => v = .non ∧ ∃ (d : Addr) (fs : List (Str × V)), H2 a = some (exo a C (some d)) ∧ H2 d = some (exd d fs) ∧ H d = none ∧ Q (.ref C) (some d) (upd (del H2 a) d (.xd fs))) (fun _ _ _ => False) := by
  refine ⟨by show 1 ≤ 1000; decide, fun a ha => ⟨a, v, rfl, upd_same, fun dx h1 h2 => ⟨rfl, dx, [(f, v)], upd_same, ?_, ?_, ?_⟩⟩⟩
  · rw [upd_ne h2, upd_same]
  · rw [upd_ne h2] at h1
    exact h1
  · rw [upd_ne h2] at h1
    refine q dx _ (fun b o e => ?_) upd_same
    have n1 := ne_of_none e h1
    have n2 := ne_of_none e ha
    rw [upd_ne n1, del_ne n2, upd_ne n2, upd_ne n1, upd_ne n2]
    exact e
theorem mk2 {C : Addr} {f g : Str} {v u : V} {H : Hp} {Q : XK} (q : ∀ d H', L2.Same H H' → H' d = some (.xd [(g, u), (f, v)]) → Q (.ref C) (some d) H') :
    [v, u].length ≤ 1000 ∧ ∀ a, H a = none → spInit2 C f g (.ref a :: ([v, u] ++ [])) (upd H a (exo a C none))
      (fun v H2 => v = .non ∧ ∃ (d : Addr) (fs : List (Str × V)), H2 a = some (exo a C (some d)) ∧ H2 d = some (exd d fs) ∧ H d = none ∧ Q (.ref C) (some d) (upd (del H2 a) d (.xd fs))) (fun _ _ _ => False) := by
  refine ⟨by show 2 ≤ 1000; decide, fun a ha => ⟨a, v, u, rfl, upd_same, fun dx h1 h2 => ⟨rfl, dx, [(g, u), (f, v)], ?_, upd_same, ?_, ?_⟩⟩⟩
  · rw [upd_ne (Ne.symm h2), upd_same]
  · rw [upd_ne h2] at h1
    exact h1
  · rw [upd_ne h2] at h1
    refine q dx _ (fun b o e => ?_) upd_same
    have n1 := ne_of_none e h1
    have n2 := ne_of_none e ha
    rw [upd_ne n1, del_ne n2, upd_ne n1, upd_ne n2, upd_ne n1, upd_ne n2]
    exact e
section
variable {X : Cx} {CX : CXT} {k : Nat} {x : Str} {ps : List Str} {sp : Sp} {E : L2.St → XK} {e : Expr} {es : List Expr} {t : TA} {p pos : Pos}
/-- in a try: f(e, ..), f may raise -/
theorem pe_calS (h : Cal X.prog X.w X.K X.mg X.base (L2.CX X.prog X.w) k x ps [] sp) (hr : Room k X.A) (hx : ∀ σ, PassesAt (L2.CX X.prog X.w) X σ (E σ)) (ha : PA X (e :: es) t) (hg : Gl X x := by rfl) (hdb : (x == ("__debug__" : Str)) = false := by decide)
    (he : starEach (e :: es) X.env = (false, eval e X.env) :: starEach es X.env := by rfl) (hpl : (backTo pos (starEach es X.env)).any (·.1) = false := by rfl) : PE X (.Call (.Name x p) (e :: es) [] pos) (tCallS sp E t) := by
  obtain ⟨f, fd, ds, F, hm, hk, hb, hd⟩ := h
  cases hd
  exact pe_callS F hr hg hm hk hb hx ha hdb he hpl
end
theorem r_callS {σ : L2.St} {H : Hp} {Q : VK} {sp : Sp} {E : L2.St → XK} {t : TA} (q : t σ H fun vs H1 => sp vs H1 Q (E σ)) : tCallS sp E t σ H Q := q
end MB
set_option maxHeartbeats 2000000
set_option exponentiation.threshold 2000
namespace K00
open PySem PySem.Spec PyProof.Rows L2 MB
def gd (t b : Int) : Int := ((Nat.gcd t.natAbs b.natAbs : Nat) : Int)
def low (t b : Int) : Int × Int := if b < 0 then ((-t).fdiv (gd t b), (-b).fdiv (gd t b)) else (t.fdiv (gd t b), b.fdiv (gd t b))
def plusR (x y : Int × Int) : Int × Int := low (x.1 * y.2 + y.1 * x.2) (x.2 * y.2)
def lessR (x y : Int × Int) : Int × Int := low (x.1 * y.2 - y.1 * x.2) (x.2 * y.2)
def timesR (x y : Int × Int) : Int × Int := low (x.1 * y.1) (x.2 * y.2)
def overR (x y : Int × Int) : Int × Int := low (x.1 * y.2) (x.2 * y.1)
theorem gd_pos {t b : Int} (h : b ≠ 0) : 0 < gd t b := by
  unfold gd
  have : 0 < Nat.gcd t.natAbs b.natAbs := Nat.gcd_pos_of_pos_right _ (by omega)
  omega
theorem gd_nn (t b : Int) : 0 ≤ gd t b := by unfold gd; omega
theorem gd_neg_l (t b : Int) : gd (-t) b = gd t b := by unfold gd; rw [Int.natAbs_neg]
theorem gd_neg_r (t b : Int) : gd t (-b) = gd t b := by unfold gd; rw [Int.natAbs_neg]
theorem low_neg {t b : Int} (h : b < 0) : (t.fdiv (-gd t b), b.fdiv (-gd t b)) = low t b := by
  unfold low
  rw [if_pos h]
  have e1 := Int.neg_fdiv_neg (-t) (gd t b)
  have e2 := Int.neg_fdiv_neg (-b) (gd t b)
  rw [Int.neg_neg] at e1 e2
  rw [e1, e2]
theorem low_pos {t b : Int} (h : ¬ b < 0) : (t.fdiv (gd t b), b.fdiv (gd t b)) = low t b := by
  unfold low
  rw [if_neg h]
/-- in lowest terms, the bottom 1 or more -/
def IsR (x : Int × Int) : Prop := 0 < x.2 ∧ Nat.gcd x.1.natAbs x.2.natAbs = 1
theorem nat_fdiv (a g : Nat) : (a : Int).fdiv (g : Int) = ((a / g : Nat) : Int) := (Int.ofNat_fdiv a g).symm
theorem nn_fdiv {b : Int} (h : 0 ≤ b) (g : Nat) : b.fdiv (g : Int) = ((b.natAbs / g : Nat) : Int) := by
  obtain ⟨n, rfl⟩ := Int.eq_ofNat_of_zero_le h
  exact nat_fdiv n g
theorem abs_fdiv {t : Int} {g : Nat} (hg : 0 < g) (hd : g ∣ t.natAbs) : (t.fdiv (g : Int)).natAbs = t.natAbs / g := by
  by_cases h : 0 ≤ t
  · rw [nn_fdiv h]
    exact Int.natAbs_natCast _
  · have hdv : (g : Int) ∣ t := Int.ofNat_dvd_left.mpr hd
    rw [Int.fdiv_eq_ediv_of_dvd hdv, Int.natAbs_ediv_of_dvd hdv]
    simp
theorem low_isR {t b : Int} (h : b ≠ 0) : IsR (low t b) := by
  have hg : 0 < Nat.gcd t.natAbs b.natAbs := Nat.gcd_pos_of_pos_right _ (by omega)
  have h1 : Nat.gcd t.natAbs b.natAbs ∣ t.natAbs := Nat.gcd_dvd_left _ _
  have h2 : Nat.gcd t.natAbs b.natAbs ∣ b.natAbs := Nat.gcd_dvd_right _ _
  have co : Nat.gcd (t.natAbs / Nat.gcd t.natAbs b.natAbs) (b.natAbs / Nat.gcd t.natAbs b.natAbs) = 1 := Nat.gcd_div_gcd_div_gcd_of_pos_right (by omega)
  have pos : 0 < b.natAbs / Nat.gcd t.natAbs b.natAbs := Nat.div_pos (Nat.le_of_dvd (by omega) h2) hg
  unfold low
  by_cases hb : b < 0
  · rw [if_pos hb]
    refine ⟨?_, ?_⟩
    · show 0 < (-b).fdiv (gd t b)
      unfold gd
      rw [nn_fdiv (by omega), Int.natAbs_neg]
      omega
    · show Nat.gcd ((-t).fdiv (gd t b)).natAbs ((-b).fdiv (gd t b)).natAbs = 1
      unfold gd
      rw [abs_fdiv hg (by rw [Int.natAbs_neg]; exact h1), abs_fdiv hg (by rw [Int.natAbs_neg]; exact h2), Int.natAbs_neg, Int.natAbs_neg]
      exact co
  · rw [if_neg hb]
    refine ⟨?_, ?_⟩
    · show 0 < b.fdiv (gd t b)
      unfold gd
      rw [nn_fdiv (by omega)]
      omega
    · show Nat.gcd (t.fdiv (gd t b)).natAbs (b.fdiv (gd t b)).natAbs = 1
      unfold gd
      rw [abs_fdiv hg h1, abs_fdiv hg h2]
      exact co
theorem low_le {t b : Int} (h : b ≠ 0) : (low t b).1.natAbs ≤ t.natAbs ∧ (low t b).2.natAbs ≤ b.natAbs := by
  have hg : 0 < Nat.gcd t.natAbs b.natAbs := Nat.gcd_pos_of_pos_right _ (by omega)
  have h1 : Nat.gcd t.natAbs b.natAbs ∣ t.natAbs := Nat.gcd_dvd_left _ _
  have h2 : Nat.gcd t.natAbs b.natAbs ∣ b.natAbs := Nat.gcd_dvd_right _ _
  unfold low
  by_cases hb : b < 0
  · rw [if_pos hb]
    unfold gd
    show ((-t).fdiv _).natAbs ≤ _ ∧ ((-b).fdiv _).natAbs ≤ _
    rw [abs_fdiv hg (by rw [Int.natAbs_neg]; exact h1), abs_fdiv hg (by rw [Int.natAbs_neg]; exact h2), Int.natAbs_neg, Int.natAbs_neg]
    exact ⟨Nat.div_le_self _ _, Nat.div_le_self _ _⟩
  · rw [if_neg hb]
    unfold gd
    show (t.fdiv _).natAbs ≤ _ ∧ (b.fdiv _).natAbs ≤ _
    rw [abs_fdiv hg h1, abs_fdiv hg h2]
    exact ⟨Nat.div_le_self _ _, Nat.div_le_self _ _⟩
theorem low_one (a : Int) : low a 1 = (a, 1) := by
  unfold low
  rw [if_neg (by decide)]
  have e : gd a 1 = 1 := by unfold gd; simp
  rw [e, Int.fdiv_one]
  rfl
def Euc (g : Nat) (i a b : Nat) : Prop := Nat.gcd a b = g ∧ ((i = 0 ∧ a < 2 ^ 400 ∧ b < 2 ^ 400) ∨ (0 < i ∧ b < a ∧ a * b * 2 ^ (i - 1) < 2 ^ 800))
theorem euc_step {g i a b : Nat} (hb : b ≠ 0) (h : Euc g i a b) : Euc g (i + 1) b (a % b) := by
  obtain ⟨hg, h⟩ := h
  have hr : a % b < b := Nat.mod_lt _ (by omega)
  refine ⟨?_, .inr ⟨by omega, hr, ?_⟩⟩
  · rw [Nat.gcd_comm b, ← Nat.gcd_rec b a, Nat.gcd_comm]
    exact hg
  · show b * (a % b) * 2 ^ i < 2 ^ 800
    rcases h with ⟨rfl, _, h2⟩ | ⟨hi, hlt, hp⟩
    · rw [Nat.pow_zero, Nat.mul_one]
      have : b * (a % b) < 2 ^ 400 * 2 ^ 400 := Nat.mul_lt_mul'' h2 (by omega)
      rw [← Nat.pow_add] at this
      exact this
    · obtain ⟨j, rfl⟩ : ∃ j, i = j + 1 := ⟨i - 1, by omega⟩
      have h2 : 2 * (a % b) ≤ a := by
        have e := Nat.div_add_mod a b
        have q : 1 ≤ a / b := Nat.div_pos (by omega) (by omega)
        have : b * 1 ≤ b * (a / b) := Nat.mul_le_mul_left _ q
        omega
      have e1 : b * (a % b) * 2 ^ (j + 1) = b * (2 * (a % b)) * 2 ^ j := by
        rw [Nat.pow_succ, Nat.mul_comm (2 ^ j) 2, ← Nat.mul_assoc, Nat.mul_assoc b, Nat.mul_comm (a % b) 2]
      rw [e1]
      have e2 : b * (2 * (a % b)) * 2 ^ j ≤ b * a * 2 ^ j := Nat.mul_le_mul_right _ (Nat.mul_le_mul_left _ h2)
      rw [Nat.mul_comm b a] at e2
      exact Nat.lt_of_le_of_lt e2 hp
theorem euc_end {g a b : Nat} (h : Euc g 900 a b) : b = 0 := by
  obtain ⟨_, h | ⟨_, hlt, hp⟩⟩ := h
  · exact absurd h.1 (by decide)
  · cases hz : b with
    | zero => rfl
    | succ k =>
      exfalso
      rw [hz] at hp hlt
      have h1 : 1 ≤ a * (k + 1) := Nat.mul_pos (by omega) (by omega)
      have h2 : 1 * 2 ^ (900 - 1) ≤ a * (k + 1) * 2 ^ (900 - 1) := Nat.mul_le_mul_right _ h1
      have h3 : 2 ^ 800 ≤ 1 * 2 ^ (900 - 1) := by rw [Nat.one_mul]; exact Nat.pow_le_pow_right (by decide) (by decide)
      omega
theorem euc_done {g i a : Nat} (h : Euc g i a 0) : a = g := by
  have := h.1
  rw [Nat.gcd_zero_right] at this
  exact this
def Sz (n : Nat) (i : Int) : Prop := i.natAbs < 2 ^ n
theorem Sz.mono {n m : Nat} {i : Int} (h : Sz n i) (le : n ≤ m) : Sz m i := Nat.lt_of_lt_of_le h (Nat.pow_le_pow_right (by decide) le)
theorem Sz.mul {n m : Nat} {i j : Int} (h : Sz n i) (k : Sz m j) : Sz (n + m) (i * j) := by
  unfold Sz
  rw [Int.natAbs_mul, Nat.pow_add]
  exact Nat.mul_lt_mul'' h k
theorem Sz.add {n : Nat} {i j : Int} (h : Sz n i) (k : Sz n j) : Sz (n + 1) (i + j) := by
  unfold Sz at *
  have := Int.natAbs_add_le i j
  rw [Nat.pow_succ]
  omega
theorem Sz.neg {n : Nat} {i : Int} (h : Sz n i) : Sz n (-i) := by unfold Sz; rw [Int.natAbs_neg]; exact h
theorem Sz.sub {n : Nat} {i j : Int} (h : Sz n i) (k : Sz n j) : Sz (n + 1) (i - j) := by
  rw [Int.sub_eq_add_neg]
  exact h.add k.neg
theorem Sz.le {n : Nat} {i j : Int} (h : Sz n j) (k : i.natAbs ≤ j.natAbs) : Sz n i := Nat.lt_of_le_of_lt k h
theorem Sz.low {n m : Nat} {t b : Int} (h : b ≠ 0) (ht : Sz n t) (hb : Sz m b) : Sz n (low t b).1 ∧ Sz m (low t b).2 := ⟨ht.le (low_le h).1, hb.le (low_le h).2⟩
theorem Sz.mulR {i j : Int} (h : Sz 62 j) : CMul i j := by
  unfold Sz at h
  have : (2 : Nat) ^ 62 < 2 ^ 64 := by decide
  refine Or.inr ⟨?_, ?_⟩ <;> omega
theorem Sz.mulL {i j : Int} (h : Sz 62 i) : CMul i j := by
  unfold Sz at h
  have : (2 : Nat) ^ 62 < 2 ^ 64 := by decide
  refine Or.inl ⟨?_, ?_⟩ <;> omega
theorem gd_log {t b : Int} {n : Nat} (h : b ≠ 0) (k : Sz n b) (hn : 0 < n) (h9 : n ≤ 9000) : (gd t b).natAbs.log2 < 9000 := by
  have h2 : Nat.gcd t.natAbs b.natAbs ≤ b.natAbs := Nat.le_of_dvd (by omega) (Nat.gcd_dvd_right _ _)
  have e : (gd t b).natAbs = Nat.gcd t.natAbs b.natAbs := by unfold gd; omega
  rw [e]
  exact Nat.lt_of_lt_of_le (PySem.Flt.log2_lt_of hn (Nat.lt_of_le_of_lt h2 k)) h9
/-- a good ratio of such sizes -/
structure Rt (n m : Nat) (x : Int × Int) : Prop where
  top : Sz n x.1
  bot : Sz m x.2
  pos : 0 < x.2
  one : Nat.gcd x.1.natAbs x.2.natAbs = 1
theorem rt_low {n m : Nat} {t b : Int} (h : b ≠ 0) (ht : Sz n t) (hb : Sz m b) : Rt n m (low t b) := ⟨(Sz.low h ht hb).1, (Sz.low h ht hb).2, (low_isR h).1, (low_isR h).2⟩
theorem rt_plus {n m p q : Nat} {x y : Int × Int} (hx : Rt n m x) (hy : Rt p q y) (k : Nat) (h1 : n + q ≤ k) (h2 : p + m ≤ k) : Rt (k + 1) (m + q) (plusR x y) :=
  rt_low (Int.mul_ne_zero (by have := hx.pos; omega) (by have := hy.pos; omega)) (((hx.top.mul hy.bot).mono h1).add ((hy.top.mul hx.bot).mono h2)) (hx.bot.mul hy.bot)
def CDivZ (_ j : Int) : Prop := j ≠ 0 ∧ j.natAbs.log2 < 9000
theorem op_fdivZ {X : Cx} : OpR X (binaryOp .FloorDiv) (rI CDivZ fun i j => .int (i.fdiv j)) := opI fun _ _ _ _ _ _ _ hc q => floordiv_int hc.1 q (.inl (PyProof.noPylong_of_log2 hc.2))
theorem kit_ii : kitB "int" "int" = some true := by decide +kernel
theorem kit_bi : kitB "bool" "int" = some true := by decide +kernel
theorem kit_si : kitB "str" "int" = some false := by decide +kernel
theorem kit_ni : kitB "NoneType" "int" = some false := by decide +kernel
theorem kit_li : kitB "list" "int" = some false := by decide +kernel
theorem kit_ti : kitB "tuple" "int" = some false := by decide +kernel
theorem kit_ib : kitB "int" "bool" = some false := by decide +kernel
theorem kit_bb : kitB "bool" "bool" = some true := by decide +kernel
theorem kit_sb : kitB "str" "bool" = some false := by decide +kernel
theorem kit_nb : kitB "NoneType" "bool" = some false := by decide +kernel
theorem kit_lb : kitB "list" "bool" = some false := by decide +kernel
theorem kit_tb : kitB "tuple" "bool" = some false := by decide +kernel
theorem kit_it : kitB "int" "tuple" = some false := by decide +kernel
theorem kit_bt : kitB "bool" "tuple" = some false := by decide +kernel
theorem kit_st : kitB "str" "tuple" = some false := by decide +kernel
theorem kit_nt : kitB "NoneType" "tuple" = some false := by decide +kernel
theorem kit_lt : kitB "list" "tuple" = some false := by decide +kernel
theorem kit_tt : kitB "tuple" "tuple" = some true := by decide +kernel
theorem kit_il : kitB "int" "list" = some false := by decide +kernel
theorem kit_bl : kitB "bool" "list" = some false := by decide +kernel
theorem kit_sl : kitB "str" "list" = some false := by decide +kernel
theorem kit_nl : kitB "NoneType" "list" = some false := by decide +kernel
theorem kit_ll : kitB "list" "list" = some true := by decide +kernel
theorem kit_tl : kitB "tuple" "list" = some false := by decide +kernel
theorem ty_tup {K : PySem.W.Frag} {H : Hp} {a : Addr} {xs : List V} (s : SqT K H a xs) : TyX K H (.ref a) (.type "tuple") := by
  rcases s with (h | ⟨o, h⟩) | ⟨o, its, n, hk, hc, _⟩
  · exact .base (.tup h)
  · exact .fTuple h
  · exact .kTuple hk hc
theorem ty_lst {K : PySem.W.Frag} {H : Hp} {a : Addr} {xs : List V} (h : H a = some (.lst xs)) : TyX K H (.ref a) (.type "list") := .base (.lst h)
theorem r_isi {K : PySem.W.Frag} {H : Hp} {Q : VK} {x : V} {m n : String} {b : Bool} (ty : TyX K H x (.type m)) (k : kitB m n = some b) (q : Q (.bl b) H) : rIsi K [x, .ty n] H Q :=
  ⟨x, .ty n, .type m, .type n, b, rfl, .ty n, ty, kit_ty k, q⟩
end K00
set_option maxHeartbeats 4000000
namespace MB
open PySem PySem.Spec PyProof.Rows L2
/-- the reading of C(e, ..) -/
def tMkV (C : Addr) (sp : Sp) (ta : TA) : TE := fun σ H Q => ta σ H fun vs H1 => vs.length ≤ 1000 ∧ ∀ a, H1 a = none → sp (.ref a :: (vs ++ [])) (upd H1 a (exo a C none)) (fun v H2 => v = .non ∧ Q (.ref a) H2) (fun _ _ _ => False)
section
variable {X : Cx} {e : Expr} {es : List Expr} {ta : TA} {p pos : Pos} {CX : CXT} {x : Str} {C fI : Addr} {k : Nat} {fd : FuncData} {ps : List Str} {sp : Sp}
theorem pe_mkv (T : OexC X.K C) (iC : PySem.W.findIn X.K (.ref C) "__init__" = some (some (.ref fI))) (tI : PySem.W.typeIn X.K (.ref fI) = some (.type "function")) (F1 : FnOk X.prog X.w X.K X.mg X.base CX k fI fd ps sp) (hr : Room (k + 1) X.A) (hb : Binds X.K fd ps [])
    (hx : Passes CX X (fun _ _ _ => False)) (hm : X.mg x = some (.ref C)) (ha : PA X (e :: es) ta) (hg : Gl X x := by rfl) (hdb : (x == ("__debug__" : Str)) = false := by decide) (he : starEach (e :: es) X.env = (false, eval e X.env) :: starEach es X.env := by rfl)
    (hpl : (backTo pos (starEach es X.env)).any (·.1) = false := by rfl) : PE X (.Call (.Name x p) (e :: es) [] pos) (tMkV C sp ta) := by
  refine ⟨fun pins s σ H Q I h => ?_⟩
  obtain ⟨nm, q, N, bs, bm, sn, sub, ab, col, dd, k0, k1, k2, k3, k5, hC, hbm⟩ := T.cls
  refine wpAny_Call_Name_kw (ld_glob I hg hm ?_ hdb)
  refine PySem.W.callWith_K (h₀ := X.base) I.ok.mod.kin T.kC (thn (ha.run pos pins s σ H _ I h) fun us s1 ⟨vs, H1, I1, r1, hz, q1⟩ => ⟨I1.kIn, ?_⟩) he hpl
  show wpAny _ _ (call (.ref C) us) _ _ _
  obtain ⟨hp, g, dr, tk, os⟩ := s1
  have hsz : hp.objs.size ≤ hp.objs.size + 1 := Nat.le_succ _
  have hq := q1 _ (I1.hok.fresh hsz)
  have hget : ((hp.push (PySem.W.kdv_tup us)).push (PySem.HandSPX.excO C hp.objs.size)).get? (hp.objs.size + 1) = some (PySem.HandSPX.excO C hp.objs.size) := by heap_get
  have I2 := I1.laid (t' := tk) (a := hp.objs.size + 1) (o := exo (hp.objs.size + 1) C none) (h' := (hp.push (PySem.W.kdv_tup us)).push (PySem.HandSPX.excO C hp.objs.size)) (fun b o e => Heap.get?_push_of_some _ (Heap.get?_push_of_some _ e)) hsz (exo_ok hget)
  have r2 : Vals (V.ref (hp.objs.size + 1) :: (vs ++ [])) (Value.ref (hp.objs.size + 1) :: (us ++ [])) := .cons rfl (r1.append .nil)
  have hl : (Value.ref (hp.objs.size + 1) :: us ++ []).length = ps.length := (F1.len _ _ _ _ hq ▸ r2.length).symm
  have hB : BindsTo ⟨(hp.push (PySem.W.kdv_tup us)).push (PySem.HandSPX.excO C hp.objs.size), g, dr, tk, os⟩ fd ⟨Value.ref (hp.objs.size + 1) :: us, []⟩ (ps.zip (Value.ref (hp.objs.size + 1) :: (us ++ []))) := hb _ (Value.ref (hp.objs.size + 1) :: us) I2.kIn hl
  have hus : us.length ≤ sizeLine := by rw [← Paired.length r1]; exact line63 hz
  refine wpAny_call (PySem.HandSPX.call_own F.excBase_ValueError (fun Y => PySem.HandSPX.refsVE_contains Y bm hbm) (I1.kIn _ _ hC) (PySem.W.looks_findIn I1.kIn iC) (fun self => PySem.W.bind_fn I1.kIn self tI) hus
    (codeAny_mono (F1.run _ X.stack _ _ ⟨Value.ref (hp.objs.size + 1) :: us, []⟩ (Value.ref (hp.objs.size + 1) :: (us ++ [])) _ _ (fun _ _ _ => False) (hr.make C us []) (I2.env0.make C us []) hB r2 hq) fun r s' hq' => ?_))
  match r, hq' with
  | .error er, hq' => exact hx pins σ _ _ er s' I2 hq'
  | .ok (.ret u), hq' =>
    obtain ⟨v, H2, J, rv, ev, q2⟩ := I2.after hq'
    subst ev
    exact ⟨rv, V.ref (hp.objs.size + 1), H2, J, rfl, q2⟩
  | .ok .next, hq' => exact hq'.elim
  | .ok .brk, hq' => exact hq'.elim
  | .ok .cont, hq' => exact hq'.elim
/-- X(), an own class without fields -/
def Mk0Q (C : Addr) (H : Hp) (Q : VK) : Prop := ∀ a, H a = none → Q (.ref a) (upd H a (ExO (.ref C) a))
def tMk0 (C : Addr) : TE := fun _ H Q => Mk0Q C H Q
theorem pe_mk0 {bmB : List Value} {B newId initId : String} (F : ExcBaseFacts B newId initId bmB) (q : PySem.W.excIn X.K C bmB newId = true) (gC : X.mg x = some (.ref C)) (kC : PySem.W.keepIn X.K (.ref C) = true) (hg : Gl X x := by rfl)
    (hdb : (x == ("__debug__" : Str)) = false := by decide) : PE X (.Call (.Name x p) [] [] pos) (tMk0 C) := by
  refine ⟨fun pins s σ H Q I h => ?_⟩
  refine wpAny_Call_Name_kw (ld_glob I hg gC ?_ hdb)
  refine PySem.W.callWith_K0 I.kIn kC ?_
  obtain ⟨bm, N, nm, qn, bs, hdct, sn, sub, ab, col, dd, k0, k1, k2, k3, k5, mN, hC, hN, hni, T⟩ := exc_obj I.kIn q
  refine wpAny_call_exc_subT F T hC hN hni (fun h' a hm => ?_) (Nat.zero_le _)
  have hn : H a = none := I.hok.gone hm.new
  obtain ⟨t, ht, _, _⟩ := hm.there
  exact ⟨.ref a, _, I.laidN hm.keeps hm.new hn (exO_ok ht ⟨rfl, rfl⟩ rfl rfl rfl (show 4 < 6 by decide)), rfl, h a hn⟩
/-- e.f of such -/
def tXat (K : PySem.W.Frag) (n : Str) (te : TE) : TE := fun σ H Q => te σ H fun x H1 => ∃ (a C dx : Addr) (fs : List (Str × V)) (v : V), x = .ref a ∧ XfC K C ∧ PySem.W.findIn K (.ref C) n = some none ∧ H1 a = some (exo a C (some dx)) ∧ H1 dx = some (exd dx fs) ∧ fs.lookup n = some v ∧ Q v H1
theorem pe_xat {te : TE} {n : Str} (he : PE X e te) (hb : attributeBase e n X.env (eval e X.env) = eval e X.env := by rfl) : PE X (.Attribute e n pos) (tXat X.K n te) := by
  refine ⟨fun pins s σ H Q I h => ?_⟩
  refine attr_of hb (thn (he.run pins s σ H _ I h) fun u s1 ⟨x, H1, I1, rx, a, C, dx, fs, v, ex, T, hno, ea, ed, l, q⟩ => ?_)
  subst ex
  obtain rfl : u = Value.ref a := rx
  obtain ⟨t1, ha⟩ := exo_at I1.hok ea
  obtain ⟨mA, hns, rel⟩ := exd_at I1.hok ed
  obtain ⟨od, ho, hl⟩ := lookIn_ns hns
  obtain ⟨u, hu, ru⟩ := RelO.some_of (v := v) (o := mA n) (l ▸ rel n)
  exact HandSPX.exc_get I1.kIn (⟨ha, rfl, rfl, ho⟩ : PySem.W.InstAt s1.heap a _ C (some od)) T.ga T.gg T.exC (PySem.W.findObj_own T.hdC hno rfl (by rw [hl, hu])) (handed_of ru) ⟨v, H1, I1.tok _, ru, q⟩
end
/-- an exception of the class at C, with fields or without -/
def ExAt (H : Hp) (a C : Addr) : Prop := H a = some (ExO (.ref C) a) ∨ ∃ dx fs, H a = some (exo a C (some dx)) ∧ H dx = some (exd dx fs)
def rIsV (K : PySem.W.Frag) : RC := fun xs H Q => ∃ (a C : Addr) (c : V) (cv : Value) (b : Bool), xs = [.ref a, c] ∧ ExAt H a C ∧ ExcC K C ∧ (∀ u, RelV c u → u = cv) ∧ PySem.W.kitOne K (.ref C) cv = some b ∧ Q (.bl b) H
open PySem.W in
theorem kit_exv {K : Frag} {x D : Addr} {ox : Obj} {od : Option Obj} (c : ExcC K D) : KitX K (.ref x) (.ref D) (fun h => InstAt h x ox D od) := by
  obtain ⟨cd, hcd, _⟩ := any_some c.hd
  have hsome : (clsIn K D).isSome = true := by rw [hcd]; rfl
  refine ⟨fun _ _ _ I => I.type, fun _ _ X _ => ?_, fun h tp dd its n sl X htp => ?_, fun X I k => ?_⟩
  · unfold clsIn at hcd
    split at hcd
    · rename_i ho
      exact fun A' Q' E' s' k q => wpAny_bind (wpAny_loadPart (k _ _ (X _ _ ho)) (wpAny_pure q))
    · cases hcd
  · refine Bool.eq_false_iff.mpr fun q => ?_
    cases Value.ref.inj (beq_iff_eq.mp q)
    unfold clsIn at hcd
    split at hcd
    · rename_i ho
      exact nomatch (X _ _ ho).symm.trans htp
    · cases hcd
  · exact kx_classE X I c.hg c.hk c.hs (findObj_dataE hsome c.ha c.hn c.ht) c.hm k
theorem call_isV {X : Cx} : CallR X (.builtin "isinstance") (rIsV X.K) := by
  intro pins s σ H xs us Q I r h
  obtain ⟨a, C, c, cv, b, rfl, hx, hC, hcv, e, q⟩ := h
  have fin : ∀ {ox : Obj} {od : Option Obj}, PySem.W.InstAt s.heap a ox C od → wpAny (model X.prog X.w) X.A (call (.builtin "isinstance") [.ref a, cv]) (EP X pins σ Q) X.xe s := fun J =>
    PySem.W.kia_one (kit_exv hC) I.kIn J e (fun z => nomatch z) fun tk => ⟨.bl b, H, I.kept (t' := tk) fun _ _ z => z, rfl, q⟩
  cases r with
  | cons rx rr =>
    cases rr with
    | cons rt rr =>
      cases rr
      cases rx
      have ec := hcv _ rt
      subst ec
      rcases hx with hx | ⟨dx, fs, ha, hd⟩
      · obtain ⟨⟨⟨oc, od, oda, osl⟩, vs, ho, hz, hv, _⟩, _, _⟩ := I.hok a _ hx
        obtain ⟨h1, h2⟩ := hz
        dsimp only at h1 h2 hv
        subst h1 h2 hv
        exact fin (od := none) ⟨ho, rfl, rfl, trivial⟩
      · obtain ⟨t1, ho⟩ := exo_at I.hok ha
        obtain ⟨mA, hns, _⟩ := exd_at I.hok hd
        obtain ⟨od, hod, _⟩ := lookIn_ns hns
        exact fin (od := some od) ⟨ho, rfl, rfl, hod⟩
def rRepr (K : PySem.W.Frag) : RC := fun xs H Q => ∃ (a : Addr) (d : PyData), xs = [.ref a] ∧ Dp K H (.ref a) d ∧ d.showable = true ∧ d.hasDict = false ∧ d.depth ≤ 60 ∧ d.shown.length ≤ sizeLine ∧ Q (.str d.shown) H
theorem call_repr {X : Cx} (hg : X.A.guards = some []) (hu : X.A.units + 64 < cLine) : CallR X (.builtin "repr") (rRepr X.K) := by
  intro pins s σ H xs us Q I r h
  obtain ⟨a, d, rfl, hd, hs, hn, hp, hz, q⟩ := h
  obtain ⟨u, rfl, r1⟩ := vals1 r
  cases r1
  obtain ⟨as, rd⟩ := Dp.reads I d _ _ hd rfl
  exact repr_of_reads' rd hs (fun z => absurd (hn.symm.trans z) Bool.false_ne_true) hg (by omega) (fun _ _ e => e) (fun h' u tk k => ⟨.str _, H, I.kept (t' := tk) k, ⟨_, rfl⟩, q⟩) hz
end MB
set_option maxHeartbeats 4000000
namespace MB
open PySem PySem.Spec PyProof.Rows L2
structure FnG (P : Program) (w : World) (K : PySem.W.Frag) (mg : Str → Option Value) (base : Heap) (CX : CXT) (k : Nat) (f : Addr) (fd : FuncData) (ps : List Str) (sp : Sp) : Prop where
  len : ∀ vs H Q E, sp vs H Q E → vs.length = ps.length
  go : ∀ (A : Around) (outer : List Env) (s : Shared) (H : Hp) (args : Args) (us : List Value) (vs : List V) (Q : VK) (E : XK), A.guards = some [] → Room k A → Env0 P w K mg base A outer s H → BindsTo s fd args (ps.zip us) → Vals vs us → sp vs H Q E → codeAny (model P w) A (.call (.ref f) args) (CR CX outer P w H s Q E) s
section
variable {P : Program} {w : World} {K : PySem.W.Frag} {mg : Str → Option Value} {base : Heap} {CX : CXT} {k : Nat} {f : Addr} {x qual : Str} {params : Arguments} {body : List Stmt} {scope : Scope} {dvs : List V} {kws : List (Str × V)} {fd : FuncData} {N ps : List Str} {sp : Sp}
theorem okG (F : FunD K x qual params body scope dvs kws f fd) (S : FnScope N ps scope) (ln : ∀ vs H Q E, sp vs H Q E → vs.length = ps.length)
    (bd : ∀ (cdv : Value) (A : Around) (outer : List Env) (s : Shared) (H : Hp) (vs : List V) (Q : VK) (E : XK), A.guards = some [] → Room k (A.deeper (envOfC qual scope s.heap.objs.size f cdv)) → sp vs H Q E →
      ∃ t, PSs (cxOf CX P w K mg base N qual scope f cdv A outer s H E) body t ∧ t { nx := fun _ H' => Q .non H', rt := Q } (start N vs) H) : FnG P w K mg base CX (k + 1) f fd ps sp := by
  obtain ⟨oc, od, dV, kV, doc, pm, an, cdv, ct, osl, rfl, lk, hcd, _, _⟩ := F.ex
  refine ⟨ln, ?_⟩
  intro A outer s H args us vs Q E hg hr e0 hb r hsp
  have hl := ln _ _ _ _ hsp; have old := fun b o e => (e0.bs b o e).1
  have KX : K.In s.heap := e0.mod.kin.keeps old; have lim : s.heap.NoLimit := e0.mod.nolimit.keeps old
  refine codeAny_call_function hr.depth (KX _ _ lk) rfl S.co S.gen rfl (PySem.W.codeRec_of KX hcd) (hb _ _ _ _ (wpAny_newFunctionEnv_cells S.kind (fun y hy => ?_) fun env he s1 z => ?_))
  · exact (S.par y.1 (List.of_mem_zip hy).1).imp id fun q => ⟨q, PySem.W.cellsFrom_some _ _ _ (.inl q)⟩
  · subst he
    refine ⟨lim.keeps z.toInCall.keep, codeAny_func ?_⟩
    obtain ⟨t, ht, hq⟩ := bd cdv A outer s H vs Q E hg (hr.deeper _) hsp
    have I := inv_start (CX := CX) (E := E) S hr.hd e0 hl r z
    refine wpAny_mono (ht.run [] s1 (start N vs) H _ I hq) (fun fl s' hs => ?_) fun _ _ hs => hs
    match fl, hs with
    | .ret u, hs =>
      obtain ⟨v, _, H', J, rv, q⟩ := hs
      exact ⟨v, H', J.os, J.bare, J.base, J.hok, rv, q⟩
    | .next, hs =>
      obtain ⟨_, H', J, q⟩ := hs
      exact ⟨.non, H', J.os, J.bare, J.base, J.hok, rfl, q⟩
    | .brk, hs => exact hs.choose_spec.choose_spec.2.elim
    | .cont, hs => exact hs.choose_spec.choose_spec.2.elim
end
/-- a def of the text, called by its name, where no guard is up -/
def CalG (P : Program) (w : World) (K : PySem.W.Frag) (mg : Str → Option Value) (base : Heap) (CX : CXT) (k : Nat) (x : Str) (ps : List Str) (sp : Sp) : Prop :=
  ∃ (f : Addr) (fd : FuncData), FnG P w K mg base CX k f fd ps sp ∧ mg x = some (.ref f) ∧ PySem.W.keepIn K (.ref f) = true ∧ Binds K fd ps []
section
variable {X : Cx} {CX : CXT} {k : Nat} {x : Str} {ps : List Str} {sp : Sp} {E : XK} {e : Expr} {es : List Expr} {t : TA} {p pos : Pos}
theorem pe_calG (h : CalG X.prog X.w X.K X.mg X.base CX k x ps sp) (gd : X.A.guards = some []) (hr : Room k X.A) (hx : Passes CX X E) (ha : PA X (e :: es) t) (hg : Gl X x := by rfl) (hdb : (x == ("__debug__" : Str)) = false := by decide)
    (he : starEach (e :: es) X.env = (false, eval e X.env) :: starEach es X.env := by rfl) (hpl : (backTo pos (starEach es X.env)).any (·.1) = false := by rfl) : PE X (.Call (.Name x p) (e :: es) [] pos) (tCall sp [] E t) := by
  obtain ⟨f, fd, F, hm, hk, hb⟩ := h
  refine ⟨fun pins s σ H Q I h => wpAny_Call_Name_kw (ld_glob I hg hm ?_ hdb)⟩
  refine PySem.W.callWith_K (h₀ := X.base) I.ok.mod.kin hk (thn (ha.run pos pins s σ H _ I h) fun us s1 ⟨vs, H1, I1, r, q⟩ => ⟨I1.kIn, ?_⟩) he hpl
  have hl : (us ++ []).length = ps.length := by rw [← (r.append .nil).length]; exact F.len _ _ _ _ q
  refine wpAny_call (codeAny_mono (F.go X.A X.stack s1 H1 ⟨us, []⟩ _ (vs ++ []) Q E gd hr I1.env0 (hb s1 us I1.kIn hl) (r.append .nil) q) fun r s' hq => ?_)
  match r, hq with
  | .error er, hq => exact hx pins σ H1 s1 er s' I1 hq
  | .ok (.ret u), hq => exact I1.after hq
  | .ok .next, hq => exact hq.elim
  | .ok .brk, hq => exact hq.elim
  | .ok .cont, hq => exact hq.elim
end
section
variable {P : Program} {w : World} {K : PySem.W.Frag} {mg mb : Str → Option Value} {CX : CXT} {k : Nat} {fa a : Addr} {fd : FuncData} {x : Str} {sp : Sp} {s₁ : Shared} {vs : List Value} {ns : List Int} {H : Hp}
/-- from an abstract heap that tracks at most the script -/
theorem end_core (KX : K.In s₁.heap) (hns : s₁.heap.Ns mainGlobals mg) (hb : s₁.heap.Ns builtinsNs mb) (hbb : ∀ y : Str, y ≠ "__name__" → mb y = bootBuiltins y) (hlim : s₁.heap.NoLimit) (hg : s₁.gens = #[]) (ha : s₁.heap.get? a = some { cls := .type "list", data := .seq vs.toArray })
    (hr : Room k callerA) (F : ∀ base : Heap, K.In base → base.Ns mainGlobals mg → FnG P w K mg base CX k fa fd [x] sp) (bnd : ∀ (s : Shared) (u : Value), BindsTo s fd ⟨[u], []⟩ [(x, u)]) (hCX : ∀ H e s', CX [] H s₁ (fun _ _ _ => False) e s' → False)
    (hsp : sp [.ref a] H (fun v _ => v = .bl true) fun _ _ _ => False) (hO : Only H) (hok : HOk P w H s₁.heap) (hA : ∀ b, H b ≠ none → b = a) (hK : H a ≠ none → K.lookup a = none) :
    codeAny (model P w) callerA (.call (.ref fa) ⟨[.ref a], []⟩) (fun r s' => r = .ok (.ret (.bool true)) ∧ OldK s₁.heap s'.heap ∧ s'.os = s₁.os ∧ AllBare s'.gens) s₁ := by
  have free : ∀ {b : Addr}, (b = a → False) → H b = none := fun {b} n => Classical.byContradiction fun z => n (hA b z)
  have nsK : ∀ {b : Addr} {m : Str → Option Value}, s₁.heap.Ns b m → (hidT s₁.heap H).Ns b m := fun {b m} ⟨o, es, ep, e, d, r⟩ => ⟨o, es, ep, hidT_get e (free fun z => by subst z; rw [ha] at e; cases e; exact nomatch (show Data.seq vs.toArray _ = Data.dict es ep from d)), d, r⟩
  have hKb : K.In (hidT s₁.heap H) := fun b o e => hidT_get (KX b o e) (Classical.byContradiction fun z => by have y := hA b z; subst y; exact nomatch (hK z).symm.trans e)
  obtain ⟨mc, h1, h2⟩ := hlim
  have e0 : Env0 P w K mg (hidT s₁.heap H) callerA [] s₁ H := ⟨rfl, ⟨hKb, nsK hns, ⟨mb, nsK hb, hbb⟩, mc, nsK h1, h2⟩, fun _ _ e => of_hidT e, Nat.le_of_eq (hidT_size _ _), trivial, (fun _ z => nomatch z), hok, .of_eq hg⟩
  refine codeAny_mono ((F _ hKb (nsK hns)).go callerA [] s₁ H ⟨[.ref a], []⟩ [.ref a] [.ref a] _ _ rfl hr e0 (bnd s₁ (.ref a)) (.cons rfl .nil) hsp) fun r s' h => ?_
  match r, h with
  | .error e, h => exact (hCX H e s' h).elim
  | .ok .next, h => exact h.elim
  | .ok .brk, h => exact h.elim
  | .ok .cont, h => exact h.elim
  | .ok (.ret u), ⟨v, H', os, bare, un, hok', r', q⟩ =>
    obtain rfl : v = V.bl true := q
    obtain rfl : u = Value.bool true := r'
    refine ⟨rfl, OldK.of_keep fun b o e => ?_, os, bare⟩
    rcases hO b with z | ⟨ob, xs, z⟩
    · exact un.keep b o e z (fun y => nomatch y) (fun y => nomatch y)
    · obtain ⟨e1, _⟩ := hok b _ z; obtain ⟨e2, _⟩ := hok' b _ (un.frzs b ob _ z)
      exact (e.symm.trans e1) ▸ e2
theorem end_call (KX : K.In s₁.heap) (hns : s₁.heap.Ns mainGlobals mg) (hb : s₁.heap.Ns builtinsNs mb) (hbb : ∀ y : Str, y ≠ "__name__" → mb y = bootBuiltins y) (hlim : s₁.heap.NoLimit) (hg : s₁.gens = #[]) (ha : s₁.heap.get? a = some { cls := .type "list", data := .seq vs.toArray })
    (hi : IntsAre vs ns) (hl : ns.length ≤ sizeLine) (hr : Room k callerA) (F : ∀ base : Heap, K.In base → base.Ns mainGlobals mg → FnG P w K mg base CX k fa fd [x] sp) (bnd : ∀ (s : Shared) (u : Value), BindsTo s fd ⟨[u], []⟩ [(x, u)])
    (hsp : ∀ H : Hp, Only H → SqL K H a (ns.map V.int) → sp [.ref a] H (fun v _ => v = .bl true) fun _ _ _ => False) (hCX : ∀ H e s', CX [] H s₁ (fun _ _ _ => False) e s' → False) :
    codeAny (model P w) callerA (.call (.ref fa) ⟨[.ref a], []⟩) (fun r s' => r = .ok (.ret (.bool true)) ∧ OldK s₁.heap s'.heap ∧ s'.os = s₁.os ∧ AllBare s'.gens) s₁ := by
  have rv := vals_ints hi; have lenV := hi.length
  cases hk : K.lookup a with
  | some o =>
    cases Option.some.inj (ha.symm.trans (KX a o hk))
    exact end_core KX hns hb hbb hlim hg ha hr F bnd hCX (hsp (fun _ => none) (fun _ => .inl rfl) (.inr ⟨_, vs.toArray, _, hk, rfl, rfl, rfl, by rw [List.size_toArray, lenV]; exact hl, by simpa using rv⟩)) (fun _ => .inl rfl) (fun b u z => nomatch (show (none : Option HO) = some u from z)) (fun _ z => (z rfl).elim) fun z => (z rfl).elim
  | none =>
    have ne : ∀ {b : Addr}, b ≠ a → upd (fun _ => none) a (.frz { cls := .type "list", data := .seq vs.toArray } (.lst (ns.map V.int))) b = none := fun h => upd_ne h
    have hO : Only (upd (fun _ => none) a (.frz { cls := .type "list", data := .seq vs.toArray } (.lst (ns.map V.int)))) := fun b => by
      by_cases h : b = a
      · subst h; exact .inr ⟨_, _, upd_same⟩
      · exact .inl (ne h)
    refine end_core KX hns hb hbb hlim hg ha hr F bnd hCX (hsp _ hO (.inl (.inr ⟨_, upd_same⟩))) hO (fun b u z => ?_) (fun b z => Classical.byContradiction fun h => z (ne h)) fun _ => hk
    by_cases h : b = a
    · subst h; rw [upd_same] at z; cases z
      exact ⟨ha, by rw [List.length_map]; exact hl, vs, _, rv, ha⟩
    · exact nomatch (ne h).symm.trans z
end
theorem walk_ofG {l : PySem.W.OpenLaw} {n k : Nat} {q : Program} {loose : List Str} {XP : (Str → Option Value) → Heap → Prop} {YP : World → Heap → Prop} {d : DefRec} {CX : CXT} {x : Str} (hn : l.most = some n) (hn2 : n ≤ sizeLine) (hdf : d.params.defaults = []) (hr : Room k callerA)
    (F : ∀ (w : World) (mg : Str → Option Value) (fa : Addr) (h : Heap), YP w h → h.Ns mainGlobals mg → mg d.name = some (.ref fa) → ∃ (K : PySem.W.Frag) (fd : FuncData) (sp : Sp), K.In h ∧ (∀ (s : Shared) (u : Value), BindsTo s fd ⟨[u], []⟩ [(x, u)]) ∧
      (∀ (H : Hp) (a : Addr) (ns : List Int), ns.length ≤ n → Only H → SqL K H a (ns.map V.int) → sp [.ref a] H (fun v _ => v = .bl true) fun _ _ _ => False) ∧ ∀ base : Heap, K.In base → base.Ns mainGlobals mg → FnG l.prog w K mg base CX k fa fd [x] sp)
    (hCX : ∀ (H : Hp) (s : Shared) (e : Value) (s' : Shared), CX [] H s (fun _ _ _ => False) e s' → False) : PySem.W.WalkO q loose XP YP l.row.toRowW d [] (fun f vs => PySem.call f vs) := by
  refine Att.attach_call hn hdf ?_
  intro w s₀ s₁ mg mb fa o pm cd doc a vs ns G Y ho hd hcd hmg hobj hints hlen hg
  obtain ⟨K, fd, sp, KX, hb, hsp, hF⟩ := F w mg fa _ Y G.T.g hmg
  exact end_call KX G.T.g G.T.b G.T.builtins G.T.nolimit hg hobj hints (Nat.le_trans hlen hn2) hr hF hb (fun H hO hS => hsp H a ns hlen hO hS) (fun H => hCX H s₁)
end MB
set_option maxHeartbeats 2000000
namespace VL
open PySem PySem.Spec PyProof.Rows L2 MB
abbrev Fr := PySem.W.Frag
/-- data; ref: an object that is owned (it may change), or not looked into -/
inductive D where
  | non | bl (b : Bool) | int (i : Int) | str (x : Str) | ref (a : Addr) | lst (xs : List D) | tup (xs : List D) | ins (C : Addr) (fs : List (Str × D)) | ty (n : String) | scr (ns : List Int)
  | exc (a : Addr) (dx : Option Addr) (C : Addr) (fs : List (Str × D))
mutual
inductive RepD (K : Fr) (F : Hp) : V → D → Prop
  | non : RepD K F .non .non
  | bl (b : Bool) : RepD K F (.bl b) (.bl b)
  | int (i : Int) : RepD K F (.int i) (.int i)
  | str (x : Str) : RepD K F (.str x) (.str x)
  | ref (a : Addr) : RepD K F (.ref a) (.ref a)
  | ty (n : String) : RepD K F (.ty n) (.ty n)
  | scr {a : Addr} {ns : List Int} : SqL K F a (ns.map V.int) → RepD K F (.ref a) (.scr ns)
  | lst {a : Addr} {vs : List V} {ds : List D} : F a = some (.lst vs) → RepsD K F vs ds → RepD K F (.ref a) (.lst ds)
  | tup {a : Addr} {vs : List V} {ds : List D} : SqT K F a vs → RepsD K F vs ds → RepD K F (.ref a) (.tup ds)
  | ins {a C dx : Addr} {fs : List (Str × V)} {gs : List (Str × D)} : F a = some (.ins C dx fs) → RepF K F fs gs → RepD K F (.ref a) (.ins C gs)
  | excN (a C : Addr) : RepD K F (.ref a) (.exc a none C [])
  | excS {a d : Addr} (C : Addr) {fs : List (Str × V)} {gs : List (Str × D)} : F d = some (.xd fs) → RepF K F fs gs → RepD K F (.ref a) (.exc a (some d) C gs)
inductive RepsD (K : Fr) (F : Hp) : List V → List D → Prop
  | nil : RepsD K F [] []
  | cons {v : V} {d : D} {vs : List V} {ds : List D} : RepD K F v d → RepsD K F vs ds → RepsD K F (v :: vs) (d :: ds)
inductive RepF (K : Fr) (F : Hp) : List (Str × V) → List (Str × D) → Prop
  | nil : RepF K F [] []
  | cons {x : Str} {v : V} {d : D} {vs : List (Str × V)} {ds : List (Str × D)} : RepD K F v d → RepF K F vs ds → RepF K F ((x, v) :: vs) ((x, d) :: ds)
end
theorem sqT_same {K : Fr} {F F' : Hp} {a : Addr} {xs : List V} (e : Same F F') (h : SqT K F a xs) : SqT K F' a xs := by
  rcases h with (h | ⟨o, h⟩) | h
  · exact .inl (.inl (e _ _ h))
  · exact .inl (.inr ⟨o, e _ _ h⟩)
  · exact .inr h
section
variable {K : Fr} {F F' : Hp}
theorem RepD.mono (s : Same F F') {v : V} {d : D} (h : RepD K F v d) : RepD K F' v d :=
  RepD.rec (motive_1 := fun v d _ => RepD K F' v d) (motive_2 := fun vs ds _ => RepsD K F' vs ds) (motive_3 := fun vs ds _ => RepF K F' vs ds)
    .non (fun b => .bl b) (fun i => .int i) (fun x => .str x) (fun a => .ref a) (fun n => .ty n) (fun h => .scr (s.seq h)) (fun h _ r => .lst (s _ _ h) r) (fun h _ r => .tup (sqT_same s h) r) (fun h _ r => .ins (s _ _ h) r) (fun a C => .excN a C) (fun C _ _ h _ r => .excS C (s _ _ h) r) .nil (fun _ _ a b => .cons a b) .nil (fun _ _ a b => .cons a b) h
theorem RepsD.mono (s : Same F F') {v : List V} {d : List D} (h : RepsD K F v d) : RepsD K F' v d :=
  RepsD.rec (motive_1 := fun v d _ => RepD K F' v d) (motive_2 := fun vs ds _ => RepsD K F' vs ds) (motive_3 := fun vs ds _ => RepF K F' vs ds)
    .non (fun b => .bl b) (fun i => .int i) (fun x => .str x) (fun a => .ref a) (fun n => .ty n) (fun h => .scr (s.seq h)) (fun h _ r => .lst (s _ _ h) r) (fun h _ r => .tup (sqT_same s h) r) (fun h _ r => .ins (s _ _ h) r) (fun a C => .excN a C) (fun C _ _ h _ r => .excS C (s _ _ h) r) .nil (fun _ _ a b => .cons a b) .nil (fun _ _ a b => .cons a b) h
theorem RepF.mono (s : Same F F') {v : List (Str × V)} {d : List (Str × D)} (h : RepF K F v d) : RepF K F' v d :=
  RepF.rec (motive_1 := fun v d _ => RepD K F' v d) (motive_2 := fun vs ds _ => RepsD K F' vs ds) (motive_3 := fun vs ds _ => RepF K F' vs ds)
    .non (fun b => .bl b) (fun i => .int i) (fun x => .str x) (fun a => .ref a) (fun n => .ty n) (fun h => .scr (s.seq h)) (fun h _ r => .lst (s _ _ h) r) (fun h _ r => .tup (sqT_same s h) r) (fun h _ r => .ins (s _ _ h) r) (fun a C => .excN a C) (fun C _ _ h _ r => .excS C (s _ _ h) r) .nil (fun _ _ a b => .cons a b) .nil (fun _ _ a b => .cons a b) h
theorem RepsD.len : ∀ {vs : List V} {ds : List D}, RepsD K F vs ds → vs.length = ds.length
  | _, _, .nil => rfl
  | _, _, .cons _ t => by rw [List.length_cons, List.length_cons, RepsD.len t]
theorem RepsD.at : ∀ {vs : List V} {ds : List D} {i : Nat} {v : V}, RepsD K F vs ds → vs[i]? = some v → ∃ d, ds[i]? = some d ∧ RepD K F v d
  | _, _, i, v, .nil, h => by simp at h
  | _, _, 0, v, .cons a _, h => by simp at h; subst h; exact ⟨_, rfl, a⟩
  | _, _, i + 1, v, .cons _ t, h => by
    obtain ⟨d, e, r⟩ := RepsD.at (i := i) t (by simpa using h)
    exact ⟨d, by simpa using e, r⟩
theorem RepsD.at' : ∀ {vs : List V} {ds : List D} {i : Nat} {d : D}, RepsD K F vs ds → ds[i]? = some d → ∃ v, vs[i]? = some v ∧ RepD K F v d
  | _, _, i, v, .nil, h => by simp at h
  | _, _, 0, v, .cons a _, h => by simp at h; subst h; exact ⟨_, rfl, a⟩
  | _, _, i + 1, v, .cons _ t, h => by
    obtain ⟨d, e, r⟩ := RepsD.at' (i := i) t (by simpa using h)
    exact ⟨d, by simpa using e, r⟩
theorem RepsD.append : ∀ {vs ws : List V} {ds es : List D}, RepsD K F vs ds → RepsD K F ws es → RepsD K F (vs ++ ws) (ds ++ es)
  | _, _, _, _, .nil, s => s
  | _, _, _, _, .cons a t, s => .cons a (RepsD.append t s)
theorem RepsD.set {v : V} {d : D} (r : RepD K F v d) : ∀ {vs : List V} {ds : List D} (i : Nat), RepsD K F vs ds → RepsD K F (vs.set i v) (ds.set i d)
  | _, _, _, .nil => .nil
  | _, _, 0, .cons _ t => .cons r t
  | _, _, i + 1, .cons a t => .cons a (RepsD.set r i t)
theorem RepsD.drop : ∀ {vs : List V} {ds : List D} (n : Nat), RepsD K F vs ds → RepsD K F (vs.drop n) (ds.drop n)
  | _, _, 0, r => r
  | _, _, _ + 1, .nil => .nil
  | _, _, n + 1, .cons _ t => RepsD.drop n t
theorem RepsD.take : ∀ {vs : List V} {ds : List D} (n : Nat), RepsD K F vs ds → RepsD K F (vs.take n) (ds.take n)
  | _, _, 0, r => .nil
  | _, _, _ + 1, .nil => .nil
  | _, _, n + 1, .cons a t => .cons a (RepsD.take n t)
theorem RepsD.eraseIdx : ∀ {vs : List V} {ds : List D} (n : Nat), RepsD K F vs ds → RepsD K F (vs.eraseIdx n) (ds.eraseIdx n)
  | _, _, _, .nil => .nil
  | _, _, 0, .cons a t => t
  | _, _, n + 1, .cons a t => .cons a (RepsD.eraseIdx n t)
theorem RepsD.reverse : ∀ {vs : List V} {ds : List D}, RepsD K F vs ds → RepsD K F vs.reverse ds.reverse
  | _, _, .nil => .nil
  | _, _, .cons a t => by
    rw [List.reverse_cons, List.reverse_cons]
    exact RepsD.append (RepsD.reverse t) (.cons a .nil)
theorem RepF.lookup {f : Str} : ∀ {fs : List (Str × V)} {gs : List (Str × D)} {d : D}, RepF K F fs gs → gs.lookup f = some d → ∃ v, fs.lookup f = some v ∧ RepD K F v d
  | _, _, d, .nil, h => by cases h
  | _, _, d, .cons (x := x) a t, h => by
    rw [List.lookup_cons] at h ⊢
    split at h
    · cases h; exact ⟨_, rfl, a⟩
    · exact RepF.lookup t h
theorem repsD_ints : ∀ {vs : List V} {ns : List Int}, RepsD K F vs (ns.map D.int) → vs = ns.map V.int
  | _, [], h => by cases h; rfl
  | _, n :: ns, h => by
    cases h with
    | cons a t => cases a; rw [repsD_ints t]; rfl
theorem repsD_int' : ∀ {ns : List Int}, RepsD K F (ns.map V.int) (ns.map D.int)
  | [] => .nil
  | n :: ns => .cons (.int n) repsD_int'
theorem repsD_bls : ∀ {vs : List V} {ns : List Bool}, RepsD K F vs (ns.map D.bl) → vs = ns.map V.bl
  | _, [], h => by cases h; rfl
  | _, n :: ns, h => by
    cases h with
    | cons a t => cases a; rw [repsD_bls t]; rfl
end
inductive OD where
  | lst (xs : List D) | dk (kvs : List (Key × D)) | set (S : Int → Bool) (n : Nat) | hand | ins (C : Addr) (fs : List (Str × D))
  /-- a dict while a loop walks it -/
  | fdk (od : Obj) (vs : List (Key × V)) (kvs : List (Key × D))
abbrev Oh := Addr → Option OD
def updO (O : Oh) (a : Addr) (o : OD) : Oh := fun b => if b = a then some o else O b
def delO (O : Oh) (a : Addr) : Oh := fun b => if b = a then none else O b
theorem updO_same {O : Oh} {a : Addr} {o : OD} : updO O a o a = some o := by unfold updO; rw [if_pos rfl]
theorem updO_ne {O : Oh} {a b : Addr} {o : OD} (h : b ≠ a) : updO O a o b = O b := by unfold updO; rw [if_neg h]
theorem delO_same {O : Oh} {a : Addr} : delO O a a = none := by unfold delO; rw [if_pos rfl]
theorem delO_ne {O : Oh} {a b : Addr} (h : b ≠ a) : delO O a b = O b := by unfold delO; rw [if_neg h]
theorem updO_updO {O : Oh} {a : Addr} {o u : OD} : updO (updO O a o) a u = updO O a u := by
  funext b; unfold updO; split <;> rfl
theorem delO_updO {O : Oh} {a : Addr} {o : OD} (h : O a = none) : delO (updO O a o) a = O := by
  funext b; unfold delO updO; split
  · rename_i e; rw [e, h]
  · rfl
inductive RepK (K : Fr) (F : Hp) : List (Key × V) → List (Key × D) → Prop
  | nil : RepK K F [] []
  | cons {x : Key} {v : V} {d : D} {vs : List (Key × V)} {ds : List (Key × D)} : RepD K F v d → RepK K F vs ds → RepK K F ((x, v) :: vs) ((x, d) :: ds)
theorem RepK.mono {K : Fr} {F F' : Hp} (s : Same F F') : ∀ {vs : List (Key × V)} {ds : List (Key × D)}, RepK K F vs ds → RepK K F' vs ds
  | _, _, .nil => .nil
  | _, _, .cons a t => .cons (a.mono s) (RepK.mono s t)
/-- the hand at p, its cells at l in the part that stays -/
def HandO (F H : Hp) (p : Addr) : Prop := ∃ (l : Addr) (ns : List Int) (i rest st : Int), H p = some (.lst [.ref l, .int i, .int rest, .int st]) ∧ F l = some (.lst (ns.map V.int)) ∧ 0 ≤ i ∧ 0 ≤ rest ∧ (∀ n ∈ ns, 0 ≤ n) ∧ ns.length ≤ 63
def RepO (K : Fr) (F H : Hp) (a : Addr) : OD → Prop
  | .lst ds => ∃ vs, H a = some (.lst vs) ∧ RepsD K F vs ds
  | .dk kvs => ∃ vs, H a = some (.dK vs) ∧ RepK K F vs kvs
  | .set S n => H a = some (.set S n)
  | .hand => HandO F H a
  | .ins C gs => ∃ dx fs, H a = some (.ins C dx fs) ∧ RepF K F fs gs
  | .fdk od vs kvs => H a = some (.frz od (.dK vs)) ∧ RepK K F vs kvs
structure StO (K : Fr) (F : Hp) (O : Oh) (H : Hp) : Prop where
  same : Same F H
  own : ∀ a o, O a = some o → F a = none ∧ RepO K F H a o
section
variable {K : Fr} {F F' H H' : Hp} {O : Oh} {a p : Addr} {o : OD}
theorem RepO.move (s : Same F F') (e : H' a = H a) (h : RepO K F H a o) : RepO K F' H' a o := by
  cases o with
  | lst ds => obtain ⟨vs, h1, h2⟩ := h; exact ⟨vs, e.trans h1, h2.mono s⟩
  | dk kvs => obtain ⟨vs, h1, h2⟩ := h; exact ⟨vs, e.trans h1, h2.mono s⟩
  | set S n => exact e.trans h
  | hand => obtain ⟨l, ns, i, rest, st, h1, h2, h3⟩ := h; exact ⟨l, ns, i, rest, st, e.trans h1, s _ _ h2, h3⟩
  | ins C gs => obtain ⟨dx, fs, h1, h2⟩ := h; exact ⟨dx, fs, e.trans h1, h2.mono s⟩
  | fdk od vs kvs => exact ⟨e.trans h.1, h.2.mono s⟩
theorem RepO.some (h : RepO K F H a o) : ∃ u, H a = some u := by
  cases o with
  | lst ds => obtain ⟨vs, h1, h2⟩ := h; exact ⟨_, h1⟩
  | dk kvs => obtain ⟨vs, h1, h2⟩ := h; exact ⟨_, h1⟩
  | set S n => exact ⟨_, h⟩
  | hand => obtain ⟨l, ns, i, rest, st, h1, h2, h3⟩ := h; exact ⟨_, h1⟩
  | ins C gs => obtain ⟨dx, fs, h1, h2⟩ := h; exact ⟨_, h1⟩
  | fdk od vs kvs => exact ⟨_, h.1⟩
theorem StO.fresh (s : StO K F O H) (h : H p = none) : O p = none ∧ F p = none := by
  refine ⟨?_, s.same.free h⟩
  cases e : O p with
  | none => rfl
  | some o =>
    obtain ⟨u, q⟩ := (s.own p o e).2.some
    rw [h] at q; cases q
theorem Same.both {u : HO} (s : Same F H) (h : F p = none) : Same (upd F p u) (upd H p u) := fun b o e => by
  by_cases hb : b = p
  · subst hb; rw [upd_same] at e ⊢; exact e
  · rw [upd_ne hb] at e ⊢; exact s b o e
/-- a new object that stays -/
theorem StO.newF {u : HO} (s : StO K F O H) (h : H p = none) : StO K (upd F p u) O (upd H p u) := by
  have f := s.fresh h
  refine ⟨Same.both s.same f.2, fun a o e => ?_⟩
  have ne : a ≠ p := fun z => by subst z; rw [f.1] at e; cases e
  obtain ⟨q1, q2⟩ := s.own a o e
  exact ⟨(upd_ne ne).trans q1, q2.move (MB.Same.upd f.2) (upd_ne ne)⟩
/-- a new object that may change -/
theorem StO.newO {u : HO} (s : StO K F O H) (h : H p = none) (r : RepO K F (upd H p u) p o) : StO K F (updO O p o) (upd H p u) := by
  have f := s.fresh h
  refine ⟨s.same.trans (MB.Same.upd h), fun a o' e => ?_⟩
  by_cases ne : a = p
  · subst ne; rw [updO_same] at e; cases e; exact ⟨f.2, r⟩
  · rw [updO_ne ne] at e
    obtain ⟨q1, q2⟩ := s.own a o' e
    exact ⟨q1, q2.move (Same.refl F) (upd_ne ne)⟩
theorem StO.write {u : HO} {o' : OD} (s : StO K F O H) (h : O p = some o) (r : RepO K F (upd H p u) p o') : StO K F (updO O p o') (upd H p u) := by
  have f := s.own p o h
  refine ⟨fun b x e => ?_, fun a o'' e => ?_⟩
  · rw [upd_ne (ne_of_none e f.1)]; exact s.same b x e
  · by_cases ne : a = p
    · subst ne; rw [updO_same] at e; cases e; exact ⟨f.1, r⟩
    · rw [updO_ne ne] at e
      obtain ⟨q1, q2⟩ := s.own a o'' e
      exact ⟨q1, q2.move (Same.refl F) (upd_ne ne)⟩
theorem StO.del (s : StO K F O H) : StO K F (delO O p) H := ⟨s.same, fun a o e => by
  by_cases ne : a = p
  · subst ne; rw [delO_same] at e; cases e
  · rw [delO_ne ne] at e; exact s.own a o e⟩
/-- an owned list stays from now on -/
theorem StO.freeze {ds : List D} (s : StO K F O H) (h : O p = some (.lst ds)) : ∃ F', Same F F' ∧ StO K F' (delO O p) H ∧ RepD K F' (.ref p) (.lst ds) := by
  obtain ⟨f, vs, h1, h2⟩ := s.own p _ h
  have sm : Same F (upd F p (.lst vs)) := MB.Same.upd f
  refine ⟨upd F p (.lst vs), sm, ⟨fun b o e => ?_, fun a o e => ?_⟩, .lst upd_same (h2.mono sm)⟩
  · by_cases hb : b = p
    · subst hb; rw [upd_same] at e; cases e; exact h1
    · rw [upd_ne hb] at e; exact s.same b o e
  · by_cases ne : a = p
    · subst ne; rw [delO_same] at e; cases e
    · rw [delO_ne ne] at e
      obtain ⟨q1, q2⟩ := s.own a o e
      exact ⟨(upd_ne ne).trans q1, q2.move sm rfl⟩
end
abbrev En := List (Option D)
def RepS (K : Fr) (F : Hp) (σ : L2.St) (ρ : En) : Prop := σ.length = ρ.length ∧ ∀ (i : Nat) (d : D), ρ[i]? = some (some d) → ∃ v, σ[i]? = some (some v) ∧ RepD K F v d
section
variable {K : Fr} {F F' : Hp} {σ : L2.St} {ρ : En}
theorem RepS.mono (s : Same F F') (h : RepS K F σ ρ) : RepS K F' σ ρ := ⟨h.1, fun i d e => by
  obtain ⟨v, a, b⟩ := h.2 i d e
  exact ⟨v, a, b.mono s⟩⟩
theorem RepS.set (h : RepS K F σ ρ) (i : Nat) {v : V} {d : D} (r : RepD K F v d) : RepS K F (σ.set i (some v)) (ρ.set i (some d)) := by
  refine ⟨by rw [List.length_set, List.length_set, h.1], fun j e q => ?_⟩
  by_cases hj : i = j
  · subst hj
    rw [List.getElem?_set] at q ⊢
    rw [if_pos rfl] at q ⊢
    split at q
    · rename_i hl
      rw [if_pos (by rw [h.1]; exact hl)]
      cases q; exact ⟨v, rfl, r⟩
    · cases q
  · rw [List.getElem?_set_ne hj] at q ⊢
    exact h.2 j e q
theorem RepS.forget (h : RepS K F σ ρ) (i : Nat) (x : Option V) : RepS K F (σ.set i x) (ρ.set i none) := by
  refine ⟨by rw [List.length_set, List.length_set, h.1], fun j e q => ?_⟩
  by_cases hj : i = j
  · subst hj
    rw [List.getElem?_set] at q
    rw [if_pos rfl] at q
    split at q
    · cases q
    · cases q
  · rw [List.getElem?_set_ne hj] at q ⊢
    exact h.2 j e q
theorem repS_start {N : List Str} {vs : List V} {ds : List D} {ρ : En} (r : RepsD K F vs ds) (e : ρ = ds.map some ++ List.replicate (N.length - ds.length) none) (hs : start N vs = vs.map some ++ List.replicate (N.length - vs.length) none) : RepS K F (start N vs) ρ := by
  subst e
  rw [hs]
  have el := r.len
  refine ⟨by simp [el], fun i d q => ?_⟩
  by_cases hi : i < ds.length
  · rw [List.getElem?_append_left (by simpa using hi)] at q
    rw [List.getElem?_append_left (by simp [el, hi])]
    rw [List.getElem?_map] at q ⊢
    cases e1 : ds[i]? with
    | none => rw [e1] at q; cases q
    | some d' =>
      rw [e1] at q; cases q
      obtain ⟨v, a, b⟩ := r.at' e1
      exact ⟨v, by rw [a]; rfl, b⟩
  · rw [List.getElem?_append_right (by simpa using Nat.le_of_not_lt hi)] at q
    rw [List.getElem?_replicate] at q
    split at q <;> cases q
end
end VL
set_option maxHeartbeats 2000000
namespace VL
open PySem PySem.Spec PyProof.Rows L2 MB
/-- where one stands: the written part, the wish for an exception, what is known of one -/
structure Cz where
  K : Fr
  E0 : L2.St → XK
  Ex : Addr → List (Str × D) → En → Oh → Prop
def RepX (K : Fr) (F H : Hp) (dx : Option Addr) (fs : List (Str × D)) : Prop := match dx with
  | none => fs = []
  | some d => ∃ vs, H d = some (.xd vs) ∧ RepF K F vs fs ∧ fs ≠ []
def XL (c : Cz) (F : Hp) : Prop := ∀ (F' H' : Hp) (O' : Oh) (σ' : L2.St) (ρ' : En) (C : Addr) (dx : Option Addr) (fs : List (Str × D)), Same F F' → RepS c.K F' σ' ρ' → StO c.K F' O' H' → RepX c.K F' H' dx fs → c.Ex C fs ρ' O' → c.E0 σ' (.ref C) dx H'
theorem XL.mono {c : Cz} {F F' : Hp} (x : XL c F) (s : Same F F') : XL c F' := fun F2 H2 O2 σ2 ρ2 C dx fs s2 => x F2 H2 O2 σ2 ρ2 C dx fs (s.trans s2)
def KQ (K : Fr) (F : Hp) (Q : D → Oh → Prop) (Q' : VK) : Prop := ∀ (F' H' : Hp) (O' : Oh) (v : V) (d : D), Same F F' → StO K F' O' H' → RepD K F' v d → Q d O' → Q' v H'
theorem KQ.mono {K : Fr} {F F' : Hp} {Q : D → Oh → Prop} {Q' : VK} (k : KQ K F Q Q') (s : Same F F') : KQ K F' Q Q' := fun F2 H2 O2 v d s2 => k F2 H2 O2 v d (s.trans s2)
def KT (K : Fr) (F : Hp) (Q : Bool → Oh → Prop) (Q' : Bool → Hp → Prop) : Prop := ∀ (F' H' : Hp) (O' : Oh) (b : Bool), Same F F' → StO K F' O' H' → Q b O' → Q' b H'
theorem KT.mono {K : Fr} {F F' : Hp} {Q : Bool → Oh → Prop} {Q' : Bool → Hp → Prop} (k : KT K F Q Q') (s : Same F F') : KT K F' Q Q' := fun F2 H2 O2 v s2 => k F2 H2 O2 v (s.trans s2)
def KA (K : Fr) (F : Hp) (Q : List D → Oh → Prop) (Q' : List V → Hp → Prop) : Prop := ∀ (F' H' : Hp) (O' : Oh) (vs : List V) (ds : List D), Same F F' → StO K F' O' H' → RepsD K F' vs ds → Q ds O' → Q' vs H'
theorem KA.mono {K : Fr} {F F' : Hp} {Q : List D → Oh → Prop} {Q' : List V → Hp → Prop} (k : KA K F Q Q') (s : Same F F') : KA K F' Q Q' := fun F2 H2 O2 vs ds s2 => k F2 H2 O2 vs ds (s.trans s2)
/-- a new list -/
def KN (K : Fr) (F : Hp) (Q : List D → Oh → Prop) (Q' : VK) : Prop := ∀ (F' H' : Hp) (O' : Oh) (p : Addr) (vs : List V) (ds : List D), Same F F' → StO K F' O' H' → H' p = none → RepsD K F' vs ds → Q ds O' → Q' (.ref p) (upd H' p (.lst vs))
theorem KN.mono {K : Fr} {F F' : Hp} {Q : List D → Oh → Prop} {Q' : VK} (k : KN K F Q Q') (s : Same F F') : KN K F' Q Q' := fun F2 H2 O2 p vs ds s2 => k F2 H2 O2 p vs ds (s.trans s2)
def LE (c : Cz) (te : TE) (ρ : En) (O : Oh) (Q : D → Oh → Prop) : Prop := ∀ (F H : Hp) (σ : L2.St), RepS c.K F σ ρ → StO c.K F O H → XL c F → ∀ Q' : VK, KQ c.K F Q Q' → te σ H Q'
def LT (c : Cz) (te : TT) (ρ : En) (O : Oh) (Q : Bool → Oh → Prop) : Prop := ∀ (F H : Hp) (σ : L2.St), RepS c.K F σ ρ → StO c.K F O H → XL c F → ∀ Q' : Bool → Hp → Prop, KT c.K F Q Q' → te σ H Q'
def LA (c : Cz) (te : TA) (ρ : En) (O : Oh) (Q : List D → Oh → Prop) : Prop := ∀ (F H : Hp) (σ : L2.St), RepS c.K F σ ρ → StO c.K F O H → XL c F → ∀ Q' : List V → Hp → Prop, KA c.K F Q Q' → te σ H Q'
def LN (c : Cz) (te : TE) (ρ : En) (O : Oh) (Q : List D → Oh → Prop) : Prop := ∀ (F H : Hp) (σ : L2.St), RepS c.K F σ ρ → StO c.K F O H → XL c F → ∀ Q' : VK, KN c.K F Q Q' → te σ H Q'
/-- an operator by values; a call; a one-place one -/
def O2R (c : Cz) (r : R2) (x y : D) (O : Oh) (Q : D → Oh → Prop) : Prop := ∀ (F H : Hp) (v w : V), StO c.K F O H → RepD c.K F v x → RepD c.K F w y → XL c F → ∀ Q' : VK, KQ c.K F Q Q' → r v w H Q'
def O2N (c : Cz) (r : R2) (x y : D) (O : Oh) (Q : List D → Oh → Prop) : Prop := ∀ (F H : Hp) (v w : V), StO c.K F O H → RepD c.K F v x → RepD c.K F w y → XL c F → ∀ Q' : VK, KN c.K F Q Q' → r v w H Q'
def O1R (c : Cz) (r : V → Hp → VK → Prop) (x : D) (O : Oh) (Q : D → Oh → Prop) : Prop := ∀ (F H : Hp) (v : V), StO c.K F O H → RepD c.K F v x → XL c F → ∀ Q' : VK, KQ c.K F Q Q' → r v H Q'
def CAR (c : Cz) (r : List V → Hp → VK → Prop) (xs : List D) (O : Oh) (Q : D → Oh → Prop) : Prop := ∀ (F H : Hp) (vs : List V), StO c.K F O H → RepsD c.K F vs xs → XL c F → ∀ Q' : VK, KQ c.K F Q Q' → r vs H Q'
def CAN (c : Cz) (r : List V → Hp → VK → Prop) (xs : List D) (O : Oh) (Q : List D → Oh → Prop) : Prop := ∀ (F H : Hp) (vs : List V), StO c.K F O H → RepsD c.K F vs xs → XL c F → ∀ Q' : VK, KN c.K F Q Q' → r vs H Q'
/-- a method of x -/
def MTR (c : Cz) (r : V → List V → Hp → VK → Prop) (x : D) (xs : List D) (O : Oh) (Q : D → Oh → Prop) : Prop := ∀ (F H : Hp) (v : V) (vs : List V), StO c.K F O H → RepD c.K F v x → RepsD c.K F vs xs → XL c F → ∀ Q' : VK, KQ c.K F Q Q' → r v vs H Q'
def dOf : V → Option D
  | .non => some .non | .bl b => some (.bl b) | .int i => some (.int i) | .str x => some (.str x) | .ref a => some (.ref a) | .ty n => some (.ty n) | _ => none
theorem dOf_rep {K : Fr} {F : Hp} {v : V} {d : D} (h : dOf v = some d) : RepD K F v d := by
  cases v <;> simp only [dOf, Option.some.injEq, reduceCtorEq] at h <;> subst h <;> constructor
/-- the items of a list that may change or not -/
def asL (O : Oh) : D → Option (List D)
  | .lst xs => some xs
  | .ref p => match O p with
    | some (.lst xs) => some xs
    | _ => none
  | _ => none
def asT : D → Option (List D)
  | .tup xs => some xs
  | _ => none
def asS (O : Oh) : D → Option (List D)
  | .tup xs => some xs
  | x => asL O x
theorem asL_own {O : Oh} {p : Addr} {xs : List D} (h : O p = some (.lst xs)) : asL O (.ref p) = some xs := by
  show (match O p with | some (.lst xs) => some xs | _ => none) = some xs
  rw [h]
theorem asS_own {O : Oh} {p : Addr} {xs : List D} (h : O p = some (.lst xs)) : asS O (.ref p) = some xs := asL_own h
theorem asL_sq {K : Fr} {F H : Hp} {O : Oh} {x : D} {xs : List D} {v : V} (s : StO K F O H) (r : RepD K F v x) (h : asL O x = some xs) : ∃ p vs, v = .ref p ∧ H p = some (.lst vs) ∧ RepsD K F vs xs := by
  cases x with
  | lst ys =>
    cases h
    cases r with
    | lst a b => exact ⟨_, _, rfl, s.same _ _ a, b⟩
  | ref p =>
    have h : (match O p with | some (.lst xs) => some xs | _ => none) = some xs := h
    cases r
    cases e : O p with
    | none => rw [e] at h; cases h
    | some o =>
      rw [e] at h
      cases o <;> cases h
      obtain ⟨_, vs, a, b⟩ := s.own p _ e
      exact ⟨p, vs, rfl, a, b⟩
  | _ => cases h
theorem asS_sq {K : Fr} {F H : Hp} {O : Oh} {x : D} {xs : List D} {v : V} (s : StO K F O H) (r : RepD K F v x) (h : asS O x = some xs) : ∃ p vs, v = .ref p ∧ (SqL K H p vs ∨ SqT K H p vs) ∧ RepsD K F vs xs := by
  cases x with
  | tup ys =>
    cases h
    cases r with
    | tup a b => exact ⟨_, _, rfl, .inr (sqT_same s.same a), b⟩
  | lst ys =>
    obtain ⟨p, vs, a, b, d⟩ := asL_sq s r (x := .lst ys) h
    exact ⟨p, vs, a, .inl (.of b), d⟩
  | ref p =>
    obtain ⟨p, vs, a, b, d⟩ := asL_sq s r (x := .ref p) h
    exact ⟨p, vs, a, .inl (.of b), d⟩
  | _ => cases h
section
variable {c : Cz} {ρ : En} {O : Oh} {Q : D → Oh → Prop}
theorem l_var {i : Nat} {d : D} (h : ρ[i]? = some (some d)) (q : Q d O) : LE c (tVar i) ρ O Q := fun F H σ r s x Q' k => by
  obtain ⟨v, e, rd⟩ := r.2 i d h
  exact ⟨v, e, k F H O v d (Same.refl F) s rd q⟩
theorem l_c {v : V} {d : D} (h : dOf v = some d) (q : Q d O) : LE c (tC v) ρ O Q := fun F H σ r s x Q' k => k F H O v d (Same.refl F) s (dOf_rep h) q
/-- a written tuple -/
theorem l_ctup {a : Addr} {vs : List V} {ds : List D} (h : ∀ H, SqT c.K H a vs) (e : ∀ F, RepsD c.K F vs ds) (q : Q (.tup ds) O) : LE c (tC (.ref a)) ρ O Q := fun F H σ r s x Q' k => k F H O _ _ (Same.refl F) s (.tup (h F) (e F)) q
theorem l_op {r : R2} {ta tb : TE} (q : LE c ta ρ O fun x O1 => LE c tb ρ O1 fun y O2 => O2R c r x y O2 Q) : LE c (tOp r ta tb) ρ O Q := fun F H σ rs s x Q' k =>
  q F H σ rs s x _ fun F1 H1 O1 v d s1 st1 rd1 q1 => q1 F1 H1 σ (rs.mono s1) st1 (x.mono s1) _ fun F2 H2 O2 w e s2 st2 rd2 q2 => q2 F2 H2 v w st2 (rd1.mono s2) rd2 (x.mono (s1.trans s2)) Q' (k.mono (s1.trans s2))
theorem ln_op {r : R2} {ta tb : TE} {Q : List D → Oh → Prop} (q : LE c ta ρ O fun x O1 => LE c tb ρ O1 fun y O2 => O2N c r x y O2 Q) : LN c (tOp r ta tb) ρ O Q := fun F H σ rs s x Q' k =>
  q F H σ rs s x _ fun F1 H1 O1 v d s1 st1 rd1 q1 => q1 F1 H1 σ (rs.mono s1) st1 (x.mono s1) _ fun F2 H2 O2 w e s2 st2 rd2 q2 => q2 F2 H2 v w st2 (rd1.mono s2) rd2 (x.mono (s1.trans s2)) Q' (k.mono (s1.trans s2))
theorem l_un {r : V → Hp → VK → Prop} {ta : TE} (q : LE c ta ρ O fun x O1 => O1R c r x O1 Q) : LE c (tUn r ta) ρ O Q := fun F H σ rs s x Q' k =>
  q F H σ rs s x _ fun F1 H1 O1 v d s1 st1 rd1 q1 => q1 F1 H1 v st1 rd1 (x.mono s1) Q' (k.mono s1)
theorem l_cb {r : List V → Hp → VK → Prop} {ta : TA} (q : LA c ta ρ O fun xs O1 => CAR c r xs O1 Q) : LE c (tCB r ta) ρ O Q := fun F H σ rs s x Q' k =>
  q F H σ rs s x _ fun F1 H1 O1 vs ds s1 st1 rd1 q1 => q1 F1 H1 vs st1 rd1 (x.mono s1) Q' (k.mono s1)
theorem ln_cb {r : List V → Hp → VK → Prop} {ta : TA} {Q : List D → Oh → Prop} (q : LA c ta ρ O fun xs O1 => CAN c r xs O1 Q) : LN c (tCB r ta) ρ O Q := fun F H σ rs s x Q' k =>
  q F H σ rs s x _ fun F1 H1 O1 vs ds s1 st1 rd1 q1 => q1 F1 H1 vs st1 rd1 (x.mono s1) Q' (k.mono s1)
theorem la_nil {Q : List D → Oh → Prop} (q : Q [] O) : LA c tNil ρ O Q := fun F H σ rs s x Q' k => k F H O _ _ (Same.refl F) s .nil q
theorem la_cons {ta : TE} {tr : TA} {Q : List D → Oh → Prop} (q : LE c ta ρ O fun x O1 => LA c tr ρ O1 fun xs O2 => Q (x :: xs) O2) : LA c (tCons ta tr) ρ O Q := fun F H σ rs s x Q' k =>
  q F H σ rs s x _ fun F1 H1 O1 v d s1 st1 rd1 q1 => q1 F1 H1 σ (rs.mono s1) st1 (x.mono s1) _ fun F2 H2 O2 vs ds s2 st2 rd2 q2 => k F2 H2 O2 _ _ (s1.trans s2) st2 (.cons (rd1.mono s2) rd2) q2
theorem l_tup {ta : TA} (q : LA c ta ρ O fun xs O1 => xs.length ≤ sizeLine ∧ Q (.tup xs) O1) : LE c (tTup ta) ρ O Q := fun F H σ rs s x Q' k =>
  q F H σ rs s x _ fun F1 H1 O1 vs ds s1 st1 rd1 q1 => ⟨by rw [rd1.len]; exact q1.1, fun p hp => by
    have sm : Same F1 (upd F1 p (.tup vs)) := MB.Same.upd (st1.fresh hp).2
    exact k _ _ O1 _ _ (s1.trans sm) (st1.newF hp) (.tup (.of upd_same) (rd1.mono sm)) q1.2⟩
theorem ln_lst {ta : TA} {Q : List D → Oh → Prop} (q : LA c ta ρ O fun xs O1 => xs.length ≤ sizeLine ∧ Q xs O1) : LN c (tLst ta) ρ O Q := fun F H σ rs s x Q' k =>
  q F H σ rs s x _ fun F1 H1 O1 vs ds s1 st1 rd1 q1 => ⟨by rw [rd1.len]; exact q1.1, fun p hp => k F1 H1 O1 p vs ds s1 st1 hp rd1 q1.2⟩
/-- a new list that stays as it is -/
theorem l_frz {te : TE} (q : LN c te ρ O fun xs O1 => Q (.lst xs) O1) : LE c te ρ O Q := fun F H σ rs s x Q' k =>
  q F H σ rs s x _ fun F1 H1 O1 p vs ds s1 st1 hp rd1 q1 => by
    have sm : Same F1 (upd F1 p (.lst vs)) := MB.Same.upd (st1.fresh hp).2
    exact k _ _ O1 _ _ (s1.trans sm) (st1.newF hp) (.lst upd_same (rd1.mono sm)) q1
/-- one that may change -/
def tOwn (t : TE) : TE := t
theorem l_own {te : TE} (q : LN c te ρ O fun xs O1 => ∀ p, O1 p = none → Q (.ref p) (updO O1 p (.lst xs))) : LE c (tOwn te) ρ O Q := fun F H σ rs s x Q' k =>
  q F H σ rs s x _ fun F1 H1 O1 p vs ds s1 st1 hp rd1 q1 =>
    k F1 _ _ _ _ s1 (st1.newO (o := .lst ds) hp ⟨vs, upd_same, rd1⟩) (.ref p) (q1 p (st1.fresh hp).1)
theorem pe_own {X : Cx} {e : Expr} {t : TE} (h : PE X e t) : PE X e (tOwn t) := h
theorem l_test {t : TE} {Q : Bool → Oh → Prop} (q : LE c t ρ O fun x O1 => ∃ b, x = .bl b ∧ Q b O1) : LT c (tTest t) ρ O Q := fun F H σ rs s x Q' k =>
  q F H σ rs s x _ fun F1 H1 O1 v d s1 st1 rd1 ⟨b, e, q1⟩ => by
    subst e; cases rd1; exact ⟨b, rfl, k F1 H1 O1 b s1 st1 q1⟩
theorem l_tB {t : TE} {Q : Bool → Oh → Prop} (q : LE c t ρ O fun x O1 => ∃ b, x = .bl b ∧ Q b O1) : LT c (tB t) ρ O Q := fun F H σ rs s x Q' k =>
  q F H σ rs s x _ fun F1 H1 O1 v d s1 st1 rd1 ⟨b, e, q1⟩ => by
    subst e; cases rd1; exact ⟨b, rfl, k F1 H1 O1 b s1 st1 q1⟩
theorem l_and {t u : TT} {Q : Bool → Oh → Prop} (q : LT c t ρ O fun b O1 => if b = true then LT c u ρ O1 Q else Q false O1) : LT c (tAnd t u) ρ O Q := fun F H σ rs s x Q' k =>
  q F H σ rs s x _ fun F1 H1 O1 b s1 st1 q1 => by
    cases b with
    | true => exact iteT ((iteTo q1) F1 H1 σ (rs.mono s1) st1 (x.mono s1) _ (k.mono s1))
    | false => exact iteF (k F1 H1 O1 _ s1 st1 (iteFo q1))
where
  iteTo {A B : Prop} (h : if true = true then A else B) : A := by rwa [if_pos rfl] at h
  iteFo {A B : Prop} (h : if false = true then A else B) : B := by rwa [if_neg Bool.false_ne_true] at h
theorem ifT {A B : Prop} (h : if true = true then A else B) : A := by rwa [if_pos rfl] at h
theorem ifF {A B : Prop} (h : if false = true then A else B) : B := by rwa [if_neg Bool.false_ne_true] at h
theorem l_or {t u : TT} {Q : Bool → Oh → Prop} (q : LT c t ρ O fun b O1 => if b = true then Q true O1 else LT c u ρ O1 Q) : LT c (tOr t u) ρ O Q := fun F H σ rs s x Q' k =>
  q F H σ rs s x _ fun F1 H1 O1 b s1 st1 q1 => by
    cases b with
    | false => exact iteF ((ifF q1) F1 H1 σ (rs.mono s1) st1 (x.mono s1) _ (k.mono s1))
    | true => exact iteT (k F1 H1 O1 _ s1 st1 (ifT q1))
theorem l_not {t : TT} {Q : Bool → Oh → Prop} (q : LT c t ρ O fun b O1 => Q (!b) O1) : LT c (tNot t) ρ O Q := fun F H σ rs s x Q' k =>
  q F H σ rs s x _ fun F1 H1 O1 b s1 st1 q1 => k F1 H1 O1 _ s1 st1 q1
theorem l_andV {ta tb : TE} (q : LE c ta ρ O fun x O1 => ∃ b, x = .bl b ∧ if b = true then LE c tb ρ O1 Q else Q (.bl false) O1) : LE c (tAndV ta tb) ρ O Q := fun F H σ rs s x Q' k =>
  q F H σ rs s x _ fun F1 H1 O1 v d s1 st1 rd1 ⟨b, e, q1⟩ => by
    subst e; cases rd1
    refine ⟨b, rfl, ?_⟩
    cases b with
    | true => exact iteT ((ifT q1) F1 H1 σ (rs.mono s1) st1 (x.mono s1) _ (k.mono s1))
    | false => exact iteF (k F1 H1 O1 _ _ s1 st1 (.bl false) (ifF q1))
theorem l_orV {ta tb : TE} (q : LE c ta ρ O fun x O1 => ∃ b, x = .bl b ∧ if b = true then Q (.bl true) O1 else LE c tb ρ O1 Q) : LE c (tOrV ta tb) ρ O Q := fun F H σ rs s x Q' k =>
  q F H σ rs s x _ fun F1 H1 O1 v d s1 st1 rd1 ⟨b, e, q1⟩ => by
    subst e; cases rd1
    refine ⟨b, rfl, ?_⟩
    cases b with
    | false => exact iteF ((ifF q1) F1 H1 σ (rs.mono s1) st1 (x.mono s1) _ (k.mono s1))
    | true => exact iteT (k F1 H1 O1 _ _ s1 st1 (.bl true) (ifT q1))
theorem l_notV {ta : TE} (q : LE c ta ρ O fun x O1 => ∃ b, x = .bl b ∧ Q (.bl (!b)) O1) : LE c (tNotV ta) ρ O Q := fun F H σ rs s x Q' k =>
  q F H σ rs s x _ fun F1 H1 O1 v d s1 st1 rd1 ⟨b, e, q1⟩ => by
    subst e; cases rd1
    exact ⟨b, rfl, k F1 H1 O1 _ _ s1 st1 (.bl _) q1⟩
theorem l_if {t : TT} {ta tb : TE} (q : LT c t ρ O fun b O1 => if b = true then LE c ta ρ O1 Q else LE c tb ρ O1 Q) : LE c (tIf t ta tb) ρ O Q := fun F H σ rs s x Q' k =>
  q F H σ rs s x _ fun F1 H1 O1 b s1 st1 q1 => by
    cases b with
    | true => exact iteT ((ifT q1) F1 H1 σ (rs.mono s1) st1 (x.mono s1) _ (k.mono s1))
    | false => exact iteF ((ifF q1) F1 H1 σ (rs.mono s1) st1 (x.mono s1) _ (k.mono s1))
theorem l_chain {r r' : R2} {ta tb tc : TE} (q : LE c ta ρ O fun x O1 => LE c tb ρ O1 fun y O2 => O2R c r x y O2 fun z O3 => ∃ b, z = .bl b ∧ if b = true then LE c tc ρ O3 fun w O4 => O2R c r' y w O4 Q else Q (.bl false) O3) : LE c (tChain r r' ta tb tc) ρ O Q := fun F H σ rs s x Q' k =>
  q F H σ rs s x _ fun F1 H1 O1 v d s1 st1 rd1 q1 => q1 F1 H1 σ (rs.mono s1) st1 (x.mono s1) _ fun F2 H2 O2 w e s2 st2 rd2 q2 => q2 F2 H2 v w st2 (rd1.mono s2) rd2 (x.mono (s1.trans s2)) _ fun F3 H3 O3 z f s3 st3 rd3 ⟨b, e3, q3⟩ => by
    subst e3; cases rd3
    refine ⟨b, rfl, ?_⟩
    have s13 := (s1.trans s2).trans s3
    cases b with
    | true => exact iteT ((ifT q3) F3 H3 σ (rs.mono s13) st3 (x.mono s13) _ fun F4 H4 O4 u g s4 st4 rd4 q4 => q4 F4 H4 w u st4 (rd2.mono (s3.trans s4)) rd4 (x.mono (s13.trans s4)) Q' (k.mono (s13.trans s4)))
    | false => exact iteF (k F3 H3 O3 _ _ s13 st3 (.bl false) (ifF q3))
theorem o_I0 {g : Int → Int → V} {i j : Int} {d : D} (h : dOf (g i j) = some d) (q : Q d O) : O2R c (rI0 g) (.int i) (.int j) O Q := fun F H v w s rv rw x Q' k => by
  cases rv; cases rw; exact ⟨i, j, rfl, rfl, k F H O _ _ (Same.refl F) s (dOf_rep h) q⟩
theorem o_I {C : Int → Int → Prop} {g : Int → Int → V} {i j : Int} {d : D} (hc : C i j) (h : dOf (g i j) = some d) (q : Q d O) : O2R c (rI C g) (.int i) (.int j) O Q := fun F H v w s rv rw x Q' k => by
  cases rv; cases rw; exact ⟨i, j, rfl, rfl, hc, k F H O _ _ (Same.refl F) s (dOf_rep h) q⟩
theorem o_U {g : Int → V} {i : Int} {d : D} (h : dOf (g i) = some d) (q : Q d O) : O1R c (rU g) (.int i) O Q := fun F H v s rv x Q' k => by
  cases rv; exact ⟨i, rfl, k F H O _ _ (Same.refl F) s (dOf_rep h) q⟩
def vOf : D → Option V
  | .non => some .non | .bl b => some (.bl b) | .int i => some (.int i) | .str x => some (.str x) | _ => none
theorem vOf_rep {K : Fr} {F : Hp} {v w : V} {d : D} (h : vOf d = some w) (r : RepD K F v d) : v = w := by
  cases d <;> cases h <;> cases r <;> rfl
theorem o_eq {x y : D} {v w : V} (h1 : vOf x = some v) (h2 : vOf y = some w) (hs : scal v w = true) (q : Q (.bl (decide (v = w))) O) : O2R c rEq x y O Q := fun F H v' w' s rv rw x Q' k => by
  cases vOf_rep h1 rv; cases vOf_rep h2 rw
  exact ⟨hs, k F H O _ _ (Same.refl F) s (.bl _) q⟩
theorem o_ne {x y : D} {v w : V} (h1 : vOf x = some v) (h2 : vOf y = some w) (hs : scal v w = true) (q : Q (.bl (!decide (v = w))) O) : O2R c rNe x y O Q := fun F H v' w' s rv rw x Q' k => by
  cases vOf_rep h1 rv; cases vOf_rep h2 rw
  exact ⟨hs, k F H O _ _ (Same.refl F) s (.bl _) q⟩
def isNon : D → Bool
  | .non => true
  | _ => false
theorem isNon_rep {K : Fr} {F : Hp} {v : V} {d : D} (r : RepD K F v d) : decide (v = .non) = isNon d := by
  cases r <;> first | rfl | exact decide_eq_false (fun z => by cases z)
theorem o_isN {x : D} (q : Q (.bl (isNon x)) O) : O2R c rIsNo x .non O Q := fun F H v w s rv rw x Q' k => by
  cases rw
  refine ⟨rfl, ?_⟩
  rw [isNon_rep rv]
  exact k F H O _ _ (Same.refl F) s (.bl _) q
theorem o_notN {x : D} (q : Q (.bl (!isNon x)) O) : O2R c rNotNo x .non O Q := fun F H v w s rv rw x Q' k => by
  cases rw
  refine ⟨rfl, ?_⟩
  rw [isNon_rep rv]
  exact k F H O _ _ (Same.refl F) s (.bl _) q
theorem reps_atI {K : Fr} {F : Hp} {vs : List V} {xs : List D} {i : Int} {d : D} (r : RepsD K F vs xs) (a : atI xs i = some d) : ∃ v, atI vs i = some v ∧ RepD K F v d := by
  unfold atI at a ⊢
  rw [r.len]
  cases e : ixN xs.length i with
  | none => rw [e] at a; cases a
  | some j =>
    rw [e] at a
    exact r.at' a
theorem o_ixL {K' : Fr} (hK : K' = c.K) {x d : D} {xs : List D} {i : Int} (h : asL O x = some xs) (a : atI xs i = some d) (q : Q d O) : O2R c (rIxL K') x (.int i) O Q := by
  subst hK
  intro F H v w s rv rw x Q' k
  cases rw
  obtain ⟨p, vs, rfl, hp, r⟩ := asL_sq s rv h
  obtain ⟨v, e, rd⟩ := reps_atI r a
  exact ⟨p, vs, i, v, rfl, rfl, .of hp, e, k F H O _ _ (Same.refl F) s rd q⟩
theorem o_ixT {K' : Fr} (hK : K' = c.K) {d : D} {xs : List D} {i : Int} (a : atI xs i = some d) (q : Q d O) : O2R c (rIxT K') (.tup xs) (.int i) O Q := by
  subst hK
  intro F H v w s rv rw x Q' k
  cases rw
  cases rv with
  | tup h r =>
    obtain ⟨v, e, rd⟩ := reps_atI r a
    exact ⟨_, _, i, v, rfl, rfl, sqT_same s.same h, e, k F H O _ _ (Same.refl F) s rd q⟩
theorem r_ixS {K : Fr} {H : Hp} {Q : VK} {x y : V} (h : rIxL K x y H Q ∨ rIxT K x y H Q) : rIx K x y H Q := h.elim .inl fun z => .inr (.inl z)
/-- a list or a tuple -/
theorem o_ixQ {K' : Fr} (hK : K' = c.K) {x d : D} {xs : List D} {i : Int} (h : asS O x = some xs) (a : atI xs i = some d) (q : Q d O) : O2R c (rIx K') x (.int i) O Q := by
  subst hK
  intro F H v w s rv rw x Q' k
  cases rw
  obtain ⟨p, vs, rfl, hp, r⟩ := asS_sq s rv h
  obtain ⟨v, e, rd⟩ := reps_atI r a
  exact r_ixS (hp.elim (fun hp => .inl ⟨p, vs, i, v, rfl, rfl, hp, e, k F H O _ _ (Same.refl F) s rd q⟩) fun hp => .inr ⟨p, vs, i, v, rfl, rfl, hp, e, k F H O _ _ (Same.refl F) s rd q⟩)
def vsOf (xs : List D) : Option (List V) := xs.mapM vOf
theorem vsOf_rep {K : Fr} {F : Hp} : ∀ {xs : List D} {ws vs : List V}, vsOf xs = some ws → RepsD K F vs xs → vs = ws
  | [], ws, vs, h, r => by
    cases r
    have : ws = [] := by simpa [vsOf] using h.symm
    rw [this]
  | x :: xs, ws, vs, h, r => by
    cases r with
    | cons a t =>
      simp only [vsOf, List.mapM_cons, Option.bind_eq_bind, Option.bind_eq_some_iff, Option.pure_def, Option.some.injEq] at h
      obtain ⟨w, h1, ws', h2, h3⟩ := h
      rw [vOf_rep h1 a, vsOf_rep h2 t, h3]
theorem vsOf_ints (ns : List Int) : vsOf (ns.map D.int) = some (ns.map V.int) := by
  induction ns with
  | nil => rfl
  | cons n ns ih =>
    simp only [vsOf, List.map_cons, List.mapM_cons, Option.bind_eq_bind, Option.pure_def] at ih ⊢
    rw [ih]; rfl
theorem o_in {K' : Fr} (hK : K' = c.K) {neg : Bool} {x y : D} {xs : List D} {v : V} {ws : List V} (h : asS O y = some xs) (h1 : vOf x = some v) (h2 : vsOf xs = some ws) (f1 : flatV v = true) (f2 : ws.all flatV = true) (q : Q (.bl (if neg then !inV v ws else inV v ws)) O) : O2R c (rIn K' neg) x y O Q := by
  subst hK
  intro F H v' w' s rv rw x Q' k
  cases vOf_rep h1 rv
  obtain ⟨p, vs, rfl, hp, r⟩ := asS_sq s rw h
  cases vsOf_rep h2 r
  exact ⟨p, _, rfl, hp, f1, f2, k F H O _ _ (Same.refl F) s (.bl _) q⟩
theorem inV_ints {i : Int} (ns : List Int) : inV (.int i) (ns.map V.int) = decide (i ∈ ns) := by
  unfold inV
  rw [List.any_map]
  induction ns with
  | nil => rfl
  | cons n ns ih =>
    rw [List.any_cons, ih]
    show ((n == i) || _) = _
    by_cases e : n = i
    · subst e; simp
    · have : ¬ i = n := fun z => e z.symm
      simp [e, this]
theorem flat_ints (ns : List Int) : (ns.map V.int).all flatV = true := by
  rw [List.all_map]; exact List.all_eq_true.mpr fun _ _ => rfl
theorem o_inI {K' : Fr} (hK : K' = c.K) {x : Int} {y : D} {ns : List Int} (h : asS O y = some (ns.map D.int)) (q : Q (.bl (decide (x ∈ ns))) O) : O2R c (rIn K' false) (.int x) y O Q := by
  subst hK
  exact o_in rfl h rfl (vsOf_ints ns) rfl (flat_ints ns) (by rw [inV_ints]; exact q)
theorem o_niI {K' : Fr} (hK : K' = c.K) {x : Int} {y : D} {ns : List Int} (h : asS O y = some (ns.map D.int)) (q : Q (.bl (!decide (x ∈ ns))) O) : O2R c (rIn K' true) (.int x) y O Q := by
  subst hK
  exact o_in rfl h rfl (vsOf_ints ns) rfl (flat_ints ns) (by rw [inV_ints]; exact q)
theorem o_cat {x y : D} {xs ys : List D} {Q : List D → Oh → Prop} (h1 : asL O x = some xs) (h2 : asL O y = some ys) (hl : xs.length + ys.length ≤ sizeLine) (q : Q (xs ++ ys) O) : O2N c rCat x y O Q := fun F H v w s rv rw x Q' k => by
  obtain ⟨p, vs, rfl, hp, r⟩ := asL_sq s rv h1
  obtain ⟨p', vs', rfl, hp', r'⟩ := asL_sq s rw h2
  exact ⟨p, p', vs, vs', rfl, rfl, hp, hp', by rw [r.len, r'.len]; exact hl, fun a ha => k F H O a _ _ (Same.refl F) s ha (r.append r') q⟩
theorem k_len {K' : Fr} (hK : K' = c.K) {x : D} {xs : List D} (h : asS O x = some xs) (q : Q (.int xs.length) O) : CAR c (rLenQ K') [x] O Q := by
  subst hK
  intro F H vs s r x Q' k
  cases r with
  | cons a t =>
    cases t
    obtain ⟨p, ws, rfl, hp, r⟩ := asS_sq s a h
    refine ⟨p, ws, rfl, hp, ?_⟩
    rw [r.len]
    exact k F H O _ _ (Same.refl F) s (.int _) q
theorem k_int1 {i : Int} (q : Q (.int i) O) : CAR c rInt1 [.int i] O Q := fun F H vs s r x Q' k => by
  cases r with
  | cons a t => cases t; cases a; exact .inl ⟨i, rfl, k F H O _ _ (Same.refl F) s (.int _) q⟩
theorem k_abs {i : Int} (q : Q (.int (if i < 0 then -i else i)) O) : CAR c rAbs [.int i] O Q := fun F H vs s r x Q' k => by
  cases r with
  | cons a t => cases t; cases a; exact ⟨i, rfl, k F H O _ _ (Same.refl F) s (.int _) q⟩
theorem k_gcd {i j : Int} (q : Q (.int ((Nat.gcd i.natAbs j.natAbs : Nat) : Int)) O) : CAR c rGcd [.int i, .int j] O Q := fun F H vs s r x Q' k => by
  cases r with
  | cons a t =>
    cases t with
    | cons b t => cases t; cases a; cases b; exact ⟨i, j, rfl, k F H O _ _ (Same.refl F) s (.int _) q⟩
theorem k_listOf {K' : Fr} (hK : K' = c.K) {x : D} {xs : List D} {Q : List D → Oh → Prop} (h : asS O x = some xs) (q : Q xs O) : CAN c (rListOf K') [x] O Q := by
  subst hK
  intro F H vs s r x Q' k
  cases r with
  | cons a t =>
    cases t
    obtain ⟨p, ws, rfl, hp, r⟩ := asS_sq s a h
    exact ⟨p, ws, rfl, hp, fun l hl => k F H O l ws _ (Same.refl F) s hl r q⟩
/-- tuple(list), tuple(tuple) -/
theorem k_tupOf {K' : Fr} (hK : K' = c.K) {x : D} {xs : List D} (h : asS O x = some xs) (q : Q (.tup xs) O) : CAR c (rTupOf K') [x] O Q := by
  subst hK
  intro F H vs s r z Q' k
  cases r with
  | @cons v d vs ds a t =>
    cases t
    by_cases ht : ∃ ys, x = .tup ys
    · obtain ⟨ys, rfl⟩ := ht
      cases h
      have a' := a
      cases a' with
      | tup hp r => exact ⟨_, _, rfl, .inr ⟨sqT_same s.same hp, k F H O _ _ (Same.refl F) s a q⟩⟩
    · have h' : asL O x = some xs := by
        cases x with
        | tup ys => exact absurd ⟨ys, rfl⟩ ht
        | _ => exact h
      obtain ⟨p, ws, rfl, hp, r⟩ := asL_sq s a h'
      refine ⟨p, ws, rfl, .inl ⟨.of hp, fun l hl => ?_⟩⟩
      have sm : Same F (upd F l (.tup ws)) := MB.Same.upd (s.fresh hl).2
      exact k _ _ O _ _ sm (s.newF hl) (.tup (.of upd_same) (r.mono sm)) q
theorem k_sum {K' : Fr} (hK : K' = c.K) {x : D} {ns : List Int} (h : asL O x = some (ns.map D.int)) (q : Q (.int ns.sum) O) : CAR c (rSum K') [x] O Q := by
  subst hK
  intro F H vs s r x Q' k
  cases r with
  | cons a t =>
    cases t
    obtain ⟨p, ws, rfl, hp, r⟩ := asL_sq s a h
    cases repsD_ints r
    exact ⟨p, ns, rfl, .of hp, k F H O _ _ (Same.refl F) s (.int _) q⟩
theorem k_any {K' : Fr} (hK : K' = c.K) {x : D} {bs : List Bool} (h : asL O x = some (bs.map D.bl)) (q : Q (.bl (bs.any id)) O) : CAR c (rAny K') [x] O Q := by
  subst hK
  intro F H vs s r x Q' k
  cases r with
  | cons a t =>
    cases t
    obtain ⟨p, ws, rfl, hp, r⟩ := asL_sq s a h
    cases repsD_bls r
    exact ⟨p, bs, rfl, .of hp, k F H O _ _ (Same.refl F) s (.bl _) q⟩
theorem k_all {K' : Fr} (hK : K' = c.K) {x : D} {bs : List Bool} (h : asL O x = some (bs.map D.bl)) (q : Q (.bl (bs.all id)) O) : CAR c (rAll K') [x] O Q := by
  subst hK
  intro F H vs s r x Q' k
  cases r with
  | cons a t =>
    cases t
    obtain ⟨p, ws, rfl, hp, r⟩ := asL_sq s a h
    cases repsD_bls r
    exact ⟨p, bs, rfl, .of hp, k F H O _ _ (Same.refl F) s (.bl _) q⟩
end
end VL
set_option maxHeartbeats 2000000
namespace VL
open PySem PySem.Spec PyProof.Rows L2 MB
def KS (K : Fr) (F : Hp) (Q : En → Oh → Prop) (Q' : L2.St → Hp → Prop) : Prop := ∀ (F' H' : Hp) (O' : Oh) (σ' : L2.St) (ρ' : En), Same F F' → RepS K F' σ' ρ' → StO K F' O' H' → Q ρ' O' → Q' σ' H'
theorem KS.mono {K : Fr} {F F' : Hp} {Q : En → Oh → Prop} {Q' : L2.St → Hp → Prop} (k : KS K F Q Q') (s : Same F F') : KS K F' Q Q' := fun F2 H2 O2 σ2 ρ2 s2 => k F2 H2 O2 σ2 ρ2 (s.trans s2)
/-- slots that vs does not name are as they were -/
def KSv (K : Fr) (F : Hp) (σ : L2.St) (vs : List Nat) (Q : En → Oh → Prop) (Q' : L2.St → Hp → Prop) : Prop := ∀ (F' H' : Hp) (O' : Oh) (σ' : L2.St) (ρ' : En), Same F F' → RepS K F' σ' ρ' → StO K F' O' H' → wipe σ' vs = wipe σ vs → Q ρ' O' → Q' σ' H'
def LG (c : Cz) (g : TG) (vs : List Nat) (d : D) (ρ : En) (O : Oh) (Q : En → Oh → Prop) : Prop := ∀ (F H : Hp) (σ : L2.St) (v : V), RepS c.K F σ ρ → StO c.K F O H → RepD c.K F v d → XL c F → ∀ Q', KSv c.K F σ vs Q Q' → g v σ H Q'
def LGs (c : Cz) (g : TGs) (vs : List Nat) (ds : List D) (ρ : En) (O : Oh) (Q : En → Oh → Prop) : Prop := ∀ (F H : Hp) (σ : L2.St) (us : List V), RepS c.K F σ ρ → StO c.K F O H → RepsD c.K F us ds → XL c F → ∀ Q', KSv c.K F σ vs Q Q' → g us σ H Q'
/-- a target of an assignment, of a for -/
def LH (c : Cz) (g : TG) (d : D) (ρ : En) (O : Oh) (Q : En → Oh → Prop) : Prop := ∀ (F H : Hp) (σ : L2.St) (v : V), RepS c.K F σ ρ → StO c.K F O H → RepD c.K F v d → XL c F → ∀ Q', KS c.K F Q Q' → g v σ H Q'
def LHs (c : Cz) (g : TGs) (ds : List D) (ρ : En) (O : Oh) (Q : En → Oh → Prop) : Prop := ∀ (F H : Hp) (σ : L2.St) (us : List V), RepS c.K F σ ρ → StO c.K F O H → RepsD c.K F us ds → XL c F → ∀ Q', KS c.K F Q Q' → g us σ H Q'
/-- a store -/
def TSR (c : Cz) (t : TSet) (o i d : D) (O : Oh) (Q : Oh → Prop) : Prop := ∀ (F H : Hp) (u v w : V), StO c.K F O H → RepD c.K F u o → RepD c.K F v i → RepD c.K F w d → XL c F → ∀ Q' : Hp → Prop, (∀ F' H' O', Same F F' → StO c.K F' O' H' → Q O' → Q' H') → t u v w H Q'
/-- what is wanted behind -/
structure EnL where
  nx : En → Oh → Prop
  rt : D → Oh → Prop
  bk : En → Oh → Prop := fun _ _ => False
  ct : En → Oh → Prop := fun _ _ => False
structure Lift (K : Fr) (F : Hp) (E : EnL) (Dd : Ends) : Prop where
  nx : KS K F E.nx Dd.nx
  rt : KQ K F E.rt Dd.rt
  bk : KS K F E.bk Dd.bk
  ct : KS K F E.ct Dd.ct
theorem Lift.mono {K : Fr} {F F' : Hp} {E : EnL} {Dd : Ends} (l : Lift K F E Dd) (s : Same F F') : Lift K F' E Dd := ⟨l.nx.mono s, l.rt.mono s, l.bk.mono s, l.ct.mono s⟩
def LS (c : Cz) (ts : TS) (E : EnL) (ρ : En) (O : Oh) : Prop := ∀ (F H : Hp) (σ : L2.St), RepS c.K F σ ρ → StO c.K F O H → XL c F → ∀ Dd, Lift c.K F E Dd → ts Dd σ H
section
variable {c : Cz} {ρ : En} {O : Oh} {E : EnL} {Q : En → Oh → Prop} {d : D}
theorem wipe_set {σ : L2.St} {i : Nat} {x : Option V} : ∀ {vs : List Nat}, i ∈ vs → wipe (σ.set i x) vs = wipe σ vs
  | [], h => by cases h
  | v :: vs, h => by
    show (wipe (σ.set i x) vs).set v none = (wipe σ vs).set v none
    by_cases hv : i ∈ vs
    · rw [wipe_set hv]
    · have hi : i = v := (List.mem_cons.mp h).elim id fun z => absurd z hv
      subst hi
      exact out hv
where
  out {σ : L2.St} {i : Nat} {x : Option V} : ∀ {vs : List Nat}, i ∉ vs → (wipe (σ.set i x) vs).set i none = (wipe σ vs).set i none
  | [], h => by show (σ.set i x).set i none = σ.set i none; rw [List.set_set]
  | w :: vs, h => by
    have hw : i ≠ w := fun z => h (z ▸ List.mem_cons_self ..)
    have hs : i ∉ vs := fun z => h (List.mem_cons_of_mem _ z)
    show ((wipe (σ.set i x) vs).set w none).set i none = ((wipe σ vs).set w none).set i none
    rw [List.set_comm _ _ (Ne.symm hw), List.set_comm _ _ (Ne.symm hw), out hs]
theorem g_name {i : Nat} {vs : List Nat} (hi : i ∈ vs) (q : Q (ρ.set i (some d)) O) : LG c (gName i) vs d ρ O Q := fun F H σ v rs s rd x Q' k =>
  k F H O _ _ (Same.refl F) (rs.set i rd) s (wipe_set hi) q
theorem g_nil {vs : List Nat} (q : Q ρ O) : LGs c gNil vs [] ρ O Q := fun F H σ us rs s rd x Q' k => by
  cases rd; exact ⟨rfl, k F H O _ _ (Same.refl F) rs s rfl q⟩
theorem g_cons {g : TG} {gs : TGs} {ds : List D} {vs : List Nat} (q : LG c g vs d ρ O fun ρ1 O1 => LGs c gs vs ds ρ1 O1 Q) : LGs c (gCons g gs) vs (d :: ds) ρ O Q := fun F H σ us rs s rd x Q' k => by
  cases rd with
  | cons a t => exact ⟨_, _, rfl, q F H σ _ rs s a x _ fun F1 H1 O1 σ1 ρ1 s1 rs1 st1 w1 q1 => q1 F1 H1 σ1 _ rs1 st1 (t.mono s1) (x.mono s1) Q' fun F2 H2 O2 σ2 ρ2 s2 rs2 st2 w2 => k F2 H2 O2 σ2 ρ2 (s1.trans s2) rs2 st2 (w2.trans w1)⟩
theorem g_tup {K' : Fr} (hK : K' = c.K) {n : Nat} {gs : TGs} {ds : List D} {vs : List Nat} (hl : ds.length = n) (q : LGs c gs vs ds ρ O Q) : LG c (gTup K' n gs) vs (.tup ds) ρ O Q := by
  subst hK
  intro F H σ v rs s rd x Q' k
  cases rd with
  | tup h r => exact ⟨_, _, rfl, sqT_same s.same h, r.len.trans hl, q F H σ _ rs s r x Q' k⟩
theorem h_name {i : Nat} (q : Q (ρ.set i (some d)) O) : LH c (gName i) d ρ O Q := fun F H σ v rs s rd x Q' k =>
  k F H O _ _ (Same.refl F) (rs.set i rd) s q
theorem h_nil (q : Q ρ O) : LHs c gNil [] ρ O Q := fun F H σ us rs s rd x Q' k => by
  cases rd; exact ⟨rfl, k F H O _ _ (Same.refl F) rs s q⟩
theorem h_cons {g : TG} {gs : TGs} {ds : List D} (q : LH c g d ρ O fun ρ1 O1 => LHs c gs ds ρ1 O1 Q) : LHs c (gCons g gs) (d :: ds) ρ O Q := fun F H σ us rs s rd x Q' k => by
  cases rd with
  | cons a t => exact ⟨_, _, rfl, q F H σ _ rs s a x _ fun F1 H1 O1 σ1 ρ1 s1 rs1 st1 q1 => q1 F1 H1 σ1 _ rs1 st1 (t.mono s1) (x.mono s1) Q' (k.mono s1)⟩
theorem h_tup {K' : Fr} (hK : K' = c.K) {n : Nat} {gs : TGs} {ds : List D} (hl : ds.length = n) (q : LHs c gs ds ρ O Q) : LH c (gTup K' n gs) (.tup ds) ρ O Q := by
  subst hK
  intro F H σ v rs s rd x Q' k
  cases rd with
  | tup h r => exact ⟨_, _, rfl, sqT_same s.same h, r.len.trans hl, q F H σ _ rs s r x Q' k⟩
theorem h_sub {to ti : TE} {t : TSet} (q : LE c to ρ O fun o O1 => LE c ti ρ O1 fun i O2 => TSR c t o i d O2 fun O3 => Q ρ O3) : LH c (gSub to ti t) d ρ O Q := fun F H σ v rs s rd x Q' k =>
  q F H σ rs s x _ fun F1 H1 O1 u o s1 st1 rd1 q1 => q1 F1 H1 σ (rs.mono s1) st1 (x.mono s1) _ fun F2 H2 O2 w i s2 st2 rd2 q2 =>
    q2 F2 H2 u w v st2 (rd1.mono s2) rd2 (rd.mono (s1.trans s2)) (x.mono (s1.trans s2)) _ fun F3 H3 O3 s3 st3 q3 => k F3 H3 O3 σ ρ ((s1.trans s2).trans s3) (rs.mono ((s1.trans s2).trans s3)) st3 q3
theorem t_setL {p : Addr} {xs : List D} {i : Int} {j : Nat} {Q : Oh → Prop} (h : O p = some (.lst xs)) (e : ixN xs.length i = some j) (q : Q (updO O p (.lst (xs.set j d)))) : TSR c rSetL (.ref p) (.int i) d O Q := fun F H u v w s ru rv rw x Q' k => by
  cases ru; cases rv
  obtain ⟨_, vs, h1, h2⟩ := s.own p _ h
  exact ⟨p, vs, i, j, rfl, rfl, h1, by rw [h2.len]; exact e, k F _ _ (Same.refl F) (s.write (o' := .lst (xs.set j d)) h ⟨_, upd_same, RepsD.set rw j h2⟩) q⟩
theorem LS.imp {ts : TS} {E' : EnL} (h : LS c ts E ρ O) (nx : ∀ ρ O, E.nx ρ O → E'.nx ρ O) (rt : ∀ v O, E.rt v O → E'.rt v O) (bk : ∀ ρ O, E.bk ρ O → E'.bk ρ O) (ct : ∀ ρ O, E.ct ρ O → E'.ct ρ O) : LS c ts E' ρ O := fun F H σ rs s x Dd l =>
  h F H σ rs s x Dd ⟨fun F' H' O' σ' ρ' a b d e => l.nx F' H' O' σ' ρ' a b d (nx _ _ e), fun F' H' O' v y a b d e => l.rt F' H' O' v y a b d (rt _ _ e), fun F' H' O' σ' ρ' a b d e => l.bk F' H' O' σ' ρ' a b d (bk _ _ e), fun F' H' O' σ' ρ' a b d e => l.ct F' H' O' σ' ρ' a b d (ct _ _ e)⟩
theorem s_seq {t u : TS} (q : LS c t { E with nx := fun ρ1 O1 => LS c u E ρ1 O1 } ρ O) : LS c (tSeq t u) E ρ O := fun F H σ rs s x Dd l =>
  q F H σ rs s x _ ⟨fun F1 H1 O1 σ1 ρ1 s1 rs1 st1 q1 => q1 F1 H1 σ1 rs1 st1 (x.mono s1) Dd (l.mono s1), l.rt, l.bk, l.ct⟩
/-- what follows is shown once, from P -/
theorem s_cut {t u : TS} (P : En → Oh → Prop) (q : LS c t { E with nx := P } ρ O) (k : ∀ ρ O, P ρ O → LS c u E ρ O) : LS c (tSeq t u) E ρ O :=
  s_seq (LS.imp q k (fun _ _ z => z) (fun _ _ z => z) (fun _ _ z => z))
theorem s_next (q : E.nx ρ O) : LS c tNext E ρ O := fun F H σ rs s x Dd l => l.nx F H O σ ρ (Same.refl F) rs s q
theorem s_break (q : E.bk ρ O) : LS c tBreak E ρ O := fun F H σ rs s x Dd l => l.bk F H O σ ρ (Same.refl F) rs s q
theorem s_cont (q : E.ct ρ O) : LS c tCont E ρ O := fun F H σ rs s x Dd l => l.ct F H O σ ρ (Same.refl F) rs s q
theorem s_asg {te : TE} {g : TG} (q : LE c te ρ O fun d O1 => LH c g d ρ O1 E.nx) : LS c (tAsg te g) E ρ O := fun F H σ rs s x Dd l =>
  q F H σ rs s x _ fun F1 H1 O1 v d s1 st1 rd1 q1 => q1 F1 H1 σ v (rs.mono s1) st1 rd1 (x.mono s1) _ (l.nx.mono s1)
theorem s_ret {te : TE} (q : LE c te ρ O E.rt) : LS c (tRet te) E ρ O := fun F H σ rs s x Dd l => q F H σ rs s x _ l.rt
theorem s_retN (q : E.rt .non O) : LS c tRetN E ρ O := fun F H σ rs s x Dd l => l.rt F H O .non .non (Same.refl F) s .non q
theorem s_drop {te : TE} (q : LE c te ρ O fun _ O1 => E.nx ρ O1) : LS c (tDrop te) E ρ O := fun F H σ rs s x Dd l =>
  q F H σ rs s x _ fun F1 H1 O1 v d s1 st1 rd1 q1 => l.nx F1 H1 O1 σ ρ s1 (rs.mono s1) st1 q1
theorem s_if {t : TT} {u w : TS} (q : LT c t ρ O fun b O1 => if b = true then LS c u E ρ O1 else LS c w E ρ O1) : LS c (tIfS t u w) E ρ O := fun F H σ rs s x Dd l =>
  q F H σ rs s x _ fun F1 H1 O1 b s1 st1 q1 => by
    cases b with
    | true => exact iteT ((ifT q1) F1 H1 σ (rs.mono s1) st1 (x.mono s1) _ (l.mono s1))
    | false => exact iteF ((ifF q1) F1 H1 σ (rs.mono s1) st1 (x.mono s1) _ (l.mono s1))
theorem s_par {i j : Nat} {ta : TA} (q : LA c ta ρ O fun ds O1 => ∃ a b, ds = [a, b] ∧ E.nx ((ρ.set i (some a)).set j (some b)) O1) : LS c (tPar i j ta) E ρ O := fun F H σ rs s x Dd l =>
  q F H σ rs s x _ fun F1 H1 O1 vs ds s1 st1 rd1 ⟨a, b, e, q1⟩ => by
    subst e
    cases rd1 with
    | cons ra t =>
      cases t with
      | cons rb t =>
        cases t
        exact ⟨_, _, rfl, l.nx F1 H1 O1 _ _ s1 (((rs.mono s1).set i ra).set j rb) st1 q1⟩
def IPR (c : Cz) (t : TIp) (x y : D) (O : Oh) (Q : D → Oh → Prop) : Prop := ∀ (F H : Hp) (v w : V), StO c.K F O H → RepD c.K F v x → RepD c.K F w y → XL c F → ∀ Q' : VK, KQ c.K F Q Q' → t v w H Q'
theorem s_aug {i : Nat} {te : TE} {ti : TIp} (h : ρ[i]? = some (some d)) (q : LE c te ρ O fun y O1 => IPR c ti d y O1 fun z O2 => E.nx (ρ.set i (some z)) O2) : LS c (tAug i te ti) E ρ O := fun F H σ rs s x Dd l => by
  obtain ⟨v, e, rd⟩ := rs.2 i d h
  exact ⟨v, e, q F H σ rs s x _ fun F1 H1 O1 w y s1 st1 rd1 q1 => q1 F1 H1 v w st1 (rd.mono s1) rd1 (x.mono s1) _ fun F2 H2 O2 u z s2 st2 rd2 q2 => l.nx F2 H2 O2 _ _ (s1.trans s2) ((rs.mono (s1.trans s2)).set i rd2) st2 q2⟩
/-- an owned list stays from here on, by the slot that holds it -/
theorem s_freeze {ts : TS} {i : Nat} {p : Addr} {xs : List D} (h : ρ[i]? = some (some (.ref p))) (ho : O p = some (.lst xs)) (q : LS c ts E (ρ.set i (some (.lst xs))) (delO O p)) : LS c ts E ρ O := fun F H σ rs s x Dd l => by
  obtain ⟨F', sm, st, rd⟩ := s.freeze ho
  refine q F' H σ ?_ st (x.mono sm) Dd (l.mono sm)
  have r2 := (rs.mono sm).set i rd
  obtain ⟨v, e, rv⟩ := rs.2 i _ h
  cases rv
  rwa [show σ.set i (some (.ref p)) = σ from ?_] at r2
  exact List.set_getElem?_self e
where
  List.set_getElem?_self {σ : L2.St} {i : Nat} {x : Option V} (e : σ[i]? = some x) : σ.set i x = σ := by
    obtain ⟨hl, e⟩ := List.getElem?_eq_some_iff.mp e
    subst e
    exact List.set_getElem_self hl
theorem l_freeze {te : TE} {Q : D → Oh → Prop} (q : LE c te ρ O fun d O1 => ∃ p xs, d = .ref p ∧ O1 p = some (.lst xs) ∧ Q (.lst xs) (delO O1 p)) : LE c te ρ O Q := fun F H σ rs s x Q' k =>
  q F H σ rs s x _ fun F1 H1 O1 v d s1 st1 rd1 ⟨p, xs, e, ho, q1⟩ => by
    subst e; cases rd1
    obtain ⟨F', sm, st, rd⟩ := st1.freeze ho
    exact k F' H1 _ _ _ (s1.trans sm) st rd q1
end
structure DW (K : Fr) (F : Hp) (J : It) (ds : List D) (G : Oh → Prop) : Prop where
  ex : ∃ (Gh : Hp → Prop) (Yh : Nat → Hp → V → Hp → Prop), Walk J ds.length Gh Yh ∧ (∀ (F' H' : Hp) (O' : Oh), Same F F' → StO K F' O' H' → G O' → Gh H') ∧
    ∀ (i : Nat) (F' H' : Hp) (O' : Oh) (x : V) (H2 : Hp), Same F F' → StO K F' O' H' → G O' → i < ds.length → Yh i H' x H2 → ∃ F2 d, Same F' F2 ∧ StO K F2 O' H2 ∧ RepD K F2 x d ∧ ds[i]? = some d
def LI (c : Cz) (ti : TI) (ρ : En) (O : Oh) (Q : List D → (Oh → Prop) → Oh → Prop) : Prop := ∀ (F H : Hp) (σ : L2.St), RepS c.K F σ ρ → StO c.K F O H → XL c F → ∀ Q' : It → Hp → Prop,
  (∀ (F' H' : Hp) (O' : Oh) (J : It) (ds : List D) (G : Oh → Prop), Same F F' → StO c.K F' O' H' → DW c.K F' J ds G → Q ds G O' → Q' J H') → ti σ H Q'
section
variable {c : Cz} {ρ : En} {O : Oh} {Q : List D → (Oh → Prop) → Oh → Prop}
theorem dw_list {K : Fr} {F H : Hp} {x : D} {xs : List D} {vs : List V} {p : Addr} {O : Oh} (s : StO K F O H) (rv : RepD K F (.ref p) x) (h : asL O x = some xs) : DW K F (Itl K p) xs (fun O' => asL O' x = some xs) := by
  obtain ⟨p', vs, e, hp, r⟩ := asL_sq s rv h
  cases e
  refine ⟨fun H' => ∃ vs', H' p = some (.lst vs') ∧ vs'.length = xs.length, fun i H' y H2 => H2 = H' ∧ ∀ vs', H' p = some (.lst vs') → vs'[i]? = some y, ?_, ?_⟩
  · exact ⟨fun i H' hi ⟨vs', a, b⟩ => ⟨vs', vs'[i]'(by omega), .of a, by simp [show i < vs'.length by omega]⟩, fun H' ⟨vs', a, b⟩ => ⟨vs', .of a, by omega⟩, fun i H' y H2 hi q y' => ⟨y'.1, fun vs' a => y'.2 vs' (.of a)⟩⟩
  · refine ⟨fun F' H' O' s1 st1 g => ?_, fun i F' H' O' y H2 s1 st1 g hi yy => ?_⟩
    · obtain ⟨p', vs', e, hp', r'⟩ := asL_sq st1 (rv.mono s1) g
      cases e
      exact ⟨vs', hp', r'.len⟩
    · obtain ⟨p', vs', e, hp', r'⟩ := asL_sq st1 (rv.mono s1) g
      cases e
      obtain ⟨rfl, yy⟩ := yy
      obtain ⟨d, e1, e2⟩ := r'.at (yy vs' hp')
      exact ⟨F', d, Same.refl _, st1, e2, e1⟩
theorem i_list {K' : Fr} (hK : K' = c.K) {tl : TE} (q : LE c tl ρ O fun x O1 => ∃ xs, asL O1 x = some xs ∧ Q xs (fun O2 => asL O2 x = some xs) O1) : LI c (iList K' tl) ρ O Q := by
  subst hK
  intro F H σ rs s z Q' k
  exact
    q F H σ rs s z _ fun F1 H1 O1 v x s1 st1 rd1 ⟨xs, h, q1⟩ => by
      obtain ⟨p, vs, e, hp, r⟩ := asL_sq st1 rd1 h
      subst e
      exact ⟨p, rfl, ⟨vs, .of hp⟩, k F1 H1 O1 _ xs _ s1 st1 (dw_list (vs := vs) st1 rd1 h) q1⟩
theorem i_tup {K' : Fr} (hK : K' = c.K) {tl : TE} (q : LE c tl ρ O fun x O1 => ∃ xs, x = .tup xs ∧ Q xs (fun _ => True) O1) : LI c (iTup K' tl) ρ O Q := by
  subst hK
  intro F H σ rs s z Q' k
  exact
    q F H σ rs s z _ fun F1 H1 O1 v x s1 st1 rd1 ⟨xs, e, q1⟩ => by
      subst e
      cases rd1 with
      | @tup p vs _ h r =>
        refine ⟨p, rfl, ⟨vs, sqT_same st1.same h⟩, k F1 H1 O1 _ xs _ s1 st1 ⟨fun H' => SqT c.K H' p vs, YAt vs, ?_, ?_⟩ q1⟩
        · rw [← r.len]; exact walk_tup
        · refine ⟨fun F' H' O' s2 st2 _ => sqT_same st2.same (sqT_same s2 h), fun i F' H' O' y H2 s2 st2 _ hi ⟨e1, e2⟩ => ?_⟩
          subst e1
          obtain ⟨d, e3, e4⟩ := (r.mono s2).at e2
          exact ⟨F', d, Same.refl _, st2, e4, e3⟩
def rngD (lo : Int) (n : Nat) : List D := (List.range n).map fun (k : Nat) => D.int (lo + k)
theorem rngD_len (lo : Int) (n : Nat) : (rngD lo n).length = n := by unfold rngD; simp
theorem rngD_at {lo : Int} {n i : Nat} {d : D} (h : (rngD lo n)[i]? = some d) : i < n ∧ d = .int (lo + i) := by
  unfold rngD at h
  rw [List.getElem?_map] at h
  by_cases hi : i < n
  · rw [List.getElem?_range hi] at h
    cases h; exact ⟨hi, rfl⟩
  · rw [List.getElem?_eq_none (by simpa using Nat.le_of_not_lt hi)] at h
    cases h
theorem dw_range {K : Fr} {F : Hp} (lo : Int) (n : Nat) : DW K F (Itr lo n) (rngD lo n) (fun _ => True) := by
  refine ⟨fun _ => True, YFn fun i => .int (lo + i), by rw [rngD_len]; exact walk_range, fun _ _ _ _ _ _ => trivial, fun i F' H' O' y H2 s2 st2 _ hi ⟨e1, e2⟩ => ?_⟩
  subst e1 e2
  rw [rngD_len] at hi
  exact ⟨F', .int (lo + i), Same.refl _, st2, .int _, by unfold rngD; rw [List.getElem?_map, List.getElem?_range hi]; rfl⟩
theorem i_rng1 {ta : TA} (q : LA c ta ρ O fun ds O1 => ∃ j : Int, ds = [.int j] ∧ (-(2 ^ 62) ≤ j ∧ j < 2 ^ 62) ∧ Q (rngD 0 j.toNat) (fun _ => True) O1) : LI c (iRng1 ta) ρ O Q := fun F H σ rs s z Q' k =>
  q F H σ rs s z _ fun F1 H1 O1 vs ds s1 st1 rd1 ⟨j, e, b, q1⟩ => by
    subst e
    cases rd1 with
    | cons a t => cases t; cases a; exact ⟨j, rfl, b.1, b.2, k F1 H1 O1 _ _ _ s1 st1 (dw_range 0 j.toNat) q1⟩
theorem i_rng2 {ta : TA} (q : LA c ta ρ O fun ds O1 => ∃ i j : Int, ds = [.int i, .int j] ∧ (-(2 ^ 62) ≤ i ∧ i < 2 ^ 62 ∧ -(2 ^ 62) ≤ j ∧ j < 2 ^ 62) ∧ Q (rngD i (j - i).toNat) (fun _ => True) O1) : LI c (iRng2 ta) ρ O Q := fun F H σ rs s z Q' k =>
  q F H σ rs s z _ fun F1 H1 O1 vs ds s1 st1 rd1 ⟨i, j, e, b, q1⟩ => by
    subst e
    cases rd1 with
    | cons a t =>
      cases t with
      | cons a' t => cases t; cases a; cases a'; exact ⟨i, j, rfl, b, k F1 H1 O1 _ _ _ s1 st1 (dw_range i (j - i).toNat) q1⟩
theorem s_for {E : EnL} {wi : TI} {g : TG} {tb : TS} (q : LI c wi ρ O fun ds G O1 => ∃ P : Nat → En → Oh → Prop, P 0 ρ O1 ∧ (∀ i ρ O, P i ρ O → G O) ∧
      (∀ i d ρ O, ds[i]? = some d → P i ρ O → LH c g d ρ O fun ρ2 O2 => LS c tb { nx := P (i + 1), rt := E.rt, bk := E.nx, ct := P (i + 1) } ρ2 O2) ∧ ∀ ρ O, P ds.length ρ O → E.nx ρ O) : LS c (tFor wi g tb) E ρ O := fun F H σ rs s z Dd l =>
  q F H σ rs s z _ fun F1 H1 O1 J ds G s1 st1 dw ⟨P, p0, pG, ps, pd⟩ => by
    obtain ⟨Gh, Yh, w, hG, hY⟩ := dw.ex
    refine for_it w (fun i σ' H' => ∃ F' O' ρ', Same F1 F' ∧ RepS c.K F' σ' ρ' ∧ StO c.K F' O' H' ∧ P i ρ' O') ⟨F1, O1, ρ, Same.refl _, rs.mono s1, st1, p0⟩ ?_ ?_ ?_
    · rintro i σ' H' _ ⟨F', O', ρ', a, b, d, e⟩
      exact hG F' H' O' a d (pG _ _ _ e)
    · rintro i x σ' H' H2 hi ⟨F', O', ρ', a, b, d, e⟩ y
      obtain ⟨F2, x', s2, st2, rx, ex⟩ := hY i F' H' O' x H2 a d (pG _ _ _ e) hi y
      have s12 := (s1.trans a).trans s2
      refine ps i x' ρ' O' ex e F2 H2 σ' x (b.mono s2) st2 rx (z.mono s12) _ fun F3 H3 O3 σ3 ρ3 s3 rs3 st3 q3 => ?_
      have s13 := s12.trans s3
      refine q3 F3 H3 σ3 rs3 st3 (z.mono s13) _ ⟨?_, l.rt.mono s13, l.nx.mono s13, ?_⟩
      · exact fun F4 H4 O4 σ4 ρ4 s4 rs4 st4 q4 => ⟨F4, O4, ρ4, ((a.trans s2).trans s3).trans s4, rs4, st4, q4⟩
      · exact fun F4 H4 O4 σ4 ρ4 s4 rs4 st4 q4 => ⟨F4, O4, ρ4, ((a.trans s2).trans s3).trans s4, rs4, st4, q4⟩
    · rintro σ' H' ⟨F', O', ρ', a, b, d, e⟩
      exact l.nx F' H' O' σ' ρ' (s1.trans a) b d (pd _ _ e)
theorem s_while {E : EnL} {t : TT} {tb : TS} (P : Nat → En → Oh → Prop) (h0 : ∃ m, P m ρ O) (hs : ∀ m ρ O, P m ρ O → LT c t ρ O fun b O1 => if b = true then LS c tb { nx := fun ρ2 O2 => ∃ m', m' < m ∧ P m' ρ2 O2, rt := E.rt, bk := E.nx, ct := fun ρ2 O2 => ∃ m', m' < m ∧ P m' ρ2 O2 } ρ O1 else E.nx ρ O1) :
    LS c (tWhile t tb) E ρ O := fun F H σ rs s z Dd l => by
  obtain ⟨m0, p0⟩ := h0
  refine ⟨fun m σ' H' => ∃ F' O' ρ', Same F F' ∧ RepS c.K F' σ' ρ' ∧ StO c.K F' O' H' ∧ P m ρ' O', ⟨m0, F, O, ρ, Same.refl _, rs, s, p0⟩, ?_⟩
  rintro m σ' H' ⟨F', O', ρ', a, b, d, e⟩
  refine hs m ρ' O' e F' H' σ' b d (z.mono a) _ fun F1 H1 O1 k s1 st1 q1 => ?_
  have s2 := a.trans s1
  cases k with
  | false => exact iteF (l.nx F1 H1 O1 σ' ρ' s2 (b.mono s1) st1 (ifF q1))
  | true =>
    refine iteT ⟨fun σ4 H4 => ∃ m', m' < m ∧ ∃ F4 O4 ρ4, Same F F4 ∧ RepS c.K F4 σ4 ρ4 ∧ StO c.K F4 O4 H4 ∧ P m' ρ4 O4, fun _ _ h => h, ?_⟩
    refine (ifT q1) F1 H1 σ' (b.mono s1) st1 (z.mono s2) _ ⟨?_, l.rt.mono s2, l.nx.mono s2, ?_⟩
    · exact fun F4 H4 O4 σ4 ρ4 s4 rs4 st4 ⟨m', h1, h2⟩ => ⟨m', h1, F4, O4, ρ4, s2.trans s4, rs4, st4, h2⟩
    · exact fun F4 H4 O4 σ4 ρ4 s4 rs4 st4 ⟨m', h1, h2⟩ => ⟨m', h1, F4, O4, ρ4, s2.trans s4, rs4, st4, h2⟩
def wipeE (ρ : En) : List Nat → En
  | [] => ρ
  | v :: vs => (wipeE ρ vs).set v none
theorem repS_wipe {K : Fr} {F : Hp} {σ : L2.St} {ρ : En} (h : RepS K F σ ρ) : ∀ vs : List Nat, RepS K F (wipe σ vs) (wipeE ρ vs)
  | [] => h
  | v :: vs => (repS_wipe h vs).forget v none
theorem wipe_wipe (σ : L2.St) (vs : List Nat) : wipe (wipe σ vs) vs = wipe σ vs := by
  have : ∀ us : List Nat, (∀ u ∈ us, u ∈ vs) → wipe (wipe σ us) vs = wipe σ vs := by
    intro us
    induction us with
    | nil => intro _; rfl
    | cons u us ih =>
      intro h
      show wipe ((wipe σ us).set u none) vs = wipe σ vs
      rw [wipe_set (h u (List.mem_cons_self ..)), ih fun w hw => h w (List.mem_cons_of_mem _ hw)]
  exact this vs fun _ h => h
theorem StO.cut {K : Fr} {F H : Hp} {L : Addr} {xs : List D} (s : StO K F O H) (h : O L = some (.lst xs)) : ∃ us, RepsD K F us xs ∧ StO K F (delO O L) (L2.del H L) ∧ L2.del H L L = none ∧ H = upd (L2.del H L) L (.lst us) := by
  obtain ⟨f, us, h1, h2⟩ := s.own L _ h
  refine ⟨us, h2, ⟨fun b o e => ?_, fun a o e => ?_⟩, ?_, ?_⟩
  · rw [del_ne (ne_of_none e f)]; exact s.same b o e
  · have ne : a ≠ L := fun y => by subst y; rw [delO_same] at e; cases e
    rw [delO_ne ne] at e
    exact ⟨(s.own a o e).1, (s.own a o e).2.move (Same.refl _) (del_ne ne)⟩
  · unfold L2.del; rw [if_pos rfl]
  · funext b
    by_cases hb : b = L
    · subst hb; rw [upd_same, h1]
    · rw [upd_ne hb, del_ne hb]
theorem ln_lc {wi : TI} {g : TG} {tt : TT} {te : TE} {vs : List Nat} {Q : List D → Oh → Prop}
    (q : LI c wi ρ O fun ds G O1 => ∀ L, O1 L = none → ∃ P : Nat → List D → Oh → Prop, P 0 [] (updO O1 L (.lst [])) ∧ (∀ i acc O, P i acc O → G O ∧ O L = some (.lst acc)) ∧
      (∀ i d acc O, ds[i]? = some d → P i acc O → LG c g vs d (wipeE ρ vs) O fun ρ2 O2 => LT c tt ρ2 O2 fun b O3 => if b = true then LE c te ρ2 O3 fun y O4 => acc.length < sizeLine ∧ O4 L = some (.lst acc) ∧ P (i + 1) (acc ++ [y]) (updO O4 L (.lst (acc ++ [y]))) else P (i + 1) acc O3) ∧
      ∀ acc O, P ds.length acc O → Q acc (delO O L)) : LN c (tLc wi g tt te vs) ρ O Q := fun F H σ rs s z Q' k =>
  q F H σ rs s z _ fun F1 H1 O1 J ds G s1 st1 dw q1 => by
    intro L hL
    obtain ⟨P, p0, pG, ps, pd⟩ := q1 L (st1.fresh hL).1
    obtain ⟨Gh, Yh, w, hG, hY⟩ := dw.ex
    refine lc_it w (fun i H' => ∃ F' O' acc, Same F1 F' ∧ StO c.K F' O' H' ∧ P i acc O') ⟨F1, _, [], Same.refl _, st1.newO (o := .lst []) hL ⟨[], upd_same, .nil⟩, p0⟩ ?_ ?_ ?_
    · rintro i H' _ ⟨F', O', acc, a, b, p⟩
      exact hG F' H' O' a b (pG _ _ _ p).1
    · rintro i x H' H2 hi ⟨F', O', acc, a, b, p⟩ y
      obtain ⟨F2, x', s2, st2, rx, ex⟩ := hY i F' H' O' x H2 a b (pG _ _ _ p).1 hi y
      have s12 := (s1.trans a).trans s2
      refine ps i x' acc O' ex p F2 H2 _ x (repS_wipe (rs.mono s12) vs) st2 rx (z.mono s12) _ fun F3 H3 O3 σ3 ρ3 s3 rs3 st3 w3 q3 => ⟨w3.trans (wipe_wipe σ vs), ?_⟩
      refine q3 F3 H3 σ3 rs3 st3 (z.mono (s12.trans s3)) _ fun F4 H4 O4 b4 s4 st4 q4 => ?_
      cases b4 with
      | false => exact iteF ⟨F4, O4, acc, ((a.trans s2).trans s3).trans s4, st4, ifF q4⟩
      | true =>
        refine iteT ((ifT q4) F4 H4 σ3 (rs3.mono s4) st4 (z.mono ((s12.trans s3).trans s4)) _ fun F5 H5 O5 v5 y5 s5 st5 rd5 ⟨hz, ho, q5⟩ => ?_)
        obtain ⟨_, us, h1, h2⟩ := st5.own L _ ho
        exact ⟨us, h1, by rw [h2.len]; exact hz, F5, _, _, (((a.trans s2).trans s3).trans s4).trans s5, st5.write (o' := .lst (acc ++ [y5])) ho ⟨_, upd_same, h2.append (.cons rd5 .nil)⟩, q5⟩
    · rintro H' ⟨F', O', acc, a, b, p⟩
      obtain ⟨us, r, st, hn, e⟩ := b.cut (pG _ _ _ p).2
      rw [e]
      exact k F' _ _ L us acc (s1.trans a) st hn r (pd _ _ p)
/-- a comprehension that leaves what is owned as it is -/
theorem ln_lcP {wi : TI} {g : TG} {tt : TT} {te : TE} {vs : List Nat} {Q : List D → Oh → Prop} (keep : D → Bool) (f : D → D)
    (q : LI c wi ρ O fun ds G O1 => ds.length ≤ sizeLine ∧ (∀ L acc, O1 L = none → G (updO O1 L (.lst acc))) ∧
      (∀ (i : Nat) (d : D) (L : Addr) (acc : List D), ds[i]? = some d → O1 L = none → LG c g vs d (wipeE ρ vs) (updO O1 L (.lst acc)) fun ρ2 O2 => LT c tt ρ2 O2 fun b O3 => (b = keep d ∧ O3 = updO O1 L (.lst acc)) ∧ (keep d = true → LE c te ρ2 O3 fun y O4 => y = f d ∧ O4 = updO O1 L (.lst acc))) ∧
      Q ((ds.filter keep).map f) O1) : LN c (tLc wi g tt te vs) ρ O Q := ln_lc fun F H σ rs s z Q' k => q F H σ rs s z Q' fun F1 H1 O1 J ds G s1 st1 dw ⟨hl, hG, hs, hd⟩ => k F1 H1 O1 J ds G s1 st1 dw fun L hL => by
    refine ⟨fun i acc O2 => acc = ((ds.take i).filter keep).map f ∧ O2 = updO O1 L (.lst acc), ⟨rfl, rfl⟩, ?_, ?_, ?_⟩
    · rintro i acc O2 ⟨_, rfl⟩
      exact ⟨hG L acc hL, updO_same⟩
    · rintro i d acc O2 e ⟨ea, rfl⟩
      have hi : i < ds.length := (List.getElem?_eq_some_iff.mp e).1
      have et : ds.take (i + 1) = ds.take i ++ [d] := by rw [List.take_add_one, e]; rfl
      have hal : acc.length < sizeLine := by
        rw [ea, List.length_map]
        have h1 := List.length_filter_le keep (ds.take i)
        have h2 : (ds.take i).length = i := by rw [List.length_take]; omega
        omega
      intro F3 H3 σ3 v3 rs3 st3 rv3 z3 Q3 k3
      refine hs i d L acc e hL F3 H3 σ3 v3 rs3 st3 rv3 z3 Q3 fun F4 H4 O4 σ4 ρ4 s4 rs4 st4 w4 q4 => k3 F4 H4 O4 σ4 ρ4 s4 rs4 st4 w4 ?_
      intro F5 H5 σ5 rs5 st5 z5 Q5 k5
      refine q4 F5 H5 σ5 rs5 st5 z5 Q5 fun F6 H6 O6 b6 s6 st6 ⟨⟨e6, e7⟩, q6⟩ => k5 F6 H6 O6 b6 s6 st6 ?_
      subst e6 e7
      cases hk : keep d with
      | false =>
        refine iteF ⟨?_, rfl⟩
        rw [et, List.filter_append, List.filter_cons_of_neg (by rw [hk]; exact Bool.false_ne_true), List.filter_nil, List.append_nil]
        exact ea
      | true =>
        refine iteT ?_
        intro F7 H7 σ7 rs7 st7 z7 Q7 k7
        refine q6 hk F7 H7 σ7 rs7 st7 z7 Q7 fun F8 H8 O8 v8 y8 s8 st8 rd8 ⟨e8, e9⟩ => k7 F8 H8 O8 v8 y8 s8 st8 rd8 ?_
        subst e8 e9
        refine ⟨hal, updO_same, ?_, by rw [updO_updO]⟩
        rw [et, List.filter_append, List.filter_cons_of_pos hk, List.filter_nil, List.map_append, ← ea]
        rfl
    · rintro acc O2 ⟨ea, rfl⟩
      rw [List.take_length] at ea
      rw [delO_updO hL, ea]
      exact hd
end
end VL
set_option maxHeartbeats 2000000
namespace VL
open PySem PySem.Spec PyProof.Rows L2 MB
abbrev KXd := Addr → List (Str × D) → Oh → Prop
def KX (K : Fr) (F : Hp) (Ed : KXd) (E : XK) : Prop := ∀ (F' H' : Hp) (O' : Oh) (C : Addr) (dx : Option Addr) (fs : List (Str × D)), Same F F' → StO K F' O' H' → RepX K F' H' dx fs → Ed C fs O' → E (.ref C) dx H'
abbrev WL := List D → Oh → (D → Oh → Prop) → KXd → Prop
def SpL (K : Fr) (W : WL) : Sp := fun vs H Q E => ∃ (F : Hp) (O : Oh) (ds : List D) (Qd : D → Oh → Prop) (Ed : KXd), RepsD K F vs ds ∧ StO K F O H ∧ W ds O Qd Ed ∧ KQ K F Qd Q ∧ KX K F Ed E
abbrev cD (K : Fr) (E : XK) (Ed : KXd) : Cz := ⟨K, fun _ => E, fun C fs _ O' => Ed C fs O'⟩
def noX : KXd := fun _ _ _ => False
def en0 (n : Nat) (ds : List D) : En := ds.map some ++ List.replicate (n - ds.length) none
def enD (Qd : D → Oh → Prop) : EnL := ⟨fun _ O' => Qd .non O', Qd, fun _ _ => False, fun _ _ => False⟩
theorem body_L {K : Fr} {N : List Str} {vs : List V} {ds : List D} {F H : Hp} {O : Oh} {Q : VK} {E : XK} {Qd : D → Oh → Prop} {Ed : KXd} {t : TS} (rd : RepsD K F vs ds) (st : StO K F O H) (kq : KQ K F Qd Q) (kx : KX K F Ed E)
    (h : LS (cD K E Ed) t (enD Qd) (en0 N.length ds) O) : t { nx := fun _ H' => Q .non H', rt := Q } (start N vs) H := by
  refine h F H _ (repS_start rd rfl rfl) st (fun F' H' O' σ' ρ' C dx fs s _ so rx ex => kx F' H' O' C dx fs s so rx ex) _ ⟨?_, kq, ?_, ?_⟩
  · exact fun F' H' O' σ' ρ' s _ so q => kq F' H' O' .non .non s so .non q
  · exact fun F' H' O' σ' ρ' s _ so q => q.elim
  · exact fun F' H' O' σ' ρ' s _ so q => q.elim
section
variable {P : Program} {w : World} {K : Fr} {mg : Str → Option Value} {base : Heap} {CX : CXT} {x qual : Str} {params : Arguments} {body : List Stmt} {scope : Scope} {dv : List V} {kws : List (Str × V)} {f : Addr} {fd : FuncData} {N ps : List Str} {k : Nat} {W : WL}
theorem fnL' (F : FunD K x qual params body scope dv kws f fd) (S : FnScope N ps scope) (hl : ∀ ds O Q E, W ds O Q E → ds.length = ps.length)
    (hbody : ∀ (cdv : Value) (A : Around) (outer : List Env) (s : Shared) (H : Hp) (E : XK), Room k (A.deeper (envOfC qual scope s.heap.objs.size f cdv)) → ∃ t, PSs (cxOf CX P w K mg base N qual scope f cdv A outer s H E) body t ∧
      ∀ ds O Qd Ed, W ds O Qd Ed → LS (cD K E Ed) t (enD Qd) (en0 N.length ds) O) : FnOk P w K mg base CX (k + 1) f fd ps (SpL K W) :=
  FunD.ok (CX := CX) F S (fun vs H Q E ⟨F, O, ds, Qd, Ed, rd, st, hw, kq, kx⟩ => rd.len.trans (hl _ _ _ _ hw)) fun cdv A outer s H vs Q E hr ⟨F, O, ds, Qd, Ed, rd, st, hw, kq, kx⟩ => by
    obtain ⟨t, h1, h2⟩ := hbody cdv A outer s H E hr
    exact ⟨t, h1, body_L rd st kq kx (h2 ds O Qd Ed hw)⟩
end
theorem Cal.spImp {P : Program} {w : World} {K : Fr} {mg : Str → Option Value} {base : Heap} {CX : CXT} {k : Nat} {x : Str} {ps : List Str} {dvs : List V} {sp sp' : Sp} (h : Cal P w K mg base CX k x ps dvs sp) (i : ∀ vs H Q E, sp' vs H Q E → sp vs H Q E) : Cal P w K mg base CX k x ps dvs sp' := by
  obtain ⟨f, fd, ds, F, hm, hk, hb, hd⟩ := h
  exact ⟨f, fd, ds, F.imp i, hm, hk, hb, hd⟩
section
variable {c : Cz} {ρ : En} {O : Oh} {Q : D → Oh → Prop} {E : EnL}
theorem RepX.mono {K : Fr} {F F' H : Hp} {dx : Option Addr} {fs : List (Str × D)} (s : Same F F') (h : RepX K F H dx fs) : RepX K F' H dx fs := by
  cases dx with
  | none => exact h
  | some d => obtain ⟨vs, a, b, c⟩ := h; exact ⟨vs, a, b.mono s, c⟩
/-- a call that lets nothing out -/
theorem l_call {W : WL} {dvs : List V} {dds : List D} {XE : XK} {ta : TA} (hd : ∀ F, RepsD c.K F dvs dds) (q : LA c ta ρ O fun ds O1 => W (ds ++ dds) O1 Q noX) : LE c (tCall (SpL c.K W) dvs XE ta) ρ O Q := fun F H σ rs s x Q' k =>
  q F H σ rs s x _ fun F1 H1 O1 vs ds s1 st1 rd1 q1 => ⟨F1, O1, ds ++ dds, Q, noX, rd1.append (hd F1), st1, q1, k.mono s1, fun _ _ _ _ _ _ _ _ _ z => z.elim⟩
theorem l_callN {W : WL} {XE : XK} {ta : TA} (q : LA c ta ρ O fun ds O1 => W ds O1 Q noX) : LE c (tCall (SpL c.K W) [] XE ta) ρ O Q :=
  l_call (dds := []) (fun _ => .nil) (fun F H σ rs s x Q' k => q F H σ rs s x Q' fun F1 H1 O1 vs ds s1 st1 rd1 q1 => k F1 H1 O1 vs ds s1 st1 rd1 (by show W (ds ++ []) O1 Q noX; rw [List.append_nil]; exact q1))
/-- in a def that may raise: what the callee raises leaves this def, too -/
theorem l_callX {W : WL} {dvs : List V} {dds : List D} {XE : XK} {ta : TA} (hE : ∀ σ, c.E0 σ = XE) (hd : ∀ F, RepsD c.K F dvs dds) (q : LA c ta ρ O fun ds O1 => W (ds ++ dds) O1 Q fun C fs O2 => c.Ex C fs ρ O2) : LE c (tCall (SpL c.K W) dvs XE ta) ρ O Q := fun F H σ rs s x Q' k =>
  q F H σ rs s x _ fun F1 H1 O1 vs ds s1 st1 rd1 q1 => ⟨F1, O1, ds ++ dds, Q, _, rd1.append (hd F1), st1, q1, k.mono s1, fun F2 H2 O2 C dx fs s2 st2 rx ex => by
    rw [← hE σ]
    exact x F2 H2 O2 σ ρ C dx fs (s1.trans s2) (rs.mono (s1.trans s2)) st2 rx ex⟩
/-- in a try -/
theorem l_callS {W : WL} {ta : TA} (q : LA c ta ρ O fun ds O1 => W ds O1 Q fun C fs O2 => c.Ex C fs ρ O2) : LE c (tCallS (SpL c.K W) c.E0 ta) ρ O Q := fun F H σ rs s x Q' k =>
  q F H σ rs s x _ fun F1 H1 O1 vs ds s1 st1 rd1 q1 => ⟨F1, O1, ds, Q, _, rd1, st1, q1, k.mono s1, fun F2 H2 O2 C dx fs s2 st2 rx ex =>
    x F2 H2 O2 σ ρ C dx fs (s1.trans s2) (rs.mono (s1.trans s2)) st2 rx ex⟩
theorem s_raise0 {C : Addr} {W : Value → Option Addr → L2.St → Hp → Prop} (hW : ∀ cls d σ H, c.E0 σ cls d H → W cls d σ H) (q : c.Ex C [] ρ O) : LS c (fun _ σ H => W (.ref C) none σ H) E ρ O := fun F H σ rs s x Dd l =>
  hW _ _ _ _ (x F H O σ ρ C none [] (Same.refl F) rs s rfl q)
theorem s_raise1 {C : Addr} {f : Str} {ta : TA} {W : Value → Option Addr → L2.St → Hp → Prop} (hW : ∀ cls d σ H, c.E0 σ cls d H → W cls d σ H) (q : LA c ta ρ O fun ds O1 => ∃ d, ds = [d] ∧ c.Ex C [(f, d)] ρ O1) :
    LS c (fun _ σ H => tMkO C (spInit1 C f) [] ta σ H fun cls dx H' => W cls dx σ H') E ρ O := fun F H σ rs s x Dd l =>
  q F H σ rs s x _ fun F1 H1 O1 vs ds s1 st1 rd1 ⟨d, e, q1⟩ => by
    subst e
    cases rd1 with
    | cons ra t =>
      cases t
      refine mk1 (Q := fun cls dx H' => W cls dx σ H') fun dd H2 sm hd => hW _ _ _ _ (x F1 H2 O1 σ ρ C (some dd) _ s1 (rs.mono s1) ⟨st1.same.trans sm, fun a o e => ⟨(st1.own a o e).1, (st1.own a o e).2.move (Same.refl _) ?_⟩⟩ ⟨_, hd, .cons ra .nil, by simp⟩ q1)
      obtain ⟨u, hu⟩ := (st1.own a o e).2.some
      rw [hu]; exact sm _ _ hu
theorem s_raise2 {C : Addr} {f g : Str} {ta : TA} {W : Value → Option Addr → L2.St → Hp → Prop} (hW : ∀ cls d σ H, c.E0 σ cls d H → W cls d σ H) (q : LA c ta ρ O fun ds O1 => ∃ d e, ds = [d, e] ∧ c.Ex C [(g, e), (f, d)] ρ O1) :
    LS c (fun _ σ H => tMkO C (spInit2 C f g) [] ta σ H fun cls dx H' => W cls dx σ H') E ρ O := fun F H σ rs s x Dd l =>
  q F H σ rs s x _ fun F1 H1 O1 vs ds s1 st1 rd1 ⟨d, d', e, q1⟩ => by
    subst e
    cases rd1 with
    | cons ra t =>
      cases t with
      | cons rb t =>
        cases t
        refine mk2 (Q := fun cls dx H' => W cls dx σ H') fun dd H2 sm hd => hW _ _ _ _ (x F1 H2 O1 σ ρ C (some dd) _ s1 (rs.mono s1) ⟨st1.same.trans sm, fun a o e => ⟨(st1.own a o e).1, (st1.own a o e).2.move (Same.refl _) ?_⟩⟩ ⟨_, hd, .cons rb (.cons ra .nil), by simp⟩ q1)
        obtain ⟨u, hu⟩ := (st1.own a o e).2.some
        rw [hu]; exact sm _ _ hu
theorem catch_frz {K : Fr} {F H : Hp} {dx : Option Addr} {fs : List (Str × D)} {a C : Addr} (s : StO K F O H) (rx : RepX K F H dx fs) : ∃ F', Same F F' ∧ StO K F' O H ∧ RepD K F' (.ref a) (.exc a dx C fs) := by
  cases dx with
  | none =>
    cases (show fs = [] from rx)
    exact ⟨F, Same.refl _, s, .excN a C⟩
  | some d =>
    obtain ⟨vs, hd, rf, _⟩ := rx
    have sm : Same F (upd F d (.xd vs)) := fun b o e => by
      by_cases hb : b = d
      · subst hb
        rw [upd_same, ← hd, s.same _ _ e]
      · rw [upd_ne hb]; exact e
    refine ⟨_, sm, ⟨fun b o e => ?_, fun b o e => ?_⟩, .excS C upd_same (rf.mono sm)⟩
    · by_cases hb : b = d
      · subst hb; rw [upd_same] at e; rw [hd]; exact e
      · rw [upd_ne hb] at e; exact s.same b o e
    · obtain ⟨h1, h2⟩ := s.own b o e
      have nb : b ≠ d := fun z => by
        subst z
        cases o with
        | lst ds => obtain ⟨_, q, _⟩ := h2; rw [hd] at q; cases q
        | dk kvs => obtain ⟨_, q, _⟩ := h2; rw [hd] at q; cases q
        | set S n => have q : H b = some (.set S n) := h2; rw [hd] at q; cases q
        | hand => obtain ⟨_, _, _, _, _, q, _⟩ := h2; rw [hd] at q; cases q
        | ins C gs => obtain ⟨_, _, q, _⟩ := h2; rw [hd] at q; cases q
        | fdk od vs kvs => have q := h2.1; rw [hd] at q; cases q
      exact ⟨(upd_ne nb).trans h1, h2.move sm rfl⟩
def xAs (c : Cz) (E : EnL) (cv : Value) (i : Nat) (ts : Addr → Value → Option Addr → TS) (XW : Addr → List (Str × D) → En → Oh → Prop) : Addr → List (Str × D) → En → Oh → Prop := fun C fs ρ' O' =>
  ∃ b, PySem.W.exmOne c.K (.ref C) cv = some b ∧ (b = true → ∀ a dx, (fs = [] → dx = none) → LS c (ts a (.ref C) dx) ⟨fun ρ2 O2 => E.nx (ρ2.set i none) O2, E.rt, fun ρ2 O2 => E.bk (ρ2.set i none) O2, fun ρ2 O2 => E.ct (ρ2.set i none) O2⟩ (ρ'.set i (some (.exc a dx C fs))) O') ∧ (b = false → XW C fs ρ' O')
theorem s_try {cv : Value} {i : Nat} {ts : Addr → Value → Option Addr → TS} {tb : WX → TS} {Wout : WX} {XW : Addr → List (Str × D) → En → Oh → Prop} (hW : ∀ (F : Hp) (O : Oh) (H : Hp) (σ : L2.St) (ρ : En) (C : Addr) (dx : Option Addr) (fs : List (Str × D)), XL c F → RepS c.K F σ ρ → StO c.K F O H → RepX c.K F H dx fs → XW C fs ρ O → Wout (.ref C) dx σ H)
    (q : ∀ W : WX, LS ⟨c.K, fun σ cls d H => W cls d σ H, xAs c E cv i ts XW⟩ (tb W) E ρ O) : LS c (fun Dd σ H => tb (wAs c.K cv i ts Wout Dd) Dd σ H) E ρ O := fun F H σ rs s x Dd l => by
  refine q _ F H σ rs s ?_ Dd l
  rintro F' H' O' σ' ρ' C dx fs s1 rs1 st1 rx ⟨b, hb, hy, hn⟩
  refine ⟨b, hb, fun e a ha => ?_, fun e => hW F' O' H' σ' ρ' C dx fs (x.mono s1) rs1 st1 rx (hn e)⟩
  obtain ⟨F2, s2, st2, rd2⟩ := catch_frz (a := a) (C := C) st1 rx
  have s12 := s1.trans s2
  refine hy e a dx (fun z => by
    cases dx with
    | none => rfl
    | some d => obtain ⟨_, _, _, h⟩ := rx; exact absurd z h) F2 H' _ ((rs1.mono s2).set i rd2) st2 (x.mono s12) _ ⟨?_, l.rt.mono s12, ?_, ?_⟩
  · exact fun F3 H3 O3 σ3 ρ3 s3 rs3 st3 q3 => l.nx F3 H3 O3 _ _ (s12.trans s3) (rs3.forget i none) st3 q3
  · exact fun F3 H3 O3 σ3 ρ3 s3 rs3 st3 q3 => l.bk F3 H3 O3 _ _ (s12.trans s3) (rs3.forget i none) st3 q3
  · exact fun F3 H3 O3 σ3 ρ3 s3 rs3 st3 q3 => l.ct F3 H3 O3 _ _ (s12.trans s3) (rs3.forget i none) st3 q3
/-- e.f in the suite -/
theorem l_xf {a C : Addr} {dx : Option Addr} {n : Str} {te : TE} {fs : List (Str × D)} (q : LE c te ρ O fun x O1 => ∃ d, x = .exc a dx C fs ∧ fs.lookup n = some d ∧ Q d O1) : LE c (tXf a (.ref C) dx C n te) ρ O Q := fun F H σ rs s x Q' k =>
  q F H σ rs s x _ fun F1 H1 O1 v y s1 st1 rd1 ⟨d, e, hl, q1⟩ => by
    subst e
    cases rd1 with
    | excN => cases hl
    | excS _ h r =>
      obtain ⟨v, h1, h2⟩ := r.lookup hl
      exact ⟨rfl, rfl, _, _, v, rfl, st1.same _ _ h, h1, k F1 H1 O1 v d s1 st1 h2 q1⟩
theorem l_fld {K' : Fr} (hK : K' = c.K) {te : TE} {f : Str} (q : LE c te ρ O fun x O1 => ∃ C gs d, x = .ins C gs ∧ Cls c.K C ∧ NoAttr c.K C f ∧ gs.lookup f = some d ∧ Q d O1) : LE c (tFld K' te f) ρ O Q := by
  subst hK
  intro F H σ rs s x Q' k
  exact
    q F H σ rs s x _ fun F1 H1 O1 v y s1 st1 rd1 ⟨C, gs, d, e, hc, hn, hl, q1⟩ => by
      subst e
      cases rd1 with
      | ins h r =>
        obtain ⟨u, h1, h2⟩ := r.lookup hl
        exact ⟨_, C, _, _, u, rfl, st1.same _ _ h, hc, hn, h1, k F1 H1 O1 u d s1 st1 h2 q1⟩
def putD (f : Str) (v : D) : List (Str × D) → List (Str × D)
  | [] => [(f, v)]
  | (g, x) :: r => if g = f then (g, v) :: r else (g, x) :: putD f v r
theorem repF_put {K : Fr} {F : Hp} {f : Str} {v : V} {d : D} (r : RepD K F v d) : ∀ {fs : List (Str × V)} {gs : List (Str × D)}, RepF K F fs gs → RepF K F (putF f v fs) (putD f d gs)
  | _, _, .nil => .cons r .nil
  | _, _, .cons (x := x) a t => by
    show RepF K F (if x = f then _ else _) (if x = f then _ else _)
    by_cases h : x = f
    · rw [if_pos h, if_pos h]; exact .cons r t
    · rw [if_neg h, if_neg h]; exact .cons a (repF_put r t)
theorem RepF.len {K : Fr} {F : Hp} : ∀ {fs : List (Str × V)} {gs : List (Str × D)}, RepF K F fs gs → fs.length = gs.length
  | _, _, .nil => rfl
  | _, _, .cons _ t => by rw [List.length_cons, List.length_cons, RepF.len t]
/-- an object's attribute is set -/
theorem s_fld {K' : Fr} (hK : K' = c.K) {ta tv : TE} {f : Str} (q : LE c tv ρ O fun y O1 => LE c ta ρ O1 fun x O2 => ∃ p C gs, x = .ref p ∧ O2 p = some (.ins C gs) ∧ Cls c.K C ∧ NoAttr c.K C f ∧ gs.length < 1000 ∧ E.nx ρ (updO O2 p (.ins C (putD f y gs)))) : LS c (sFld K' ta tv f) E ρ O := by
  subst hK
  intro F H σ rs s x Dd l
  exact
    q F H σ rs s x _ fun F1 H1 O1 v y s1 st1 rd1 q1 => q1 F1 H1 σ (rs.mono s1) st1 (x.mono s1) _ fun F2 H2 O2 u z s2 st2 rd2 ⟨p, C, gs, e, ho, hc, hn, hl, q2⟩ => by
      subst e
      cases rd2
      obtain ⟨h0, dx, fs, h1, h2⟩ := st2.own p _ ho
      exact ⟨p, C, dx, fs, rfl, h1, hc, hn, by rw [h2.len]; exact hl, l.nx F2 _ _ σ ρ (s1.trans s2) (rs.mono (s1.trans s2)) (st2.write (o' := .ins C (putD f y gs)) ho ⟨dx, _, upd_same, repF_put (rd1.mono s2) h2⟩) q2⟩
/-- a new object of a class of the text, by its __init__; it stays as it is behind it -/
theorem l_make {W : WL} {C : Addr} {dvs : List V} {dds : List D} {XE : XK} {ta : TA} (hE : ∀ σ, c.E0 σ = XE) (hd : ∀ F, RepsD c.K F dvs dds) (q : LA c ta ρ O fun ds O1 => ∀ p, O1 p = none → W (.ref p :: (ds ++ dds)) (updO O1 p (.ins C [])) (fun r O2 => r = .non ∧ ∃ gs, O2 p = some (.ins C gs) ∧ Q (.ins C gs) (delO O2 p)) fun C' fs O2 => c.Ex C' fs ρ O2) :
    LE c (tMake C (SpL c.K W) dvs XE ta) ρ O Q := fun F H σ rs s x Q' k =>
  q F H σ rs s x _ fun F1 H1 O1 vs ds s1 st1 rd1 q1 a dx ha hdx ne => by
    have f := st1.fresh ha
    have st2 : StO c.K F1 O1 (upd H1 dx (.own a)) := ⟨st1.same.trans (MB.Same.upd hdx), fun b o e => ⟨(st1.own b o e).1, (st1.own b o e).2.move (Same.refl _) (upd_ne fun z => by subst z; rw [(st1.fresh hdx).1] at e; cases e)⟩⟩
    have ha2 : upd H1 dx (.own a) a = none := (upd_ne (Ne.symm ne)).trans ha
    refine ⟨F1, _, _, _, _, .cons (.ref a) (rd1.append (hd F1)), st2.newO (o := .ins C []) ha2 ⟨dx, [], upd_same, .nil⟩, q1 a f.1, ?_, ?_⟩
    · rintro F2 H2 O2 v r s2 st3 rd3 ⟨rfl, gs, ho, q3⟩
      cases rd3
      obtain ⟨h0, dx', fs, h1, h2⟩ := st3.own a _ ho
      have sm : Same F2 (upd F2 a (.ins C dx' fs)) := MB.Same.upd h0
      refine ⟨rfl, k (upd F2 a (.ins C dx' fs)) H2 (delO O2 a) _ _ ((s1.trans s2).trans sm) ⟨fun b o e => ?_, fun b o e => ?_⟩ (.ins upd_same (h2.mono sm)) q3⟩
      · by_cases hb : b = a
        · subst hb; rw [upd_same] at e; cases e; exact h1
        · rw [upd_ne hb] at e; exact st3.same b o e
      · by_cases nb : b = a
        · subst nb; rw [delO_same] at e; cases e
        · rw [delO_ne nb] at e
          exact ⟨(upd_ne nb).trans (st3.own b o e).1, (st3.own b o e).2.move sm rfl⟩
    · intro F2 H2 O2 C' dx2 fs s2 st3 rx ex
      rw [← hE σ]
      exact x F2 H2 O2 σ ρ C' dx2 fs (s1.trans s2) (rs.mono (s1.trans s2)) st3 rx ex
def tyD (O : Oh) : D → Option String
  | .non => some "NoneType" | .bl _ => some "bool" | .int _ => some "int" | .str _ => some "str" | .lst _ => some "list" | .tup _ => some "tuple"
  | .ref p => match O p with
    | some (.lst _) => some "list"
    | some (.dk _) => some "dict"
    | _ => none
  | _ => none
theorem tyD_own {O : Oh} {p : Addr} {xs : List D} (h : O p = some (.lst xs)) : tyD O (.ref p) = some "list" := by
  show (match O p with | some (.lst _) => some "list" | some (.dk _) => some "dict" | _ => none) = _
  rw [h]
theorem tyD_ok {K : Fr} {F H : Hp} {O : Oh} {v : V} {d : D} {n : String} (s : StO K F O H) (r : RepD K F v d) (h : tyD O d = some n) : TyX K H v (.type n) := by
  cases d with
  | non => cases h; cases r; exact .base .non
  | bl b => cases h; cases r; exact .base (.bl _)
  | int b => cases h; cases r; exact .base (.int _)
  | str b => cases h; cases r; exact .base (.str _)
  | lst xs => cases h; cases r with | lst a b => exact .base (.lst (s.same _ _ a))
  | tup xs => cases h; cases r with | tup a b => exact K00.ty_tup (sqT_same s.same a)
  | ref p =>
    have h : (match O p with | some (.lst _) => some "list" | some (.dk _) => some "dict" | _ => none) = some n := h
    cases r
    cases e : O p with
    | none => rw [e] at h; cases h
    | some o =>
      rw [e] at h
      cases o with
      | lst xs => cases h; obtain ⟨_, vs, a, _⟩ := s.own p _ e; exact .base (.lst a)
      | dk xs => cases h; obtain ⟨_, vs, a, _⟩ := s.own p _ e; exact .base (.dK a)
      | _ => cases h
  | _ => cases h
theorem k_isi {K' : Fr} (hK : K' = c.K) {x : D} {m n : String} {b : Bool} (ty : tyD O x = some m) (h : kitB m n = some b) (q : Q (.bl b) O) : CAR c (rIsi K') [x, .ty n] O Q := by
  subst hK
  intro F H vs s r z Q' k
  cases r with
  | cons ra t =>
    cases t with
    | cons rb t =>
      cases t; cases rb
      exact ⟨_, .ty n, .type m, .type n, b, rfl, .ty n, tyD_ok s ra ty, kit_ty h, k F H O _ _ (Same.refl F) s (.bl b) q⟩
/-- isinstance(x, (S, T)) -/
theorem l_isiT {K' : Fr} (hK : K' = c.K) {te : TE} {m n : String} (q : LE c te ρ O fun x O1 => ∃ l b1 b2, tyD O1 x = some l ∧ kitB l m = some b1 ∧ kitB l n = some b2 ∧ Q (.bl (b1 || b2)) O1) : LE c (tCB (rIsiT K') (tCons te (tCons (tTup (tCons (tC (.ty m)) (tCons (tC (.ty n)) tNil))) tNil))) ρ O Q := by
  subst hK
  intro F H σ rs s x Q' k
  exact
    q F H σ rs s x _ fun F1 H1 O1 v d s1 st1 rd1 ⟨l, b1, b2, ty, h1, h2, q1⟩ => by
      refine ⟨by show 2 ≤ sizeLine; decide, fun p hp => ⟨v, p, [.ty m, .ty n], .type l, [.type m, .type n], b1 || b2, rfl, upd_same, .cons (.ty m) (.cons (.ty n) .nil), ?_, ?_, ?_⟩⟩
      · have st2 : StO c.K (upd F1 p (.tup [.ty m, .ty n])) O1 (upd H1 p (.tup [.ty m, .ty n])) := st1.newF hp
        exact tyD_ok st2 (rd1.mono (MB.Same.upd (st1.fresh hp).2)) ty
      · have k1 := kit_ty (K := c.K) h1
        have k2 := kit_ty (K := c.K) h2
        unfold PySem.W.kitAny PySem.W.kitAny PySem.W.kitAny
        rw [k1, k2]
        cases b1 <;> cases b2 <;> rfl
      · exact k _ _ O1 _ _ (s1.trans (MB.Same.upd (st1.fresh hp).2)) (st1.newF hp) (.bl _) q1
theorem o_catT {K' : Fr} (hK : K' = c.K) {xs ys : List D} (hl : xs.length + ys.length ≤ sizeLine) (q : Q (.tup (xs ++ ys)) O) : O2R c (rCatA K') (.tup xs) (.tup ys) O Q := by
  subst hK
  intro F H v w s rv rw z Q' k
  have rv' := rv
  have rw' := rw
  cases rv' with
  | @tup _ us _ h r =>
    cases rw' with
    | @tup _ us' _ h' r' =>
      refine ⟨_, _, us, us', rfl, rfl, sqT_same s.same h, sqT_same s.same h', by rw [r.len, r'.len]; exact hl, fun e => ?_, fun _ e => ?_, fun _ _ p hp => ?_⟩
      · subst e
        cases r
        exact k F H O _ _ (Same.refl F) s rw q
      · subst e
        cases r'
        rw [List.append_nil] at q
        exact k F H O _ _ (Same.refl F) s rv q
      · have sm : Same F (upd F p (.tup (us ++ us'))) := MB.Same.upd (s.fresh hp).2
        exact k _ _ O _ _ sm (s.newF hp) (.tup (.of upd_same) ((r.append r').mono sm)) q
def cutD (xs : List D) (lo hi : Option Int) : List D := (xs.drop (HT.sIx xs.length 0 lo)).take (HT.sIx xs.length xs.length hi - HT.sIx xs.length 0 lo)
theorem reps_cut {K : Fr} {F : Hp} {vs : List V} {xs : List D} (r : RepsD K F vs xs) (lo hi : Option Int) : RepsD K F (cutV vs lo hi) (cutD xs lo hi) := by
  unfold cutV cutD
  rw [r.len]
  exact (r.drop _).take _
/-- slices: the parts -/
def LO (c : Cz) (to : TO) (ρ : En) (O : Oh) (Q : Option Int → Oh → Prop) : Prop := ∀ (F H : Hp) (σ : L2.St), RepS c.K F σ ρ → StO c.K F O H → XL c F → ∀ Q' : Option Int → Hp → Prop, (∀ F' H' O' i, Same F F' → StO c.K F' O' H' → Q i O' → Q' i H') → to σ H Q'
theorem lo_none {Q : Option Int → Oh → Prop} (q : Q none O) : LO c tNoPart ρ O Q := fun F H σ rs s x Q' k => k F H O none (Same.refl F) s q
theorem lo_some {te : TE} {Q : Option Int → Oh → Prop} (q : LE c te ρ O fun x O1 => ∃ i, x = .int i ∧ Q (some i) O1) : LO c (tPart te) ρ O Q := fun F H σ rs s x Q' k =>
  q F H σ rs s x _ fun F1 H1 O1 v d s1 st1 rd1 ⟨i, e, q1⟩ => by
    subst e; cases rd1
    exact ⟨i, rfl, k F1 H1 O1 _ s1 st1 q1⟩
def SLR (c : Cz) (r : V → Option Int → Option Int → Hp → VK → Prop) (x : D) (lo hi : Option Int) (O : Oh) (Q : D → Oh → Prop) : Prop := ∀ (F H : Hp) (v : V), StO c.K F O H → RepD c.K F v x → XL c F → ∀ Q' : VK, KQ c.K F Q Q' → r v lo hi H Q'
def SLN (c : Cz) (r : V → Option Int → Option Int → Hp → VK → Prop) (x : D) (lo hi : Option Int) (O : Oh) (Q : List D → Oh → Prop) : Prop := ∀ (F H : Hp) (v : V), StO c.K F O H → RepD c.K F v x → XL c F → ∀ Q' : VK, KN c.K F Q Q' → r v lo hi H Q'
theorem l_sl {r : V → Option Int → Option Int → Hp → VK → Prop} {te : TE} {tl th : TO} (q : LE c te ρ O fun x O1 => LO c tl ρ O1 fun lo O2 => LO c th ρ O2 fun hi O3 => SLR c r x lo hi O3 Q) : LE c (tSl r te tl th) ρ O Q := fun F H σ rs s x Q' k =>
  q F H σ rs s x _ fun F1 H1 O1 v d s1 st1 rd1 q1 => q1 F1 H1 σ (rs.mono s1) st1 (x.mono s1) _ fun F2 H2 O2 lo s2 st2 q2 => q2 F2 H2 σ (rs.mono (s1.trans s2)) st2 (x.mono (s1.trans s2)) _ fun F3 H3 O3 hi s3 st3 q3 =>
    q3 F3 H3 v st3 (rd1.mono (s2.trans s3)) (x.mono ((s1.trans s2).trans s3)) Q' (k.mono ((s1.trans s2).trans s3))
theorem ln_sl {r : V → Option Int → Option Int → Hp → VK → Prop} {te : TE} {tl th : TO} {Q : List D → Oh → Prop} (q : LE c te ρ O fun x O1 => LO c tl ρ O1 fun lo O2 => LO c th ρ O2 fun hi O3 => SLN c r x lo hi O3 Q) : LN c (tSl r te tl th) ρ O Q := fun F H σ rs s x Q' k =>
  q F H σ rs s x _ fun F1 H1 O1 v d s1 st1 rd1 q1 => q1 F1 H1 σ (rs.mono s1) st1 (x.mono s1) _ fun F2 H2 O2 lo s2 st2 q2 => q2 F2 H2 σ (rs.mono (s1.trans s2)) st2 (x.mono (s1.trans s2)) _ fun F3 H3 O3 hi s3 st3 q3 =>
    q3 F3 H3 v st3 (rd1.mono (s2.trans s3)) (x.mono ((s1.trans s2).trans s3)) Q' (k.mono ((s1.trans s2).trans s3))
theorem sl_L {K' : Fr} (hK : K' = c.K) {x : D} {xs : List D} {lo hi : Option Int} {Q : List D → Oh → Prop} (h : asL O x = some xs) (q : Q (cutD xs lo hi) O) : SLN c (rSlL K') x lo hi O Q := by
  subst hK
  intro F H v s rv z Q' k
  obtain ⟨p, vs, rfl, hp, r⟩ := asL_sq s rv h
  exact ⟨p, vs, rfl, .of hp, fun a ha => k F H O a _ _ (Same.refl F) s ha (reps_cut r lo hi) q⟩
theorem sl_T {K' : Fr} (hK : K' = c.K) {xs : List D} {lo hi : Option Int} (q : Q (.tup (cutD xs lo hi)) O) : SLR c (rSlA K') (.tup xs) lo hi O Q := by
  subst hK
  intro F H v s rv z Q' k
  have rv' := rv
  cases rv' with
  | @tup _ us _ h r =>
    refine ⟨_, us, rfl, sqT_same s.same h, fun e => ?_, fun _ p hp => ?_⟩
    · have e2 : cutD xs lo hi = xs := by
        rw [r.len] at e
        unfold cutD
        rw [e.1, e.2]
        simp
      rw [e2] at q
      exact k F H O _ _ (Same.refl F) s rv q
    · have sm : Same F (upd F p (.tup (cutV us lo hi))) := MB.Same.upd (s.fresh hp).2
      exact k _ _ O _ _ sm (s.newF hp) (.tup (.of upd_same) ((reps_cut r lo hi).mono sm)) q
/-- the ints in order -/
theorem k_sortedI {K' : Fr} (hK : K' = c.K) {x : D} {ns : List Int} {Q : List D → Oh → Prop} (h : asL O x = some (ns.map D.int)) (q : ∀ ms : List Int, ms.Perm ns → ms.Pairwise (· ≤ ·) → Q (ms.map D.int) O) : CAN c (rSortedI K') [x] O Q := by
  subst hK
  intro F H vs s r z Q' k
  cases r with
  | cons a t =>
    cases t
    obtain ⟨p, ws, rfl, hp, r⟩ := asL_sq s a h
    cases repsD_ints r
    exact ⟨p, ns, rfl, .of hp, fun ms l hm hs hl => k F H O l _ _ (Same.refl F) s hl repsD_int' (q ms hm hs)⟩
theorem l_bm {K' : Fr} (hK : K' = c.K) {r : V → List V → Hp → VK → Prop} {te : TE} {ta : TA} (q : LE c te ρ O fun x O1 => (∃ xs, asL O1 x = some xs) ∧ LA c ta ρ O1 fun ds O2 => MTR c r x ds O2 Q) : LE c (tBM K' "list" r te ta) ρ O Q := by
  subst hK
  intro F H σ rs s x Q' k
  exact
    q F H σ rs s x _ fun F1 H1 O1 v d s1 st1 rd1 ⟨⟨xs, h⟩, q1⟩ => by
      obtain ⟨p, vs, rfl, hp, r⟩ := asL_sq st1 rd1 h
      exact ⟨Or.inl ⟨rfl, _, .of hp⟩, q1 F1 H1 σ (rs.mono s1) st1 (x.mono s1) _ fun F2 H2 O2 us ds s2 st2 rd2 q2 => q2 F2 H2 _ us st2 (rd1.mono s2) rd2 (x.mono (s1.trans s2)) Q' (k.mono (s1.trans s2))⟩
theorem l_bm0 {K' : Fr} (hK : K' = c.K) {r : V → List V → Hp → VK → Prop} {te : TE} (q : LE c te ρ O fun x O1 => (∃ xs, asL O1 x = some xs) ∧ MTR c r x [] O1 Q) : LE c (tBM0 K' "list" r te) ρ O Q := by
  subst hK
  intro F H σ rs s x Q' k
  exact
    q F H σ rs s x _ fun F1 H1 O1 v d s1 st1 rd1 ⟨⟨xs, h⟩, q1⟩ => by
      obtain ⟨p, vs, rfl, hp, r⟩ := asL_sq st1 rd1 h
      exact ⟨Or.inl ⟨rfl, _, .of hp⟩, q1 F1 H1 _ [] st1 rd1 .nil (x.mono s1) Q' (k.mono s1)⟩
theorem m_append {p : Addr} {xs : List D} {d : D} (h : O p = some (.lst xs)) (hl : xs.length < sizeLine) (q : Q .non (updO O p (.lst (xs ++ [d])))) : MTR c rAppend (.ref p) [d] O Q := fun F H v vs s rv rs z Q' k => by
  cases rv
  cases rs with
  | cons a t =>
    cases t
    obtain ⟨_, us, h1, h2⟩ := s.own p _ h
    exact ⟨p, us, _, rfl, rfl, h1, by rw [h2.len]; exact hl, k F _ _ _ _ (Same.refl F) (s.write (o' := .lst (xs ++ [d])) h ⟨_, upd_same, h2.append (.cons a .nil)⟩) .non q⟩
theorem m_popAt {p : Addr} {xs : List D} {d : D} {i : Int} {j : Nat} (h : O p = some (.lst xs)) (hi : -(2 ^ 63) ≤ i ∧ i < 2 ^ 63) (hj : seqIndex? i xs.length = some j) (hd : xs[j]? = some d) (q : Q d (updO O p (.lst (xs.eraseIdx j)))) : MTR c rPopAt (.ref p) [.int i] O Q := fun F H v vs s rv rs z Q' k => by
  cases rv
  cases rs with
  | cons a t =>
    cases t; cases a
    obtain ⟨_, us, h1, h2⟩ := s.own p _ h
    obtain ⟨y, h3, h4⟩ := h2.at' hd
    exact ⟨p, us, i, j, y, rfl, rfl, h1, hi.1, hi.2, by rw [h2.len]; exact hj, h3, k F _ _ _ _ (Same.refl F) (s.write (o' := .lst (xs.eraseIdx j)) h ⟨_, upd_same, h2.eraseIdx j⟩) h4 q⟩
def rMM (g : Int → Int → Int) : RC := fun xs H Q => ∃ i j, xs = [.int i, .int j] ∧ Q (.int (g i j)) H
theorem k_max2 {X : Cx} (hc : X.calm = true) : CallR X (.builtin "max") (rMM fun i j => if j > i then j else i) := call_max2 hc
theorem k_min2 {X : Cx} (hc : X.calm = true) : CallR X (.builtin "min") (rMM fun i j => if j < i then j else i) := call_min2 hc
theorem k_MM {g : Int → Int → Int} {i j : Int} (q : Q (.int (g i j)) O) : CAR c (rMM g) [.int i, .int j] O Q := fun F H vs s r z Q' k => by
  cases r with
  | cons ra t =>
    cases t with
    | cons rb t => cases t; cases ra; cases rb; exact ⟨i, j, rfl, k F H O _ _ (Same.refl F) s (.int _) q⟩
end
end VL
set_option maxHeartbeats 2000000
namespace VL
open PySem PySem.Spec PyProof.Rows L2 MB
theorem ps_own {X : Cx} {st : Stmt} {t : TE} {g : TG} (h : PS X st (tAsg t g)) : PS X st (tAsg (tOwn t) g) := h
theorem pe_gref {X : Cx} {x : Str} {pos : Pos} {a : Addr} (hg : Gl X x) (hm : X.mg x = some (.ref a)) (hd : (x == ("__debug__" : Str)) = false := by decide) : PE X (.Name x pos) (tC (.ref a)) := pe_glob hg hm rfl hd
theorem pe_gint {X : Cx} {x : Str} {pos : Pos} {i : Int} (hg : Gl X x) (hm : ∃ t, X.mg x = some (.int i t)) (hd : (x == ("__debug__" : Str)) = false := by decide) : PE X (.Name x pos) (tC (.int i)) := by
  obtain ⟨t, hm⟩ := hm
  exact pe_glob hg hm ⟨t, rfl⟩ hd
/-- an own error class with its attributes -/
def errB (K : Fr) (p : Str × List Str) : Bool := MB.excCB K (He.ga K p.1) && (match p.2 with
  | [] => (He.Fa.exc p.1).ok K
  | fs => MB.oexB K (He.ga K p.1) && (decide (PySem.W.findIn K (.ref (He.ga K p.1)) "__init__" = some (some (.ref (He.ma K (He.ga K p.1) "__init__")))) && (decide (PySem.W.typeIn K (.ref (He.ma K (He.ga K p.1) "__init__")) = some (.type "function")) &&
      (xfB K (He.ga K p.1) && fs.all fun f => decide (PySem.W.findIn K (.ref (He.ga K p.1)) f = some none)))))
structure TxtV (fa : List He.Fa) (fn : List He.DefD) (cs : List (Str × List Str)) (ex : Fr → Bool) (K : Fr) (mg : Str → Option Value) : Prop where
  h : ∃ h : Heap, K.In h ∧ h.Ns mainGlobals mg
  c : He.SaysD fa fn K
  e : (cs.all (errB K) && ex K) = true
section
variable {fa : List He.Fa} {fn : List He.DefD} {cs : List (Str × List Str)} {ex : Fr → Bool} {K : Fr} {mg : Str → Option Value} {x f : Str} {fs : List Str}
theorem TxtV.free (T : TxtV fa fn cs ex K mg) (i : Nat) (h : fa[i]? = some (.free x) := by rfl) : mg x = none := by
  obtain ⟨h', X, G⟩ := T.h
  exact He.free_ok X G (T.c.fact i h)
theorem TxtV.glo (T : TxtV fa fn cs ex K mg) (i : Nat) (h : fa[i]? = some (.glo x) := by rfl) : mg x = some (.ref (He.ga K x)) := by
  obtain ⟨h', X, G⟩ := T.h
  exact He.glo_ok X G (T.c.fact i h)
theorem TxtV.int (T : TxtV fa fn cs ex K mg) (i : Nat) {n : Int} (h : fa[i]? = some (.int x n) := by rfl) : ∃ t, mg x = some (.int n t) := by
  obtain ⟨h', X, G⟩ := T.h
  exact He.int_ok X G (T.c.fact i h)
theorem TxtV.cls (T : TxtV fa fn cs ex K mg) (i : Nat) (h : fa[i]? = some (.cls x) := by rfl) : Cls K (He.ga K x) := He.cls_ok (T.c.fact i h)
theorem TxtV.noat (T : TxtV fa fn cs ex K mg) (i : Nat) (h : fa[i]? = some (.noat x f) := by rfl) : NoAttr K (He.ga K x) f := He.noat_ok (T.c.fact i h)
theorem TxtV.mkr (T : TxtV fa fn cs ex K mg) (i : Nat) (h : fa[i]? = some (.mkr x) := by rfl) : Mk K (He.ga K x) (He.ma K (He.ga K x) "__init__") := He.mkr_ok (T.c.fact i h)
theorem TxtV.exm (T : TxtV fa fn cs ex K mg) (i : Nat) {y : Str} {b : Bool} (h : fa[i]? = some (.exm x y b) := by rfl) : PySem.W.exmOne K (.ref (He.ga K x)) (.ref (He.ga K y)) = some b := He.exm_ok (T.c.fact i h)
theorem TxtV.er (T : TxtV fa fn cs ex K mg) (i : Nat) (h : cs[i]? = some (x, fs)) : errB K (x, fs) = true := List.all_eq_true.mp (He.ba T.e).1 _ (List.mem_of_getElem? h)
theorem TxtV.ec (T : TxtV fa fn cs ex K mg) (i : Nat) (h : cs[i]? = some (x, fs) := by rfl) : ExcC K (He.ga K x) := MB.excCB_ok (He.ba (T.er i h)).1
theorem TxtV.de (T : TxtV fa fn cs ex K mg) (i : Nat) (h : cs[i]? = some (x, []) := by rfl) : PySem.W.excIn K (He.ga K x) He.veBase "ValueError.__new__" = true ∧ PySem.W.keepIn K (.ref (He.ga K x)) = true ∧ PySem.W.subIn K (.ref (He.ga K x)) (.type "BaseException") = some true ∧
    PySem.W.typeIn K (.ref (He.ga K x)) = some (.type "type") := He.exc_ok (He.ba (T.er i h)).2
theorem TxtV.fb (T : TxtV fa fn cs ex K mg) (i : Nat) {g : Str} (h : cs[i]? = some (x, g :: fs)) : MB.oexB K (He.ga K x) = true ∧ PySem.W.findIn K (.ref (He.ga K x)) "__init__" = some (some (.ref (He.ma K (He.ga K x) "__init__"))) ∧
    PySem.W.typeIn K (.ref (He.ma K (He.ga K x) "__init__")) = some (.type "function") ∧ xfB K (He.ga K x) = true ∧ ∀ f ∈ g :: fs, PySem.W.findIn K (.ref (He.ga K x)) f = some none := by
  obtain ⟨q1, q⟩ := He.ba (He.ba (T.er i h)).2
  obtain ⟨q2, q⟩ := He.ba q
  obtain ⟨q3, q⟩ := He.ba q
  obtain ⟨q4, q⟩ := He.ba q
  exact ⟨q1, of_decide_eq_true q2, of_decide_eq_true q3, q4, fun f hf => of_decide_eq_true (List.all_eq_true.mp q f hf)⟩
theorem TxtV.bo (T : TxtV fa fn cs ex K mg) (i : Nat) {g : Str} (h : cs[i]? = some (x, g :: fs) := by rfl) : OexC K (He.ga K x) := MB.oexB_ok (T.fb i h).1
theorem TxtV.bi (T : TxtV fa fn cs ex K mg) (i : Nat) {g : Str} (h : cs[i]? = some (x, g :: fs) := by rfl) : PySem.W.findIn K (.ref (He.ga K x)) "__init__" = some (some (.ref (He.ma K (He.ga K x) "__init__"))) := (T.fb i h).2.1
theorem TxtV.bt (T : TxtV fa fn cs ex K mg) (i : Nat) {g : Str} (h : cs[i]? = some (x, g :: fs) := by rfl) : PySem.W.typeIn K (.ref (He.ma K (He.ga K x) "__init__")) = some (.type "function") := (T.fb i h).2.2.1
theorem TxtV.bx (T : TxtV fa fn cs ex K mg) (i : Nat) {g : Str} (h : cs[i]? = some (x, g :: fs) := by rfl) : XfC K (He.ga K x) := xfB_ok (T.fb i h).2.2.2.1
theorem TxtV.bn (T : TxtV fa fn cs ex K mg) (i j : Nat) {g : Str} (h : cs[i]? = some (x, g :: fs) := by rfl) (hf : (g :: fs)[j]? = some f := by rfl) : PySem.W.findIn K (.ref (He.ga K x)) f = some none := (T.fb i h).2.2.2.2 f (List.mem_of_getElem? hf)
section
variable {P : Program} {w : World} {base : Heap} {qual : Str} {params : Arguments} {body : List Stmt} {scope : Scope} {fd : FuncData} {C fI : Addr}
end
end
end VL
set_option maxHeartbeats 2000000
namespace VL
open PySem PySem.Spec PyProof.Rows L2 MB
section
variable {A B : Prop}
theorem nn0 (h : A) : if isNon .non = true then A else B := iteT h
theorem nn1 {i : Int} (h : B) : if isNon (.int i) = true then A else B := iteF h
theorem nn2 {i : Bool} (h : B) : if isNon (.bl i) = true then A else B := iteF h
theorem nn3 {i : Str} (h : B) : if isNon (.str i) = true then A else B := iteF h
theorem nn4 {i : List D} (h : B) : if isNon (.lst i) = true then A else B := iteF h
theorem nn5 {i : List D} (h : B) : if isNon (.tup i) = true then A else B := iteF h
theorem nn6 {i : Addr} (h : B) : if isNon (.ref i) = true then A else B := iteF h
theorem nn7 {C : Addr} {i : List (Str × D)} (h : B) : if isNon (.ins C i) = true then A else B := iteF h
theorem mm0 (h : B) : if (!isNon .non) = true then A else B := iteF h
theorem mm1 {i : Int} (h : A) : if (!isNon (.int i)) = true then A else B := iteT h
theorem mm2 {i : Bool} (h : A) : if (!isNon (.bl i)) = true then A else B := iteT h
theorem mm3 {i : Str} (h : A) : if (!isNon (.str i)) = true then A else B := iteT h
theorem mm4 {i : List D} (h : A) : if (!isNon (.lst i)) = true then A else B := iteT h
theorem mm5 {i : List D} (h : A) : if (!isNon (.tup i)) = true then A else B := iteT h
theorem mm6 {i : Addr} (h : A) : if (!isNon (.ref i)) = true then A else B := iteT h
theorem mm7 {C : Addr} {i : List (Str × D)} (h : A) : if (!isNon (.ins C i)) = true then A else B := iteT h
theorem and_len {n : Nat} (h : n ≤ 100000) (q : A) : n ≤ sizeLine ∧ A := ⟨Nat.le_trans h (by decide), q⟩
theorem lt_line {n : Nat} (h : n < 100000) : n < sizeLine := Nat.lt_of_lt_of_le h (by decide)
theorem le_line {n : Nat} (h : n ≤ 100000) : n ≤ sizeLine := Nat.le_trans h (by decide)
end
theorem ex_bl {b : Bool} {Q : Bool → Prop} (q : Q b) : ∃ k, D.bl b = .bl k ∧ Q k := ⟨b, rfl, q⟩
theorem ex_int {i : Int} {Q : Int → Prop} (q : Q i) : ∃ k, D.int i = .int k ∧ Q k := ⟨i, rfl, q⟩
theorem ex_tup {xs : List D} {Q : List D → Prop} (q : Q xs) : ∃ k, D.tup xs = .tup k ∧ Q k := ⟨xs, rfl, q⟩
theorem ex_r1 {j : Int} {Q : Int → Prop} (b : -(2 ^ 62) ≤ j ∧ j < 2 ^ 62) (q : Q j) : ∃ k, [D.int j] = [.int k] ∧ (-(2 ^ 62) ≤ k ∧ k < 2 ^ 62) ∧ Q k := ⟨j, rfl, b, q⟩
theorem ex_r2 {i j : Int} {Q : Int → Int → Prop} (b : -(2 ^ 62) ≤ i ∧ i < 2 ^ 62 ∧ -(2 ^ 62) ≤ j ∧ j < 2 ^ 62) (q : Q i j) : ∃ k l, [D.int i, D.int j] = [.int k, .int l] ∧ (-(2 ^ 62) ≤ k ∧ k < 2 ^ 62 ∧ -(2 ^ 62) ≤ l ∧ l < 2 ^ 62) ∧ Q k l := ⟨i, j, rfl, b, q⟩
theorem ex_two {a b : D} {Q : D → D → Prop} (q : Q a b) : ∃ x y, [a, b] = [x, y] ∧ Q x y := ⟨a, b, rfl, q⟩
theorem ex_one {a : D} {Q : D → Prop} (q : Q a) : ∃ x, [a] = [x] ∧ Q x := ⟨a, rfl, q⟩
theorem ex_asL {O : Oh} {x : D} {xs : List D} {Q : List D → Prop} (h : asL O x = some xs) (q : Q xs) : ∃ ys, asL O x = some ys ∧ Q ys := ⟨xs, h, q⟩
theorem ex_asLB {O : Oh} {x : D} {xs : List D} {A : Prop} (h : asL O x = some xs) (q : A) : (∃ ys, asL O x = some ys) ∧ A := ⟨⟨xs, h⟩, q⟩
section
variable {c : Cz} {ρ : En} {O : Oh} {Q : D → Oh → Prop}
theorem f_lst {ta : TA} (q : LA c ta ρ O fun xs O1 => xs.length ≤ sizeLine ∧ Q (.lst xs) O1) : LE c (tLst ta) ρ O Q := l_frz (ln_lst q)
theorem f_list {K' : Fr} (hK : K' = c.K) {ta : TA} (q : LA c ta ρ O fun xs O1 => CAN c (rListOf K') xs O1 fun ys O2 => Q (.lst ys) O2) : LE c (tCB (rListOf K') ta) ρ O Q := by
  subst hK
  exact l_frz (ln_cb q)
theorem f_sorted {K' : Fr} (hK : K' = c.K) {ta : TA} (q : LA c ta ρ O fun xs O1 => CAN c (rSortedI K') xs O1 fun ys O2 => Q (.lst ys) O2) : LE c (tCB (rSortedI K') ta) ρ O Q := by
  subst hK
  exact l_frz (ln_cb q)
theorem f_cat {ta tb : TE} (q : LE c ta ρ O fun x O1 => LE c tb ρ O1 fun y O2 => O2N c rCat x y O2 fun ys O3 => Q (.lst ys) O3) : LE c (tOp rCat ta tb) ρ O Q := l_frz (ln_op q)
theorem f_sl {K' : Fr} (hK : K' = c.K) {te : TE} {tl th : TO} (q : LE c te ρ O fun x O1 => LO c tl ρ O1 fun lo O2 => LO c th ρ O2 fun hi O3 => SLN c (rSlL K') x lo hi O3 fun ys O4 => Q (.lst ys) O4) : LE c (tSl (rSlL K') te tl th) ρ O Q := by
  subst hK
  exact l_frz (ln_sl q)
theorem f_lc {wi : TI} {g : TG} {tt : TT} {te : TE} {vs : List Nat} (q : LN c (tLc wi g tt te vs) ρ O fun ys O1 => Q (.lst ys) O1) : LE c (tLc wi g tt te vs) ρ O Q := l_frz q
theorem l_yes {Q : Bool → Oh → Prop} (q : Q true O) : LT c tYes ρ O Q := fun F H σ rs s x Q' k => k F H O true (Same.refl F) s q
theorem ip_int {g : Int → Int → V} {i j : Int} {d : D} {t : TIp} (ht : t = rI0 g) (h : dOf (g i j) = some d) (q : Q d O) : IPR c t (.int i) (.int j) O Q := ht ▸ o_I0 h q
end
/-- the hand, opened and shut -/
theorem hand_shut {c : Cz} {ts : TS} {E : EnL} {ρ : En} {O : Oh} {p : Addr} {ns : List Int} {i rest st : Int} (h : O p = some (.lst [.lst (ns.map D.int), .int i, .int rest, .int st])) (b : 0 ≤ i ∧ 0 ≤ rest ∧ (∀ n ∈ ns, 0 ≤ n) ∧ ns.length ≤ 63)
    {v : V} {F H : Hp} (s : StO c.K F O H) : StO c.K F (updO O p .hand) H := by
  refine ⟨s.same, fun a o e => ?_⟩
  by_cases ne : a = p
  · subst ne
    rw [updO_same] at e; cases e
    obtain ⟨f, vs, h1, h2⟩ := s.own a _ h
    refine ⟨f, ?_⟩
    cases h2 with
    | cons r1 t =>
      cases t with
      | cons r2 t =>
        cases t with
        | cons r3 t =>
          cases t with
          | cons r4 t =>
            cases t; cases r2; cases r3; cases r4
            cases r1 with
            | lst q r =>
              cases repsD_ints r
              exact ⟨_, ns, i, rest, st, h1, q, b⟩
  · rw [updO_ne ne] at e
    exact s.own a o e
/-- a value is given back, the list behind it becomes the hand -/
theorem q_shut {K : Fr} {F : Hp} {Q : D → Oh → Prop} {Q' : VK} (k : KQ K F Q Q') : KQ K F (fun d O => Q d O ∨ ∃ (p : Addr) (ns : List Int) (i rest st : Int), O p = some (.lst [.lst (ns.map D.int), .int i, .int rest, .int st]) ∧ (0 ≤ i ∧ 0 ≤ rest ∧ (∀ n ∈ ns, 0 ≤ n) ∧ ns.length ≤ 63) ∧ Q d (updO O p .hand)) Q' := by
  rintro F' H' O' v d s st rd (q | ⟨p, ns, i, rest, sst, h, b, q⟩)
  · exact k F' H' O' v d s st rd q
  · exact k F' H' _ v d s (hand_shut (c := ⟨K, fun _ => E0, fun _ _ _ _ => False⟩) (ts := tNext) (E := ⟨fun _ _ => True, fun _ _ => True, fun _ _ => False, fun _ _ => False⟩) (ρ := []) (v := .non) h b st) rd q
/-- open the hand at the beginning of a body; it is shut where a value is given back -/
theorem s_hand {c : Cz} {ts : TS} {E : EnL} {ρ : En} {O : Oh} {p : Addr} (h : O p = some .hand) (q : ∀ (ns : List Int) (i rest st : Int), (0 ≤ i ∧ 0 ≤ rest ∧ (∀ n ∈ ns, 0 ≤ n) ∧ ns.length ≤ 63) →
    LS c ts { E with rt := fun d O' => ∃ (ns : List Int) (i rest st : Int), O' p = some (.lst [.lst (ns.map D.int), .int i, .int rest, .int st]) ∧ (0 ≤ i ∧ 0 ≤ rest ∧ (∀ n ∈ ns, 0 ≤ n) ∧ ns.length ≤ 63) ∧ E.rt d (updO O' p .hand) } ρ (updO O p (.lst [.lst (ns.map D.int), .int i, .int rest, .int st]))) : LS c ts E ρ O := fun F H σ rs s x Dd l => by
  obtain ⟨f, hh⟩ := s.own p _ h
  obtain ⟨lc, ns, i, rest, st, h1, h2, b⟩ := hh
  refine q ns i rest st b F H σ rs ⟨s.same, fun a o e => ?_⟩ x Dd ⟨l.nx, fun F' H' O' v d sm st' rd ⟨ns, i, rest, st, e, b, k⟩ => q_shut l.rt F' H' O' v d sm st' rd (.inr ⟨p, ns, i, rest, st, e, b, k⟩), l.bk, l.ct⟩
  by_cases ne : a = p
  · subst ne
    rw [updO_same] at e; cases e
    exact ⟨f, _, h1, .cons (.lst h2 repsD_int') (.cons (.int i) (.cons (.int rest) (.cons (.int st) .nil)))⟩
  · rw [updO_ne ne] at e
    exact s.own a o e
/-- a new hand is shut where it is given back -/
theorem s_newHand {c : Cz} {te : TE} {E : EnL} {ρ : En} {O : Oh} (q : LE c te ρ O fun d O => ∃ (p : Addr) (ns : List Int) (i rest st : Int), d = .ref p ∧ O p = some (.lst [.lst (ns.map D.int), .int i, .int rest, .int st]) ∧ (0 ≤ i ∧ 0 ≤ rest ∧ (∀ n ∈ ns, 0 ≤ n) ∧ ns.length ≤ 63) ∧ E.rt d (updO O p .hand)) : LS c (tRet te) E ρ O := fun F H σ rs s x Dd l =>
  q F H σ rs s x _ fun F' H' O' v d sm st rd ⟨p, ns, i, rest, sst, _, e, b, k⟩ => q_shut l.rt F' H' O' v d sm st rd (.inr ⟨p, ns, i, rest, sst, e, b, k⟩)
theorem updO_id {O : Oh} {p : Addr} {o u : OD} (h : O p = some o) : updO (updO O p u) p o = O := by
  rw [updO_updO]
  funext b; unfold updO; split
  · rename_i e; rw [e, h]
  · rfl
end VL
set_option maxHeartbeats 4000000
namespace VL
open PySem PySem.Spec PyProof.Rows L2 MB
open AutoSeq1 (wpAny_loadPart')
def IteT (K : Fr) (a : Addr) : It :=
  ⟨fun i H => ∃ (ys : List V) (y : V), SqT K H a ys ∧ ys[i]? = some y, fun i H v H' => ∃ T y, v = .ref T ∧ H T = none ∧ H' = upd H T (.tup [.int (i : Nat), y]) ∧ ∀ ys, SqT K H a ys → ys[i]? = some y, fun i H => ∃ ys : List V, SqT K H a ys ∧ ys.length = i⟩
/-- the state of the walk, as the library tells it -/
abbrev enSt (e it : Addr) (i : Nat) (h : Heap) : Prop := (∃ old, IsEnum h e it ((0 : Int) + ((i : Nat) : Int)) old)
theorem turn_enumT {P : Program} {w : World} {K : Fr} {elts : List Expr} {kk : Nat} {tpos : Pos} (a e it : Addr) :
    Turn P w K (.Tuple elts kk tpos) (IteT K a) [e, it] e (fun i h => enSt e it i h ∧ h.IsTupleIter it a i ∧ e ≠ it ∧ a ≠ it ∧ a ≠ e) where
  mem := List.mem_cons_self ..
  obj := fun i h st b hb => by
    obtain ⟨⟨old, he⟩, ⟨o, ho, hc, hd⟩, _⟩ := st
    rcases List.mem_cons.mp hb with z | z
    · subst z; exact ⟨_, he, fun v q => nomatch q⟩
    · cases List.mem_singleton.mp z; exact ⟨o, ho, fun v q => by rw [hd] at q; cases q⟩
  keep := fun i h h' st k => by
    obtain ⟨⟨old, he⟩, hi, ne⟩ := st
    exact ⟨⟨old, k e (by simp) _ he⟩, hi.at fun o q => k it (by simp) o q, ne⟩
  item := by
    intro X hP hw hK hc i pins s σ H E I hf st hg
    subst hP hw hK
    obtain ⟨he, hit, ne, n1, n2⟩ := st
    obtain ⟨ys, y, hq, hy⟩ := hg
    obtain ⟨its, rv, p, hz⟩ := I.tuple hq
    obtain ⟨u, hu, ru⟩ := rv.get hy
    have D := Draws.tuple (prog := X.prog) (w := X.w) (A := X.A.in1) (show X.A.in1.handled = none from I.ok.hd hc) it a n1 its.toArray
    have G := GoesN.enumFrom (elts := elts) (x1 := kk) (pos := tpos) 0 D e ne (by simp [ne, Ne.symm n2]) (by simp)
    have hi : i < its.toArray.size := by
      have := (List.getElem?_eq_some_iff.mp hu).1
      simpa using this
    refine G.goes i s (fun v s2 => ∃ x H', Inv X pins σ H' s2 ∧ RelV x v ∧ (IteT X.K a).yld i H x H' ∧ (enSt e it (i + 1) s2.heap ∧ s2.heap.IsTupleIter it a (i + 1) ∧ e ≠ it ∧ a ≠ it ∧ a ≠ e) ∧ ∀ b ∈ [e, it], H' b = none) E hi ⟨he, hit, p⟩ fun v h' tk hY st' hk htk => ?_
    obtain ⟨T, t, x, rfl, hT, hx, hTt⟩ := hY
    have ex : x = u := by
      have q : its.toArray[i]? = some u := by simpa using hu
      exact Option.some.inj (hx.symm.trans q)
    subst ex
    obtain ⟨oT, hoT, hcT, nT, hdT⟩ := hTt
    have hel : e < s.heap.objs.size := by obtain ⟨old, q⟩ := he; exact Heap.lt_size q
    have hil : it < s.heap.objs.size := by obtain ⟨_, q, _⟩ := hit; exact Heap.lt_size q
    have nw : ObjOk X.prog X.w (upd H T (.tup [.int (i : Nat), y])) h' T (.tup [.int (i : Nat), y]) := by
      refine ⟨show 2 ≤ sizeLine by decide, [.int (0 + (i : Int)) t, x], .cons ⟨t, by rw [Int.zero_add]⟩ (.cons ru .nil), ⟨oT, hoT, hcT, nT, hdT⟩⟩
    have hTn : H T = none := I.hok.fresh hT
    refine ⟨.ref T, upd H T (.tup [.int (i : Nat), y]), I.turnedNew (ch := [e, it]) (fun b ob hb q => hk b ob hb q) hf hT nw, rfl, ⟨T, y, rfl, hTn, rfl, fun zs hzs => by rw [I.tuple_inj hzs hq]; exact hy⟩, ⟨st'.1, st'.2.1, ne, n1, n2⟩, fun b hb => ?_⟩
    have hb' : b < s.heap.objs.size := by
      rcases List.mem_cons.mp hb with z | z
      · rw [z]; exact hel
      · rw [List.mem_singleton.mp z]; exact hil
    rw [upd_ne (Nat.ne_of_lt (Nat.lt_of_lt_of_le hb' hT))]
    exact (hf b hb).1
  done := by
    intro X hP hw hK hc i pins s σ H E I hf st hg
    subst hP hw hK
    obtain ⟨he, hit, ne, n1, n2⟩ := st
    obtain ⟨ys, hq, hy⟩ := hg
    obtain ⟨its, rv, p, hz⟩ := I.tuple hq
    have hl := rv.length
    obtain ⟨old, he⟩ := he
    obtain ⟨f0, f1, f2, f3, f4, f5⟩ := hf it (by simp)
    have D := Draws.tuple (prog := X.prog) (w := X.w) (A := X.A.in1) (show X.A.in1.handled = none from I.ok.hd hc) it a n1 its.toArray
    have ei : its.toArray.size = i := by rw [List.size_toArray, ← hl]; exact hy
    exact wpAny_pyNext_enum_endD D he (by rw [ei]; exact ⟨hit, p⟩) fun h' hx => ⟨rfl, I.turned (t' := s.toks) (fun b o hb q => hx b o hb q) f0 f1 f3 f4 f5⟩
  self := fun A i s Q E st h => by
    obtain ⟨⟨old, he⟩, _⟩ := st
    exact wpAny_pyIter_enum he h
theorem meets_en1 {v : Value} {ob : Obj} {HH : Heap → Prop} (B : Begins v ob HH) : Meets (Builtin.«enumerate.__new__» ⟨[.type "enumerate", v], []⟩) (fun _ R s => HH s.heap ∧ R (.ok (.ret (.ref (s.heap.push ob).objs.size)))
    { s with heap := (s.heap.push ob).push { cls := .type "enumerate", data := .fields #[.none, .bool false, .ref s.heap.objs.size, rawInt 0, .none, .none] } }) := Meets.of_wp fun prog w A R s h => by
  obtain ⟨hh, gg, dd, tt, oo⟩ := s
  obtain ⟨hv, h⟩ := h
  have sb := sub_enumerate
  have qi : ∀ {A' : Around} {E : Value → Shared → Prop} {Q : Value → Shared → Prop}, Q (.ref hh.objs.size) ⟨hh.push ob, gg, dd, tt, oo⟩ → wpAny (model prog w) A' (pyIter v) Q E ⟨hh, gg, dd, tt, oo⟩ := fun q => B.iter prog w _ _ ⟨hh, gg, dd, tt, oo⟩ _ hv q
  wp_walk using qi
  refine wpAny_stack_any fun sk => wpAny_pure ?_
  split
  · rename_i cc _ _ _ _ _
    cases (cc == Value.type "enumerate") <;> (wp_walk using qi; exact ⟨_, rfl, h⟩)
  · wp_walk using qi; exact ⟨_, rfl, h⟩
section
variable {X : Cx}
def iEnumT (K : Fr) (ta : TA) : TI := fun σ H R => ta σ H fun vs H1 => ∃ a ys, vs = [.ref a] ∧ SqT K H1 a ys ∧ R (IteT K a) H1
theorem pi_enumT {e : Expr} {ta : TA} {p pos tpos : Pos} {elts : List Expr} {kk : Nat} (hg : Gl X "enumerate") (hm : X.mg "enumerate" = none) (ha : PA X [e] ta) (hs : starEach [e] X.env = [(false, eval e X.env)] := by rfl) : PI X (.Tuple elts kk tpos) (.Call (.Name "enumerate" p) [e] [] pos) (iEnumT X.K ta) := by
  refine ⟨fun pins s σ H R I h => ?_⟩
  refine Call_ (ld_blt I hg hm PyProof.Rows.boot_enumerate (PyProof.Rows.callWith_type1 (thn (ha.run pos pins s σ H _ I h) fun us s1 ⟨vs, H1, I1, r1, q1⟩ => ?_) hs rfl))
  obtain ⟨a, ys, rfl, hq, q⟩ := q1
  cases r1 with
  | cons r rr =>
    cases rr
    cases r
    obtain ⟨its, rv, pt, hz⟩ := I1.tuple hq
    have B := begins_tuple a its.toArray
    have al : a < s1.heap.objs.size := by obtain ⟨o, ho, _⟩ := pt; exact Heap.lt_size ho
    refine callType_new F.called_enumerate (by decide) (F.typeCall_enumerate_1 _) (F.newCall_enumerate_1 _) (fun obj => F.args_object_init_2 obj _) F.entry_enumerate_new (meets_en1 B) ⟨pt, ?_⟩
    have z1 : (s1.heap.push { cls := .type "tuple_iterator", data := .fields #[.ref a, .int 0 0] }).objs.size = s1.heap.objs.size + 1 := Heap.size_push ..
    show _ ∧ _
    rw [z1]
    have he : IsEnum ((s1.heap.push { cls := .type "tuple_iterator", data := .fields #[.ref a, .int 0 0] }).push { cls := .type "enumerate", data := .fields #[.none, .bool false, .ref s1.heap.objs.size, rawInt 0, .none, .none] }) (s1.heap.objs.size + 1) s1.heap.objs.size 0 .none := by
      have g := Heap.get?_push_size (s1.heap.push { cls := .type "tuple_iterator", data := .fields #[.ref a, .int 0 0] }) (o := { cls := .type "enumerate", data := .fields #[.none, .bool false, .ref s1.heap.objs.size, rawInt 0, .none, .none] }) rfl
      rw [z1] at g; exact g
    refine ⟨⟨_, he, rfl⟩, wpAny_pyIter_enum he ?_⟩
    have I2 := I1.kept (t' := s1.toks) (h' := (s1.heap.push { cls := .type "tuple_iterator", data := .fields #[.ref a, .int 0 0] }).push { cls := .type "enumerate", data := .fields #[.none, .bool false, .ref s1.heap.objs.size, rawInt 0, .none, .none] }) fun b o x => Heap.get?_push_of_some _ (Heap.get?_push_of_some _ x)
    refine ⟨s1.heap.objs.size + 1, [s1.heap.objs.size + 1, s1.heap.objs.size], _, _, H1, rfl, I2, turn_enumT a (s1.heap.objs.size + 1) s1.heap.objs.size, ⟨⟨.none, he⟩, ⟨_, Heap.get?_push_of_some _ (Heap.get?_push_size _ rfl), rfl, rfl⟩, Nat.succ_ne_self _, Nat.ne_of_lt al, Nat.ne_of_lt (Nat.lt_succ_of_lt al)⟩, fun b hb => ?_, q⟩
    have hle : s1.heap.objs.size ≤ b := by
      rcases List.mem_cons.mp hb with z | z
      · rw [z]; exact Nat.le_succ _
      · rw [List.mem_singleton.mp z]; exact Nat.le_refl _
    exact I1.fpOk hle (I1.hok.fresh hle)
theorem walk_enumT {K : Fr} {a : Addr} {xs : List V} : Walk (IteT K a) xs.length (fun H => SqT K H a xs) (YPair (fun i => some (.int (i : Nat))) (fun i => xs[i]?)) := by
  refine ⟨fun i _ hi q => ⟨xs, xs[i], q, by simp [hi]⟩, fun _ q => ⟨xs, q, rfl⟩, fun i H v H' _ q y => ?_⟩
  obtain ⟨T, x, h1, h2, h3, h4⟩ := y
  exact ⟨T, .int (i : Nat), x, h1, h2, h3, rfl, h4 xs q⟩
end
def enumD (xs : List D) : List D := xs.zipIdx.map fun q => .tup [.int (q.2 : Nat), q.1]
theorem enumD_len (xs : List D) : (enumD xs).length = xs.length := by unfold enumD; rw [List.length_map, List.length_zipIdx]
theorem enumD_at {xs : List D} {i : Nat} {d : D} (h : (enumD xs)[i]? = some d) : ∃ x, xs[i]? = some x ∧ d = .tup [.int (i : Nat), x] := by
  unfold enumD at h
  rw [List.getElem?_map, List.getElem?_zipIdx] at h
  cases e : xs[i]? with
  | none => rw [e] at h; cases h
  | some x => rw [e] at h; simp at h; exact ⟨x, rfl, h.symm⟩
theorem enumD_of {xs : List D} {i : Nat} {x : D} (h : xs[i]? = some x) : (enumD xs)[i]? = some (.tup [.int (i : Nat), x]) := by
  unfold enumD
  rw [List.getElem?_map, List.getElem?_zipIdx, h]
  simp
section
variable {c : Cz} {ρ : En} {O : Oh} {Q : List D → (Oh → Prop) → Oh → Prop}
/-- a new pair at each turn -/
theorem pair_new {K : Fr} {F H : Hp} {T : Addr} {v u : V} {d e : D} (s : StO K F O H) (hT : H T = none) (r1 : RepD K F v d) (r2 : RepD K F u e) : ∃ F2, Same F F2 ∧ StO K F2 O (upd H T (.tup [v, u])) ∧ RepD K F2 (.ref T) (.tup [d, e]) := by
  have sm : Same F (upd F T (.tup [v, u])) := MB.Same.upd (s.fresh hT).2
  exact ⟨_, sm, s.newF hT, .tup (.of upd_same) (.cons (r1.mono sm) (.cons (r2.mono sm) .nil))⟩
theorem i_enumT {K' : Fr} (hK : K' = c.K) {ta : TA} (q : LA c ta ρ O fun ds O1 => ∃ xs, ds = [.tup xs] ∧ Q (enumD xs) (fun _ => True) O1) : LI c (iEnumT K' ta) ρ O Q := by
  subst hK
  intro F H σ rs s z Q' k
  refine q F H σ rs s z _ fun F1 H1 O1 vs ds s1 st1 rd1 ⟨xs, e, q1⟩ => ?_
  subst e
  cases rd1 with
  | cons ra t =>
    cases t
    cases ra with
    | @tup p us _ h r =>
      refine ⟨p, us, rfl, sqT_same st1.same h, k F1 H1 O1 _ _ _ s1 st1 ⟨fun H' => SqT c.K H' p us, _, by rw [enumD_len, ← r.len]; exact walk_enumT, ?_, ?_⟩ q1⟩
      · exact fun F' H' O' s2 st2 _ => sqT_same st2.same (sqT_same s2 h)
      · rintro i F' H' O' y H2 s2 st2 _ hi ⟨T, x, x', e1, e2, e3, e4, e5⟩
        subst e1 e3
        cases e4
        obtain ⟨d, e6, e7⟩ := (r.mono s2).at e5
        obtain ⟨F2, a1, a2, a3⟩ := pair_new st2 e2 (.int (i : Nat)) e7
        exact ⟨F2, _, a1, a2, a3, enumD_of e6⟩
theorem i_enumL {K' : Fr} (hK : K' = c.K) {ta : TA} (q : LA c ta ρ O fun ds O1 => ∃ x xs, ds = [x] ∧ asL O1 x = some xs ∧ Q (enumD xs) (fun O2 => asL O2 x = some xs) O1) : LI c (iEnum K' ta) ρ O Q := by
  subst hK
  intro F H σ rs s z Q' k
  refine q F H σ rs s z _ fun F1 H1 O1 vs ds s1 st1 rd1 ⟨x, xs, e, hx, q1⟩ => ?_
  subst e
  cases rd1 with
  | cons ra t =>
    cases t
    obtain ⟨p, us, rfl, hp, r⟩ := asL_sq st1 ra hx
    refine ⟨p, us, rfl, .of hp, k F1 H1 O1 _ _ _ s1 st1 ⟨fun H' => ∃ vs', H' p = some (.lst vs') ∧ vs'.length = xs.length, fun i H' v H2 => ∃ T y, v = .ref T ∧ H' T = none ∧ H2 = upd H' T (.tup [.int (i : Nat), y]) ∧ ∀ ys, SqL c.K H' p ys → ys[i]? = some y, ?_, ?_, ?_⟩ q1⟩
    · rw [enumD_len]
      exact ⟨fun i H' hi ⟨vs', a, b⟩ => ⟨vs', vs'[i]'(by omega), .of a, by simp [show i < vs'.length by omega]⟩, fun H' ⟨vs', a, b⟩ => ⟨vs', .of a, by omega⟩, fun i H' y H2 hi q y' => y'⟩
    · intro F' H' O' s2 st2 g
      obtain ⟨p', vs', e, hp', r'⟩ := asL_sq st2 (ra.mono s2) g
      cases e
      exact ⟨vs', hp', r'.len⟩
    · rintro i F' H' O' y H2 s2 st2 g hi ⟨T, y', e1, e2, e3, e4⟩
      subst e1 e3
      obtain ⟨p', vs', e, hp', r'⟩ := asL_sq st2 (ra.mono s2) g
      cases e
      obtain ⟨d, e6, e7⟩ := r'.at (e4 vs' (.of hp'))
      obtain ⟨F2, a1, a2, a3⟩ := pair_new st2 e2 (.int (i : Nat)) e7
      exact ⟨F2, _, a1, a2, a3, enumD_of e6⟩
/-- a text list that the machine froze: the script -/
theorem i_enumS {K' : Fr} (hK : K' = c.K) {ta : TA} (q : LA c ta ρ O fun ds O1 => ∃ ns, ds = [.scr ns] ∧ Q (enumD (ns.map D.int)) (fun _ => True) O1) : LI c (iEnum K' ta) ρ O Q := by
  subst hK
  intro F H σ rs s z Q' k
  refine q F H σ rs s z _ fun F1 H1 O1 vs ds s1 st1 rd1 ⟨ns, e, q1⟩ => ?_
  subst e
  cases rd1 with
  | cons ra t =>
    cases t
    cases ra with
    | @scr p _ h =>
      refine ⟨p, _, rfl, st1.same.seq h, k F1 H1 O1 _ _ _ s1 st1 ⟨fun H' => SqL c.K H' p (ns.map V.int), _, by rw [enumD_len, List.length_map, ← List.length_map (f := V.int)]; exact walk_enum, ?_, ?_⟩ q1⟩
      · exact fun F' H' O' s2 st2 _ => st2.same.seq (s2.seq h)
      · rintro i F' H' O' y H2 s2 st2 _ hi ⟨T, x, x', e1, e2, e3, e4, e5⟩
        subst e1 e3
        cases e4
        obtain ⟨d, e6, e7⟩ := (repsD_int' (K := c.K) (F := F') (ns := ns)).at e5
        obtain ⟨F2, a1, a2, a3⟩ := pair_new st2 e2 (.int (i : Nat)) e7
        exact ⟨F2, _, a1, a2, a3, enumD_of e6⟩
theorem i_scr {K' : Fr} (hK : K' = c.K) {tl : TE} (q : LE c tl ρ O fun x O1 => ∃ ns, x = .scr ns ∧ Q (ns.map D.int) (fun _ => True) O1) : LI c (iList K' tl) ρ O Q := by
  subst hK
  intro F H σ rs s z Q' k
  refine q F H σ rs s z _ fun F1 H1 O1 v x s1 st1 rd1 ⟨ns, e, q1⟩ => ?_
  subst e
  cases rd1 with
  | @scr p _ h =>
    refine ⟨p, rfl, ⟨_, st1.same.seq h⟩, k F1 H1 O1 _ _ _ s1 st1 ⟨fun H' => SqL c.K H' p (ns.map V.int), _, by rw [List.length_map, ← List.length_map (f := V.int)]; exact walk_list, ?_, ?_⟩ q1⟩
    · exact fun F' H' O' s2 st2 _ => st2.same.seq (s2.seq h)
    · rintro i F' H' O' y H2 s2 st2 _ hi ⟨e1, e2⟩
      subst e1
      obtain ⟨d, e6, e7⟩ := (repsD_int' (K := c.K) (F := F') (ns := ns)).at e2
      exact ⟨F', d, Same.refl _, st2, e7, e6⟩
end
end VL
set_option maxHeartbeats 4000000
namespace VL
open PySem PySem.Spec PyProof.Rows L2 MB
section
variable {P : Program} {w : World} {A : Around} {E : Value → Shared → Prop} {s : Shared} {K : Fr} {x C f : Addr} {ox : Obj} {od : Option Obj}
theorem len_K {Q : Value → Shared → Prop} (X : K.In s.heap) (I : PySem.W.InstAt s.heap x ox C od) (hs : PySem.W.findIn K (.ref C) "__len__" = some (some (.ref f))) (hf : PySem.W.isFn K (.ref f) = true)
    (hc : wpAny (model P w) A.in1 (call (.ref f) [.ref x]) (fun r s' => ∃ n u, r = .int n u ∧ 0 ≤ n ∧ n < 2 ^ 63 ∧ Q (.int n s'.toks) { s' with toks := s'.toks + 1 }) E s) : wpAny (model P w) A (call (.builtin "len") [.ref x]) Q E s := by
  refine PySem.Calls.call_function_entry kind_len plain_len entry_len (args_len1 _) ?_
  unfold Builtin.«len»
  refine wpAny_bind (m := oneArg "len" _) (wpAny_pure ?_)
  have sp : ∀ M : Model, PySem.W.Looks M s.heap (specialOf (.ref x) (Str.ofString "__len__")) (some (.ref f)) := fun M => I.type.andThen (PySem.W.looks_findIn X hs)
  refine wpAny_bind (m := callSpecial? (.ref x) (Str.ofString "__len__")) ?_
  unfold callSpecial?
  refine wpAny_bind ((sp _).here ?_)
  refine wpAny_holding (wpAny_bind ((PySem.W.bind_fn X _ (beq_iff_eq.mp hf)).here ?_))
  refine wpAny_bind (wpAny_mono hc (fun r s' hr => wpAny_pure ?_) fun _ _ y => y)
  obtain ⟨n, u, rfl, h0, h1, hq⟩ := hr
  refine wpAny_bind (wpAny_holding (wpAny_pure ?_))
  refine wpAny_bind (wpAny_letGo ?_)
  show wpAny _ _ (if n < 0 then _ else _) _ _ _
  rw [if_neg (by omega)]
  show wpAny _ _ (if n ≥ 2 ^ 63 then _ else _) _ _ _
  rw [if_neg (by omega)]
  exact wpAny_bind (wpAny_mkInt (wpAny_pure ⟨_, rfl, hq⟩))
end
/-- y's class as the machine sees it -/
def LookV (K : Fr) (H : Hp) (y : V) (t : Value) : Prop := TyX K H y t ∨ ∃ b C dx fs, y = .ref b ∧ H b = some (.ins C dx fs) ∧ t = .ref C
section
variable {X : Cx} {pins : List (Addr × Obj)} {σ : L2.St} {H : Hp} {s : Shared}
theorem look_of {y : V} {u t : Value} (I : Inv X pins σ H s) (r : RelV y u) (h : LookV X.K H y t) (M : Model) : PySem.W.Looks M s.heap (typeOf u) t := by
  rcases h with h | ⟨b, C, dx, fs, rfl, hb, rfl⟩
  · obtain ⟨Pp, k, hp, _⟩ := kit_of I r h
    exact k.ty M s.heap I.kIn hp
  · cases r
    obtain ⟨mB, J, _⟩ := ins_get I.hok hb
    obtain ⟨od, J, _⟩ := J.look
    exact J.type
/-- a def's run at a call that the machine makes -/
theorem run_at {CX : CXT} {n : Nat} {f : Addr} {fd : FuncData} {ps : List Str} {sp : Sp} {A : Around} {E : XK} {vs : List V} {us : List Value} {Q : VK} (F : FnOk X.prog X.w X.K X.mg X.base CX n f fd ps sp) (hb : Binds X.K fd ps []) (hx : Passes CX X E) (hr : Room n A) (fr : A.frames = X.A.frames) (I : Inv X pins σ H s) (r : Vals vs us) (hsp : sp vs H Q E) :
    wpAny (model X.prog X.w) A (call (.ref f) us) (EP X pins σ Q) X.xe s := by
  have e0 : Env0 X.prog X.w X.K X.mg X.base A X.stack s H := by
    have e := I.env0
    exact ⟨by rw [fr]; exact e.frames, e.mod, e.bs, e.bsz, e.funs, e.frf, e.hok, e.bare⟩
  have hl := F.len _ _ _ _ hsp
  refine wpAny_call (codeAny_mono (F.run A X.stack s H ⟨us, []⟩ us vs Q E hr e0 (by
    have := hb s us I.kIn (by rw [List.append_nil, ← r.length]; exact hl)
    simpa using this) r hsp) fun res s' hq => ?_)
  cases res with
  | error e => exact hx pins σ H s e s' I hq
  | ok fl =>
    cases fl with
    | ret w => exact I.after hq
    | next => exact hq.elim
    | brk => exact hq.elim
    | cont => exact hq.elim
end
section
variable {X : Cx} {CX : CXT} {n : Nat} {C f : Addr} {fd : FuncData} {ps : List Str} {sp : Sp} {E : XK}
def rLenO (C : Addr) (sp : Sp) (E : XK) : RC := fun xs H Q => ∃ a dx fs, xs = [.ref a] ∧ H a = some (.ins C dx fs) ∧ sp [.ref a] H (fun v H' => ∃ n : Int, v = .int n ∧ 0 ≤ n ∧ n < 2 ^ 63 ∧ Q (.int n) H') E
theorem call_lenO (F : FnOk X.prog X.w X.K X.mg X.base CX n f fd ps sp) (hm : Meth X.K C "__len__" f) (hb : Binds X.K fd ps []) (hx : Passes CX X E) (hr : Room (n + 1) X.A) : CallR X (.builtin "len") (rLenO C sp E) := by
  intro pins s σ H xs us Q I r h
  obtain ⟨a, dx, fs, rfl, ha, hsp⟩ := h
  obtain ⟨u, rfl, r1⟩ := vals1 r
  cases r1
  obtain ⟨mA, J, _⟩ := ins_get I.hok ha
  obtain ⟨od, J, _⟩ := J.look
  refine len_K I.kIn J hm.at_ hm.fn ?_
  refine thn (run_at F hb hx hr.in1 rfl I (vs := [V.ref a]) (.cons (show L2.RelV (.ref a) (.ref a) from rfl) .nil) hsp) fun v s1 ⟨y, H1, I1, ry, k, e, h0, h1, q⟩ => ?_
  subst e
  obtain ⟨t, rfl⟩ := ry
  exact ⟨k, t, rfl, h0, h1, .int k, H1, I1.tok _, ⟨_, rfl⟩, q⟩
def rEqO (K : Fr) (C : Addr) (sp : Sp) (E : XK) : R2 := fun x y H Q => ∃ a dx fs t, x = .ref a ∧ H a = some (.ins C dx fs) ∧ LookV K H y t ∧ PySem.W.notFirst K C t = true ∧ sp [x, y] H (fun v H' => ∃ b, v = .bl b ∧ Q (.bl b) H') E
theorem op_eqO (F : FnOk X.prog X.w X.K X.mg X.base CX n f fd ps sp) (hm : Meth X.K C "__eq__" f) (hb : Binds X.K fd ps []) (hx : Passes CX X E) (hr : Room n X.A) : OpR X (compareOp .Eq) (rEqO X.K C sp E) := by
  intro pins s σ H x y v u Q I rx ry h
  obtain ⟨a, dx, fs, t, rfl, ha, hl, hn, hsp⟩ := h
  cases rx
  obtain ⟨mA, J, _⟩ := ins_get I.hok ha
  obtain ⟨od, J, _⟩ := J.look
  obtain ⟨m, hF⟩ := I.fr
  show wpAny (model X.prog X.w) X.A (richCompare .Eq (.ref a) u) (EP X pins σ Q) X.xe s
  refine PySem.W.cmp_K (op := .Eq) (tb := t) hr.units0 hF I.ok.mod.kin J (look_of I ry hl _) hn hm.at_ hm.fn ?_
  refine thn (run_at F hb hx hr rfl I (vs := [V.ref a, y]) (.cons (show L2.RelV (.ref a) (.ref a) from rfl) (.cons ry .nil)) hsp) fun v s1 ⟨z, H1, I1, rz, b, e, q⟩ => ?_
  subst e
  cases rz
  exact ⟨.bl b, H1, I1, rfl, q⟩
def rNeO (K : Fr) (C : Addr) (sp : Sp) (E : XK) : R2 := fun x y H Q => ∃ a dx fs t, x = .ref a ∧ H a = some (.ins C dx fs) ∧ LookV K H y t ∧ PySem.W.notFirst K C t = true ∧ sp [x, y] H (fun v H' => ∃ b, v = .bl b ∧ Q (.bl (!b)) H') E
theorem op_neO (FF : FnOk X.prog X.w X.K X.mg X.base CX n f fd ps sp) (hm : Meth X.K C "__eq__" f) (hne : PySem.W.findIn X.K (.ref C) "__ne__" = some (some (.builtin "object.__ne__"))) (hob : PySem.W.mroIn X.K C (.type "object") = some true) (hb : Binds X.K fd ps []) (hx : Passes CX X E) (hr : Room (n + 2) X.A) : OpR X (compareOp .NotEq) (rNeO X.K C sp E) := by
  intro pins s σ H x y v u Q I rx ry h
  obtain ⟨a, dx, fs, t, rfl, ha, hl, hn, hsp⟩ := h
  cases rx
  obtain ⟨mA, J, _⟩ := ins_get I.hok ha
  obtain ⟨od, J, _⟩ := J.look
  have hy := look_of I ry hl (model X.prog X.w)
  have XK := I.kIn
  show wpAny (model X.prog X.w) X.A (richCompare .NotEq (.ref a) u) (EP X pins σ Q) X.xe s
  have u0 := hr.units0
  have u1 : X.A.in1.units < cLine := (Room.in1 (k := n + 1) hr).units0
  -- object.__ne__, called
  have body : wpAny (model X.prog X.w) X.A (call (.builtin "object.__ne__") ([.ref a] ++ [u])) (fun v s1 => EP X pins σ Q v s1 ∧ ∃ b, v = .bool b) X.xe s := by
    refine wpAny_call (codeAny_call_builtin (by decide +kernel) PySem.F.cmpEntry_ne (@PySem.W.check_slot (model X.prog X.w) _ _ _ "object.__ne__" "object" "__ne__" (.ref a) [u] [] _ PySem.F.cmpKind_ne PySem.F.cmpSplit_ne ?_ (PySem.F.cmpArgs_ne _ _) ?_))
    · exact J.type.andThen (PySem.W.looks_mroIn XK hob)
    · unfold Builtin.«object.__ne__»
      repeat (first
        | with_reducible refine wpAny_cRoomFor u1 ?_
        | (refine wpAny_bind (m := callSpecialIfBound? (.ref a) (Str.ofString "__eq__") [u]) (PySem.W.ifBound_K XK J hm.at_ hm.fn
            (thn (run_at FF hb hx ((Room.in1 (k := n + 1) hr).mono (Nat.le_succ n)) rfl I (vs := [V.ref a, y]) (.cons (show L2.RelV (.ref a) (.ref a) from rfl) (.cons ry .nil)) hsp) (fun r s' hr2 => by
              obtain ⟨z, H1, I1, rz, b, e, q⟩ := hr2
              subst e
              cases rz
              have fin : EP X pins σ Q (.bool (!b)) s' ∧ ∃ k, Value.bool (!b) = .bool k := ⟨⟨.bl (!b), H1, I1, rfl, q⟩, _, rfl⟩
              repeat (first | exact ⟨_, rfl, fin⟩ | exact fin | exact wpAny_pure fin | exact wpAny_pure ⟨_, rfl, fin⟩ | exact wpAny_truthy_bool fin | (refine wpAny_bind (m := truthy (.bool _)) (wpAny_truthy_bool ?_)) | wp_step)))))
        | wp_step)
  have one : wpAny (model X.prog X.w) X.A (tryCompare (.ref a) "__ne__" u) (fun r s' => ∃ v, r = some v ∧ EP X pins σ Q v s') X.xe s := by
    simp only [tryCompare]
    refine wpAny_bind (NtL.csib (M := model X.prog X.w) (J.type.andThen (PySem.W.looks_findIn XK hne)) (by first | rfl | kernel_rfl) (thn body fun v s1 ⟨q, b, e⟩ => ?_))
    subst e
    exact wpAny_pure ⟨_, rfl, q⟩
  unfold richCompare
  simp only [oneThing_ref]
  refine wpAny_holding (wpAny_bind (wpAny_cRoomFor u0 ?_))
  refine wpAny_bind (J.type.here (wpAny_bind (hy.here ?_)))
  split
  · rename_i q
    have e : PySem.W.subIn X.K t (.ref C) = some false := by
      rcases Bool.or_eq_true_iff.mp hn with e | e
      · rw [beq_iff_eq.mp e] at q; simp at q
      · exact beq_iff_eq.mp e
    refine wpAny_bind ((PySem.W.looks_subIn XK e).here ?_)
    simp only [Bool.false_eq_true, if_false]
    refine wpAny_bind (wpAny_mono one (fun r s' z => ?_) fun _ _ e => e)
    obtain ⟨v, rfl, hq⟩ := z
    exact wpAny_pure hq
  · refine wpAny_bind (wpAny_pure ?_)
    simp only [Bool.false_eq_true, if_false]
    refine wpAny_bind (wpAny_mono one (fun r s' z => ?_) fun _ _ e => e)
    obtain ⟨v, rfl, hq⟩ := z
    exact wpAny_pure hq
end
end VL
set_option maxHeartbeats 4000000
namespace VL
open PySem PySem.Spec PyProof.Rows L2 MB
def reprV : V → Option Str
  | .int i => if i.natAbs.log2 < 1920 then some (toString i : String) else none
  | .bl b => some (if b then "True" else "False" : String)
  | .non => some ("None" : String)
  | .str x => if (reprText x).length ≤ sizeLine then some (reprText x) else none
  | _ => none
def rRepr0 : RC := fun xs H Q => ∃ x r, xs = [x] ∧ reprV x = some r ∧ Q (.str r) H
theorem call_repr0 {X : Cx} : CallR X (.builtin "repr") rRepr0 := by
  intro pins s σ H xs us Q I r h
  obtain ⟨x, t, rfl, e, q⟩ := h
  obtain ⟨u, rfl, r1⟩ := vals1 r
  cases x with
  | non => cases e; cases r1; exact PySem.P.repr_of_none ⟨.str _, H, I.tok _, ⟨_, rfl⟩, q⟩
  | bl b => cases e; cases r1; exact PySem.P.repr_of_bool ⟨.str _, H, I.tok _, ⟨_, by cases b <;> rfl⟩, q⟩
  | int i =>
    obtain ⟨tk, rfl⟩ := r1
    have e : (if i.natAbs.log2 < 1920 then some ((toString i : String) : Str) else none) = some t := e
    split at e
    · cases e; rename_i hz; exact PySem.P.repr_of_int hz ⟨.str _, H, I.tok _, ⟨_, rfl⟩, q⟩
    · cases e
  | str x =>
    obtain ⟨tk, rfl⟩ := r1
    have e : (if (reprText x).length ≤ sizeLine then some (reprText x) else none) = some t := e
    split at e
    · cases e; rename_i hz; exact PySem.P.repr_of_str (hsz := hz) ⟨.str _, H, I.tok _, ⟨_, rfl⟩, q⟩
    · cases e
  | _ => cases e
def ddI (ns : List Int) : List Int := ns.foldl PyProof.Rows.step_dedup []
theorem dd_step (acc : List Int) (n : Int) : PyProof.Rows.step_dedup acc n = if n ∈ acc then acc else acc ++ [n] := by
  unfold PyProof.Rows.step_dedup
  by_cases h : n ∈ acc
  · rw [show (acc.any fun x => x == n) = true from List.any_eq_true.mpr ⟨n, h, beq_self_eq_true n⟩, if_pos rfl, if_pos h]
  · rw [if_neg (show ¬ (acc.any fun x => x == n) = true from fun z => by
      obtain ⟨y, hy, e⟩ := List.any_eq_true.mp z
      rw [eq_of_beq e] at hy
      exact h hy), if_neg h]
theorem dd_fold : ∀ (ns acc : List Int), acc.Nodup → (ns.foldl PyProof.Rows.step_dedup acc).Nodup ∧ (∀ k, k ∈ ns.foldl PyProof.Rows.step_dedup acc ↔ k ∈ acc ∨ k ∈ ns) ∧ (ns.foldl PyProof.Rows.step_dedup acc).length ≤ acc.length + ns.length ∧
    ((ns.foldl PyProof.Rows.step_dedup acc).length = acc.length + ns.length ↔ ns.Nodup ∧ ∀ k ∈ ns, k ∉ acc)
  | [], acc, h => ⟨h, by simp, by simp, by simp⟩
  | n :: ns, acc, h => by
    show (List.foldl _ (PyProof.Rows.step_dedup acc n) ns).Nodup ∧ _
    rw [List.foldl_cons, dd_step]
    by_cases hn : n ∈ acc
    · rw [if_pos hn]
      obtain ⟨a, b, c, d⟩ := dd_fold ns acc h
      refine ⟨a, fun k => ?_, by rw [List.length_cons]; omega, ?_⟩
      · rw [b, List.mem_cons]
        constructor
        · rintro (z | z)
          · exact .inl z
          · exact .inr (.inr z)
        · rintro (z | z | z)
          · exact .inl z
          · subst z; exact .inl hn
          · exact .inr z
      · constructor
        · intro z; rw [List.length_cons] at z; omega
        · rintro ⟨_, z⟩; exact absurd hn (z n (List.mem_cons_self ..))
    · rw [if_neg hn]
      have h2 : (acc ++ [n]).Nodup := by
        rw [List.nodup_append]
        exact ⟨h, List.nodup_cons.mpr ⟨by simp, List.nodup_nil⟩, fun x hx y hy e => by
          rw [List.mem_singleton] at hy; subst hy; subst e; exact hn hx⟩
      obtain ⟨a, b, c, d⟩ := dd_fold ns (acc ++ [n]) h2
      rw [List.length_append, List.length_singleton] at c d
      refine ⟨a, fun k => ?_, by rw [List.length_cons]; omega, ?_⟩
      · rw [b, List.mem_append, List.mem_singleton, List.mem_cons]
        constructor
        · rintro ((z | z) | z)
          · exact .inl z
          · exact .inr (.inl z)
          · exact .inr (.inr z)
        · rintro (z | z | z)
          · exact .inl (.inl z)
          · exact .inl (.inr z)
          · exact .inr z
      · rw [List.length_cons, show acc.length + (ns.length + 1) = acc.length + 1 + ns.length by omega, d, List.nodup_cons]
        constructor
        · rintro ⟨z1, z2⟩
          exact ⟨⟨fun m => z2 n m (List.mem_append_right _ (List.mem_singleton.mpr rfl)), z1⟩, fun k hk => by
            rcases List.mem_cons.mp hk with e | e
            · subst e; exact hn
            · exact fun m => z2 k e (List.mem_append_left _ m)⟩
        · rintro ⟨⟨z1, z2⟩, z3⟩
          exact ⟨z2, fun k hk m => by
            rcases List.mem_append.mp m with e | e
            · exact z3 k (List.mem_cons_of_mem _ hk) e
            · rw [List.mem_singleton] at e; subst e; exact z1 hk⟩
theorem ddI_nodup (ns : List Int) : (ddI ns).Nodup := (dd_fold ns [] List.nodup_nil).1
theorem ddI_mem (ns : List Int) (k : Int) : k ∈ ddI ns ↔ k ∈ ns := by
  rw [show (k ∈ ddI ns) = _ from propext ((dd_fold ns [] List.nodup_nil).2.1 k)]
  simp
theorem ddI_len (ns : List Int) : (ddI ns).length = ns.length ↔ ns.Nodup := by
  have h := (dd_fold ns [] List.nodup_nil).2.2.2
  simp only [List.length_nil, Nat.zero_add] at h
  rw [show ((ddI ns).length = ns.length) = _ from propext h]
  simp
theorem ddI_le (ns : List Int) : (ddI ns).length ≤ ns.length := by
  have h := (dd_fold ns [] List.nodup_nil).2.2.1
  rw [List.length_nil, Nat.zero_add] at h
  exact h
theorem firstMet_dd (ns : List Int) : PyProof.Rows.firstMet (fun i => ns.getD i 0) ns.length = ddI ns := by
  unfold PyProof.Rows.firstMet ddI
  congr 1
  refine List.ext_getElem? fun i => ?_
  rw [List.getElem?_map]
  by_cases hi : i < ns.length
  · rw [List.getElem?_range hi, List.getElem?_eq_getElem hi]
    show some (ns.getD i 0) = _
    rw [List.getD_eq_getElem?_getD, List.getElem?_eq_getElem hi]
    rfl
  · rw [List.getElem?_eq_none (by simpa using Nat.le_of_not_lt hi), List.getElem?_eq_none (by simpa using Nat.le_of_not_lt hi)]
    rfl
def tLenSet2 (K : Fr) (ta : TE) : TE := fun σ H Q => ta σ H fun x H1 => ∃ (l : Addr) (ns : List Int), x = .ref l ∧ (SqL K H1 l (ns.map V.int) ∨ SqT K H1 l (ns.map V.int)) ∧ ns.length ≤ 4000 ∧ Q (.int ((ddI ns).length : Nat)) H1
theorem pe_lenSet2 {X : Cx} {a : Expr} {ta : TE} {p p2 q pos : Pos} (hg : Gl X "len") (hm : X.mg "len" = none) (hg2 : Gl X "set") (hm2 : X.mg "set" = none) (ha : PE X a ta) (hc : X.calm = true := by rfl)
    (na : starEach [a] X.env = (false, eval a X.env) :: starEach [] X.env := by rfl) : PE X (.Call (.Name "len" p) [.Call (.Name "set" p2) [a] [] q] [] pos) (tLenSet2 X.K ta) := by
  refine ⟨fun pins s σ H Q I h => Call_ (ld_blt I hg hm boot_len ?_)⟩
  refine PyProof.Rows.callWith_builtin1 (PyProof.Rows.args_cons (Call_ (ld_blt I hg2 hm2 boot_set ?_)) rfl) rfl rfl
  refine PyProof.Rows.callWith_type1 (PyProof.Rows.args_cons (thn (ha.run pins s σ H _ I h) fun v s1 ⟨x, H1, I1, r1, q1⟩ => PyProof.Rows.args_nil ?_) na) na rfl
  obtain ⟨l, ns, rfl, hq, hl, q1⟩ := q1
  cases r1
  rcases hq with hq | hq
  · obtain ⟨its, r, pl, hz⟩ := I1.list hq
    have hn : its.toArray.size = ns.length := by rw [List.size_toArray, ← r.length, List.length_map]
    refine call_set_list (I1.ok.hd hc) pl.isList (by simpa using RZ.intsAre_vals r) (by rw [hn]; unfold scanBound; omega) fun h' tk hS hk => PyProof.Rows.args_nil ?_
    rw [hn, firstMet_dd] at hS
    obtain ⟨o, es, ep, t, ho, hex, hd, _, _, _, hf, he⟩ := hS
    have I2 : Inv X pins σ H1 { s1 with heap := h', toks := tk } := I1.kept fun b o e => hk b o (Heap.lt_size e) e
    have le : (ddI ns).length ≤ ns.length := ddI_le ns
    exact call_len_set ho hex hd hf (by rw [he] <;> omega) ⟨.int ((ddI ns).length : Nat), H1, I2.tok _, ⟨_, by rw [he]⟩, q1⟩
  · obtain ⟨its, r, pt, hz⟩ := I1.tuple hq
    refine call_set_tupI ns (I1.ok.hd hc) pt (by simpa using RZ.intsAre_vals r) (by unfold scanBound; omega) fun h' tk c hS hc' hk => PyProof.Rows.args_nil ?_
    obtain ⟨o, es, ep, t, ho, hex, hd, hgd, hnd, hmem, hsc, hf, he, _⟩ := hS
    have I2 : Inv X pins σ H1 { s1 with heap := h', toks := tk } := I1.kept hk
    have el : es.size = (ddI ns).length := by
      have pm : (es.toList.map keyOf).Perm (ddI ns) := by
        refine List.perm_iff_count.mpr fun k => ?_
        have m : k ∈ es.toList.map keyOf ↔ k ∈ ddI ns := by
          rw [ddI_mem, ← hmem k]
          exact ⟨fun z => of_decide_eq_true z, fun z => decide_eq_true z⟩
        rw [List.Nodup.count hnd, List.Nodup.count (ddI_nodup ns)]
        by_cases hk2 : k ∈ ddI ns
        · rw [if_pos (m.mpr hk2), if_pos hk2]
        · rw [if_neg (fun z => hk2 (m.mp z)), if_neg hk2]
      have := pm.length_eq
      simpa using this
    have le : (ddI ns).length ≤ ns.length := ddI_le ns
    exact call_len_set ho hex hd hf (by rw [el]; omega) ⟨.int ((ddI ns).length : Nat), H1, I2.tok _, ⟨_, by rw [el]⟩, q1⟩
theorem RepF.lookup' {K : Fr} {F : Hp} {f : Str} : ∀ {fs : List (Str × V)} {gs : List (Str × D)}, RepF K F fs gs → gs.lookup f = none → fs.lookup f = none
  | _, _, .nil, h => rfl
  | _, _, .cons (x := x) a t, h => by
    rw [List.lookup_cons] at h ⊢
    split at h
    · cases h
    · exact RepF.lookup' t h
section
variable {c : Cz} {ρ : En} {O : Oh} {Q : D → Oh → Prop} {E : EnL}
theorem l_lenSet2 {K' : Fr} (hK : K' = c.K) {ta : TE} (q : LE c ta ρ O fun x O1 => ∃ ns : List Int, asS O1 x = some (ns.map D.int) ∧ ns.length ≤ 4000 ∧ Q (.int ((ddI ns).length : Nat)) O1) : LE c (tLenSet2 K' ta) ρ O Q := by
  subst hK
  intro F H σ rs s x Q' k
  refine q F H σ rs s x _ fun F1 H1 O1 v d s1 st1 rd1 ⟨ns, h, hl, q1⟩ => ?_
  obtain ⟨p, vs, rfl, hp, r⟩ := asS_sq st1 rd1 h
  cases repsD_ints r
  exact ⟨p, ns, rfl, hp, hl, k F1 H1 O1 _ _ s1 st1 (.int _) q1⟩
def reprD : D → Option Str
  | .int i => reprV (.int i) | .bl b => reprV (.bl b) | .non => reprV .non | .str x => reprV (.str x) | _ => none
theorem k_repr0 {x : D} {r : Str} (h : reprD x = some r) (q : Q (.str r) O) : CAR c rRepr0 [x] O Q := fun F H vs s rs z Q' k => by
  cases rs with
  | cons a t =>
    cases t
    cases x with
    | int i => cases a; exact ⟨_, r, rfl, h, k F H O _ _ (Same.refl F) s (.str _) q⟩
    | bl i => cases a; exact ⟨_, r, rfl, h, k F H O _ _ (Same.refl F) s (.str _) q⟩
    | non => cases a; exact ⟨_, r, rfl, h, k F H O _ _ (Same.refl F) s (.str _) q⟩
    | str i => cases a; exact ⟨_, r, rfl, h, k F H O _ _ (Same.refl F) s (.str _) q⟩
    | _ => cases h
/-- what __eq__'s other side is, as the machine sees it -/
def lookD (O : Oh) (y : D) (t : Value) : Prop := (∃ n, tyD O y = some n ∧ t = .type n) ∨ ∃ C gs, y = .ins C gs ∧ t = .ref C
theorem look_ok {K : Fr} {F H : Hp} {O : Oh} {y : D} {w : V} {t : Value} (s : StO K F O H) (r : RepD K F w y) (h : lookD O y t) : LookV K H w t := by
  rcases h with ⟨n, h, rfl⟩ | ⟨C, gs, rfl, rfl⟩
  · exact .inl (tyD_ok s r h)
  · cases r with
    | ins h _ => exact .inr ⟨_, C, _, _, rfl, s.same _ _ h, rfl⟩
theorem k_lenO {W : WL} {C : Addr} {gs : List (Str × D)} {XE : XK} (q : W [.ins C gs] O (fun v O1 => ∃ n : Int, v = .int n ∧ 0 ≤ n ∧ n < 2 ^ 63 ∧ Q (.int n) O1) noX) : CAR c (rLenO C (SpL c.K W) XE) [.ins C gs] O Q := fun F H vs s rs z Q' k => by
  cases rs with
  | cons a t =>
    cases t
    have a' := a
    cases a' with
    | ins h r =>
      refine ⟨_, _, _, rfl, s.same _ _ h, F, O, [.ins C gs], _, noX, .cons a .nil, s, q, ?_, fun _ _ _ _ _ _ _ _ _ y => y.elim⟩
      rintro F1 H1 O1 v d s1 st1 rd1 ⟨n, rfl, h0, h1, q1⟩
      cases rd1
      exact ⟨n, rfl, h0, h1, k F1 H1 O1 _ _ s1 st1 (.int n) q1⟩
theorem o_eqO {W : WL} {C : Addr} {gs : List (Str × D)} {y : D} {t : Value} {XE : XK} {K' : Fr} (hK : K' = c.K) (hl : lookD O y t) (hn : PySem.W.notFirst c.K C t = true) (q : W [.ins C gs, y] O (fun v O1 => ∃ b, v = .bl b ∧ Q (.bl b) O1) noX) : O2R c (rEqO K' C (SpL c.K W) XE) (.ins C gs) y O Q := by
  subst hK
  intro F H v w s rv rw z Q' k
  have rv' := rv
  cases rv' with
  | ins h r =>
    refine ⟨_, _, _, t, rfl, s.same _ _ h, look_ok s rw hl, hn, F, O, [.ins C gs, y], _, noX, .cons rv (.cons rw .nil), s, q, ?_, fun _ _ _ _ _ _ _ _ _ y => y.elim⟩
    rintro F1 H1 O1 v d s1 st1 rd1 ⟨b, rfl, q1⟩
    cases rd1
    exact ⟨b, rfl, k F1 H1 O1 _ _ s1 st1 (.bl b) q1⟩
theorem o_neO {W : WL} {C : Addr} {gs : List (Str × D)} {y : D} {t : Value} {XE : XK} {K' : Fr} (hK : K' = c.K) (hl : lookD O y t) (hn : PySem.W.notFirst c.K C t = true) (q : W [.ins C gs, y] O (fun v O1 => ∃ b, v = .bl b ∧ Q (.bl (!b)) O1) noX) : O2R c (rNeO K' C (SpL c.K W) XE) (.ins C gs) y O Q := by
  subst hK
  intro F H v w s rv rw z Q' k
  have rv' := rv
  cases rv' with
  | ins h r =>
    refine ⟨_, _, _, t, rfl, s.same _ _ h, look_ok s rw hl, hn, F, O, [.ins C gs, y], _, noX, .cons rv (.cons rw .nil), s, q, ?_, fun _ _ _ _ _ _ _ _ _ y => y.elim⟩
    rintro F1 H1 O1 v d s1 st1 rd1 ⟨b, rfl, q1⟩
    cases rd1
    exact ⟨b, rfl, k F1 H1 O1 _ _ s1 st1 (.bl _) q1⟩
def rInsert : V → List V → Hp → VK → Prop := fun x vs H Q => ∃ (l : Addr) (xs : List V) (i : Int) (y : V), x = .ref l ∧ vs = [.int i, y] ∧ H l = some (.lst xs) ∧ xs.length < sizeLine ∧ 0 ≤ i ∧ i < 2 ^ 63 ∧ Q .non (upd H l (.lst (xs.take i.toNat ++ [y] ++ xs.drop i.toNat)))
theorem mt_insert' {X : Cx} : MtR X "list.insert" rInsert := mt_insert
theorem m_insert {p : Addr} {xs : List D} {d : D} {i : Int} (h : O p = some (.lst xs)) (hl : xs.length < sizeLine) (hi : 0 ≤ i ∧ i < 2 ^ 63) (q : Q .non (updO O p (.lst (xs.take i.toNat ++ [d] ++ xs.drop i.toNat)))) : MTR c rInsert (.ref p) [.int i, d] O Q := fun F H v vs s rv rs z Q' k => by
  cases rv
  cases rs with
  | cons a t =>
    cases t with
    | cons b t =>
      cases t; cases a
      obtain ⟨_, us, h1, h2⟩ := s.own p _ h
      exact ⟨p, us, i, _, rfl, rfl, h1, by rw [h2.len]; exact hl, hi.1, hi.2, k F _ _ _ _ (Same.refl F) (s.write (o' := .lst (xs.take i.toNat ++ [d] ++ xs.drop i.toNat)) h ⟨_, upd_same, ((h2.take _).append (.cons b .nil)).append (h2.drop _)⟩) .non q⟩
end
end VL
set_option maxHeartbeats 4000000
namespace VL
open PySem PySem.Spec PyProof.Rows L2 MB
def SqB (K : Fr) (b : Bool) (H : Hp) (a : Addr) (xs : List V) : Prop := match b with
  | true => SqT K H a xs
  | false => SqL K H a xs
def itB (b : Bool) (h : Heap) (it a : Addr) (i : Nat) : Prop := match b with
  | true => h.IsTupleIter it a i
  | false => h.IsListIter it a i
def sqIs (b : Bool) (h : Heap) (a : Addr) (its : Array Value) : Prop := match b with
  | true => h.IsTuple a its
  | false => h.IsList a its
def obB (b : Bool) (a : Addr) : Obj := match b with
  | true => { cls := .type "tuple_iterator", data := .fields #[.ref a, .int 0 0] }
  | false => { cls := .type "list_iterator", data := .fields #[.ref a, .int 0 0] }
theorem drawsB {P : Program} {w : World} {A : Around} (b : Bool) (hh : A.handled = none) (it a : Addr) (ne : a ≠ it) (its : Array Value) : Draws P w A it [it, a] its.size (fun i v => its[i]? = some v) (fun i h => itB b h it a i ∧ sqIs b h a its) := by
  cases b with
  | true => exact Draws.tuple hh it a ne its
  | false => exact Draws.list hh it a ne its
theorem beginsB (b : Bool) (a : Addr) (its : Array Value) : Begins (.ref a) (obB b a) fun h => sqIs b h a its := by
  cases b with
  | true => exact begins_tuple a its
  | false => exact begins_list a its
theorem sqB_items {X : Cx} {pins : List (Addr × Obj)} {σ : L2.St} {H : Hp} {s : Shared} {b : Bool} {a : Addr} {xs : List V} (I : Inv X pins σ H s) (h : SqB X.K b H a xs) : ∃ its : List Value, Vals xs its ∧ sqIs b s.heap a its.toArray ∧ a < s.heap.objs.size := by
  cases b with
  | true =>
    obtain ⟨its, r, p, _⟩ := I.tuple h
    exact ⟨its, r, p, by obtain ⟨o, e, _⟩ := p; exact Heap.lt_size e⟩
  | false =>
    obtain ⟨its, r, p, _⟩ := I.list h
    exact ⟨its, r, p.isList, p.lt⟩
theorem sqB_inj {X : Cx} {pins : List (Addr × Obj)} {σ : L2.St} {H : Hp} {s : Shared} {b : Bool} {a : Addr} {xs ys : List V} (I : Inv X pins σ H s) (h : SqB X.K b H a xs) (h' : SqB X.K b H a ys) : xs = ys := by
  cases b with
  | true => exact I.tuple_inj h h'
  | false => exact I.list_inj h h'
theorem itB_at {b : Bool} {h h' : Heap} {it a : Addr} {i : Nat} (x : itB b h it a i) (k : ∀ o, h.get? it = some o → h'.get? it = some o) : itB b h' it a i := by
  cases b with
  | true => exact (show h.IsTupleIter it a i from x).at k
  | false => exact (show h.IsListIter it a i from x).at k
theorem itB_ob {b : Bool} {h : Heap} {it a : Addr} {i : Nat} (x : itB b h it a i) : ∃ o, h.get? it = some o ∧ ∀ v, o.data ≠ .cell v := by
  cases b with
  | true => obtain ⟨o, e, _, d⟩ := (show h.IsTupleIter it a i from x); exact ⟨o, e, fun v q => by rw [d] at q; cases q⟩
  | false => obtain ⟨o, e, _, d⟩ := (show h.IsListIter it a i from x); exact ⟨o, e, fun v q => by rw [d] at q; cases q⟩
def ItzB (K : Fr) (p q : Bool) (a b : Addr) : It :=
  ⟨fun i H => ∃ (xs ys : List V) (x y : V), SqB K p H a xs ∧ SqB K q H b ys ∧ xs[i]? = some x ∧ ys[i]? = some y,
   fun i H v H' => ∃ T x y, v = .ref T ∧ H T = none ∧ H' = upd H T (.tup [x, y]) ∧ (∀ xs, SqB K p H a xs → xs[i]? = some x) ∧ ∀ ys, SqB K q H b ys → ys[i]? = some y,
   fun i H => ∃ xs ys : List V, SqB K p H a xs ∧ SqB K q H b ys ∧ i = min xs.length ys.length⟩
abbrev znSt (p q : Bool) (z TI TO i1 i2 a b : Addr) (i : Nat) (h : Heap) : Prop := IsZip h z TI TO .none ∧ IsTupOf2 h TI (.ref i1) (.ref i2) ∧ (∃ a1 a2, IsTupOf2 h TO a1 a2) ∧ itB p h i1 a i ∧ itB q h i2 b i
theorem turn_zipB {P : Program} {w : World} {K : Fr} {elts : List Expr} {kk : Nat} {tpos : Pos} {p q : Bool} {a b z TI TO i1 i2 : Addr} (S : ZipSep2 z TI TO i1 i2 [i1, a] [i2, b]) (n1 : a ≠ i1) (n2 : b ≠ i2) :
    Turn P w K (.Tuple elts kk tpos) (ItzB K p q a b) [z, TI, TO, i1, i2] z (fun i h => znSt p q z TI TO i1 i2 a b i h) where
  mem := List.mem_cons_self ..
  obj := fun i h st c hc => by
    obtain ⟨hz, hT, ⟨x, y, hO⟩, h1, h2⟩ := st
    simp only [List.mem_cons, List.not_mem_nil, or_false] at hc
    rcases hc with e | e | e | e | e
    · subst e; exact ⟨_, hz, fun v q => nomatch q⟩
    · subst e; exact ⟨_, hT, fun v q => nomatch q⟩
    · subst e; exact ⟨_, hO, fun v q => nomatch q⟩
    · subst e; exact itB_ob h1
    · subst e; exact itB_ob h2
  keep := fun i h h' st k => by
    obtain ⟨hz, hT, ⟨x, y, hO⟩, h1, h2⟩ := st
    exact ⟨k z (by simp) _ hz, k TI (by simp) _ hT, ⟨x, y, k TO (by simp) _ hO⟩, itB_at h1 fun o e => k i1 (by simp) o e, itB_at h2 fun o e => k i2 (by simp) o e⟩
  item := by
    intro X hP hw hK hc i pins s σ H E I hf st hg
    subst hP hw hK
    have st0 := st
    obtain ⟨hz, hT, hO, h1, h2⟩ := st
    obtain ⟨xs, ys, x, y, hx, hy, ex, ey⟩ := hg
    obtain ⟨its, r1, p1, _⟩ := sqB_items I hx
    obtain ⟨jts, r2, p2, _⟩ := sqB_items I hy
    obtain ⟨u, eu, ru⟩ := r1.get ex
    obtain ⟨v, ev, rv⟩ := r2.get ey
    have hh : X.A.in1.handled = none := I.ok.hd hc
    have G := GoesN.zip2 (elts := elts) (x1 := kk) (pos := tpos) S (drawsB (P := X.prog) (w := X.w) p hh i1 a n1 its.toArray) (drawsB (P := X.prog) (w := X.w) q hh i2 b n2 jts.toArray)
    have l1 : i < its.length := (List.getElem?_eq_some_iff.mp eu).1
    have l2 : i < jts.length := (List.getElem?_eq_some_iff.mp ev).1
    refine G.goes i s (fun t s2 => ∃ x' H', Inv X pins σ H' s2 ∧ RelV x' t ∧ (ItzB X.K p q a b).yld i H x' H' ∧ znSt p q z TI TO i1 i2 a b (i + 1) s2.heap ∧ ∀ c ∈ [z, TI, TO, i1, i2], H' c = none) E (by rw [List.size_toArray, List.size_toArray]; omega) ⟨hz, hT, hO, ⟨h1, p1⟩, ⟨h2, p2⟩⟩ fun t h' tk hY st' hk htk => ?_
    obtain ⟨T, x2, y2, rfl, hTs, e1, e2, hTt⟩ := hY
    cases (Option.some.inj (e1.symm.trans (by simpa using eu)))
    cases (Option.some.inj (e2.symm.trans (by simpa using ev)))
    obtain ⟨oT, hoT, hcT, nT, hdT⟩ := hTt
    have nw : ObjOk X.prog X.w (upd H T (.tup [x, y])) h' T (.tup [x, y]) := ⟨show 2 ≤ sizeLine by decide, [u, v], .cons ru (.cons rv .nil), ⟨oT, hoT, hcT, nT, hdT⟩⟩
    have hTn : H T = none := I.hok.fresh hTs
    refine ⟨.ref T, upd H T (.tup [x, y]), I.turnedNew (ch := [z, TI, TO, i1, i2]) (fun c ob hb e => hk c ob (fun m => hb (by
      simp only [List.mem_cons, List.not_mem_nil, or_false] at m ⊢
      rcases m with e | e | e | e
      · exact .inl e
      · exact .inr (.inr (.inl e))
      · exact .inr (.inr (.inr (.inl e)))
      · exact .inr (.inr (.inr (.inr e))))) e) hf hTs nw, rfl, ⟨T, x, y, rfl, hTn, rfl, fun zs hzs => by rw [sqB_inj I hzs hx]; exact ex, fun zs hzs => by rw [sqB_inj I hzs hy]; exact ey⟩, ⟨st'.1, st'.2.1, st'.2.2.1, st'.2.2.2.1.1, st'.2.2.2.2.1⟩, fun c hcm => ?_⟩
    have lt : c < s.heap.objs.size := by
      simp only [List.mem_cons, List.not_mem_nil, or_false] at hcm
      obtain ⟨x0, y0, hO⟩ := hO
      rcases hcm with e | e | e | e | e
      · rw [e]; exact Heap.lt_size hz
      · rw [e]; exact Heap.lt_size hT
      · rw [e]; exact Heap.lt_size hO
      · rw [e]; obtain ⟨o, g, _⟩ := itB_ob h1; exact Heap.lt_size g
      · rw [e]; obtain ⟨o, g, _⟩ := itB_ob h2; exact Heap.lt_size g
    rw [upd_ne (Nat.ne_of_lt (Nat.lt_of_lt_of_le lt hTs))]
    exact (hf c hcm).1
  done := by
    intro X hP hw hK hc i pins s σ H E I hf st hg
    subst hP hw hK
    obtain ⟨hz, hT, ⟨x0, y0, hO⟩, h1, h2⟩ := st
    obtain ⟨xs, ys, hx, hy, ei⟩ := hg
    obtain ⟨its, r1, p1, _⟩ := sqB_items I hx
    obtain ⟨jts, r2, p2, _⟩ := sqB_items I hy
    have l1 := r1.length
    have l2 := r2.length
    have hh : X.A.in1.handled = none := I.ok.hd hc
    refine wpAny_pyNext_zipD2_end S (drawsB (P := X.prog) (w := X.w) p hh i1 a n1 its.toArray) (drawsB (P := X.prog) (w := X.w) q hh i2 b n2 jts.toArray) hz hT hO ⟨h1, p1⟩ ⟨h2, p2⟩ (by rw [List.size_toArray]; omega) (by rw [List.size_toArray]; omega) (by rw [List.size_toArray, List.size_toArray]; omega) fun h' tk hk => ⟨rfl, I.turnedL (t' := tk) (ch := [z, TI, TO, i1, i2]) (fun c o hb e => ?_) hf⟩
    exact hk c o (fun m => hb (by simp [m])) (fun m => hb (by simp [m])) (fun m => hb (by simp [m])) (fun m => hb (by simp [m])) e
  self := fun A i s Q E st h => wpAny_pyIter_zip st.1 h
def iZipB (K : Fr) (ta : TA) : TI := fun σ H R => ta σ H fun vs H1 => ∃ a b p q xs ys, vs = [.ref a, .ref b] ∧ SqB K p H1 a xs ∧ SqB K q H1 b ys ∧ R (ItzB K p q a b) H1
theorem pi_zipB {X : Cx} {e e2 : Expr} {ta : TA} {p pos tpos : Pos} {elts : List Expr} {kk : Nat} (hg : Gl X "zip") (hm : X.mg "zip" = none) (ha : PA X [e, e2] ta)
    (hs : starEach [e, e2] X.env = (false, eval e X.env) :: starEach [e2] X.env := by rfl) (hpl : (backTo pos (starEach [e2] X.env)).any (·.1) = false := by rfl) : PI X (.Tuple elts kk tpos) (.Call (.Name "zip" p) [e, e2] [] pos) (iZipB X.K ta) := by
  refine ⟨fun pins s σ H R I h => ?_⟩
  refine Call_ (ld_blt I hg hm PyProof.Rows.boot_zip (PyProof.Rows.callWith_type1 (thn (ha.run pos pins s σ H _ I h) fun us s1 ⟨vs, H1, I1, r1, q1⟩ => ?_) hs hpl))
  obtain ⟨a, b, pa, pb, xs, ys, rfl, hx, hy, q⟩ := q1
  obtain ⟨u1, u2, rfl, ra, rb⟩ := vals2 r1
  cases ra
  cases rb
  obtain ⟨its, _, p1, la⟩ := sqB_items I1 hx
  obtain ⟨jts, _, p2, lb⟩ := sqB_items I1 hy
  refine zip_begins2 (beginsB pa a its.toArray) (beginsB pb b jts.toArray) p1 p2 fun h' hz hTI hTO g1 g2 hsz hk => wpAny_pyIter_zip hz ?_
  have I2 : Inv X pins σ H1 { s1 with heap := h' } := I1.kept (t' := s1.toks) hk
  refine ⟨s1.heap.objs.size + 4, [s1.heap.objs.size + 4, s1.heap.objs.size + 2, s1.heap.objs.size + 3, s1.heap.objs.size, s1.heap.objs.size + 1], _, _, H1, rfl, I2, turn_zipB (p := pa) (q := pb) (zip_sep2 (N := s1.heap.objs.size) (fp1 := [a]) (fp2 := [b]) (by simpa using la) (by simpa using lb)) (Nat.ne_of_lt la) (Nat.ne_of_lt (Nat.lt_succ_of_lt lb)), ⟨hz, hTI, ⟨_, _, hTO⟩, ?_, ?_⟩, fun c hcm => ?_, q⟩
  · cases pa <;> exact ⟨_, g1, rfl, rfl⟩
  · cases pb <;> exact ⟨_, g2, rfl, rfl⟩
  · have hle : s1.heap.objs.size ≤ c := by
      simp only [List.mem_cons, List.not_mem_nil, or_false] at hcm
      rcases hcm with e | e | e | e | e <;> rw [e]
      · exact Nat.le_add_right _ _
      · exact Nat.le_add_right _ _
      · exact Nat.le_add_right _ _
      · exact Nat.le_refl _
      · exact Nat.le_add_right _ _
    exact I1.fpOk hle (I1.hok.fresh hle)
def zipD (xs ys : List D) : List D := (xs.zip ys).map fun q => .tup [q.1, q.2]
theorem zipD_len (xs ys : List D) : (zipD xs ys).length = min xs.length ys.length := by unfold zipD; rw [List.length_map, List.length_zip]
theorem zipD_of {xs ys : List D} {i : Nat} {x y : D} (h : xs[i]? = some x) (g : ys[i]? = some y) : (zipD xs ys)[i]? = some (.tup [x, y]) := by
  unfold zipD
  have e : (xs.zip ys)[i]? = some (x, y) := List.getElem?_zip_eq_some.mpr ⟨h, g⟩
  rw [List.getElem?_map, e]
  rfl
theorem zipD_at {xs ys : List D} {i : Nat} {d : D} (h : (zipD xs ys)[i]? = some d) : ∃ x y, xs[i]? = some x ∧ ys[i]? = some y ∧ d = .tup [x, y] := by
  unfold zipD at h
  rw [List.getElem?_map] at h
  cases e : (xs.zip ys)[i]? with
  | none => rw [e] at h; cases h
  | some q =>
    rw [e] at h
    obtain ⟨h1, h2⟩ := List.getElem?_zip_eq_some.mp (show (xs.zip ys)[i]? = some (q.1, q.2) from e)
    cases h
    exact ⟨_, _, h1, h2, rfl⟩
/-- a sequence that stays readable as long as what is owned says so -/
theorem asS_B {K : Fr} {F H : Hp} {O : Oh} {x : D} {xs : List D} {v : V} (s : StO K F O H) (r : RepD K F v x) (h : asS O x = some xs) : ∃ p b, v = .ref p ∧ ∀ (F' H' : Hp) (O' : Oh), Same F F' → StO K F' O' H' → asS O' x = some xs → ∃ vs, SqB K b H' p vs ∧ RepsD K F' vs xs := by
  cases x with
  | tup ys =>
    cases h
    cases r with
    | tup a t => exact ⟨_, true, rfl, fun F' H' O' s1 st _ => ⟨_, sqT_same st.same (sqT_same s1 a), t.mono s1⟩⟩
  | lst ys =>
    obtain ⟨p, vs, rfl, _, _⟩ := asL_sq s r (x := .lst ys) h
    refine ⟨p, false, rfl, fun F' H' O' s1 st g => ?_⟩
    obtain ⟨p', vs', e, g1, g2⟩ := asL_sq st (r.mono s1) (x := .lst ys) g
    cases e
    exact ⟨vs', .of g1, g2⟩
  | ref q =>
    obtain ⟨p, vs, rfl, _, _⟩ := asL_sq s r (x := .ref q) h
    refine ⟨p, false, rfl, fun F' H' O' s1 st g => ?_⟩
    obtain ⟨p', vs', e, g1, g2⟩ := asL_sq st (r.mono s1) (x := .ref q) g
    cases e
    exact ⟨vs', .of g1, g2⟩
  | _ => cases h
theorem i_zipB {c : Cz} {ρ : En} {O : Oh} {Q : List D → (Oh → Prop) → Oh → Prop} {K' : Fr} (hK : K' = c.K) {ta : TA} (q : LA c ta ρ O fun ds O1 => ∃ x y xs ys, ds = [x, y] ∧ asS O1 x = some xs ∧ asS O1 y = some ys ∧ Q (zipD xs ys) (fun O2 => asS O2 x = some xs ∧ asS O2 y = some ys) O1) : LI c (iZipB K' ta) ρ O Q := by
  subst hK
  intro F H σ rs s z Q' k
  refine q F H σ rs s z _ fun F1 H1 O1 vs ds s1 st1 rd1 ⟨x, y, xs, ys, e, hx, hy, q1⟩ => ?_
  subst e
  cases rd1 with
  | cons ra t =>
    cases t with
    | cons rb t =>
      cases t
      obtain ⟨a, p, rfl, ha⟩ := asS_B st1 ra hx
      obtain ⟨b, p', rfl, hb⟩ := asS_B st1 rb hy
      obtain ⟨us, h1, r1⟩ := ha F1 H1 O1 (Same.refl _) st1 hx
      obtain ⟨ws, h2, r2⟩ := hb F1 H1 O1 (Same.refl _) st1 hy
      refine ⟨a, b, p, p', us, ws, rfl, h1, h2, k F1 H1 O1 _ _ _ s1 st1 ⟨fun H' => ∃ us ws, SqB c.K p H' a us ∧ us.length = xs.length ∧ SqB c.K p' H' b ws ∧ ws.length = ys.length, fun i H' v H2 => (ItzB c.K p p' a b).yld i H' v H2, ?_, ?_, ?_⟩ q1⟩
      · refine ⟨fun i H' hi ⟨us, ws, g1, g2, g3, g4⟩ => ?_, fun H' ⟨us, ws, g1, g2, g3, g4⟩ => ?_, fun i H' v H2 _ _ yy => yy⟩
        · rw [zipD_len] at hi
          exact ⟨us, ws, us[i]'(by omega), ws[i]'(by omega), g1, g3, by simp [show i < us.length by omega], by simp [show i < ws.length by omega]⟩
        · exact ⟨us, ws, g1, g3, by rw [zipD_len, g2, g4]⟩
      · rintro F' H' O' s2 st2 ⟨g1, g2⟩
        obtain ⟨us, e1, e2⟩ := ha F' H' O' s2 st2 g1
        obtain ⟨ws, e3, e4⟩ := hb F' H' O' s2 st2 g2
        exact ⟨us, ws, e1, e2.len, e3, e4.len⟩
      · rintro i F' H' O' v H2 s2 st2 ⟨g1, g2⟩ hi ⟨T, x', y', e1, e2, e3, e4, e5⟩
        subst e1 e3
        obtain ⟨us, k1, k2⟩ := ha F' H' O' s2 st2 g1
        obtain ⟨ws, k3, k4⟩ := hb F' H' O' s2 st2 g2
        obtain ⟨d, f1, f2⟩ := k2.at (e4 us k1)
        obtain ⟨d', f3, f4⟩ := k4.at (e5 ws k3)
        obtain ⟨F2, b1, b2, b3⟩ := pair_new st2 e2 f2 f4
        exact ⟨F2, _, b1, b2, b3, zipD_of f1 f3⟩
end VL
set_option maxHeartbeats 4000000
namespace VL
open PySem PySem.Spec PyProof.Rows L2 MB
section
variable {X : Cx} {tg : Expr}
def iSeq (K : Fr) (tl : TE) : TI := fun σ H R => tl σ H fun x H1 => ∃ a, x = .ref a ∧ ((∃ xs, SqL K H1 a xs) ∧ R (Itl K a) H1 ∨ (∃ xs, SqT K H1 a xs) ∧ R (Itt K a) H1)
theorem pi_seq {l : Expr} {tl : TE} (hl : PE X l tl) : PI X tg l (iSeq X.K tl) := by
  refine ⟨fun pins s σ H R I h => thn (hl.run pins s σ H _ I h) fun v s1 ⟨x, H1, I1, r1, a, e, q1⟩ => ?_⟩
  subst e
  cases r1
  have nf : ∀ b ∈ [s1.heap.objs.size], FpOk X pins H1 b := fun b hb => by
    cases List.mem_singleton.mp hb
    exact I1.fpOk (Nat.le_refl _) (I1.hok.fresh (Nat.le_refl _))
  rcases q1 with ⟨⟨xs, hq⟩, q⟩ | ⟨⟨xs, hq⟩, q⟩
  · obtain ⟨its, rv, p, hz⟩ := I1.list hq
    exact wpAny_pyIter_list p.isList ⟨s1.heap.objs.size, [s1.heap.objs.size], _, _, H1, rfl, I1.kept (t' := s1.toks) fun b o e => Heap.get?_push_of_some _ e, turn_list a _, ⟨_, Heap.get?_push_size _ rfl, rfl, rfl⟩, nf, q⟩
  · obtain ⟨its, rv, p, hz⟩ := I1.tuple hq
    exact wpAny_pyIter_tuple (show s1.heap.IsTuple a its.toArray from p) ⟨s1.heap.objs.size, [s1.heap.objs.size], _, _, H1, rfl, I1.kept (t' := s1.toks) fun b o e => Heap.get?_push_of_some _ e, turn_tuple a _, ⟨_, Heap.get?_push_size _ rfl, rfl, rfl⟩, nf, q⟩
def iEnumA (K : Fr) (ta : TA) : TI := fun σ H R => ta σ H fun vs H1 => ∃ a, vs = [.ref a] ∧ ((∃ xs, SqL K H1 a xs) ∧ R (Ite K a) H1 ∨ (∃ xs, SqT K H1 a xs) ∧ R (IteT K a) H1)
theorem pi_enumA {e : Expr} {ta : TA} {p pos tpos : Pos} {elts : List Expr} {kk : Nat} (hg : Gl X "enumerate") (hm : X.mg "enumerate" = none) (ha : PA X [e] ta) (hs : starEach [e] X.env = [(false, eval e X.env)] := by rfl) : PI X (.Tuple elts kk tpos) (.Call (.Name "enumerate" p) [e] [] pos) (iEnumA X.K ta) := by
  refine ⟨fun pins s σ H R I h => Call_ (ld_blt I hg hm PyProof.Rows.boot_enumerate (PyProof.Rows.callWith_type1 (thn (ha.run pos pins s σ H _ I h) fun us s1 ⟨vs, H1, I1, r1, q1⟩ => ?_) hs rfl))⟩
  obtain ⟨a, rfl, q1⟩ := q1
  obtain ⟨u, rfl, ru⟩ := vals1 r1
  cases ru
  -- one cell for the walk, one for the pairs
  have go : ∀ (ob : Obj) (HH : Heap → Prop) (J : It) (tn : Nat → Heap → Prop), Begins (.ref a) ob HH → HH s1.heap → R J H1 → Turn X.prog X.w X.K (.Tuple elts kk tpos) J [s1.heap.objs.size + 1, s1.heap.objs.size] (s1.heap.objs.size + 1) tn →
      (∀ h' : Heap, IsEnum h' (s1.heap.objs.size + 1) s1.heap.objs.size 0 .none → h'.get? s1.heap.objs.size = some ob → tn 0 h') → wpAny (model X.prog X.w) X.A (call (.type "enumerate") [.ref a]) (fun v s2 => wpAny (model X.prog X.w) X.A (pyIter v) (PIE X pins σ (.Tuple elts kk tpos) R) X.xe s2) X.xe s1 := by
    intro ob HH J tn B hh q T ht
    refine callType_new F.called_enumerate (by decide) (F.typeCall_enumerate_1 _) (F.newCall_enumerate_1 _) (fun obj => F.args_object_init_2 obj _) F.entry_enumerate_new (meets_en1 B) ⟨hh, ?_⟩
    have z1 : (s1.heap.push ob).objs.size = s1.heap.objs.size + 1 := Heap.size_push ..
    show _ ∧ _
    rw [z1]
    have he : IsEnum ((s1.heap.push ob).push { cls := .type "enumerate", data := .fields #[.none, .bool false, .ref s1.heap.objs.size, rawInt 0, .none, .none] }) (s1.heap.objs.size + 1) s1.heap.objs.size 0 .none := by
      have g := Heap.get?_push_size (s1.heap.push ob) (o := { cls := .type "enumerate", data := .fields #[.none, .bool false, .ref s1.heap.objs.size, rawInt 0, .none, .none] }) rfl
      rw [z1] at g; exact g
    refine ⟨⟨_, he, rfl⟩, wpAny_pyIter_enum he ?_⟩
    have I2 := I1.kept (t' := s1.toks) (h' := (s1.heap.push ob).push { cls := .type "enumerate", data := .fields #[.none, .bool false, .ref s1.heap.objs.size, rawInt 0, .none, .none] }) fun b o x => Heap.get?_push_of_some _ (Heap.get?_push_of_some _ x)
    refine ⟨s1.heap.objs.size + 1, [s1.heap.objs.size + 1, s1.heap.objs.size], _, _, H1, rfl, I2, T, ht _ he (Heap.get?_push_of_some _ (Heap.get?_push_size _ B.free)), fun b hb => ?_, q⟩
    have hle : s1.heap.objs.size ≤ b := by
      rcases List.mem_cons.mp hb with z | z
      · rw [z]; exact Nat.le_succ _
      · rw [List.mem_singleton.mp z]; exact Nat.le_refl _
    exact I1.fpOk hle (I1.hok.fresh hle)
  rcases q1 with ⟨⟨xs, hq⟩, q⟩ | ⟨⟨xs, hq⟩, q⟩
  · obtain ⟨its, rv, p, hz⟩ := I1.list hq
    exact go _ _ _ _ (begins_list a its.toArray) p.isList q (turn_enum a _ _) fun h' he g => ⟨⟨.none, he⟩, ⟨_, g, rfl, rfl⟩, Nat.succ_ne_self _⟩
  · obtain ⟨its, rv, pt, hz⟩ := I1.tuple hq
    have al : a < s1.heap.objs.size := by obtain ⟨o, ho, _⟩ := pt; exact Heap.lt_size ho
    exact go _ _ _ _ (begins_tuple a its.toArray) pt q (turn_enumT a _ _) fun h' he g => ⟨⟨.none, he⟩, ⟨_, g, rfl, rfl⟩, Nat.succ_ne_self _, Nat.ne_of_lt al, Nat.ne_of_lt (Nat.lt_succ_of_lt al)⟩
end
section
variable {prog : Program} {w : World} {A : Around} {E : Value → Shared → Prop} {s : Shared}
theorem collect_tup {l : Addr} {vs : List Value} {Q : List Value → Shared → Prop} (hl : s.heap.IsTuple l vs.toArray) (hz : vs.length ≤ sizeLine)
    (h : Q vs { s with heap := (s.heap.push (seqObj "list" #[] 0)).update s.heap.objs.size (Obj.mapSeq (· ++ vs.toArray)) }) : wpAny (model prog w) A (collect (.ref l)) Q E s := by
  obtain ⟨o, ho, hc, n, hd⟩ := id hl
  unfold collect
  refine wpAny_bind (wpAny_runValue (codeAny_builtin entry_proto_collect' ?_))
  show wpAny _ _ (do again (.builtin "list.__iadd__" ⟨[← newList [], .ref l], []⟩)) _ _ s
  refine wpAny_bind (wpAny_newList (wpAny_pure ⟨Code.quiet_builtin _ (by decide +kernel), codeAny_builtin entry_list_iadd' ?_⟩))
  show wpAny _ _ (Builtin.List.listExtendWith (.ref s.heap.objs.size) (.ref l) (.ref s.heap.objs.size)) _ _ { s with heap := s.heap.push (seqObj "list" #[] 0) }
  unfold Builtin.List.listExtendWith
  have ho2 : (s.heap.push (seqObj "list" #[] 0)).get? l = some o := Heap.get?_push_of_some _ ho
  refine wpAny_bind (wpAny_typeOf (T := "tuple") ⟨o, ho2, hc⟩ ?_)
  rw [if_pos (by rw [show (Value.type "tuple" == Value.type "tuple") = true from rfl]; simp)]
  refine wpAny_bind (listItems_at ho2 hd ?_)
  refine wpAny_bind (listItems_at (xs := #[]) (n := 0) (Heap.get?_push_size _ rfl) rfl ?_)
  rw [if_neg (by simp)]
  refine wpAny_bind (listUpdate_at (xs := #[]) (n := 0) (Heap.get?_push_size _ rfl) rfl ?_ (Nat.zero_le _) (by show (#[] ++ vs.toArray).size ≤ sizeLine + 1; simp only [Array.size_append, List.size_toArray, List.length_nil]; omega))
  refine wpAny_pure ?_
  show wpAny (model prog w) A (do
      let o ← load s.heap.objs.size
      match o.data with
      | .seq xs _ => pure xs.toList
      | _ => unsupported "internal:collect") Q E { s with heap := (s.heap.push (seqObj "list" #[] 0)).update s.heap.objs.size (Obj.mapSeq (· ++ vs.toArray)) }
  refine wpAny_bind (wpAny_load (get?_update_seq (Heap.get?_push_size _ rfl) _) ?_)
  show wpAny _ _ (pure ((#[] : Array Value) ++ vs.toArray).toList) Q E _
  rw [show ((#[] : Array Value) ++ vs.toArray).toList = vs by simp]
  exact wpAny_pure h
open SrtO in
theorem sorted_tup {l : Addr} {vs : List Value} {ltv : Value → Value → Bool} {Q : Value → Shared → Prop} (O : Swo ltv) (hl : s.heap.IsTuple l vs.toArray) (hz : vs.length ≤ sizeLine)
    (hS : 2 ≤ vs.length → ∀ (h₁ : Heap) (a : Addr), h₁.get? a = some (seqObj "list" vs.toArray 0) → (∀ b o, s.heap.get? b = some o → b ≠ a ∧ h₁.get? b = some o) → SortableO prog w A.in1.in1 { s with heap := h₁ } a vs ltv)
    (h : ∀ out : List Value, Srtd ltv out → Stb ltv out vs → Q (.ref (s.heap.objs.size + 1)) { s with heap := sortedAll s.heap vs out.toArray }) : wpAny (model prog w) A (call (.builtin "sorted") [.ref l]) Q E s := by
  refine PySem.Calls.call_function_entry kind_sorted plain_sorted entry_sorted (args_sorted1 _) ?_
  unfold Builtin.«sorted»
  refine wpAny_bind (m := checkCount "sorted" 1 1 _) (wpAny_pure ?_)
  refine wpAny_bind (collect_tup hl hz ?_)
  refine wpAny_bind (wpAny_newList ?_ hz)
  have z1 : ((s.heap.push (seqObj "list" #[] 0)).update s.heap.objs.size (Obj.mapSeq (· ++ vs.toArray))).objs.size = s.heap.objs.size + 1 := by rw [Heap.size_update, size_push']
  have g1 : (((s.heap.push (seqObj "list" #[] 0)).update s.heap.objs.size (Obj.mapSeq (· ++ vs.toArray))).push (seqObj "list" vs.toArray 0)).get? (s.heap.objs.size + 1) = some (seqObj "list" vs.toArray 0) := by rw [← z1]; exact Heap.get?_push_size _ rfl
  have kp : ∀ b o, s.heap.get? b = some o → b ≠ s.heap.objs.size + 1 ∧ (((s.heap.push (seqObj "list" #[] 0)).update s.heap.objs.size (Obj.mapSeq (· ++ vs.toArray))).push (seqObj "list" vs.toArray 0)).get? b = some o := fun b o q => by
    have lt : b < s.heap.objs.size := Heap.lt_size q
    refine ⟨Nat.ne_of_lt (Nat.lt_succ_of_lt lt), Heap.get?_push_of_some _ ?_⟩
    rw [Heap.get?_update_ne _ _ _ _ (Nat.ne_of_lt lt)]
    exact Heap.get?_push_of_some _ q
  show wpAny _ _ _ _ _ { s with heap := ((s.heap.push (seqObj "list" #[] 0)).update s.heap.objs.size (Obj.mapSeq (· ++ vs.toArray))).push (seqObj "list" vs.toArray 0) }
  rw [z1]
  refine wpAny_bind (wpAny_holding (wpAny_call_entry slot_list_sort ⟨_, g1, rfl⟩ entry_list_sort (list_sort_ord O g1 hz (fun h2 => hS h2 _ _ g1 kp) fun out hs hb => ⟨_, rfl, ?_⟩) (args_list_sort _)))
  exact wpAny_pure ⟨_, rfl, h out hs hb⟩
end
def rSortedA (K : Fr) : RC := fun vs H Q => ∃ (a : Addr) (ns : List Int), vs = [V.ref a] ∧ (SqL K H a (ns.map V.int) ∨ SqT K H a (ns.map V.int)) ∧ ∀ (ms : List Int) (p : Addr), ms.Perm ns → ms.Pairwise (· ≤ ·) → H p = none → Q (.ref p) (upd H p (.lst (ms.map V.int)))
theorem cr_sortedA {X : Cx} : CallR X (.builtin "sorted") (rSortedA X.K) := by
  intro pins s σ H vs us Q I r h
  obtain ⟨a, ns, rfl, hs, q⟩ := h
  rcases hs with hs | hs
  · exact cr_sortedI pins s σ H _ us Q I r ⟨a, ns, rfl, hs, q⟩
  · obtain ⟨its, rv, hl, hz⟩ := I.tuple hs
    rw [Vals.ref1 r]
    have hi := rv.ints
    refine sorted_tup SrtO.swo_int hl (by rw [← rv.length]; exact hz) (fun h2 h₁ a' _ _ => SrtO.ints_sortable hi h2) fun out h1 h2 => ?_
    obtain ⟨k1, k2, k3⟩ := SrtO.ints_out hi h1 h2
    obtain ⟨ep, he'⟩ := PyProof.Rows.sortedAll_at s.heap its out.toArray
    have hlen : ((out.map SrtO.iv).map V.int).length ≤ sizeLine := by
      rw [List.length_map, k2.length_eq, ← List.length_map (f := V.int)]
      exact hz
    exact ⟨.ref _, upd H (s.heap.objs.size + 1) (.lst ((out.map SrtO.iv).map V.int)), I.laid (t' := s.toks) (fun _ _ => PyProof.Rows.sortedAll_old) (Nat.le_succ _) ⟨hlen, out, ep, vals_of_ints k1, he'⟩, rfl, q _ _ k2 k3 (I.hok.fresh (Nat.le_succ _))⟩
section
variable {c : Cz} {ρ : En} {O : Oh} {Q : List D → (Oh → Prop) → Oh → Prop}
theorem dw_seqT {K : Fr} {F : Hp} {p : Addr} {vs : List V} {xs : List D} (h : SqT K F p vs) (r : RepsD K F vs xs) : DW K F (Itt K p) xs (fun _ => True) := by
  refine ⟨fun H' => SqT K H' p vs, YAt vs, by rw [← r.len]; exact walk_tup, fun F' H' O' s2 st2 _ => sqT_same st2.same (sqT_same s2 h), fun i F' H' O' y H2 s2 st2 _ hi ⟨e1, e2⟩ => ?_⟩
  subst e1
  obtain ⟨d, e3, e4⟩ := (r.mono s2).at e2
  exact ⟨F', d, Same.refl _, st2, e4, e3⟩
theorem DW.imp {K : Fr} {F : Hp} {J : It} {ds : List D} {G G' : Oh → Prop} (h : DW K F J ds G) (g : ∀ O, G' O → G O) : DW K F J ds G' := by
  obtain ⟨Gh, Yh, a, b, d⟩ := h.ex
  exact ⟨Gh, Yh, a, fun F' H' O' s st q => b F' H' O' s st (g O' q), fun i F' H' O' x H2 s st q => d i F' H' O' x H2 s st (g O' q)⟩
theorem i_seq {K' : Fr} (hK : K' = c.K) {tl : TE} (q : LE c tl ρ O fun x O1 => ∃ xs, asS O1 x = some xs ∧ Q xs (fun O2 => asS O2 x = some xs) O1) : LI c (iSeq K' tl) ρ O Q := by
  subst hK
  intro F H σ rs s z Q' k
  refine q F H σ rs s z _ fun F1 H1 O1 v x s1 st1 rd1 ⟨xs, h, q1⟩ => ?_
  by_cases ht : ∃ ys, x = .tup ys
  · obtain ⟨ys, rfl⟩ := ht
    cases h
    cases rd1 with
    | @tup p vs _ h r => exact ⟨p, rfl, .inr ⟨⟨vs, sqT_same st1.same h⟩, k F1 H1 O1 _ _ _ s1 st1 ((dw_seqT h r).imp fun _ _ => trivial) q1⟩⟩
  · have e : ∀ O, asS O x = asL O x := fun O => by
      cases x with
      | tup ys => exact absurd ⟨ys, rfl⟩ ht
      | _ => rfl
    rw [e] at h
    obtain ⟨p, vs, rfl, hp, r⟩ := asL_sq st1 rd1 h
    exact ⟨p, rfl, .inl ⟨⟨vs, .of hp⟩, k F1 H1 O1 _ _ _ s1 st1 ((dw_list (vs := vs) st1 rd1 h).imp fun O2 z => by rw [← e]; exact z) q1⟩⟩
theorem i_enumA {K' : Fr} (hK : K' = c.K) {ta : TA} (q : LA c ta ρ O fun ds O1 => ∃ x xs, ds = [x] ∧ asS O1 x = some xs ∧ Q (enumD xs) (fun O2 => asS O2 x = some xs) O1) : LI c (iEnumA K' ta) ρ O Q := by
  subst hK
  intro F H σ rs s z Q' k
  refine q F H σ rs s z _ fun F1 H1 O1 vs ds s1 st1 rd1 ⟨x, xs, e, h, q1⟩ => ?_
  subst e
  cases rd1 with
  | cons ra t =>
    cases t
    by_cases ht : ∃ ys, x = .tup ys
    · obtain ⟨ys, rfl⟩ := ht
      cases h
      cases ra with
      | @tup p us _ h r =>
        refine ⟨p, rfl, .inr ⟨⟨us, sqT_same st1.same h⟩, k F1 H1 O1 _ _ _ s1 st1 ⟨fun H' => SqT c.K H' p us, _, by rw [enumD_len, ← r.len]; exact walk_enumT, fun F' H' O' s2 st2 _ => sqT_same st2.same (sqT_same s2 h), ?_⟩ q1⟩⟩
        rintro i F' H' O' y H2 s2 st2 _ hi ⟨T, x, x', e1, e2, e3, e4, e5⟩
        subst e1 e3
        cases e4
        obtain ⟨d, e6, e7⟩ := (r.mono s2).at e5
        obtain ⟨F2, a1, a2, a3⟩ := pair_new st2 e2 (.int (i : Nat)) e7
        exact ⟨F2, _, a1, a2, a3, enumD_of e6⟩
    · have e : ∀ O, asS O x = asL O x := fun O => by
        cases x with
        | tup ys => exact absurd ⟨ys, rfl⟩ ht
        | _ => rfl
      rw [e] at h
      obtain ⟨p, us, rfl, hp, r⟩ := asL_sq st1 ra h
      refine ⟨p, rfl, .inl ⟨⟨us, .of hp⟩, k F1 H1 O1 _ _ _ s1 st1 ⟨fun H' => ∃ vs', H' p = some (.lst vs') ∧ vs'.length = xs.length, fun i H' v H2 => ∃ T y, v = .ref T ∧ H' T = none ∧ H2 = upd H' T (.tup [.int (i : Nat), y]) ∧ ∀ ys, SqL c.K H' p ys → ys[i]? = some y, ?_, ?_, ?_⟩ q1⟩⟩
      · rw [enumD_len]
        exact ⟨fun i H' hi ⟨vs', a, b⟩ => ⟨vs', vs'[i]'(by omega), .of a, by simp [show i < vs'.length by omega]⟩, fun H' ⟨vs', a, b⟩ => ⟨vs', .of a, by omega⟩, fun i H' y H2 hi q y' => y'⟩
      · intro F' H' O' s2 st2 g
        rw [e] at g
        obtain ⟨p', vs', e, hp', r'⟩ := asL_sq st2 (ra.mono s2) g
        cases e
        exact ⟨vs', hp', r'.len⟩
      · rintro i F' H' O' y H2 s2 st2 g hi ⟨T, y', e1, e2, e3, e4⟩
        subst e1 e3
        rw [e] at g
        obtain ⟨p', vs', e, hp', r'⟩ := asL_sq st2 (ra.mono s2) g
        cases e
        obtain ⟨d, e6, e7⟩ := r'.at (e4 vs' (.of hp'))
        obtain ⟨F2, a1, a2, a3⟩ := pair_new st2 e2 (.int (i : Nat)) e7
        exact ⟨F2, _, a1, a2, a3, enumD_of e6⟩
theorem k_sortedA {K' : Fr} (hK : K' = c.K) {x : D} {ns : List Int} {Q : List D → Oh → Prop} (h : asS O x = some (ns.map D.int)) (q : ∀ ms : List Int, ms.Perm ns → ms.Pairwise (· ≤ ·) → Q (ms.map D.int) O) : CAN c (rSortedA K') [x] O Q := by
  subst hK
  intro F H vs s r z Q' k
  cases r with
  | cons a t =>
    cases t
    obtain ⟨p, ws, rfl, hp, r⟩ := asS_sq s a h
    cases repsD_ints r
    exact ⟨p, ns, rfl, hp, fun ms l hm hs hl => k F H O l _ _ (Same.refl F) s hl repsD_int' (q ms hm hs)⟩
theorem f_sortedA {K' : Fr} (hK : K' = c.K) {ta : TA} {Q : D → Oh → Prop} (q : LA c ta ρ O fun xs O1 => CAN c (rSortedA K') xs O1 fun ys O2 => Q (.lst ys) O2) : LE c (tCB (rSortedA K') ta) ρ O Q := l_frz (ln_cb q)
end
end VL
set_option maxHeartbeats 2000000
namespace VL
open PySem PySem.Spec PyProof.Rows L2 MB
def six : List String := ["NoneType", "bool", "int", "str", "list", "tuple"]
def Kn (O : Oh) (t : D) : Prop := ∃ n, tyD O t = some n ∧ n ∈ six
theorem kit_six_int {n : String} (h : n ∈ six) : kitB n "int" = some (n == "int" || n == "bool") := by
  simp only [six, List.mem_cons, List.not_mem_nil, or_false] at h
  rcases h with rfl | rfl | rfl | rfl | rfl | rfl
  · exact K00.kit_ni
  · exact K00.kit_bi
  · exact K00.kit_ii
  · exact K00.kit_si
  · exact K00.kit_li
  · exact K00.kit_ti
theorem kit_six_bool {n : String} (h : n ∈ six) : kitB n "bool" = some (n == "bool") := by
  simp only [six, List.mem_cons, List.not_mem_nil, or_false] at h
  rcases h with rfl | rfl | rfl | rfl | rfl | rfl
  · exact K00.kit_nb
  · exact K00.kit_bb
  · exact K00.kit_ib
  · exact K00.kit_sb
  · exact K00.kit_lb
  · exact K00.kit_tb
theorem kit_six_tup {n : String} (h : n ∈ six) : kitB n "tuple" = some (n == "tuple") := by
  simp only [six, List.mem_cons, List.not_mem_nil, or_false] at h
  rcases h with rfl | rfl | rfl | rfl | rfl | rfl
  · exact K00.kit_nt
  · exact K00.kit_bt
  · exact K00.kit_it
  · exact K00.kit_st
  · exact K00.kit_lt
  · exact K00.kit_tt
theorem kit_six_lst {n : String} (h : n ∈ six) : kitB n "list" = some (n == "list") := by
  simp only [six, List.mem_cons, List.not_mem_nil, or_false] at h
  rcases h with rfl | rfl | rfl | rfl | rfl | rfl
  · exact K00.kit_nl
  · exact K00.kit_bl
  · exact K00.kit_il
  · exact K00.kit_sl
  · exact K00.kit_ll
  · exact K00.kit_tl
theorem kn_non {O : Oh} : Kn O .non := ⟨_, rfl, by decide⟩
theorem kn_bl {O : Oh} {b : Bool} : Kn O (.bl b) := ⟨_, rfl, by decide⟩
theorem kn_int {O : Oh} {i : Int} : Kn O (.int i) := ⟨_, rfl, by decide⟩
theorem kn_str {O : Oh} {x : Str} : Kn O (.str x) := ⟨_, rfl, by decide⟩
theorem kn_lst {O : Oh} {xs : List D} : Kn O (.lst xs) := ⟨_, rfl, by decide⟩
theorem kn_tup {O : Oh} {xs : List D} : Kn O (.tup xs) := ⟨_, rfl, by decide⟩
theorem kn_own {O : Oh} {p : Addr} {xs : List D} (h : O p = some (.lst xs)) : Kn O (.ref p) := ⟨_, tyD_own h, by decide⟩
theorem ty_int {O : Oh} {t : D} (h : tyD O t = some "int") : ∃ i, t = .int i := by
  cases t with
  | int i => exact ⟨i, rfl⟩
  | ref p =>
    have h : (match O p with | some (.lst _) => some "list" | some (.dk _) => some "dict" | _ => none) = some "int" := h
    split at h <;> simp at h
  | _ => simp [tyD] at h
theorem ty_seq {O : Oh} {t : D} {n : String} (h : tyD O t = some n) : (n == "list" || n == "tuple") = (asS O t).isSome := by
  cases t with
  | ref p =>
    have h : (match O p with | some (.lst _) => some "list" | some (.dk _) => some "dict" | _ => none) = some n := h
    show _ = (match O p with | some (.lst xs) => some xs | _ => none).isSome
    split at h
    · rename_i e; cases h; rw [e]; rfl
    · rename_i e; cases h; rw [e]; rfl
    · cases h
  | non => cases h; rfl
  | bl => cases h; rfl
  | int => cases h; rfl
  | str => cases h; rfl
  | lst => cases h; rfl
  | tup => cases h; rfl
  | _ => simp [tyD] at h
theorem ty_tup {O : Oh} {t : D} (h : tyD O t = some "tuple") : ∃ xs, t = .tup xs := by
  cases t with
  | tup xs => exact ⟨xs, rfl⟩
  | ref p =>
    have h : (match O p with | some (.lst _) => some "list" | some (.dk _) => some "dict" | _ => none) = some "tuple" := h
    split at h <;> simp at h
  | _ => simp [tyD] at h
def isInt : D → Bool
  | .int _ => true
  | _ => false
def geB : D → Int → Bool
  | .int l, i => decide (i ≥ l)
  | _, _ => true
def leB : D → Int → Bool
  | .int l, i => decide (i ≤ l)
  | _, _ => true
def isWhole (t lo hi : D) : Bool := match t with
  | .int i => geB lo i && leB hi i
  | _ => false
def Bd (d : D) : Prop := d = .non ∨ ∃ i, d = .int i
def isTup : D → Bool
  | .tup _ => true
  | _ => false
def isStr : D → Bool
  | .str _ => true
  | _ => false
def toI : D → Int
  | .int i => i
  | _ => 0
/-- a ratio in lowest terms -/
def isRatio : D → Bool
  | .tup [a, b] => isWhole a .non .non && (isWhole b (.int 1) .non && decide (Nat.gcd (toI a).natAbs (toI b).natAbs = 1))
  | _ => false
def isShare : D → Bool
  | .tup [a, b] => isRatio (.tup [a, b]) && (decide (0 ≤ toI a) && decide (toI a ≤ toI b))
  | _ => false
theorem whole_int {t lo hi : D} (h : isWhole t lo hi = true) : ∃ i, t = .int i := by
  cases t with
  | int i => exact ⟨i, rfl⟩
  | _ => simp [isWhole] at h
theorem isRatio_2 {a b : D} : isRatio (.tup [a, b]) = (isWhole a .non .non && (isWhole b (.int 1) .non && decide (Nat.gcd (toI a).natAbs (toI b).natAbs = 1))) := rfl
theorem isShare_2 {a b : D} : isShare (.tup [a, b]) = (isRatio (.tup [a, b]) && (decide (0 ≤ toI a) && decide (toI a ≤ toI b))) := rfl
theorem isShare_no {t : D} (h : isRatio t = false) : isShare t = false := by
  unfold isShare
  split
  · rw [h]; rfl
  · rfl
theorem isRatio_ii {t b : Int} : isRatio (.tup [.int t, .int b]) = (decide (b ≥ 1) && decide (Nat.gcd t.natAbs b.natAbs = 1)) := by
  rw [Bool.eq_iff_iff]; simp [isRatio, isWhole, geB, leB, toI]
  intro _
  exact ⟨fun h => of_decide_eq_true h, fun h => decide_eq_true h⟩
theorem isShare_ii {t b : Int} : isShare (.tup [.int t, .int b]) = ((decide (b ≥ 1) && decide (Nat.gcd t.natAbs b.natAbs = 1)) && (decide (0 ≤ t) && decide (t ≤ b))) := by
  show (isRatio _ && _) = _
  rw [isRatio_ii]; rfl
theorem ratio_ii {t : D} (h : isRatio t = true) : ∃ a b : Int, t = .tup [.int a, .int b] ∧ b ≥ 1 ∧ Nat.gcd a.natAbs b.natAbs = 1 := by
  unfold isRatio at h
  split at h
  · simp only [Bool.and_eq_true] at h
    obtain ⟨h1, h2, h3⟩ := h
    obtain ⟨i, rfl⟩ := whole_int h1
    obtain ⟨j, rfl⟩ := whole_int h2
    refine ⟨i, j, rfl, ?_, of_decide_eq_true h3⟩
    simpa [isWhole, geB, leB] using h2
  · cases h
/-- the ints of a sequence of ints -/
def intsOf (xs : List D) : Option (List Int) := xs.mapM fun
  | .int i => some i
  | _ => none
theorem intsOf_ints (ns : List Int) : intsOf (ns.map D.int) = some ns := by
  induction ns with
  | nil => rfl
  | cons n ns ih =>
    unfold intsOf at ih ⊢
    rw [List.map_cons, List.mapM_cons, ih]; rfl
theorem ints_of_all {xs : List D} {lo hi : D} (h : xs.all (fun x => isWhole x lo hi) = true) : ∃ ns : List Int, xs = ns.map D.int ∧ ∀ n ∈ ns, isWhole (.int n) lo hi = true := by
  induction xs with
  | nil => exact ⟨[], rfl, by simp⟩
  | cons x xs ih =>
    rw [List.all_cons, Bool.and_eq_true] at h
    obtain ⟨ns, e, hn⟩ := ih h.2
    cases x with
    | int i =>
      refine ⟨i :: ns, by rw [e]; rfl, fun n hm => ?_⟩
      rcases List.mem_cons.mp hm with z | z
      · subst z; exact h.1
      · exact hn n z
    | _ => simp [isWhole] at h
def lotB (xs : List D) (m : Int) : Bool := xs.all (fun x => isWhole x (.int 0) (.int (m - 1))) && (match intsOf xs with
  | some ns => decide ns.Nodup
  | none => false)
theorem lotB_ints {ns : List Int} {m : Int} : lotB (ns.map D.int) m = decide ((∀ n ∈ ns, 0 ≤ n ∧ n < m) ∧ ns.Nodup) := by
  unfold lotB
  rw [intsOf_ints, Bool.eq_iff_iff, Bool.and_eq_true, List.all_map, List.all_eq_true, decide_eq_true_eq, decide_eq_true_eq]
  constructor
  · rintro ⟨h1, h2⟩
    refine ⟨fun n hn => ?_, h2⟩
    have := h1 n hn
    simp only [Function.comp, isWhole, geB, leB, Bool.and_eq_true, decide_eq_true_eq] at this
    omega
  · rintro ⟨h1, h2⟩
    refine ⟨fun n hn => ?_, h2⟩
    have := h1 n hn
    simp only [Function.comp, isWhole, geB, leB, Bool.and_eq_true, decide_eq_true_eq]
    omega
def isLot (O : Oh) (t : D) (m : Int) : Bool := match asS O t with
  | some xs => lotB xs m
  | none => false
def longA (a : D → Option (List D)) (t : D) (n : Int) : Bool := match a t with
  | some xs => decide ((xs.length : Int) = n)
  | none => false
def digitsA (a : D → Option (List D)) (t : D) (n : Int) : Bool := match a t with
  | some xs => decide ((xs.length : Int) = n) && xs.all (fun x => isWhole x (.int 0) (.int 1))
  | none => false
theorem nb1 {b : Bool} (h : (!b) = true) : b = false := by simpa using h
theorem nb0 {b : Bool} (h : (!b) = false) : b = true := by simpa using h
theorem longA_some {a : D → Option (List D)} {t : D} {n : Int} {xs : List D} (h : a t = some xs) : longA a t n = decide ((xs.length : Int) = n) := by unfold longA; rw [h]
theorem longA_none {a : D → Option (List D)} {t : D} {n : Int} (h : a t = none) : longA a t n = false := by unfold longA; rw [h]
theorem digitsA_some {a : D → Option (List D)} {t : D} {n : Int} {xs : List D} (h : a t = some xs) : digitsA a t n = (decide ((xs.length : Int) = n) && xs.all (fun x => isWhole x (.int 0) (.int 1))) := by unfold digitsA; rw [h]
theorem digitsA_none {a : D → Option (List D)} {t : D} {n : Int} (h : a t = none) : digitsA a t n = false := by unfold digitsA; rw [h]
def srt (ns : List Int) : List Int := ns.mergeSort (fun a b => decide (a ≤ b))
theorem srt_perm (ns : List Int) : (srt ns).Perm ns := List.mergeSort_perm _ _
theorem srt_le (ns : List Int) : (srt ns).Pairwise (· ≤ ·) := (List.pairwise_mergeSort (le := fun a b : Int => decide (a ≤ b)) (fun a b c h1 h2 => by simp only [decide_eq_true_eq] at *; omega) (fun a b => by simp only [Bool.or_eq_true, decide_eq_true_eq]; omega) ns).imp fun h => of_decide_eq_true h
theorem srt_uniq {ms ns : List Int} (h1 : ms.Perm ns) (h2 : ms.Pairwise (· ≤ ·)) : ms = srt ns := List.Perm.eq_of_pairwise (le := fun a b : Int => a ≤ b) (fun a b _ _ h h' => Int.le_antisymm h h') h2 (srt_le ns) (h1.trans (srt_perm ns).symm)
theorem srt_congr {ms ns : List Int} (h : ms.Perm ns) : srt ms = srt ns := srt_uniq ((srt_perm ms).trans h) (srt_le ms)
theorem srt_sorted {ms : List Int} (h : ms.Pairwise (· ≤ ·)) : srt ms = ms := (srt_uniq (List.Perm.refl _) h).symm
theorem srt_srt (ns : List Int) : srt (srt ns) = srt ns := srt_sorted (srt_le ns)
theorem srt_len (ns : List Int) : (srt ns).length = ns.length := (srt_perm ns).length_eq
/-- a code: its bits and its checks -/
def codeD (C : Addr) (n : Int) (cs : List (List Int)) : D := .ins C [("bits", .int n), ("checks", .tup (cs.map fun c => .tup (c.map D.int)))]
end VL
set_option maxHeartbeats 2000000
namespace VL
open PySem PySem.Spec PyProof.Rows L2 MB
/-- O' holds all that O holds -/
def Ext (O O' : Oh) : Prop := ∀ a o, O a = some o → O' a = some o
theorem Ext.refl (O : Oh) : Ext O O := fun _ _ h => h
theorem Ext.trans {O O1 O2 : Oh} (a : Ext O O1) (b : Ext O1 O2) : Ext O O2 := fun x o h => b x o (a x o h)
theorem ext_new {O : Oh} {L : Addr} {o : OD} (h : O L = none) : Ext O (updO O L o) := fun a u e => by
  rw [updO_ne (fun z => by subst z; rw [h] at e; cases e)]; exact e
theorem asL_ext {O O' : Oh} {x : D} {xs : List D} (e : Ext O O') (h : asL O x = some xs) : asL O' x = some xs := by
  cases x with
  | lst ys => exact h
  | ref p =>
    have h : (match O p with | some (.lst xs) => some xs | _ => none) = some xs := h
    show (match O' p with | some (.lst xs) => some xs | _ => none) = some xs
    cases q : O p with
    | none => rw [q] at h; cases h
    | some o => rw [q] at h; rw [e p o q]; exact h
  | _ => cases h
theorem asS_ext {O O' : Oh} {x : D} {xs : List D} (e : Ext O O') (h : asS O x = some xs) : asS O' x = some xs := by
  cases x with
  | tup ys => exact h
  | lst ys => exact h
  | ref p => exact asL_ext (x := .ref p) e h
  | _ => cases h
theorem tyD_ext {O O' : Oh} {x : D} {n : String} (e : Ext O O') (h : tyD O x = some n) : tyD O' x = some n := by
  cases x with
  | ref p =>
    have h : (match O p with | some (.lst _) => some "list" | some (.dk _) => some "dict" | _ => none) = some n := h
    show (match O' p with | some (.lst _) => some "list" | some (.dk _) => some "dict" | _ => none) = some n
    cases q : O p with
    | none => rw [q] at h; cases h
    | some o => rw [q] at h; rw [e p o q]; exact h
  | _ => exact h
theorem Kn.ext {O O' : Oh} {x : D} (e : Ext O O') (h : Kn O x) : Kn O' x := by
  obtain ⟨n, h1, h2⟩ := h
  exact ⟨n, tyD_ext e h1, h2⟩
section
variable {c : Cz} {ρ : En} {O : Oh}
/-- [.. for x in xs]: each item is told by R, what is owned stays -/
theorem ln_rel {wi : TI} {g : TG} {te : TE} {vs : List Nat} {Q : List D → Oh → Prop} (R : Nat → D → D → Prop)
    (q : LI c wi ρ O fun ds G O1 => ds.length ≤ 100000 ∧ (∀ O2, Ext O1 O2 → G O2) ∧
      (∀ (i : Nat) (d : D) (O2 : Oh), ds[i]? = some d → Ext O1 O2 → LG c g vs d (wipeE ρ vs) O2 fun ρ2 O3 => LE c te ρ2 O3 fun y O4 => R i d y ∧ O4 = O2) ∧
      ∀ ys : List D, ys.length = ds.length → (∀ i d y, ds[i]? = some d → ys[i]? = some y → R i d y) → Q ys O1) : LN c (tLc wi g tYes te vs) ρ O Q := ln_lc fun F H σ rs s z Q' k => q F H σ rs s z Q' fun F1 H1 O1 J ds G s1 st1 dw ⟨hl, hG, hs, hd⟩ => k F1 H1 O1 J ds G s1 st1 dw fun L hL => by
    refine ⟨fun i acc O2 => i ≤ ds.length ∧ acc.length = i ∧ (∀ j d y, ds[j]? = some d → acc[j]? = some y → R j d y) ∧ O2 = updO O1 L (.lst acc), ⟨Nat.zero_le _, rfl, fun j d y _ e => by simp at e, rfl⟩, ?_, ?_, ?_⟩
    · rintro i acc O2 ⟨_, _, _, rfl⟩
      exact ⟨hG _ (ext_new hL), updO_same⟩
    · rintro i d acc O2 e ⟨hi0, ea, er, rfl⟩
      have hi : i < ds.length := (List.getElem?_eq_some_iff.mp e).1
      intro F3 H3 σ3 v3 rs3 st3 rv3 z3 Q3 k3
      refine hs i d _ e (ext_new hL) F3 H3 σ3 v3 rs3 st3 rv3 z3 Q3 fun F4 H4 O4 σ4 ρ4 s4 rs4 st4 w4 q4 => k3 F4 H4 O4 σ4 ρ4 s4 rs4 st4 w4 ?_
      refine l_yes (iteT ?_)
      intro F7 H7 σ7 rs7 st7 z7 Q7 k7
      refine q4 F7 H7 σ7 rs7 st7 z7 Q7 fun F8 H8 O8 v8 y8 s8 st8 rd8 ⟨e8, e9⟩ => k7 F8 H8 O8 v8 y8 s8 st8 rd8 ?_
      subst e9
      refine ⟨Nat.lt_of_lt_of_le (by omega) (le_line hl), updO_same, hi, by rw [List.length_append, ea]; rfl, fun j d' y e1 e2 => ?_, by rw [updO_updO]⟩
      by_cases hj : j < i
      · rw [List.getElem?_append_left (by omega)] at e2
        exact er j d' y e1 e2
      · rw [List.getElem?_append_right (by omega)] at e2
        have : j - acc.length = 0 := by
          by_cases h0 : j - acc.length = 0
          · exact h0
          · rw [List.getElem?_eq_none (by simp; omega)] at e2; cases e2
        rw [this] at e2
        simp at e2
        subst e2
        have : j = i := by omega
        subst this
        rw [e] at e1; cases e1
        exact e8
    · rintro acc O2 ⟨_, ea, er, rfl⟩
      rw [delO_updO hL]
      exact hd acc ea er
/-- [f(x) for x in xs], what is owned stays -/
theorem ln_map {wi : TI} {g : TG} {te : TE} {vs : List Nat} {Q : List D → Oh → Prop} (f : D → D)
    (q : LI c wi ρ O fun ds G O1 => ds.length ≤ 100000 ∧ (∀ O2, Ext O1 O2 → G O2) ∧
      (∀ (i : Nat) (d : D) (O2 : Oh), ds[i]? = some d → Ext O1 O2 → LG c g vs d (wipeE ρ vs) O2 fun ρ2 O3 => LE c te ρ2 O3 fun y O4 => y = f d ∧ O4 = O2) ∧
      Q (ds.map f) O1) : LN c (tLc wi g tYes te vs) ρ O Q := ln_rel (fun _ d y => y = f d) fun F H σ rs s z Q' k => q F H σ rs s z Q' fun F1 H1 O1 J ds G s1 st1 dw ⟨hl, hG, hs, hd⟩ => k F1 H1 O1 J ds G s1 st1 dw ⟨hl, hG, hs, fun ys e er => by
        have : ys = ds.map f := List.ext_getElem? fun i => by
          rw [List.getElem?_map]
          cases h : ds[i]? with
          | none =>
            rw [List.getElem?_eq_none (by rw [e]; exact List.getElem?_eq_none_iff.mp h)]; rfl
          | some d =>
            have hi : i < ys.length := by rw [e]; exact (List.getElem?_eq_some_iff.mp h).1
            rw [List.getElem?_eq_getElem hi]
            exact congrArg some (er i d _ h (List.getElem?_eq_getElem hi))
        rw [this]; exact hd⟩
end
end VL
set_option maxHeartbeats 2000000
namespace VL
open PySem PySem.Spec PyProof.Rows L2 MB
def gcdB (K : Fr) : Bool := match PySem.W.nsIn K mainGlobals "gcd" with
  | some (some (.builtin n)) => decide (n = "math.gcd")
  | _ => false
/-- a class with its own __eq__ -/
def neB (K : Fr) (C : Str) : Bool := decide (PySem.W.findIn K (.ref (He.ga K C)) "__ne__" = some (some (.builtin "object.__ne__"))) && (decide (PySem.W.mroIn K (He.ga K C) (.type "object") = some true) && (PySem.W.notFirst K (He.ga K C) (.ref (He.ga K C)) && six.all fun n => PySem.W.notFirst K (He.ga K C) (.type n)))
theorem neB_1 {K : Fr} {C : Str} (h : neB K C = true) : PySem.W.findIn K (.ref (He.ga K C)) "__ne__" = some (some (.builtin "object.__ne__")) := of_decide_eq_true (He.ba h).1
theorem neB_2 {K : Fr} {C : Str} (h : neB K C = true) : PySem.W.mroIn K (He.ga K C) (.type "object") = some true := of_decide_eq_true (He.ba (He.ba h).2).1
theorem neB_3 {K : Fr} {C : Str} (h : neB K C = true) : PySem.W.notFirst K (He.ga K C) (.ref (He.ga K C)) = true := (He.ba (He.ba (He.ba h).2).2).1
theorem neB_4 {K : Fr} {C : Str} {n : String} (h : neB K C = true) (hn : n ∈ six) : PySem.W.notFirst K (He.ga K C) (.type n) = true := List.all_eq_true.mp (He.ba (He.ba (He.ba h).2).2).2 n hn
section
variable {fa : List He.Fa} {fn : List He.DefD} {cs : List (Str × List Str)} {ex : Fr → Bool} {K : Fr} {mg : Str → Option Value}
theorem TxtV.ex_ (T : TxtV fa fn cs ex K mg) : ex K = true := (He.ba T.e).2
theorem TxtV.gcd (T : TxtV fa fn cs ex K mg) (c2 : gcdB K = true) : mg "gcd" = some (.builtin "math.gcd") := by
  obtain ⟨h', X, G⟩ := T.h
  unfold gcdB at c2
  split at c2
  · rename_i n q
    rw [of_decide_eq_true c2] at q
    exact PySem.W.mg_of X G q
  · cases c2
end
section
variable {c : Cz} {ρ : En} {O : Oh} {Q : D → Oh → Prop}
theorem l_calln1 {W : WL} {XE : XK} {ta : TA} (q : LA c ta ρ O fun ds O1 => W (ds ++ [.non]) O1 Q noX) : LE c (tCall (SpL c.K W) [.non] XE ta) ρ O Q := l_call (dds := [.non]) (fun _ => .cons .non .nil) q
theorem l_calln2 {W : WL} {XE : XK} {ta : TA} (q : LA c ta ρ O fun ds O1 => W (ds ++ [.non, .non]) O1 Q noX) : LE c (tCall (SpL c.K W) [.non, .non] XE ta) ρ O Q := l_call (dds := [.non, .non]) (fun _ => .cons .non (.cons .non .nil)) q
theorem k_allM {K' : Fr} (hK : K' = c.K) {x : D} {xs : List D} {p : D → Bool} (h : asL O x = some (xs.map fun d => D.bl (p d))) (q : Q (.bl (xs.all p)) O) : CAR c (rAll K') [x] O Q :=
  k_all hK (bs := xs.map p) (h.trans (by rw [List.map_map]; rfl)) (by rw [List.all_map]; exact q)
theorem k_anyM {K' : Fr} (hK : K' = c.K) {x : D} {xs : List D} {p : D → Bool} (h : asL O x = some (xs.map fun d => D.bl (p d))) (q : Q (.bl (xs.any p)) O) : CAR c (rAny K') [x] O Q :=
  k_any hK (bs := xs.map p) (h.trans (by rw [List.map_map]; rfl)) (by rw [List.any_map]; exact q)
theorem k_sumM {K' : Fr} (hK : K' = c.K) {x : D} {xs : List D} {p : D → Int} (h : asL O x = some (xs.map fun d => D.int (p d))) (q : Q (.int (xs.map p).sum) O) : CAR c (rSum K') [x] O Q :=
  k_sum hK (ns := xs.map p) (h.trans (by rw [List.map_map]; rfl)) q
end
end VL
set_option maxHeartbeats 2000000
namespace VL
open PySem PySem.Spec PyProof.Rows L2 MB
def Mth (P : Program) (w : World) (K : Fr) (mg : Str → Option Value) (base : Heap) (CX : CXT) (k : Nat) (C : Addr) (m : Str) (ps : List Str) (sp : Sp) : Prop := ∃ (f : Addr) (fd : FuncData), FnOk P w K mg base CX k f fd ps sp ∧ Meth K C m f ∧ Binds K fd ps []
def Mkr (P : Program) (w : World) (K : Fr) (mg : Str → Option Value) (base : Heap) (CX : CXT) (k : Nat) (x : Str) (C : Addr) (ps : List Str) (sp : Sp) : Prop := ∃ (f : Addr) (fd : FuncData), FnOk P w K mg base CX k f fd ps sp ∧ Mk K C f ∧ mg x = some (.ref C) ∧ Binds K fd ps []
theorem TxtV.meth {fa : List He.Fa} {fn : List He.DefD} {cs : List (Str × List Str)} {ex : Fr → Bool} {K : Fr} {mg : Str → Option Value} {x m : Str} (T : TxtV fa fn cs ex K mg) (i : Nat) (h : fa[i]? = some (.meth x m) := by rfl) : Meth K (He.ga K x) m (He.ma K (He.ga K x) m) := He.meth_ok (T.c.fact i h)
section
variable {X : Cx} {CX : CXT} {k : Nat} {C : Addr} {ps : List Str} {sp : Sp} {E : XK} {x : Str} {p pos : Pos} {e : Expr} {es : List Expr} {t : TA}
theorem cr_lenM (h : Mth X.prog X.w X.K X.mg X.base CX k C "__len__" ps sp) (hr : Room (k + 1) X.A) (hx : Passes CX X E) : CallR X (.builtin "len") (rLenO C sp E) := by
  obtain ⟨f, fd, F, M, hb⟩ := h
  exact call_lenO F M hb hx hr
theorem op_eqM (h : Mth X.prog X.w X.K X.mg X.base CX k C "__eq__" ps sp) (hr : Room k X.A) (hx : Passes CX X E) : OpR X (compareOp .Eq) (rEqO X.K C sp E) := by
  obtain ⟨f, fd, F, M, hb⟩ := h
  exact op_eqO F M hb hx hr
theorem op_neM (h : Mth X.prog X.w X.K X.mg X.base CX k C "__eq__" ps sp) (h1 : PySem.W.findIn X.K (.ref C) "__ne__" = some (some (.builtin "object.__ne__"))) (h2 : PySem.W.mroIn X.K C (.type "object") = some true) (hr : Room (k + 2) X.A) (hx : Passes CX X E) : OpR X (compareOp .NotEq) (rNeO X.K C sp E) := by
  obtain ⟨f, fd, F, M, hb⟩ := h
  exact op_neO F M h1 h2 hb hx hr
theorem pe_mkr (h : Mkr X.prog X.w X.K X.mg X.base CX k x C ps sp) (hr : Room (k + 1) X.A) (hx : Passes CX X E) (ha : PA X (e :: es) t) (hg : Gl X x := by rfl) (hdb : (x == ("__debug__" : Str)) = false := by decide)
    (he : starEach (e :: es) X.env = (false, eval e X.env) :: starEach es X.env := by rfl) (hpl : (backTo pos (starEach es X.env)).any (·.1) = false := by rfl) : PE X (.Call (.Name x p) (e :: es) [] pos) (tMake C sp [] E t) := by
  obtain ⟨f, fd, F, M, hm, hb⟩ := h
  exact pe_make M F hr hg hm hb .nil hx ha hdb he hpl
/-- C(e, ..) in a try -/
def tMakeS (C : Addr) (sp : Sp) (E : L2.St → XK) (t : TA) : TE := fun σ H Q => t σ H fun vs H1 => ∀ x dx, H1 x = none → H1 dx = none → dx ≠ x → sp (.ref x :: vs) (upd (upd H1 dx (.own x)) x (.ins C dx [])) (fun v H2 => v = .non ∧ Q (.ref x) H2) (E σ)
theorem pe_mkrS {Es : L2.St → XK} (h : Mkr X.prog X.w X.K X.mg X.base CX k x C ps sp) (hr : Room (k + 1) X.A) (hx : ∀ σ, PassesAt CX X σ (Es σ)) (ha : PA X (e :: es) t) (hg : Gl X x := by rfl) (hdb : (x == ("__debug__" : Str)) = false := by decide)
    (he : starEach (e :: es) X.env = (false, eval e X.env) :: starEach es X.env := by rfl) (hpl : (backTo pos (starEach es X.env)).any (·.1) = false := by rfl) : PE X (.Call (.Name x p) (e :: es) [] pos) (tMakeS C sp Es t) := by
  obtain ⟨f, fd, F, M, hm, hb⟩ := h
  refine ⟨fun pins s σ H Q I h => ?_⟩
  refine wpAny_Call_Name_kw (ld_glob I hg hm ?_ hdb)
  refine PySem.W.callWith_K (h₀ := X.base) I.ok.mod.kin M.kp (thn (ha.run pos pins s σ H _ I h) fun us s1 ⟨vs, H1, I1, r, q⟩ => ⟨I1.kIn, ?_⟩) he hpl
  have hq := q (s1.heap.objs.size + 1) s1.heap.objs.size (I1.hok.fresh (Nat.le_succ _)) (I1.hok.fresh (Nat.le_refl _)) (Nat.ne_of_lt (Nat.lt_succ_self _))
  have I2 := Inv.made (C := C) I1
  have r2 : Vals (V.ref (s1.heap.objs.size + 1) :: vs) (Value.ref (s1.heap.objs.size + 1) :: us) := .cons rfl r
  have hl : (Value.ref (s1.heap.objs.size + 1) :: us).length = ps.length := r2.length.symm.trans (F.len _ _ _ _ hq)
  refine wpAny_call (make_map (f := f) I1.kIn M.makes M.init (beq_iff_eq.mp M.fn) (codeAny_mono (F.run _ X.stack _ _ ⟨Value.ref (s1.heap.objs.size + 1) :: us, []⟩ (Value.ref (s1.heap.objs.size + 1) :: us) _ _ (Es σ) (hr.make C us [])
    (I2.env0.make C us []) (by
      have := hb _ (Value.ref (s1.heap.objs.size + 1) :: us) I2.kIn (by rw [List.append_nil]; exact hl)
      simpa using this) r2 hq) fun res s2 hres => ?_))
  cases res with
  | error e => exact hx σ pins _ _ e s2 I2 hres
  | ok fl =>
    cases fl with
    | ret u =>
      obtain ⟨v, H', I3, rv, ev, q3⟩ := I2.after hres
      subst ev
      exact ⟨rv, ⟨V.ref (s1.heap.objs.size + 1), H', I3, rfl, q3⟩⟩
    | next => exact hres.elim
    | brk => exact hres.elim
    | cont => exact hres.elim
end
section
variable {c : Cz} {ρ : En} {O : Oh} {Q : D → Oh → Prop} {E : EnL}
/-- a new object; it stays as it is behind its __init__ -/
theorem made {F H : Hp} {C a dx : Addr} {W : WL} {ds : List D} {vs : List V} {X : Addr → KXd} {Q' : VK} {E' : XK} (st1 : StO c.K F O H) (rd : RepsD c.K F vs ds) (ha : H a = none) (hdx : H dx = none) (ne : dx ≠ a)
    (q : ∀ p, O p = none → W (.ref p :: ds) (updO O p (.ins C [])) (fun r O2 => r = .non ∧ ∃ gs, O2 p = some (.ins C gs) ∧ Q (.ins C gs) (delO O2 p)) (X p)) (k : KQ c.K F Q Q') (kx : KX c.K F (X a) E') :
    SpL c.K W (.ref a :: vs) (upd (upd H dx (.own a)) a (.ins C dx [])) (fun v H2 => v = .non ∧ Q' (.ref a) H2) E' := by
  have f := st1.fresh ha
  have st2 : StO c.K F O (upd H dx (.own a)) := ⟨st1.same.trans (MB.Same.upd hdx), fun b o e => ⟨(st1.own b o e).1, (st1.own b o e).2.move (Same.refl _) (upd_ne fun z => by subst z; rw [(st1.fresh hdx).1] at e; cases e)⟩⟩
  have ha2 : upd H dx (.own a) a = none := (upd_ne (Ne.symm ne)).trans ha
  refine ⟨F, _, _, _, X a, .cons (.ref a) rd, st2.newO (o := .ins C []) ha2 ⟨dx, [], upd_same, .nil⟩, q a f.1, ?_, kx⟩
  rintro F2 H2 O2 v r s2 st3 rd3 ⟨rfl, gs, ho, q3⟩
  cases rd3
  obtain ⟨h0, dx', fs, h1, h2⟩ := st3.own a _ ho
  have sm : Same F2 (upd F2 a (.ins C dx' fs)) := MB.Same.upd h0
  refine ⟨rfl, k (upd F2 a (.ins C dx' fs)) H2 (delO O2 a) _ _ (s2.trans sm) ⟨fun b o e => ?_, fun b o e => ?_⟩ (.ins upd_same (h2.mono sm)) q3⟩
  · by_cases hb : b = a
    · subst hb; rw [upd_same] at e; cases e; exact h1
    · rw [upd_ne hb] at e; exact st3.same b o e
  · by_cases nb : b = a
    · subst nb; rw [delO_same] at e; cases e
    · rw [delO_ne nb] at e
      exact ⟨(upd_ne nb).trans (st3.own b o e).1, (st3.own b o e).2.move sm rfl⟩
def newW (W : WL) (C : Addr) (ds : List D) (O : Oh) (Q : D → Oh → Prop) (X : Addr → KXd) : Prop := ∀ p, O p = none → W (.ref p :: ds) (updO O p (.ins C [])) (fun r O2 => r = .non ∧ ∃ gs, O2 p = some (.ins C gs) ∧ Q (.ins C gs) (delO O2 p)) (X p)
theorem l_makeN {W : WL} {C : Addr} {XE : XK} {ta : TA} (q : LA c ta ρ O fun ds O1 => newW W C ds O1 Q fun _ => noX) : LE c (tMake C (SpL c.K W) [] XE ta) ρ O Q := fun F H σ rs s x Q' k =>
  q F H σ rs s x _ fun F1 H1 O1 vs ds s1 st1 rd1 q1 a dx ha hdx ne => by
    rw [List.append_nil]
    exact made (X := fun _ => noX) st1 rd1 ha hdx ne q1 (k.mono s1) fun _ _ _ _ _ _ _ _ _ z => z.elim
theorem l_makeS {W : WL} {C : Addr} {ta : TA} (q : LA c ta ρ O fun ds O1 => newW W C ds O1 Q fun p C' fs O2 => c.Ex C' fs ρ (delO O2 p)) : LE c (tMakeS C (SpL c.K W) c.E0 ta) ρ O Q := fun F H σ rs s x Q' k =>
  q F H σ rs s x _ fun F1 H1 O1 vs ds s1 st1 rd1 q1 a dx ha hdx ne => by
    exact made (X := fun p C' fs O2 => c.Ex C' fs ρ (delO O2 p)) st1 rd1 ha hdx ne q1 (k.mono s1) fun F2 H2 O2 C' dx' fs s2 st2 rx ex => x F2 H2 _ σ ρ C' dx' fs (s1.trans s2) (rs.mono (s1.trans s2)) st2.del rx ex
end
end VL
set_option maxHeartbeats 2000000
namespace VL
open PySem PySem.Spec PyProof.Rows L2 MB
abbrev AS := D → Option (List D)
theorem asS_new {O : Oh} {p C : Addr} {gs : List (Str × D)} (h : O p = none) : asS (updO O p (.ins C gs)) = asS O := by
  funext x
  cases x with
  | ref q =>
    show (match updO O p (.ins C gs) q with | some (.lst xs) => some xs | _ => none) = (match O q with | some (.lst xs) => some xs | _ => none)
    by_cases e : q = p
    · subst e; rw [updO_same, h]
    · rw [updO_ne e]
  | _ => rfl
theorem asS_ins {O : Oh} {p C : Addr} {gs : List (Str × D)} {C' : Addr} {gs' : List (Str × D)} (h : O p = some (.ins C' gs')) : asS (updO O p (.ins C gs)) = asS O := by
  funext x
  cases x with
  | ref q =>
    show (match updO O p (.ins C gs) q with | some (.lst xs) => some xs | _ => none) = (match O q with | some (.lst xs) => some xs | _ => none)
    by_cases e : q = p
    · subst e; rw [updO_same, h]
    · rw [updO_ne e]
  | _ => rfl
theorem tyD_new {O : Oh} {p C : Addr} {gs : List (Str × D)} (h : O p = none) : tyD (updO O p (.ins C gs)) = tyD O := by
  funext x
  cases x with
  | ref q =>
    show (match updO O p (.ins C gs) q with | some (.lst _) => some "list" | some (.dk _) => some "dict" | _ => none) = (match O q with | some (.lst _) => some "list" | some (.dk _) => some "dict" | _ => none)
    by_cases e : q = p
    · subst e; rw [updO_same, h]
    · rw [updO_ne e]
  | _ => rfl
theorem kn_new {O : Oh} {p C : Addr} {gs : List (Str × D)} (h : O p = none) {x : D} : Kn (updO O p (.ins C gs)) x ↔ Kn O x := by
  unfold Kn; rw [tyD_new h]
def lotA (a : AS) (t : D) (m : Int) : Bool := match a t with
  | some xs => lotB xs m
  | none => false
theorem isLot_A {O : Oh} {t : D} {m : Int} : isLot O t m = lotA (asS O) t m := rfl
def intsA (a : AS) (t : D) : List Int := match a t with
  | some xs => (intsOf xs).getD []
  | none => []
def lenA (a : AS) (t : D) : Nat := match a t with
  | some xs => xs.length
  | none => 0
/-- a check of m bits -/
def chkA (a : AS) (m : Int) (t : D) : Bool := lotA a t m && !decide (lenA a t = 0)
def firstNot (p : D → Bool) (xs : List D) : Option Nat := xs.findIdx? fun x => !p x
theorem firstNot_some {p : D → Bool} {xs : List D} {i : Nat} {x : D} (h : xs[i]? = some x) (hp : p x = false) (hb : ∀ (j : Nat) (y : D), j < i → xs[j]? = some y → p y = true) : firstNot p xs = some i := by
  obtain ⟨hi, e⟩ := List.getElem?_eq_some_iff.mp h
  unfold firstNot
  rw [List.findIdx?_eq_some_iff_getElem]
  refine ⟨hi, by rw [e, hp]; rfl, fun j hj => ?_⟩
  rw [hb j _ hj (List.getElem?_eq_getElem (by omega))]
  simp
theorem firstNot_none {p : D → Bool} {xs : List D} (hb : ∀ (j : Nat) (y : D), xs[j]? = some y → p y = true) : firstNot p xs = none := by
  unfold firstNot
  rw [List.findIdx?_eq_none_iff]
  intro x hx
  obtain ⟨j, hj, e⟩ := List.getElem_of_mem hx
  rw [hb j x (by rw [List.getElem?_eq_getElem hj, e])]
  rfl
def codeFault (a : AS) (b t : D) : Option (Str × Int) := if isWhole b (.int 1) (.int 10) = true then (match a t with
  | some xs => if (xs.length : Int) > 63 then some ("many", -1) else (match firstNot (chkA a (toI b)) xs with
    | some i => some ("check", (i : Int))
    | none => none)
  | none => some ("many", -1)) else some ("bits", -1)
section
variable {a : AS} {b t : D} {n : Int} {xs : List D}
theorem cf_bits (h : isWhole b (.int 1) (.int 10) = false) : codeFault a b t = some (("bits" : Str), (-1 : Int)) := by unfold codeFault; rw [h]; rfl
theorem cf_seq (h : isWhole b (.int 1) (.int 10) = true) (h2 : a t = none) : codeFault a b t = some (("many" : Str), (-1 : Int)) := by unfold codeFault; rw [h, h2]; rfl
theorem cf_many (h : isWhole b (.int 1) (.int 10) = true) (h2 : a t = some xs) (h3 : (xs.length : Int) > 63) : codeFault a b t = some (("many" : Str), (-1 : Int)) := by unfold codeFault; rw [h, h2, if_pos rfl]; exact if_pos h3
theorem cf_at {i : Nat} {x : D} (h : isWhole (.int n) (.int 1) (.int 10) = true) (h2 : a t = some xs) (h3 : ¬ (xs.length : Int) > 63) (hx : xs[i]? = some x) (hp : chkA a n x = false) (hb : ∀ (j : Nat) (y : D), j < i → xs[j]? = some y → chkA a n y = true) : codeFault a (.int n) t = some (("check" : Str), (i : Int)) := by
  unfold codeFault; rw [h, h2, if_pos rfl]
  show (if (xs.length : Int) > 63 then some (("many" : Str), (-1 : Int)) else (match firstNot (chkA a n) xs with | some i => some (("check" : Str), (i : Int)) | none => none)) = _
  rw [if_neg h3, firstNot_some hx hp hb]
theorem cf_ok (h : isWhole (.int n) (.int 1) (.int 10) = true) (h2 : a t = some xs) (h3 : ¬ (xs.length : Int) > 63) (hb : ∀ (j : Nat) (y : D), xs[j]? = some y → chkA a n y = true) : codeFault a (.int n) t = none := by
  unfold codeFault; rw [h, h2, if_pos rfl]
  show (if (xs.length : Int) > 63 then some (("many" : Str), (-1 : Int)) else (match firstNot (chkA a n) xs with | some i => some (("check" : Str), (i : Int)) | none => none)) = _
  rw [if_neg h3, firstNot_none hb]
theorem lotA_seq {m : Int} (h : lotA a t m = true) : ∃ ns : List Int, a t = some (ns.map D.int) ∧ (∀ n ∈ ns, 0 ≤ n ∧ n < m) ∧ ns.Nodup := by
  unfold lotA at h
  cases e : a t with
  | none => rw [e] at h; cases h
  | some xs =>
    rw [e] at h
    have h' : lotB xs m = true := h
    have h : lotB xs m = true := h
    unfold lotB at h
    obtain ⟨ns, rfl, hn⟩ := ints_of_all (Bool.and_eq_true_iff.mp h).1
    rw [lotB_ints, decide_eq_true_eq] at h'
    exact ⟨ns, rfl, h'⟩
theorem intsA_of {ns : List Int} (h : a t = some (ns.map D.int)) : intsA a t = ns := by
  unfold intsA; rw [h]
  show (intsOf (ns.map D.int)).getD [] = ns
  rw [intsOf_ints]; rfl
theorem chk_lot {m : Int} {x : D} (h : lotA a x m = false) : chkA a m x = false := by unfold chkA; rw [h]; rfl
theorem chk_len {m : Int} {x : D} {ns : List Int} (h : a x = some (ns.map D.int)) (h2 : lotA a x m = true) : chkA a m x = !decide (((ns.map D.int).length : Int) = 0) := by
  unfold chkA lenA; rw [h2, h]
  show (!decide ((ns.map D.int).length = 0)) = _
  congr 1
  exact decide_eq_decide.mpr (by omega)
end
def chkD (a : AS) (x : D) : D := .tup ((srt (intsA a x)).map D.int)
def itemsA (a : AS) (t : D) : List D := (a t).getD []
/-- things that may stand as a code's checks -/
def Look2 (O : Oh) (t : D) : Prop := Kn O t ∧ ∀ xs, asS O t = some xs → xs.length ≤ 1000 ∧ ∀ x ∈ xs, Kn O x
def Look3 (O : Oh) (t : D) : Prop := Kn O t ∧ ∀ xs, asS O t = some xs → xs.length ≤ 1000 ∧ ∀ x ∈ xs, Look2 O x
end VL
set_option maxHeartbeats 2000000
namespace VL
open PySem PySem.Spec PyProof.Rows L2 MB
def rEqX (K : Fr) : R2 := fun x y H Q => rEq x y H Q ∨ rEqD K x y H Q
def rNeX (K : Fr) : R2 := fun x y H Q => rNe x y H Q ∨ rNeD K x y H Q
theorem op_eqX {X : Cx} (hu : X.A.units + 64 < cLine) : OpR X (compareOp .Eq) (rEqX X.K) := fun pins s σ H x y v u Q I rx ry h => h.elim (fun h => op_eq pins s σ H x y v u Q I rx ry h) fun h => op_eqD hu pins s σ H x y v u Q I rx ry h
theorem op_neX {X : Cx} (hu : X.A.units + 64 < cLine) : OpR X (compareOp .NotEq) (rNeX X.K) := fun pins s σ H x y v u Q I rx ry h => h.elim (fun h => op_ne pins s σ H x y v u Q I rx ry h) fun h => op_neD hu pins s σ H x y v u Q I rx ry h
mutual
inductive PD (O : Oh) : D → PyData → Prop
  | non : PD O .non .none
  | bl (b : Bool) : PD O (.bl b) (.bool b)
  | int (i : Int) : PD O (.int i) (.int i)
  | str (x : Str) : PD O (.str x) (.str x)
  | lst {xs : List D} {ds : List PyData} : PDs O xs ds → PD O (.lst xs) (.list ds)
  | own {p : Addr} {xs : List D} {ds : List PyData} : O p = some (.lst xs) → PDs O xs ds → PD O (.ref p) (.list ds)
  | tup {xs : List D} {ds : List PyData} : PDs O xs ds → PD O (.tup xs) (.tuple ds)
inductive PDs (O : Oh) : List D → List PyData → Prop
  | nil : PDs O [] []
  | cons {x : D} {d : PyData} {xs : List D} {ds : List PyData} : PD O x d → PDs O xs ds → PDs O (x :: xs) (d :: ds)
end
section
variable {K : Fr} {F H : Hp} {O : Oh}
theorem PD.dp (s : StO K F O H) {x : D} {d : PyData} (h : PD O x d) : ∀ v : V, RepD K F v x → Dp K H v d := by
  refine PD.rec (motive_1 := fun x d _ => ∀ v : V, RepD K F v x → Dp K H v d) (motive_2 := fun xs ds _ => ∀ vs : List V, RepsD K F vs xs → DpAll K H vs ds) ?_ ?_ ?_ ?_ ?_ ?_ ?_ ?_ ?_ h
  · intro v r; cases r; exact .non
  · intro b v r; cases r; exact .bl b
  · intro b v r; cases r; exact .int b
  · intro b v r; cases r; exact .str b
  · intro xs ds _ ih v r
    cases r with
    | lst a b => exact .lst (.of (s.same _ _ a)) (ih _ b)
  · intro p xs ds e _ ih v r
    cases r
    obtain ⟨_, vs, a, b⟩ := s.own p _ e
    exact .lst (.of a) (ih _ b)
  · intro xs ds _ ih v r
    cases r with
    | tup a b => exact .tup (sqT_same s.same a) (ih _ b)
  · intro vs r; cases r; exact .nil
  · intro x d xs ds _ _ ih1 ih2 vs r
    cases r with
    | cons a b => exact .cons (ih1 _ a) (ih2 _ b)
theorem pds_map {α : Type} {f : α → D} {g : α → PyData} (h : ∀ x, PD O (f x) (g x)) : ∀ xs : List α, PDs O (xs.map f) (xs.map g)
  | [] => .nil
  | x :: xs => .cons (h x) (pds_map h xs)
end
theorem lay_map {α : Type} {g : α → PyData} (h : ∀ x, (g x).canLay0 = true) : ∀ xs : List α, PyData.canLayAll0 (xs.map g) = true
  | [] => rfl
  | x :: xs => by show ((g x).canLay0 && _) = true; rw [h x, lay_map h xs]; rfl
theorem depth_map {α : Type} {g : α → PyData} {n : Nat} (h : ∀ x, (g x).depth ≤ n) : ∀ xs : List α, PyData.depthAll (xs.map g) ≤ n
  | [] => Nat.zero_le _
  | x :: xs => Nat.max_le.mpr ⟨h x, depth_map h xs⟩
theorem eqv_map {α : Type} [DecidableEq α] {g : α → PyData} (h : ∀ x y, PyData.eqv (g x) (g y) = decide (x = y)) : ∀ xs ys : List α, PyData.eqvAll (xs.map g) (ys.map g) = decide (xs = ys)
  | [], [] => by simp [PyData.eqvAll]
  | [], y :: ys => by simp [PyData.eqvAll]
  | x :: xs, [] => by simp [PyData.eqvAll]
  | x :: xs, y :: ys => by
    show (PyData.eqv (g x) (g y) && PyData.eqvAll (xs.map g) (ys.map g)) = _
    rw [h, eqv_map h xs ys, Bool.eq_iff_iff]
    simp
abbrev pInts (ns : List Int) : List PyData := ns.map PyData.int
theorem eqv_ints (ms ns : List Int) : PyData.eqvAll (pInts ms) (pInts ns) = decide (ms = ns) := eqv_map (fun x y => by
  show (x == y) = _
  rw [Bool.eq_iff_iff]; simp) ms ns
theorem eqv_rows (cs ds : List (List Int)) : PyData.eqvAll (cs.map fun c => .tuple (pInts c)) (ds.map fun c => .tuple (pInts c)) = decide (cs = ds) := eqv_map (g := fun c => .tuple (pInts c)) (fun x y => eqv_ints x y) cs ds
theorem eqv_rowsL (cs ds : List (List Int)) : PyData.eqvAll (cs.map fun c => .list (pInts c)) (ds.map fun c => .list (pInts c)) = decide (cs = ds) := eqv_map (g := fun c => .list (pInts c)) (fun x y => eqv_ints x y) cs ds
theorem lay_ints (ns : List Int) : PyData.canLayAll0 (pInts ns) = true := lay_map (fun _ => rfl) ns
theorem depth_ints (ns : List Int) : PyData.depthAll (pInts ns) ≤ 0 := depth_map (g := PyData.int) (fun _ => Nat.zero_le _) ns
theorem sh_ints (ns : List Int) : SeqAt.shaped (.list (pInts ns)) = true := by
  unfold SeqAt.shaped
  rw [show PyData.canLay0 (.list (pInts ns)) = true from lay_ints ns]
  have := depth_ints ns
  exact decide_eq_true (by show PyData.depthAll (pInts ns) + 1 ≤ 64; omega)
theorem sh_intsT (ns : List Int) : SeqAt.shaped (.tuple (pInts ns)) = true := by
  unfold SeqAt.shaped
  rw [show PyData.canLay0 (.tuple (pInts ns)) = true from lay_ints ns]
  have := depth_ints ns
  exact decide_eq_true (by show PyData.depthAll (pInts ns) + 1 ≤ 64; omega)
theorem sh_rowsT (cs : List (List Int)) : SeqAt.shaped (.tuple (cs.map fun c => .tuple (pInts c))) = true := by
  unfold SeqAt.shaped
  rw [show PyData.canLay0 (.tuple (cs.map fun c => .tuple (pInts c))) = true from lay_map (g := fun c => .tuple (pInts c)) (fun c => lay_ints c) cs]
  have : PyData.depthAll (cs.map fun c => .tuple (pInts c)) ≤ 1 := depth_map (g := fun c => .tuple (pInts c)) (fun c => Nat.succ_le_succ (depth_ints c)) cs
  exact decide_eq_true (by show PyData.depthAll (cs.map fun c => .tuple (pInts c)) + 1 ≤ 64; omega)
theorem sh_rowsL (cs : List (List Int)) : SeqAt.shaped (.list (cs.map fun c => .list (pInts c))) = true := by
  unfold SeqAt.shaped
  rw [show PyData.canLay0 (.list (cs.map fun c => .list (pInts c))) = true from lay_map (g := fun c => .list (pInts c)) (fun c => lay_ints c) cs]
  have : PyData.depthAll (cs.map fun c => .list (pInts c)) ≤ 1 := depth_map (g := fun c => .list (pInts c)) (fun c => Nat.succ_le_succ (depth_ints c)) cs
  exact decide_eq_true (by show PyData.depthAll (cs.map fun c => .list (pInts c)) + 1 ≤ 64; omega)
theorem pd_ints {O : Oh} (ns : List Int) : PDs O (ns.map D.int) (pInts ns) := pds_map (fun x => .int x) ns
theorem pd_rowsT {O : Oh} (cs : List (List Int)) : PDs O (cs.map fun c => D.tup (c.map D.int)) (cs.map fun c => .tuple (pInts c)) := pds_map (fun x => .tup (pd_ints x)) cs
theorem pd_rowsL {O : Oh} (cs : List (List Int)) : PDs O (cs.map fun c => D.lst (c.map D.int)) (cs.map fun c => .list (pInts c)) := pds_map (fun x => .lst (pd_ints x)) cs
section
variable {c : Cz} {ρ : En} {O : Oh} {Q : D → Oh → Prop}
theorem o_eqs {K' : Fr} (hK : K' = c.K) {x y : D} {v w : V} (h1 : vOf x = some v) (h2 : vOf y = some w) (hs : scal v w = true) (q : Q (.bl (decide (v = w))) O) : O2R c (rEqX K') x y O Q := fun F H v' w' s rv rw z Q' k => .inl (o_eq h1 h2 hs q F H v' w' s rv rw z Q' k)
theorem o_nes {K' : Fr} (hK : K' = c.K) {x y : D} {v w : V} (h1 : vOf x = some v) (h2 : vOf y = some w) (hs : scal v w = true) (q : Q (.bl (!decide (v = w))) O) : O2R c (rNeX K') x y O Q := fun F H v' w' s rv rw z Q' k => .inl (o_ne h1 h2 hs q F H v' w' s rv rw z Q' k)
theorem o_eqD {K' : Fr} (hK : K' = c.K) {x y : D} {d e : PyData} (h1 : PD O x d) (h2 : PD O y e) (s1 : SeqAt.shaped d = true) (s2 : SeqAt.shaped e = true) (q : Q (.bl (PyData.eqv d e)) O) : O2R c (rEqX K') x y O Q := by
  subst hK
  intro F H v w s rv rw z Q' k
  exact .inr ⟨d, e, h1.dp s _ rv, h2.dp s _ rw, s1, s2, k F H O _ _ (Same.refl F) s (.bl _) q⟩
theorem o_neD {K' : Fr} (hK : K' = c.K) {x y : D} {d e : PyData} (h1 : PD O x d) (h2 : PD O y e) (s1 : SeqAt.shaped d = true) (s2 : SeqAt.shaped e = true) (q : Q (.bl (!PyData.eqv d e)) O) : O2R c (rNeX K') x y O Q := by
  subst hK
  intro F H v w s rv rw z Q' k
  exact .inr ⟨d, e, h1.dp s _ rv, h2.dp s _ rw, s1, s2, k F H O _ _ (Same.refl F) s (.bl _) q⟩
/-- what check_prices, check_row tell: the first wrong place, -1 for the form -/
def rowFault (p : D → Bool) (a : AS) (t : D) (n : Int) : Option Int := match a t with
  | some xs => if (xs.length : Int) = n then (match firstNot p xs with
    | some i => some (i : Int)
    | none => none) else some (-1)
  | none => some (-1)
section
variable {p : D → Bool} {a : AS} {t : D} {n : Int} {xs : List D}
theorem rf_form (h : longA a t n = false) : rowFault p a t n = some (-1) := by
  unfold rowFault
  unfold longA at h
  cases e : a t with
  | none => rfl
  | some ys => rw [e] at h; exact if_neg (of_decide_eq_false h)
theorem rf_len (h : longA a t n = true) : ∃ xs, a t = some xs ∧ (xs.length : Int) = n := by
  unfold longA at h
  cases e : a t with
  | none => rw [e] at h; cases h
  | some ys => rw [e] at h; exact ⟨ys, rfl, of_decide_eq_true h⟩
theorem rf_at {i : Nat} {x : D} (h : a t = some xs) (hl : (xs.length : Int) = n) (hx : xs[i]? = some x) (hp : p x = false) (hb : ∀ (j : Nat) (y : D), j < i → xs[j]? = some y → p y = true) : rowFault p a t n = some (i : Int) := by
  unfold rowFault; rw [h]
  show (if (xs.length : Int) = n then (match firstNot p xs with | some i => some (i : Int) | none => none) else some (-1)) = _
  rw [if_pos hl, firstNot_some hx hp hb]
theorem rf_ok (h : a t = some xs) (hl : (xs.length : Int) = n) (hb : ∀ (j : Nat) (y : D), xs[j]? = some y → p y = true) : rowFault p a t n = none := by
  unfold rowFault; rw [h]
  show (if (xs.length : Int) = n then (match firstNot p xs with | some i => some (i : Int) | none => none) else some (-1)) = _
  rw [if_pos hl, firstNot_none hb]
end
def isB (K : Fr) (C : Str) : Bool := decide (PySem.W.findIn K (.ref (He.ga K C)) "__class__" = some (some (.builtin "object.__class__"))) && (decide (PySem.W.specialIn K (.builtin "object.__class__") "__get__" = some (some (.builtin "getset_descriptor.__get__"))) && (decide (PySem.W.takesIn K (.builtin "object.__class__") = some true) &&
  (decide (PySem.W.mroIn K (He.ga K C) (.type "object") = some true) && six.all fun n => decide (PySem.W.kitOne K (.type n) (.ref (He.ga K C)) = some false))))
theorem k_isC1 {K' : Fr} (hK : K' = c.K) {C : Str} {gs : List (Str × D)} (b : isB c.K C = true) (cl : Cls c.K (He.ga c.K C)) (q : Q (.bl true) O) : CAR c (rIsi K') [.ins (He.ga c.K C) gs, .ref (He.ga c.K C)] O Q := by
  subst hK
  obtain ⟨b1, b⟩ := He.ba b
  obtain ⟨b2, b⟩ := He.ba b
  obtain ⟨b3, b⟩ := He.ba b
  obtain ⟨b4, b⟩ := He.ba b
  intro F H vs s r z Q' k
  cases r with
  | cons ra t =>
    cases t with
    | cons rb t =>
      cases t; cases rb
      cases ra with
      | ins h rf =>
        refine ⟨_, _, _, _, true, rfl, .own _, .base (.ins (s.same _ _ h) cl (of_decide_eq_true b1) (of_decide_eq_true b2) (of_decide_eq_true b3) (of_decide_eq_true b4)), ?_, k F H O _ _ (Same.refl F) s (.bl _) q⟩
        unfold PySem.W.kitOne
        rw [if_pos (beq_self_eq_true _)]
theorem k_isC0 {K' : Fr} (hK : K' = c.K) {C : Str} {x : D} {n : String} (b : isB c.K C = true) (ty : tyD O x = some n) (hn : n ∈ six) (q : Q (.bl false) O) : CAR c (rIsi K') [x, .ref (He.ga c.K C)] O Q := by
  subst hK
  obtain ⟨b1, b⟩ := He.ba b
  obtain ⟨b2, b⟩ := He.ba b
  obtain ⟨b3, b⟩ := He.ba b
  obtain ⟨b4, b⟩ := He.ba b
  intro F H vs s r z Q' k
  cases r with
  | cons ra t =>
    cases t with
    | cons rb t =>
      cases t; cases rb
      exact ⟨_, _, _, _, false, rfl, .own _, tyD_ok s ra ty, of_decide_eq_true (List.all_eq_true.mp b n hn), k F H O _ _ (Same.refl F) s (.bl _) q⟩
end
end VL
set_option maxHeartbeats 2000000
namespace VL
open PySem PySem.Spec PyProof.Rows L2 MB
theorem fi_some {α : Type} {p : α → Bool} {xs : List α} {i : Nat} {x : α} (h : xs[i]? = some x) (hp : p x = true) (hb : ∀ (j : Nat) (y : α), j < i → xs[j]? = some y → p y = false) : xs.findIdx? p = some i := by
  obtain ⟨hi, e⟩ := List.getElem?_eq_some_iff.mp h
  rw [List.findIdx?_eq_some_iff_getElem]
  refine ⟨hi, by rw [e]; exact hp, fun j hj => ?_⟩
  rw [hb j _ hj (List.getElem?_eq_getElem (by omega))]
  simp
theorem fi_none {α : Type} {p : α → Bool} {xs : List α} (hb : ∀ (j : Nat) (y : α), xs[j]? = some y → p y = false) : xs.findIdx? p = none := by
  rw [List.findIdx?_eq_none_iff]
  intro x hx
  obtain ⟨j, hj, e⟩ := List.getElem_of_mem hx
  exact hb j x (by rw [List.getElem?_eq_getElem hj, e])
def dig (ds : List Int) (b : Int) : Int := ds.getD b.toNat 0
def sumOn (ds : List Int) (c : List Int) : Int := (c.map (dig ds)).sum
def oddOn (ds : List Int) (c : List Int) : Bool := decide (sumOn ds c % 2 = 1)
def firstOdd (ds : List Int) (cs : List (List Int)) : Option Nat := cs.findIdx? (oddOn ds)
theorem dig_at {ds : List Int} {b : Int} (h0 : 0 ≤ b) (h1 : b < ds.length) : atI (ds.map D.int) b = some (.int (dig ds b)) := by
  have e : b = ((b.toNat : Nat) : Int) := by omega
  have hl : b.toNat < ds.length := by omega
  rw [e]
  refine atI_nat ?_
  rw [List.getElem?_map, List.getElem?_eq_getElem hl]
  unfold dig
  rw [List.getD_eq_getElem?_getD, show (((b.toNat : Nat) : Int)).toNat = b.toNat from rfl, List.getElem?_eq_getElem hl]
  rfl
theorem map_int_at {c : List Int} {i : Nat} {d : D} (h : (c.map D.int)[i]? = some d) : ∃ b, c[i]? = some b ∧ d = .int b := by
  rw [List.getElem?_map] at h
  cases e : c[i]? with
  | none => rw [e] at h; cases h
  | some b => rw [e] at h; exact ⟨b, rfl, (Option.some.inj h).symm⟩
theorem rows_at {cs : List (List Int)} {i : Nat} {d : D} (h : (cs.map fun c => D.tup (c.map D.int))[i]? = some d) : ∃ c, cs[i]? = some c ∧ d = .tup (c.map D.int) := by
  rw [List.getElem?_map] at h
  cases e : cs[i]? with
  | none => rw [e] at h; cases h
  | some b => rw [e] at h; exact ⟨b, rfl, (Option.some.inj h).symm⟩
theorem sum_rows (ds c : List Int) : ((c.map D.int).map fun d => dig ds (toI d)).sum = sumOn ds c := by
  rw [List.map_map]; rfl
/-- the checks of a code of n bits -/
def Chk (n : Int) (cs : List (List Int)) : Prop := cs.length ≤ 63 ∧ ∀ c ∈ cs, c.length ≤ 10 ∧ ∀ b ∈ c, 0 ≤ b ∧ b < n
theorem digitsA_ints {a : AS} {t : D} {n : Int} (h : digitsA a t n = true) : ∃ ds : List Int, a t = some (ds.map D.int) ∧ (ds.length : Int) = n ∧ ∀ d ∈ ds, 0 ≤ d ∧ d ≤ 1 := by
  unfold digitsA at h
  cases e : a t with
  | none => rw [e] at h; cases h
  | some xs =>
    rw [e] at h
    have h : (decide ((xs.length : Int) = n) && xs.all (fun x => isWhole x (.int 0) (.int 1))) = true := h
    rw [Bool.and_eq_true, decide_eq_true_eq] at h
    obtain ⟨ds, rfl, hd⟩ := ints_of_all h.2
    refine ⟨ds, rfl, by simpa using h.1, fun d hm => ?_⟩
    have := hd d hm
    simp only [isWhole, geB, leB, Bool.and_eq_true, decide_eq_true_eq] at this
    omega
end VL
set_option maxHeartbeats 2000000
namespace VL
open PySem PySem.Spec PyProof.Rows L2 MB
section
variable {c : Cz} {ρ : En} {O : Oh}
theorem rg_reps {K : Fr} {F : Hp} {i j : Int} : RepsD K F (rgV i j) (rngD i (j - i).toNat) := by
  unfold rgV rngD
  induction List.range (j - i).toNat with
  | nil => exact .nil
  | cons a l ih => exact .cons (.int _) ih
theorem ln_rg1 {ta : TE} {Q : List D → Oh → Prop} (q : LE c ta ρ O fun x O1 => ∃ n, x = .int n ∧ (0 ≤ n ∧ n ≤ 100000) ∧ Q (rngD 0 n.toNat) O1) : LN c (tLstRg (tRg1 ta)) ρ O Q := fun F H σ rs s z Q' k =>
  q F H σ rs s z _ fun F1 H1 O1 v x s1 st1 rd1 ⟨n, e, hn, q1⟩ => by
    subst e; cases rd1
    refine ⟨n, rfl, ?_, fun p hp => k F1 H1 O1 p _ (rngD 0 n.toNat) s1 st1 hp ?_ q1⟩
    · exact RgOk.of_le (by omega) (by omega) (by omega) hn.1
    · have := rg_reps (K := c.K) (F := F1) (i := 0) (j := n)
      rwa [Int.sub_zero] at this
/-- what is owned may be let go -/
theorem l_del {te : TE} {Q : D → Oh → Prop} (p : Addr) (q : LE c te ρ O fun d O1 => Q d (delO O1 p)) : LE c te ρ O Q := fun F H σ rs s z Q' k =>
  q F H σ rs s z _ fun F1 H1 O1 v d s1 st1 rd1 q1 => k F1 H1 _ v d s1 st1.del rd1 q1
theorem s_del {ts : TS} {E : EnL} (p : Addr) (q : LS c ts E ρ (delO O p)) : LS c ts E ρ O := fun F H σ rs s z Dd l => q F H σ rs s.del z Dd l
end
theorem ne_of {O : Oh} {p q : Addr} {o : OD} (h : O p = some o) (g : O q = none) : p ≠ q := fun z => by subst z; rw [h] at g; cases g
theorem new_ne {O : Oh} {p q : Addr} {o : OD} (g : updO O q o p = none) : p ≠ q := fun z => by subst z; rw [updO_same] at g; cases g
theorem new_old {O : Oh} {p q : Addr} {o : OD} (g : updO O q o p = none) : O p = none := by rwa [updO_ne (new_ne g)] at g
theorem updO_comm {O : Oh} {p q : Addr} {o u : OD} (h : p ≠ q) : updO (updO O p o) q u = updO (updO O q u) p o := by
  funext b; unfold updO
  by_cases e : b = q
  · subst e; rw [if_pos rfl, if_neg (Ne.symm h), if_pos rfl]
  · rw [if_neg e, if_neg e]
theorem ex_rg {j : Int} {Q : Int → Prop} (b : 0 ≤ j ∧ j ≤ 100000) (q : Q j) : ∃ n, D.int j = .int n ∧ (0 ≤ n ∧ n ≤ 100000) ∧ Q n := ⟨j, rfl, b, q⟩
theorem abs_nat (i : Int) : (if i < 0 then -i else i) = ((i.natAbs : Nat) : Int) := by split <;> omega
/-- a lot of n bits -/
def Lot (n : Int) (ms : List Int) : Prop := ms.Pairwise (· < ·) ∧ ∀ m ∈ ms, 0 ≤ m ∧ m < n
theorem rngD_ints (n : Nat) : rngD 0 n = ((List.range n).map fun (k : Nat) => (k : Int)).map D.int := by
  unfold rngD; rw [List.map_map]; congr 1; funext k; show D.int (0 + (k : Int)) = D.int k; rw [Int.zero_add]
theorem lt_of_le_nodup {ms : List Int} (h : ms.Pairwise (· ≤ ·)) (nd : ms.Nodup) : ms.Pairwise (· < ·) := by
  induction ms with
  | nil => exact .nil
  | cons a l ih =>
    obtain ⟨h1, h2⟩ := List.pairwise_cons.mp h
    obtain ⟨n1, n2⟩ := List.nodup_cons.mp nd
    exact List.pairwise_cons.mpr ⟨fun b hb => by
      have := h1 b hb
      have : a ≠ b := fun z => n1 (z ▸ hb)
      omega, ih h2 n2⟩
theorem Lot.nodup {n : Int} {ms : List Int} (h : Lot n ms) : ms.Nodup := h.1.imp fun h => by omega
theorem Lot.len {n : Int} {ms : List Int} (h : Lot n ms) (h0 : 0 ≤ n) : (ms.length : Int) ≤ n := by
  have : ∀ (l : List Int) (a : Int), l.Pairwise (· < ·) → (∀ m ∈ l, a ≤ m ∧ m < n) → a ≤ n → (l.length : Int) ≤ n - a := by
    intro l
    induction l with
    | nil => intro a _ _ h; show (0 : Int) ≤ n - a; omega
    | cons x l ih =>
      intro a hp hm _
      obtain ⟨h1, h2⟩ := List.pairwise_cons.mp hp
      have hx := hm x (List.mem_cons_self ..)
      have := ih (x + 1) h2 (fun m hmm => ⟨by have := h1 m hmm; omega, (hm m (List.mem_cons_of_mem _ hmm)).2⟩) (by omega)
      rw [List.length_cons]; omega
  have := this ms 0 h.1 h.2 h0
  omega
/-- some of a pool are drawn out -/
structure Drawn (n : Nat) (pool out : List Int) (i : Nat) : Prop where
  perm : (out ++ pool).Perm ((List.range n).map fun (k : Nat) => (k : Int))
  len : out.length = i
theorem Drawn.start (n : Nat) : Drawn n ((List.range n).map fun (k : Nat) => (k : Int)) [] 0 := ⟨List.Perm.refl _, rfl⟩
theorem Drawn.total {n i : Nat} {pool out : List Int} (h : Drawn n pool out i) : i + pool.length = n := by
  have := h.perm.length_eq
  rw [List.length_append, List.length_map, List.length_range, h.len] at this
  exact this
theorem Drawn.step {n i j : Nat} {pool out : List Int} {x : Int} (h : Drawn n pool out i) (hx : pool[j]? = some x) : Drawn n (pool.eraseIdx j) (out ++ [x]) (i + 1) := by
  refine ⟨?_, by rw [List.length_append, h.len]; rfl⟩
  refine List.Perm.trans ?_ h.perm
  rw [List.append_assoc]
  refine List.Perm.append_left out ?_
  obtain ⟨hj, e⟩ := List.getElem?_eq_some_iff.mp hx
  subst e
  exact era pool j hj
where
  era : ∀ (l : List Int) (j : Nat) (hj : j < l.length), (l[j] :: l.eraseIdx j).Perm l
    | [], j, hj => absurd hj (Nat.not_lt_zero j)
    | a :: l, 0, hj => List.Perm.refl _
    | a :: l, j + 1, hj => by
      have hj' : j < l.length := by simpa using hj
      show (l[j] :: a :: l.eraseIdx j).Perm (a :: l)
      exact (List.Perm.swap a l[j] _).trans ((era l j hj').cons a)
theorem Drawn.lot {n i : Nat} {pool out ms : List Int} (h : Drawn n pool out i) (pm : ms.Perm out) (so : ms.Pairwise (· ≤ ·)) : Lot n ms := by
  have nd : (out ++ pool).Nodup := h.perm.symm.nodup (by
    refine List.Pairwise.map _ ?_ (List.nodup_range (n := n))
    intro a b hab; omega)
  have nd2 : ms.Nodup := pm.symm.nodup (List.nodup_append.mp nd).1
  refine ⟨lt_of_le_nodup so nd2, fun m hm => ?_⟩
  have : m ∈ out ++ pool := List.mem_append_left _ (pm.subset hm)
  have := h.perm.subset this
  obtain ⟨k, hk, rfl⟩ := List.mem_map.mp this
  have := List.mem_range.mp hk
  omega
theorem map_erase {α β : Type} (f : α → β) : ∀ (l : List α) (i : Nat), (l.map f).eraseIdx i = (l.eraseIdx i).map f
  | [], _ => rfl
  | _ :: _, 0 => rfl
  | a :: l, i + 1 => congrArg (f a :: ·) (map_erase f l i)
theorem seqIx {i : Int} {n : Nat} (h0 : 0 ≤ i) (h1 : i < n) : seqIndex? i n = some i.toNat := by
  unfold seqIndex?
  have e : ¬ i < 0 := by omega
  simp [e]
  omega
end VL
set_option maxHeartbeats 2000000
namespace VL
open PySem PySem.Spec PyProof.Rows L2 MB
theorem at_in {xs : List D} {i : Int} (h0 : 0 ≤ i) (h : i < xs.length) : ∃ x, x ∈ xs ∧ xs[i.toNat]? = some x ∧ atI xs i = some x := by
  have e : i = ((i.toNat : Nat) : Int) := by omega
  have hl : i.toNat < xs.length := by omega
  have g : atI xs ((i.toNat : Nat) : Int) = some xs[i.toNat] := atI_nat (List.getElem?_eq_getElem hl)
  rw [← e] at g
  exact ⟨_, List.getElem_mem hl, List.getElem?_eq_getElem hl, g⟩
theorem rel_list {α : Type} {P : α → Prop} {f : α → D} : ∀ {ys : List D}, (∀ y ∈ ys, ∃ c, P c ∧ y = f c) → ∃ cs : List α, ys = cs.map f ∧ ∀ c ∈ cs, P c
  | [], _ => ⟨[], rfl, by simp⟩
  | y :: ys, h => by
    obtain ⟨c, hc, e⟩ := h y (List.mem_cons_self ..)
    obtain ⟨cs, e2, h2⟩ := rel_list (ys := ys) fun z hz => h z (List.mem_cons_of_mem _ hz)
    refine ⟨c :: cs, by rw [e, e2]; rfl, fun d hd => ?_⟩
    rcases List.mem_cons.mp hd with z | z
    · subst z; exact hc
    · exact h2 d z
theorem rel_mem {ds ys : List D} {R : Nat → D → D → Prop} {S : D → Prop} (hl : ys.length = ds.length) (h : ∀ (i : Nat) (d y : D), ds[i]? = some d → ys[i]? = some y → R i d y) (g : ∀ i d y, ds[i]? = some d → R i d y → S y) : ∀ y ∈ ys, S y := fun y hy => by
  obtain ⟨i, hi, e⟩ := List.getElem_of_mem hy
  have h1 : ds[i]? = some (ds[i]'(by omega)) := List.getElem?_eq_getElem (by omega)
  exact g i _ y h1 (h i _ y h1 (by rw [List.getElem?_eq_getElem hi, e]))
/-- t holds the rows cs -/
def Rows (O : Oh) (t : D) (cs : List (List Int)) : Prop := Kn O t ∧ ∃ xs, asS O t = some xs ∧ xs.length = cs.length ∧ ∀ (i : Nat) (x : D) (c : List Int), xs[i]? = some x → cs[i]? = some c → Kn O x ∧ asS O x = some (c.map D.int)
/-- checks that a code of n bits may have -/
def Good (n : Int) (cs : List (List Int)) : Prop := ∀ c ∈ cs, c ≠ [] ∧ c.Nodup ∧ ∀ b ∈ c, 0 ≤ b ∧ b < n
theorem nodup_len {n : Int} {c : List Int} (h : c.Nodup) (hb : ∀ b ∈ c, 0 ≤ b ∧ b < n) (h0 : 0 ≤ n) : (c.length : Int) ≤ n := by
  rw [← srt_len c]
  refine Lot.len (n := n) ⟨lt_of_le_nodup (srt_le c) ((srt_perm c).symm.nodup h), fun m hm => hb m ((srt_perm c).subset hm)⟩ h0
theorem Rows.ext {O O' : Oh} {t : D} {cs : List (List Int)} (e : Ext O O') (h : Rows O t cs) : Rows O' t cs := by
  obtain ⟨k, xs, h1, h2, h3⟩ := h
  exact ⟨k.ext e, xs, asS_ext e h1, h2, fun i x c a b => ⟨(h3 i x c a b).1.ext e, asS_ext e (h3 i x c a b).2⟩⟩
theorem Rows.at {O : Oh} {t x : D} {xs : List D} {cs : List (List Int)} (h : Rows O t cs) (e : asS O t = some xs) {i : Nat} (hx : xs[i]? = some x) : ∃ c, cs[i]? = some c ∧ Kn O x ∧ asS O x = some (c.map D.int) := by
  obtain ⟨k, ys, h1, h2, h3⟩ := h
  rw [e] at h1; cases h1
  have hi := (List.getElem?_eq_some_iff.mp hx).1
  have hc : cs[i]? = some (cs[i]'(by omega)) := List.getElem?_eq_getElem (by omega)
  exact ⟨_, hc, h3 i x _ hx hc⟩
theorem Rows.items {O : Oh} {t : D} {cs : List (List Int)} (h : Rows O t cs) : ∃ xs, asS O t = some xs ∧ xs.length = cs.length := by
  obtain ⟨k, ys, h1, h2, h3⟩ := h
  exact ⟨ys, h1, h2⟩
theorem Rows.look {O : Oh} {t : D} {cs : List (List Int)} (h : Rows O t cs) (hl : cs.length ≤ 1000) (hc : ∀ c ∈ cs, c.length ≤ 1000) : Look3 O t := by
  have h' := h
  obtain ⟨k, ys, h1, h2, h3⟩ := h'
  refine ⟨k, fun xs e => ?_⟩
  rw [e] at h1; cases h1
  refine ⟨by omega, fun x hx => ?_⟩
  obtain ⟨i, hi, ei⟩ := List.getElem_of_mem hx
  obtain ⟨c, c1, c2, c3⟩ := h.at e (i := i) (x := x) (by rw [List.getElem?_eq_getElem hi, ei])
  refine ⟨c2, fun ys e2 => ?_⟩
  rw [c3] at e2; cases e2
  refine ⟨by rw [List.length_map]; exact hc c (List.mem_of_getElem? c1), fun y hy => ?_⟩
  obtain ⟨z, _, rfl⟩ := List.mem_map.mp hy
  exact kn_int
theorem chk_good {a : AS} {x : D} {c : List Int} {n : Int} (h : a x = some (c.map D.int)) (h0 : c ≠ []) (nd : c.Nodup) (hb : ∀ b ∈ c, 0 ≤ b ∧ b < n) : chkA a n x = true := by
  have hl : lotA a x n = true := by
    unfold lotA; rw [h]
    show lotB _ _ = true
    rw [lotB_ints]; exact decide_eq_true ⟨hb, nd⟩
  rw [chk_len h hl]
  have : (c.map D.int).length ≠ 0 := by
    rw [List.length_map]; exact fun z => h0 (List.eq_nil_of_length_eq_zero z)
  simp [this]
  omega
theorem Rows.fault {O : Oh} {t : D} {cs : List (List Int)} {n : Int} (h : Rows O t cs) (hn : 1 ≤ n ∧ n ≤ 10) (hl : cs.length ≤ 63) (g : Good n cs) : codeFault (asS O) (.int n) t = none := by
  obtain ⟨xs, e, el⟩ := h.items
  refine cf_ok (by simp [isWhole, geB, leB]; omega) e (by omega) fun j y hy => ?_
  obtain ⟨c, c1, c2, c3⟩ := h.at e hy
  obtain ⟨g1, g2, g3⟩ := g c (List.mem_of_getElem? c1)
  exact chk_good c3 g1 g2 g3
theorem Rows.chks {O : Oh} {t : D} {cs : List (List Int)} (h : Rows O t cs) : (itemsA (asS O) t).map (chkD (asS O)) = (cs.map srt).map fun c => D.tup (c.map D.int) := by
  obtain ⟨xs, e, el⟩ := h.items
  have ei : itemsA (asS O) t = xs := by unfold itemsA; rw [e]; rfl
  rw [ei, List.map_map]
  refine List.ext_getElem? fun i => ?_
  rw [List.getElem?_map, List.getElem?_map]
  cases hx : xs[i]? with
  | none =>
    rw [List.getElem?_eq_none (by have := List.getElem?_eq_none_iff.mp hx; omega)]; rfl
  | some x =>
    obtain ⟨c, c1, c2, c3⟩ := h.at e hx
    rw [c1]
    show some (chkD (asS O) x) = some (D.tup ((srt c).map D.int))
    unfold chkD; rw [intsA_of c3]
theorem rows_tups {O : Oh} (cs : List (List Int)) : Rows O (.lst (cs.map fun c => D.tup (c.map D.int))) cs := by
  refine ⟨kn_lst, _, rfl, by rw [List.length_map], fun i x c hx hc => ?_⟩
  obtain ⟨c', h1, rfl⟩ := rows_at hx
  rw [hc] at h1; cases h1
  exact ⟨kn_tup, rfl⟩
theorem rows_tupsT {O : Oh} (cs : List (List Int)) : Rows O (.tup (cs.map fun c => D.tup (c.map D.int))) cs := by
  refine ⟨kn_tup, _, rfl, by rw [List.length_map], fun i x c hx hc => ?_⟩
  obtain ⟨c', h1, rfl⟩ := rows_at hx
  rw [hc] at h1; cases h1
  exact ⟨kn_tup, rfl⟩
theorem rows_lsts {O : Oh} (cs : List (List Int)) : Rows O (.lst (cs.map fun c => D.lst (c.map D.int))) cs := by
  refine ⟨kn_lst, _, rfl, by rw [List.length_map], fun i x c hx hc => ?_⟩
  rw [List.getElem?_map, hc] at hx
  cases hx
  exact ⟨kn_lst, rfl⟩
/-- a new list of new lists -/
structure OwnRows (O O' : Oh) (r : Addr) (ps : List Addr) (es : List (List Int)) : Prop where
  new : O r = none
  own : O' r = some (.lst (ps.map D.ref))
  len : ps.length = es.length
  each : ∀ (i : Nat) (p : Addr) (e : List Int), ps[i]? = some p → es[i]? = some e → O' p = some (.lst (e.map D.int))
  free : ∀ p ∈ ps, O p = none ∧ p ≠ r
  nd : ps.Nodup
  rest : ∀ a, a ≠ r → a ∉ ps → O' a = O a
theorem OwnRows.ext {O O' : Oh} {r : Addr} {ps : List Addr} {es : List (List Int)} (h : OwnRows O O' r ps es) : Ext O O' := fun a o e => by
  rw [h.rest a (fun z => by subst z; rw [h.new] at e; cases e) (fun z => by rw [(h.free a z).1] at e; cases e)]; exact e
theorem OwnRows.rows {O O' : Oh} {r : Addr} {ps : List Addr} {es : List (List Int)} (h : OwnRows O O' r ps es) : Rows O' (.ref r) es := by
  refine ⟨kn_own h.own, _, asS_own h.own, by rw [List.length_map, h.len], fun i x c hx hc => ?_⟩
  rw [List.getElem?_map] at hx
  cases e : ps[i]? with
  | none => rw [e] at hx; cases hx
  | some p =>
    rw [e] at hx; cases hx
    exact ⟨kn_own (h.each i p c e hc), asS_own (h.each i p c e hc)⟩
theorem OwnRows.start {O : Oh} {r : Addr} (h : O r = none) : OwnRows O (updO O r (.lst [])) r [] [] :=
  ⟨h, updO_same, rfl, fun _ _ _ e => by simp at e, fun _ h => by simp at h, List.nodup_nil, fun a e _ => updO_ne e⟩
theorem OwnRows.step {O O' : Oh} {r q : Addr} {ps : List Addr} {es : List (List Int)} {e : List Int} (h : OwnRows O O' r ps es) (hq : O' q = none) : OwnRows O (updO (updO O' q (.lst (e.map D.int))) r (.lst (ps.map D.ref ++ [.ref q]))) r (ps ++ [q]) (es ++ [e]) := by
  have nqr : q ≠ r := fun z => by subst z; rw [h.own] at hq; cases hq
  have nqp : q ∉ ps := fun z => by
    obtain ⟨i, hi, ei⟩ := List.getElem_of_mem z
    have := h.each i q (es[i]'(by rw [← h.len]; exact hi)) (by rw [List.getElem?_eq_getElem hi, ei]) (List.getElem?_eq_getElem _)
    rw [hq] at this; cases this
  have hO : O q = none := by rw [← h.rest q nqr nqp]; exact hq
  refine ⟨h.new, by rw [updO_same, List.map_append]; rfl, by rw [List.length_append, List.length_append, h.len]; rfl, fun i p f hp hf => ?_, fun p hp => ?_, ?_, fun a h1 h2 => ?_⟩
  · by_cases hi : i < ps.length
    · rw [List.getElem?_append_left hi] at hp
      rw [List.getElem?_append_left (by rw [← h.len]; exact hi)] at hf
      have hm := List.mem_of_getElem? hp
      rw [updO_ne (h.free p hm).2, updO_ne (fun (z : p = q) => nqp (z ▸ hm))]
      exact h.each i p f hp hf
    · rw [List.getElem?_append_right (by omega)] at hp
      rw [List.getElem?_append_right (by rw [← h.len]; omega)] at hf
      have h0 : i - ps.length = 0 := by
        by_cases z : i - ps.length = 0
        · exact z
        · rw [List.getElem?_eq_none (by simp; omega)] at hp; cases hp
      rw [h0] at hp
      rw [← h.len, h0] at hf
      cases hp; cases hf
      rw [updO_ne nqr, updO_same]
  · rcases List.mem_append.mp hp with z | z
    · exact h.free p z
    · rw [List.mem_singleton] at z; subst z; exact ⟨hO, nqr⟩
  · rw [List.nodup_append]
    exact ⟨h.nd, List.nodup_cons.mpr ⟨by simp, List.nodup_nil⟩, fun x hx y hy e => by
      rw [List.mem_singleton] at hy; subst hy; subst e; exact nqp hx⟩
  · have h3 : a ∉ ps := fun z => h2 (List.mem_append_left _ z)
    have h4 : a ≠ q := fun z => h2 (List.mem_append_right _ (by rw [z]; exact List.mem_singleton.mpr rfl))
    rw [updO_ne h1, updO_ne h4]
    exact h.rest a h1 h3
theorem cut_from {xs : List D} {b : Int} (h0 : 0 ≤ b) (h1 : b ≤ xs.length) : cutD xs (some b) none = xs.drop b.toNat := by
  unfold cutD HT.sIx
  show (xs.drop (if b < 0 then _ else min b.toNat xs.length)).take (xs.length - (if b < 0 then _ else min b.toNat xs.length)) = _
  rw [if_neg (by omega), Nat.min_eq_left (by omega), ← List.length_drop, List.take_length]
theorem cut_to {xs : List D} {b : Int} (h0 : 0 ≤ b) (h1 : b ≤ xs.length) : cutD xs none (some b) = xs.take b.toNat := by
  unfold cutD HT.sIx
  show (xs.drop 0).take ((if b < 0 then _ else min b.toNat xs.length) - 0) = _
  rw [if_neg (by omega), Nat.min_eq_left (by omega)]
  rfl
/-- a row turned by k -/
def turn (k : Nat) (c : List Int) : List Int := c.drop k ++ c.take k
theorem turn_perm (k : Nat) (c : List Int) : (turn k c).Perm c := by
  unfold turn
  exact List.perm_append_comm.trans (by rw [List.take_append_drop])
theorem turn_map (k : Nat) (c : List Int) : (c.map D.int).drop k ++ (c.map D.int).take k = (turn k c).map D.int := by
  unfold turn
  rw [List.map_append, List.map_drop, List.map_take]
theorem Good.perm {n : Int} {c d : List Int} (h : c ≠ [] ∧ c.Nodup ∧ ∀ b ∈ c, 0 ≤ b ∧ b < n) (pm : d.Perm c) : d ≠ [] ∧ d.Nodup ∧ ∀ b ∈ d, 0 ≤ b ∧ b < n :=
  ⟨fun z => h.1 (by subst z; exact pm.symm.eq_nil), pm.symm.nodup h.2.1, fun b hb => h.2.2 b (pm.subset hb)⟩
theorem lot_good {n : Int} {c : List Int} (h : Lot n c) (h0 : 1 ≤ (c.length : Int)) : c ≠ [] ∧ c.Nodup ∧ ∀ b ∈ c, 0 ≤ b ∧ b < n := ⟨fun z => by subst z; simp at h0, h.nodup, h.2⟩
def ratD (r : Int × Int) : D := .tup [.int r.1, .int r.2]
theorem low_share {t b : Int} (h0 : 0 ≤ t) (h1 : t ≤ b) (hb : 0 < b) : isShare (.tup [.int (t / (Nat.gcd t.natAbs b.natAbs : Nat)), .int (b / (Nat.gcd t.natAbs b.natAbs : Nat))]) = true := by
  rw [isShare_ii]
  have g0 : 0 < Nat.gcd t.natAbs b.natAbs := Nat.gcd_pos_of_pos_right _ (by omega)
  obtain ⟨x, hx⟩ : (Nat.gcd t.natAbs b.natAbs) ∣ t.natAbs := Nat.gcd_dvd_left _ _
  obtain ⟨y, hy⟩ : (Nat.gcd t.natAbs b.natAbs) ∣ b.natAbs := Nat.gcd_dvd_right _ _
  have hc : Nat.gcd x y = 1 := by
    have h := Nat.gcd_mul_left (Nat.gcd t.natAbs b.natAbs) x y
    rw [← hx, ← hy] at h
    exact Nat.eq_of_mul_eq_mul_left g0 (by rw [Nat.mul_one]; exact h.symm)
  generalize Nat.gcd t.natAbs b.natAbs = g at *
  have et : t = (g : Int) * (x : Int) := by have : ((t.natAbs : Nat) : Int) = ((g * x : Nat) : Int) := by rw [hx]
                                            rw [Int.natCast_mul] at this; omega
  have eb : b = (g : Int) * (y : Int) := by have : ((b.natAbs : Nat) : Int) = ((g * y : Nat) : Int) := by rw [hy]
                                            rw [Int.natCast_mul] at this; omega
  have gne : (g : Int) ≠ 0 := by omega
  have e1 : t / (g : Int) = (x : Int) := by rw [et]; exact Int.mul_ediv_cancel_left _ gne
  have e2 : b / (g : Int) = (y : Int) := by rw [eb]; exact Int.mul_ediv_cancel_left _ gne
  rw [e1, e2]
  have hxy : x ≤ y := by
    have : t.natAbs ≤ b.natAbs := by omega
    rw [hx, hy] at this
    exact Nat.le_of_mul_le_mul_left this g0
  have hy1 : 1 ≤ y := by
    rcases Nat.eq_zero_or_pos y with z | z
    · rw [z, Nat.mul_zero] at hy; omega
    · exact z
  rw [decide_eq_true (show (y : Int) ≥ 1 by omega), decide_eq_true (show (0 : Int) ≤ x by omega), decide_eq_true (show (x : Int) ≤ y by omega), Int.natAbs_natCast, Int.natAbs_natCast, decide_eq_true hc]
  rfl
end VL
set_option maxHeartbeats 2000000
namespace VL
open PySem PySem.Spec PyProof.Rows L2 MB
def tTry (K : Fr) (cv : Value) (i : Nat) (ts : Addr → Value → Option Addr → TS) (Wout : WX) (tb : WX → TS) : TS := fun Dd σ H => tb (wAs K cv i ts Wout Dd) Dd σ H
theorem ps_tryT {X : Cx} {st : Stmt} {cv : Value} {i : Nat} {ts : Addr → Value → Option Addr → TS} {Wout : WX} {tb : WX → TS} (h : PS X st (fun D σ H => tb (wAs X.K cv i ts Wout D) D σ H)) : PS X st (tTry X.K cv i ts Wout tb) := h
section
variable {c : Cz} {ρ : En} {O : Oh} {Q : D → Oh → Prop} {E : EnL}
theorem l_xfv {i : Nat} {a C : Addr} {dx : Option Addr} {n : Str} {fs : List (Str × D)} {d : D} (h : ρ[i]? = some (some (.exc a dx C fs))) (hl : fs.lookup n = some d) (q : Q d O) : LE c (tXf a (.ref C) dx C n (tVar i)) ρ O Q :=
  l_xf (fs := fs) (l_var h ⟨d, rfl, hl, q⟩)
/-- a try that lets nothing out -/
theorem s_tryN {cv : Value} {i : Nat} {ts : Addr → Value → Option Addr → TS} {tb : WX → TS} {Wout : WX} (q : ∀ W : WX, LS ⟨c.K, fun σ cls d H => W cls d σ H, xAs c E cv i ts fun _ _ _ _ => False⟩ (tb W) E ρ O) {K' : Fr} (hK : K' = c.K) : LS c (tTry K' cv i ts Wout tb) E ρ O := by
  subst hK
  exact s_try (XW := fun _ _ _ _ => False) (fun _ _ _ _ _ _ _ _ _ _ _ _ h => h.elim) q
/-- what is caught -/
theorem x_caught {cv : Value} {i : Nat} {ts : Addr → Value → Option Addr → TS} {C : Addr} {fs : List (Str × D)} (h : PySem.W.exmOne c.K (.ref C) cv = some true) (q : ∀ a dx, (fs = [] → dx = none) → LS c (ts a (.ref C) dx) ⟨fun ρ2 O2 => E.nx (ρ2.set i none) O2, E.rt, fun ρ2 O2 => E.bk (ρ2.set i none) O2, fun ρ2 O2 => E.ct (ρ2.set i none) O2⟩ (ρ.set i (some (.exc a dx C fs))) O) : xAs c E cv i ts (fun _ _ _ _ => False) C fs ρ O :=
  ⟨true, h, fun _ => q, fun h => by cases h⟩
theorem x_caughtN {cv : Value} {i : Nat} {ts : Addr → Value → Option Addr → TS} {C : Addr} {fs : List (Str × D)} {p C0 : Addr} {gs : List (Str × D)} (hp : O p = none) (h : PySem.W.exmOne c.K (.ref C) cv = some true) (q : ∀ a dx, (fs = [] → dx = none) → LS c (ts a (.ref C) dx) ⟨fun ρ2 O2 => E.nx (ρ2.set i none) O2, E.rt, fun ρ2 O2 => E.bk (ρ2.set i none) O2, fun ρ2 O2 => E.ct (ρ2.set i none) O2⟩ (ρ.set i (some (.exc a dx C fs))) O) : xAs c E cv i ts (fun _ _ _ _ => False) C fs ρ (delO (updO O p (.ins C0 gs)) p) := by
  rw [delO_updO hp]; exact x_caught h q
end
section
variable {c : Cz} {ρ : En} {O : Oh}
theorem reps_rep {K : Fr} {F : Hp} {vs : List V} {xs : List D} (r : RepsD K F vs xs) : ∀ n : Nat, RepsD K F (List.replicate n vs).flatten (List.replicate n xs).flatten
  | 0 => .nil
  | n + 1 => by rw [List.replicate_succ, List.replicate_succ, List.flatten_cons, List.flatten_cons]; exact r.append (reps_rep r n)
theorem o_rep {x : D} {xs : List D} {k : Int} {Q : List D → Oh → Prop} (h : asL O x = some xs) (hk : 0 ≤ k ∧ k ≤ 100000) (hl : xs.length * k.toNat ≤ 100000) (q : Q (List.replicate k.toNat xs).flatten O) : O2N c rRep x (.int k) O Q := fun F H v w s rv rw x Q' kk => by
  obtain ⟨p, vs, rfl, hp, r⟩ := asL_sq s rv h
  cases rw
  exact ⟨p, k, vs, rfl, rfl, hp, by omega, by omega, by rw [r.len]; exact le_line hl, fun a ha => kk F H O a _ _ (Same.refl F) s ha (reps_rep r _) q⟩
theorem f_rep {ta tb : TE} {Q : D → Oh → Prop} (q : LE c ta ρ O fun x O1 => LE c tb ρ O1 fun y O2 => O2N c rRep x y O2 fun ys O3 => Q (.lst ys) O3) : LE c (tOp rRep ta tb) ρ O Q := l_frz (ln_op q)
theorem rep_one (n : Nat) (i : Int) : (List.replicate n [D.int i]).flatten = (List.replicate n i).map D.int := by
  induction n with
  | zero => rfl
  | succ n ih => rw [List.replicate_succ, List.flatten_cons, ih, List.replicate_succ]; rfl
end
/-- isinstance(e, C2) in a suite that caught a C without fields -/
theorem k_isX {c : Cz} {O : Oh} {Q : D → Oh → Prop} {K' : Fr} (hK : K' = c.K) {a C C2 : Addr} {b : Bool} (h : PySem.W.kitOne c.K (.ref C) (.ref C2) = some b) (q : Q (.bl b) O) : CAR c (rIsX K' C a (.ref C) none) [.exc a none C [], .ref C2] O Q := by
  subst hK
  intro F H vs s r z Q' k
  cases r with
  | cons ra t =>
    cases t with
    | cons rb t =>
      cases t; cases rb; cases ra
      exact ⟨rfl, rfl, _, .ref C2, b, rfl, fun u hu => hu, h, k F H O _ _ (Same.refl F) s (.bl _) q⟩
def kitE (K : Fr) (A B : Str) (b : Bool) : Bool := decide (PySem.W.kitOne K (.ref (He.ga K A)) (.ref (He.ga K B)) = some b)
theorem kit_same {K : Fr} {C : Addr} : PySem.W.kitOne K (.ref C) (.ref C) = some true := by unfold PySem.W.kitOne; rw [if_pos (beq_self_eq_true _)]
theorem l_post {c : Cz} {ρ : En} {O : Oh} {Q : D → Oh → Prop} {te : TE} (P : D → Oh → Prop) (q : LE c te ρ O P) (k : ∀ d O, P d O → Q d O) : LE c te ρ O Q := fun F H σ rs s x Q' kk => q F H σ rs s x Q' fun F1 H1 O1 v d s1 st1 rd1 h => kk F1 H1 O1 v d s1 st1 rd1 (k d O1 h)
theorem cut_le {xs : List D} (k : Nat) : cutD xs none (some (k : Int)) = xs.take k := by
  unfold cutD HT.sIx
  show (xs.drop 0).take ((if (k : Int) < 0 then _ else min ((k : Int).toNat) xs.length) - 0) = _
  rw [if_neg (by omega), Int.toNat_natCast, Nat.sub_zero, List.drop_zero]
  by_cases h : k ≤ xs.length
  · rw [Nat.min_eq_left h]
  · rw [Nat.min_eq_right (by omega), List.take_length, List.take_of_length_le (by omega)]
theorem s_post {c : Cz} {ρ : En} {O : Oh} {E : EnL} {ts : TS} (P : En → Oh → Prop) (q : LS c ts { E with nx := P } ρ O) (k : ∀ ρ O, P ρ O → E.nx ρ O) : LS c ts E ρ O := LS.imp q k (fun _ _ z => z) (fun _ _ z => z) (fun _ _ z => z)
theorem ixN_in {n : Nat} {i : Int} (h0 : 0 ≤ i) (h1 : i < n) : ixN n i = some i.toNat := by unfold ixN; rw [if_pos h0, if_pos h1]
theorem look2_new {O : Oh} {p C : Addr} {gs : List (Str × D)} {t : D} (h : O p = none) (l : Look2 O t) : Look2 (updO O p (.ins C gs)) t := by
  unfold Look2 at *
  rw [asS_new h, kn_new h]
  exact ⟨l.1, fun xs e => ⟨(l.2 xs e).1, fun x hx => (kn_new h).mpr ((l.2 xs e).2 x hx)⟩⟩
theorem look3_new {O : Oh} {p C : Addr} {gs : List (Str × D)} {t : D} (h : O p = none) (l : Look3 O t) : Look3 (updO O p (.ins C gs)) t := by
  unfold Look3 at *
  rw [asS_new h, kn_new h]
  exact ⟨l.1, fun xs e => ⟨(l.2 xs e).1, fun x hx => look2_new h ((l.2 xs e).2 x hx)⟩⟩
end VL
set_option maxHeartbeats 2000000
namespace VL
open PySem PySem.Spec PyProof.Rows L2 MB
theorem StO.sub {K : Fr} {F H : Hp} {O O2 : Oh} (e : Ext O O2) (s : StO K F O2 H) : StO K F O H := ⟨s.same, fun a o h => s.own a o (e a o h)⟩
section
variable {c : Cz} {ρ : En} {O : Oh} {Q : D → Oh → Prop} {E : EnL}
theorem s_sub {ts : TS} (O0 : Oh) (e : Ext O0 O) (q : LS c ts E ρ O0) : LS c ts E ρ O := fun F H σ rs s x Dd l => q F H σ rs (s.sub e) x Dd l
theorem l_shrink {te : TE} (O0 : Oh) (q : LE c te ρ O fun d O1 => Ext O0 O1 ∧ Q d O0) : LE c te ρ O Q := fun F H σ rs s x Q' k => q F H σ rs s x Q' fun F1 H1 O1 v d s1 st1 rd1 ⟨e, h⟩ => k F1 H1 O0 v d s1 (st1.sub e) rd1 h
end
theorem if_post {c : Cz} {ρ : En} {O : Oh} {E : EnL} {p : Prop} [Decidable p] {t u : TS} (P : En → Oh → Prop) (h1 : p → LS c t { E with nx := P } ρ O) (h2 : ¬ p → LS c u { E with nx := P } ρ O) (k : ∀ ρ O, P ρ O → E.nx ρ O) : if decide p = true then LS c t E ρ O else LS c u E ρ O := if_d (fun h => s_post P (h1 h) k) (fun h => s_post P (h2 h) k)
theorem cut_ge {xs : List D} (k : Nat) : cutD xs (some (k : Int)) none = xs.drop k := by
  unfold cutD HT.sIx
  show (xs.drop (if (k : Int) < 0 then _ else min ((k : Int).toNat) xs.length)).take (xs.length - (if (k : Int) < 0 then _ else min ((k : Int).toNat) xs.length)) = _
  rw [if_neg (by omega), Int.toNat_natCast]
  by_cases h : k ≤ xs.length
  · rw [Nat.min_eq_left h, ← List.length_drop, List.take_length]
  · rw [Nat.min_eq_right (by omega), Nat.sub_self, List.take_zero, List.drop_of_length_le (show xs.length ≤ k by omega)]
theorem Rows.lists {O : Oh} {t : D} {cs : List (List Int)} {xs : List D} (h : Rows O t cs) (e : asS O t = some xs) : xs.map (fun d => D.lst (itemsA (asS O) d)) = cs.map fun c => D.lst (c.map D.int) := by
  obtain ⟨ys, e', el⟩ := h.items
  rw [e] at e'; cases e'
  refine List.ext_getElem? fun i => ?_
  rw [List.getElem?_map, List.getElem?_map]
  cases hx : xs[i]? with
  | none =>
    rw [List.getElem?_eq_none (by have := List.getElem?_eq_none_iff.mp hx; omega)]; rfl
  | some x =>
    obtain ⟨c, c1, c2, c3⟩ := h.at e hx
    rw [c1]
    show some (D.lst (itemsA (asS O) x)) = some (D.lst (c.map D.int))
    unfold itemsA; rw [c3]; rfl
theorem Rows.sorted {O : Oh} {t : D} {cs : List (List Int)} {xs : List D} (h : Rows O t cs) (e : asS O t = some xs) : xs.map (chkD (asS O)) = (cs.map srt).map fun c => D.tup (c.map D.int) := by
  have := h.chks
  unfold itemsA at this
  rw [e] at this
  exact this
theorem Good.srt {n : Int} {cs : List (List Int)} (h : Good n cs) : Good n (cs.map VL.srt) := fun d hd => by
  obtain ⟨c, hc, rfl⟩ := List.mem_map.mp hd
  exact Good.perm (h c hc) (srt_perm c)
theorem srt_twice (cs : List (List Int)) : (cs.map srt).map srt = cs.map srt := by
  rw [List.map_map]; congr 1; funext c; exact srt_srt c
theorem Good.sub {n : Int} {cs ds : List (List Int)} (h : Good n cs) (s : ∀ d ∈ ds, d ∈ cs) : Good n ds := fun d hd => h d (s d hd)
theorem Good.more {n m : Int} {cs : List (List Int)} (h : Good n cs) (hm : n ≤ m) : Good m cs := fun d hd => ⟨(h d hd).1, (h d hd).2.1, fun b hb => by have := (h d hd).2.2 b hb; omega⟩
theorem rows_at_lst {cs : List (List Int)} {i : Nat} {d : D} (h : (cs.map fun c => D.lst (c.map D.int))[i]? = some d) : ∃ c, cs[i]? = some c ∧ d = .lst (c.map D.int) := by
  rw [List.getElem?_map] at h
  cases e : cs[i]? with
  | none => rw [e] at h; cases h
  | some b => rw [e] at h; exact ⟨b, rfl, (Option.some.inj h).symm⟩
theorem lists_sorted (cs : List (List Int)) : (cs.map fun c => D.lst (c.map D.int)).map (fun d => D.lst ((srt (intsA (asS fun _ => none) d)).map D.int)) = (cs.map srt).map fun c => D.lst (c.map D.int) := by
  rw [List.map_map, List.map_map]
  congr 1
  funext c
  show D.lst ((srt (intsA _ (.lst (c.map D.int)))).map D.int) = _
  rw [intsA_of (a := asS fun _ => none) (t := .lst (c.map D.int)) rfl]
  rfl
end VL
set_option maxHeartbeats 2000000
namespace VL
open PySem PySem.Spec PyProof.Rows L2 MB
abbrev ClT := Value × Option Nat × (Addr → Value → Option Addr → TS)
def endN (Dd : Ends) : Option Nat → Ends
  | none => Dd
  | some j => { nx := fun σ2 H2 => Dd.nx (σ2.set j none) H2, rt := Dd.rt, bk := fun σ2 H2 => Dd.bk (σ2.set j none) H2, ct := fun σ2 H2 => Dd.ct (σ2.set j none) H2 }
def slN (σ : L2.St) (a : Addr) : Option Nat → L2.St
  | none => σ
  | some j => σ.set j (some (.ref a))
def wMix (K : Fr) (Wo : WX) (Dd : Ends) : List ClT → WX
  | [] => Wo
  | z :: more => fun cls d σ H => ∃ b, PySem.W.exmOne K cls z.1 = some b ∧ (b = true → ∀ a, H a = none → z.2.2 a cls d (endN Dd z.2.1) (slN σ a z.2.1) H) ∧ (b = false → wMix K Wo Dd more cls d σ H)
inductive ClsOk (X : Cx) : List ExceptHandler → List ClT → Prop
  | nil : ClsOk X [] []
  | bare {y : Str} {cv : Value} {tu : Addr → Value → Option Addr → TS} {s₀ : Stmt} {ss : List Stmt} {q q' : Pos} {more : List ExceptHandler} {ls : List ClT} (nm : Names X y cv)
      (su : ∀ (a : Addr) (ob : Obj) (cls : Value) (d : Option Addr) (pp : List (Addr × Obj)), Zc cls d ob → (∃ vs, ob.data = .fields vs) → PSs (X.suite a ((a, ob) :: pp)) (s₀ :: ss) (tu a cls d)) (rest : ClsOk X more ls) :
      ClsOk X (.ExceptHandler (some (.Name y q)) none (s₀ :: ss) q' :: more) ((cv, none, tu) :: ls)
  | as {y n : Str} {j : Nat} {cv : Value} {tu : Addr → Value → Option Addr → TS} {s₀ : Stmt} {ss : List Stmt} {q q' : Pos} {more : List ExceptHandler} {ls : List ClT} (nj : X.N[j]? = some n) (kl : X.env.kindOf n = some .local) (nm : Names X y cv)
      (su : ∀ (a : Addr) (ob : Obj) (cls : Value) (d : Option Addr) (pp : List (Addr × Obj)), Zc cls d ob → (∃ vs, ob.data = .fields vs) → PSs (X.suite a ((a, ob) :: pp)) (s₀ :: ss) (tu a cls d)) (rest : ClsOk X more ls) :
      ClsOk X (.ExceptHandler (some (.Name y q)) (some n) (s₀ :: ss) q' :: more) ((cv, some j, tu) :: ls)
def tTryM (K : Fr) (ls : List ClT) (Wo : WX) (tb : WX → TS) : TS := fun Dd σ H => tb (wMix K Wo Dd ls) Dd σ H
section
variable {X : Cx} {body : List Stmt} {h₁ : ExceptHandler} {more : List ExceptHandler} {ls : List ClT} {p : Pos} {tb : WX → TS} {Wo : WX}
theorem ps_tryM (st : X.stack = X.env :: X.outer) (fr : X.env.frame = some X.env.locals) (nd : X.N.Nodup) (lets : Takes X Wo)
    (run : ∀ (W : WX) (pp : List (Addr × Obj)) (xe : Value → Shared → Prop), Takes (X.tr pp xe) W → PassesOwn (model X.prog X.w) X.A X.env xe → PSs (X.tr pp xe) body (tb W))
    (cl : ClsOk X (h₁ :: more) ls) : PS X (.Try body (h₁ :: more) [] [] p) (tTryM X.K ls Wo tb) := by
  refine ⟨fun pins s σ H Dd I hh => ?_⟩
  have okX := I.ok
  have frm : X.A.frames = some (X.env :: X.outer) := okX.frames.trans (congrArg some st)
  refine wpAny_Try_except (wpAny_mono ((run (wMix X.K Wo Dd ls) (X.pn ++ pins) (fun er s₁ => wpAny (model X.prog X.w) X.A (noteFrame er X.env) (fun _ s₂ => wpAny (model X.prog X.w) X.A (setFlight er none)
    (fun _ s₃ => wpAny (model X.prog X.w) X.A (handleBy er X.env (h₁ :: more)) (SP X pins Dd) X.xe s₃) X.xe s₂) X.xe s₁) (fun er sE took => ?_) PassesOwn.looking).run [] s σ H Dd (I.toTry _) hh) (fun fl sF sp => ?_) (fun _ _ z => z))
  · obtain ⟨a, B, s0, pinsE, σE, HE, cls, d, rfl, J0, nb, up, sky0, na, os, ag, wish⟩ := took
    have JE : Inv X pins σE HE s0 := J0.ofTry okX
    have sky : Sky B (X.env :: X.outer) a (Zc cls d) X.env.locals sE.heap := st ▸ sky0
    show wpAny (model X.prog X.w) X.A (noteFrame (.ref a) X.env) _ _ _
    refine Sky.land Zc.steady frm fr sky fun hp3 land3 up3 => ?_
    have JL : Inv X pins σE HE { sE with heap := hp3 } := JE.landed nb land3.1 (up.trans up3) os ag
    obtain ⟨ob3, vs3, at3, zc3, dt3⟩ := land3.there
    have off : a ∉ frs (X.env :: X.outer) := fun hm => by
      obtain ⟨_, o2, e2, bad⟩ := land3.2.2.1.mem hm
      cases at3.symm.trans e2
      exact bad _ dt3
    have nL : a ≠ X.env.locals := fun z => off (List.mem_filterMap.mpr ⟨X.env, List.mem_cons_self, by rw [fr, z]⟩)
    have nF : a ∉ X.fs := fun hm => by
      obtain ⟨e, he, qq⟩ := List.mem_filterMap.mp hm
      exact off (List.mem_filterMap.mpr ⟨e, List.mem_cons_of_mem _ he, qq⟩)
    have SL := JL.suite at3 dt3 na nL nF
    have clauses : ∀ {hs' : List ExceptHandler} {ls' : List ClT}, ClsOk X hs' ls' → wMix X.K Wo Dd ls' cls d σE HE → wpAny (model X.prog X.w) X.A (handleBy (.ref a) X.env hs') (SP X pins Dd) X.xe { sE with heap := hp3 } := by
      have looks : PySem.W.Looks (model X.prog X.w) hp3 (typeOf (.ref a)) cls := fun A Q E s2 k2 q2 => wpAny_typeOf_ref (k2 _ _ at3) (by rw [zc3.1]; exact q2)
      have nmd : ∀ {y : Str} {cv : Value} {q : Pos}, Names X y cv → ∀ {R S : Value → Shared → Prop}, R cv { sE with heap := hp3 } → wpAny (model X.prog X.w) (X.A.mark (some (.ref a))) (eval (.Name y q) X.env) R S { sE with heap := hp3 } := fun {y cv q} nm {R S} rr => by
        obtain ⟨g1, g2, g3 | ⟨g3, g4, g5⟩⟩ := nm
        · exact ld_glob (X := X.suite a ((a, ob3) :: (X.pn ++ pins))) SL g1 g3 rr g2
        · exact ld_blt (X := X.suite a ((a, ob3) :: (X.pn ++ pins))) SL g1 g3 g4 rr g5 g2
      intro hs' ls' ok
      induction ok with
      | nil =>
        intro wish
        refine wpAny_handleBy_nil ?_
        obtain ⟨k1, k2, k3, oe, vs, T, oT, tz, he, hz, hd, g1, hr⟩ := id land3
        unfold PySem.passOn
        refine wpAny_bind (wpAny_field he hd g1 ?_)
        rw [if_neg (show ¬ ((Value.ref T == Value.none) = true) by simp)]
        have out : wpAny (model X.prog X.w) X.A (setFlight (.ref a) X.env.frame) (fun _ s4 => wpAny (model X.prog X.w) X.A (throw (.ref a) : Sem Flow) (SP X pins Dd) X.xe s4) X.xe { sE with heap := hp3 } := by
          rw [fr]
          exact HandSPX.setFlight_upZ land3 fun hp4 g4 up4 => wpAny_throw (lets _ _ ⟨a, B, s0, pins, σE, HE, cls, d, rfl, JE, nb, (up.trans up3).trans up4, .inr (.inr (st.symm ▸ g4)), na, os, ag, wish⟩)
        exact (by first | exact wpAny_bind (wpAny_pure (wpAny_bind out)) | exact wpAny_bind out)
      | @bare y cv tu s₀ ss q q' more2 ls2 nm su rest ih =>
        rintro ⟨b, hb, yes, no⟩
        refine wpAny_handleBy_cons (codeAny_handlers_test ?_) (by intro z; cases z)
        refine nmd nm ((PySem.W.exm_one (M := model X.prog X.w) JL.kIn looks hb).here ?_)
        cases b with
        | false => show wpAny _ X.A (handleBy (.ref a) X.env more2) _ _ _; exact ih (no rfl)
        | true =>
          refine codeAny_handlers_suite (HandSPX.lands_againZ land3 fun hp4 land4 up4 => ?_)
          obtain ⟨ob4, vs4, at4, zc4, dt4⟩ := land4.there
          have JN : Inv X pins σE HE { sE with heap := hp4 } := JE.landed nb land4.1 ((up.trans up3).trans up4) os ag
          refine wpAny_mono ((su a ob4 cls d (X.pn ++ pins) zc4 ⟨_, dt4⟩).run [] _ _ HE _ (JN.suite at4 dt4 na nL nF) (yes rfl a na)) (fun fl s6 sp => ?_) (fun _ _ z => False.elim z)
          cases fl with
          | ret u => obtain ⟨v, σ6, H6, g6, r6, q6⟩ := sp; exact ⟨_, _, _, g6.unsuite okX, r6, q6⟩
          | next => obtain ⟨σ6, H6, g6, q6⟩ := sp; exact ⟨_, _, g6.unsuite okX, q6⟩
          | brk => obtain ⟨σ6, H6, g6, q6⟩ := sp; exact ⟨_, _, g6.unsuite okX, q6⟩
          | cont => obtain ⟨σ6, H6, g6, q6⟩ := sp; exact ⟨_, _, g6.unsuite okX, q6⟩
      | @as y n j cv tu s₀ ss q q' more2 ls2 nj kl nm su rest ih =>
        rintro ⟨b, hb, yes, no⟩
        refine wpAny_handleBy_cons (codeAny_handlers_test ?_) (by intro z; cases z)
        refine nmd nm ((PySem.W.exm_one (M := model X.prog X.w) JL.kIn looks hb).here ?_)
        cases b with
        | false => show wpAny _ X.A (handleBy (.ref a) X.env more2) _ _ _; exact ih (no rfl)
        | true =>
          refine codeAny_handlers_suite_as (HandSPX.lands_againZ land3 fun hp4 land4 up4 => ?_)
          obtain ⟨ob4, vs4, at4, zc4, dt4⟩ := land4.there
          have JN : Inv X pins σE HE { sE with heap := hp4 } := JE.landed nb land4.1 ((up.trans up3).trans up4) os ag
          refine store_ok (X := X.suite a ((a, ob4) :: (X.pn ++ pins))) (v := .ref a) (JN.suite at4 dt4 na nL nF) nd nj (.inl kl) rfl (fun s5 g5 => ?_) (.inr kl)
          refine wpAny_mono ((su a ob4 cls d (X.pn ++ pins) zc4 ⟨_, dt4⟩).run [] s5 _ HE _ g5 (yes rfl a na)) (fun fl s6 sp => ?_) (fun _ _ z => False.elim z)
          have fin : ∀ {σ6 : L2.St} {H6 : Hp} {R : Shared → Prop}, Inv (X.suite a ((a, ob4) :: (X.pn ++ pins))) [] σ6 H6 s6 → (∀ s7, Inv X pins (σ6.set j none) H6 s7 → R s7) → wpAny (model X.prog X.w) X.A (do bindName X.env n .none; unbindBehindTheSuite X.env n q') (fun _ s7 => R s7) X.xe s6 := fun {σ6 H6 R} g6 rr => gone_ok (g6.unsuite okX) nd nj kl rr
          cases fl with
          | ret u => obtain ⟨v, σ6, H6, g6, r6, q6⟩ := sp; exact fin g6 fun s7 J7 => ⟨_, _, _, J7, r6, q6⟩
          | next => obtain ⟨σ6, H6, g6, q6⟩ := sp; exact fin g6 fun s7 J7 => ⟨_, _, J7, q6⟩
          | brk => obtain ⟨σ6, H6, g6, q6⟩ := sp; exact fin g6 fun s7 J7 => ⟨_, _, J7, q6⟩
          | cont => obtain ⟨σ6, H6, g6, q6⟩ := sp; exact fin g6 fun s7 J7 => ⟨_, _, J7, q6⟩
    exact clauses cl wish
  · cases fl with
    | ret u => obtain ⟨v, σ', H', g, r, q⟩ := sp; exact ⟨v, σ', H', g.ofTry okX, r, q⟩
    | next => obtain ⟨σ', H', g, q⟩ := sp; exact wpAny_execs_nil ⟨σ', H', g.ofTry okX, q⟩
    | brk => obtain ⟨σ', H', g, q⟩ := sp; exact ⟨σ', H', g.ofTry okX, q⟩
    | cont => obtain ⟨σ', H', g, q⟩ := sp; exact ⟨σ', H', g.ofTry okX, q⟩
end
section
variable {c : Cz} {ρ : En} {O : Oh} {E : EnL}
def enN (E : EnL) : Option Nat → EnL
  | none => E
  | some j => ⟨fun ρ2 O2 => E.nx (ρ2.set j none) O2, E.rt, fun ρ2 O2 => E.bk (ρ2.set j none) O2, fun ρ2 O2 => E.ct (ρ2.set j none) O2⟩
def ρN (ρ : En) (d : D) : Option Nat → En
  | none => ρ
  | some j => ρ.set j (some d)
def xMix (c : Cz) (E : EnL) : List ClT → Addr → List (Str × D) → En → Oh → Prop
  | [], _, _, _, _ => False
  | z :: more, C, fs, ρ', O' => ∃ b, PySem.W.exmOne c.K (.ref C) z.1 = some b ∧ (b = true → ∀ a dx, (fs = [] → dx = none) → LS c (z.2.2 a (.ref C) dx) (enN E z.2.1) (ρN ρ' (.exc a dx C fs) z.2.1) O') ∧ (b = false → xMix c E more C fs ρ' O')
theorem xMix_w {F' H' : Hp} {O' : Oh} {σ' : L2.St} {ρ' : En} {C : Addr} {dx : Option Addr} {fs : List (Str × D)} {F : Hp} {Dd : Ends} (x : XL c F) (l : Lift c.K F E Dd) (s1 : Same F F') (rs1 : RepS c.K F' σ' ρ') (st1 : StO c.K F' O' H') (rx : RepX c.K F' H' dx fs) : ∀ {ls : List ClT}, xMix c E ls C fs ρ' O' → wMix c.K (fun _ _ _ _ => False) Dd ls (.ref C) dx σ' H'
  | [], h => h.elim
  | (cv, o, ts) :: more, ⟨b, hb, hy, hn⟩ => by
    refine ⟨b, hb, fun e a ha => ?_, fun e => xMix_w x l s1 rs1 st1 rx (hn e)⟩
    obtain ⟨F2, s2, st2, rd2⟩ := catch_frz (a := a) (C := C) st1 rx
    have s12 := s1.trans s2
    have dn : fs = [] → dx = none := fun z => by
      cases dx with
      | none => rfl
      | some d => obtain ⟨_, _, _, h⟩ := rx; exact absurd z h
    have l2 := l.mono s12
    cases o with
    | none => exact hy e a dx dn F2 H' _ (rs1.mono s2) st2 (x.mono s12) _ l2
    | some j => exact hy e a dx dn F2 H' _ ((rs1.mono s2).set j rd2) st2 (x.mono s12) _ ⟨fun F3 H3 O3 σ3 ρ3 s3 rs3 st3 q3 => l2.nx F3 H3 O3 _ _ s3 (rs3.forget j none) st3 q3, l2.rt, fun F3 H3 O3 σ3 ρ3 s3 rs3 st3 q3 => l2.bk F3 H3 O3 _ _ s3 (rs3.forget j none) st3 q3, fun F3 H3 O3 σ3 ρ3 s3 rs3 st3 q3 => l2.ct F3 H3 O3 _ _ s3 (rs3.forget j none) st3 q3⟩
/-- a try of several clauses that lets nothing out -/
theorem s_tryM {ls : List ClT} {tb : WX → TS} (q : ∀ W : WX, LS ⟨c.K, fun σ cls d H => W cls d σ H, xMix c E ls⟩ (tb W) E ρ O) {K' : Fr} (hK : K' = c.K) : LS c (tTryM K' ls (fun _ _ _ _ => False) tb) E ρ O := by
  subst hK
  intro F H σ rs s x Dd l
  refine q _ F H σ rs s ?_ Dd l
  rintro F' H' O' σ' ρ' C dx fs s1 rs1 st1 rx h
  exact xMix_w x l s1 rs1 st1 rx h
theorem m_caught {cv : Value} {o : Option Nat} {ts : Addr → Value → Option Addr → TS} {C : Addr} {fs : List (Str × D)} {ls : List ClT} (h : PySem.W.exmOne c.K (.ref C) cv = some true) (q : ∀ a dx, (fs = [] → dx = none) → LS c (ts a (.ref C) dx) (enN E o) (ρN ρ (.exc a dx C fs) o) O) : xMix c E ((cv, o, ts) :: ls) C fs ρ O :=
  ⟨true, h, fun _ => q, fun h => by cases h⟩
theorem m_other {cv : Value} {o : Option Nat} {ts : Addr → Value → Option Addr → TS} {C : Addr} {fs : List (Str × D)} {ls : List ClT} (h : PySem.W.exmOne c.K (.ref C) cv = some false) (q : xMix c E ls C fs ρ O) : xMix c E ((cv, o, ts) :: ls) C fs ρ O :=
  ⟨false, h, fun z => absurd z Bool.false_ne_true, fun _ => q⟩
end
end VL
set_option maxHeartbeats 4000000
namespace VL
open PySem PySem.Spec PyProof.Rows L2 MB
section
variable {prog : Program} {w : World} {A : Around} {E : Value → Shared → Prop} {s : Shared} {l : Addr} {its : List Value} {ns : List Int} {Q : Value → Shared → Prop}
theorem sum_rawT (hh : A.handled = none) (hl : s.heap.IsTuple l its.toArray) (hi : IntsAre its ns)
    (h : ∀ h' tk t', (∀ b o, s.heap.get? b = some o → h'.get? b = some o) → Q (.int ns.sum t') { s with heap := h', toks := tk }) : wpAny (model prog w) A (call (.builtin "sum") [.ref l]) Q E s := by
  obtain ⟨xs, e⟩ := hi.allInts.items
  have hn : numsOf (intItems xs).toList = ns := e ▸ hi.numsOf
  rw [nums_intItems] at hn
  rw [e] at hl
  have lt : l < s.heap.objs.size := by obtain ⟨_, e, _⟩ := hl; exact Heap.lt_size e
  refine call_sum_walkG (wpAny_pyIter_tuple hl ⟨s.heap.objs.size, [s.heap.objs.size, l], [s.heap.objs.size], _, _, _, numAt xs, rfl, Walks.tuple (A := A.in1) hh _ l (Nat.ne_of_lt lt) (intItems xs), ⟨⟨_, Heap.get?_push_size _ rfl, rfl, rfl⟩, hl.push _⟩, fun b hb => ?_, fun _ _ => intItems_at, fun h' tk t' hk => ?_⟩)
  · show b < (s.heap.push _).objs.size
    rw [Heap.size_push]
    simp only [List.mem_cons, List.not_mem_nil, or_false] at hb
    rcases hb with z | z <;> subst z
    · exact Nat.lt_succ_self _
    · exact Nat.lt_succ_of_lt lt
  · have g := h h' tk t' fun b o q => hk b o (fun m => by
      simp only [List.mem_singleton] at m
      subst m
      exact absurd (Heap.lt_size q) (Nat.lt_irrefl _)) (Heap.get?_push_of_some _ q)
    rw [← hn] at g
    rw [preSum_eq, List.take_of_length_le (by simp [intItems])]
    exact g
end
def rSumA (K : Fr) : RC := fun vs H Q => ∃ (a : Addr) (ns : List Int), vs = [V.ref a] ∧ (SqL K H a (ns.map V.int) ∨ SqT K H a (ns.map V.int)) ∧ Q (.int ns.sum) H
theorem cr_sumA {X : Cx} (hc : X.calm = true) : CallR X (.builtin "sum") (rSumA X.K) := by
  intro pins s σ H vs us Q I r h
  obtain ⟨a, ns, rfl, hs, q⟩ := h
  rw [Vals.ref1 r]
  rcases hs with hs | hs
  · obtain ⟨its, rv, hl, _⟩ := I.list hs
    exact sum_raw (I.ok.hd hc) hl.isList rv.ints fun h' tk t' hk => ⟨.int _, H, I.kept hk, ⟨_, rfl⟩, q⟩
  · obtain ⟨its, rv, hl, _⟩ := I.tuple hs
    exact sum_rawT (I.ok.hd hc) hl rv.ints fun h' tk t' hk => ⟨.int _, H, I.kept hk, ⟨_, rfl⟩, q⟩
section
variable {prog : Program} {w : World} {A : Around} {E : Value → Shared → Prop} {s : Shared}
open SrtO SrtR in
theorem sortedR_tup {l : Addr} {vs : List Value} {ltv : Value → Value → Bool} {Q : Value → Shared → Prop} (ha1 : argsOk "sorted" ⟨[.ref l], [(Str.ofString "reverse", .bool true)]⟩) (ha2 : ∀ a, argsOk "list.sort" ⟨[a], [(Str.ofString "reverse", .bool true)]⟩) (O : Swo ltv) (hl : s.heap.IsTuple l vs.toArray) (hz : vs.length ≤ sizeLine)
    (hS : 2 ≤ vs.length → ∀ (h₁ : Heap) (a : Addr), h₁.get? a = some (seqObj "list" vs.toArray 0) → (∀ b o, s.heap.get? b = some o → b ≠ a ∧ h₁.get? b = some o) → SortableO prog w A.in1.in1 { s with heap := h₁ } a vs ltv)
    (h : ∀ out : List Value, Srtd ltv out → Stb ltv out vs.reverse → Q (.ref (s.heap.objs.size + 1)) { s with heap := sortedAll s.heap vs out.toArray.reverse }) : wpAny (model prog w) A (call (.builtin "sorted") [.ref l] [(Str.ofString "reverse", .bool true)]) Q E s := by
  refine call_function_entry_kw kind_sorted plain_sorted entry_sorted ha1 ?_
  unfold Builtin.«sorted»
  refine wpAny_bind (m := checkCount "sorted" 1 1 _) (wpAny_pure (wpAny_bind (collect_tup hl hz (wpAny_bind (wpAny_newList ?_ hz)))))
  have z1 : ((s.heap.push (seqObj "list" #[] 0)).update s.heap.objs.size (Obj.mapSeq (· ++ vs.toArray))).objs.size = s.heap.objs.size + 1 := (Heap.size_update _ _ _).trans (size_push' _ _)
  have g1 : (((s.heap.push (seqObj "list" #[] 0)).update s.heap.objs.size (Obj.mapSeq (· ++ vs.toArray))).push (seqObj "list" vs.toArray 0)).get? (s.heap.objs.size + 1) = some (seqObj "list" vs.toArray 0) := z1 ▸ Heap.get?_push_size _ rfl
  have kp : ∀ b o, s.heap.get? b = some o → b ≠ s.heap.objs.size + 1 ∧ (((s.heap.push (seqObj "list" #[] 0)).update s.heap.objs.size (Obj.mapSeq (· ++ vs.toArray))).push (seqObj "list" vs.toArray 0)).get? b = some o := fun b o q => by
    have lt : b < s.heap.objs.size := Heap.lt_size q
    refine ⟨Nat.ne_of_lt (Nat.lt_succ_of_lt lt), Heap.get?_push_of_some _ ((Heap.get?_update_ne _ _ _ _ (Nat.ne_of_lt lt)).trans (Heap.get?_push_of_some _ q))⟩
  show wpAny _ _ _ _ _ { s with heap := ((s.heap.push (seqObj "list" #[] 0)).update s.heap.objs.size (Obj.mapSeq (· ++ vs.toArray))).push (seqObj "list" vs.toArray 0) }
  rw [z1]
  refine wpAny_bind (wpAny_holding (wpAny_call_entry_kw slot_list_sort ⟨_, g1, rfl⟩ entry_list_sort ?_ (ha2 _)))
  exact list_sort_ordR (b := true) O g1 hz (fun h2 => hS h2 _ _ g1 kp) fun out hs hb => ⟨_, rfl, wpAny_pure ⟨_, rfl, h out hs hb⟩⟩
end
def rSortedRA (K : Fr) : List V → List V → Hp → VK → Prop := fun vs zs H Q => ∃ (a : Addr) (ns : List Int), vs = [V.ref a] ∧ zs = [.bl true] ∧ (SqL K H a (ns.map V.int) ∨ SqT K H a (ns.map V.int)) ∧ ∀ (ms : List Int) (p : Addr), ms.Perm ns → ms.Pairwise (· ≥ ·) → H p = none → Q (.ref p) (upd H p (.lst (ms.map V.int)))
theorem cr_sortedRA {X : Cx} : CallRK X (.builtin "sorted") [Str.ofString "reverse"] (rSortedRA X.K) := by
  intro pins s σ H vs zs us ws Q I r rz h
  obtain ⟨a, ns, rfl, rfl, hs, q⟩ := h
  rcases hs with hs | hs
  · exact cr_sortedRev pins s σ H _ _ us ws Q I r rz ⟨a, ns, rfl, rfl, hs, fun ms p h1 h2 h3 => q ms p h1 h2 h3⟩
  · obtain rfl := Vals.ref1 r
    obtain ⟨w1, rfl, e1⟩ := vals1 rz
    obtain rfl : w1 = Value.bool true := e1
    obtain ⟨its, rv, hl, hz⟩ := I.tuple hs
    have hi := rv.ints
    refine sortedR_tup (PyProof.Rows.args_sorted_rev _ _) (fun _ => PyProof.Rows.args_list_sort_rev _ _) SrtO.swo_int hl (by rw [← rv.length]; exact hz) (fun h2 h₁ a' _ _ => SrtO.ints_sortable hi h2) fun out h1 h2 => ?_
    obtain ⟨ns', k1, k2, k3⟩ := SrtR.ints_outR (b := true) hi h1 h2
    obtain ⟨ep, he'⟩ := PyProof.Rows.sortedAll_at s.heap its out.toArray.reverse
    have hlen : (ns'.map V.int).length ≤ sizeLine := by
      rw [List.length_map, k2.length_eq, ← List.length_map (f := V.int)]; exact hz
    have e0 : (out.toArray.reverse.toList).toArray = out.toArray.reverse := Array.toArray_toList
    exact ⟨.ref _, upd H (s.heap.objs.size + 1) (.lst (ns'.map V.int)), I.laid (t' := s.toks) (fun _ _ => PyProof.Rows.sortedAll_old) (Nat.le_succ _) ⟨hlen, _, ep, vals_of_ints k1, by rw [show (if (true : Bool) = true then out.toArray.reverse else out.toArray) = out.toArray.reverse from rfl, e0]; exact he'⟩, rfl, q _ _ k2 k3 (I.hok.fresh (Nat.le_succ _))⟩
section
variable {c : Cz} {ρ : En} {O : Oh} {Q : D → Oh → Prop} {E : EnL}
theorem k_sumA {K' : Fr} (hK : K' = c.K) {x : D} {ns : List Int} (h : asS O x = some (ns.map D.int)) (q : Q (.int ns.sum) O) : CAR c (rSumA K') [x] O Q := by
  subst hK
  intro F H vs s r z Q' k
  cases r with
  | cons a t =>
    cases t
    obtain ⟨p, ws, rfl, hp, r⟩ := asS_sq s a h
    cases repsD_ints r
    exact ⟨p, ns, rfl, hp, k F H O _ _ (Same.refl F) s (.int _) q⟩
/-- a call with keywords that makes a new list -/
theorem ln_sortR {K' : Fr} (hK : K' = c.K) {ta tk : TA} {Q : List D → Oh → Prop} (q : LA c ta ρ O fun xs O1 => LA c tk ρ O1 fun zs O2 => ∃ x ns, xs = [x] ∧ zs = [.bl true] ∧ asS O2 x = some (ns.map D.int) ∧ ∀ ms : List Int, ms.Perm ns → ms.Pairwise (· ≥ ·) → Q (ms.map D.int) O2) : LN c (tCKw (rSortedRA K') ta tk) ρ O Q := by
  subst hK
  intro F H σ rs s x Q' k
  refine q F H σ rs s x _ fun F1 H1 O1 vs ds s1 st1 rd1 q1 => q1 F1 H1 σ (rs.mono s1) st1 (x.mono s1) _ fun F2 H2 O2 ws es s2 st2 rd2 ⟨y, ns, e1, e2, h, q2⟩ => ?_
  subst e1 e2
  have rd1' := rd1.mono s2
  cases rd1' with
  | cons a t =>
    cases t
    cases rd2 with
    | cons b t =>
      cases t; cases b
      obtain ⟨p, us, rfl, hp, r⟩ := asS_sq st2 a h
      cases repsD_ints r
      exact ⟨p, ns, rfl, rfl, hp, fun ms l hm hs hl => k F2 H2 O2 l _ _ (s1.trans s2) st2 hl repsD_int' (q2 ms hm hs)⟩
theorem o_isB {x y : Bool} (q : Q (.bl (decide (x = y))) O) : O2R c rIsB (.bl x) (.bl y) O Q := fun F H v w s rv rw z Q' k => by
  cases rv; cases rw
  exact ⟨x, y, rfl, rfl, k F H O _ _ (Same.refl F) s (.bl _) q⟩
/-- o[i] op= e in an owned list -/
theorem s_augS {to ti te : TE} {tget : V → V → Hp → VK → Prop} {tip : TIp} {tset : TSet} (q : LE c to ρ O fun o O1 => LE c ti ρ O1 fun i O2 => O2R c tget o i O2 fun x O3 => LE c te ρ O3 fun y O4 => IPR c tip x y O4 fun z O5 => TSR c tset o i z O5 fun O6 => E.nx ρ O6) : LS c (tAugS to ti te tget tip tset) E ρ O := fun F H σ rs s z Dd l =>
  q F H σ rs s z _ fun F1 H1 O1 u o s1 st1 rd1 q1 => q1 F1 H1 σ (rs.mono s1) st1 (z.mono s1) _ fun F2 H2 O2 w i s2 st2 rd2 q2 => by
    have s12 := s1.trans s2
    refine q2 F2 H2 u w st2 (rd1.mono s2) rd2 (z.mono s12) _ fun F3 H3 O3 v x s3 st3 rd3 q3 => ?_
    have s13 := s12.trans s3
    refine q3 F3 H3 σ (rs.mono s13) st3 (z.mono s13) _ fun F4 H4 O4 v4 y s4 st4 rd4 q4 => ?_
    have s14 := s13.trans s4
    refine q4 F4 H4 v v4 st4 (rd3.mono s4) rd4 (z.mono s14) _ fun F5 H5 O5 v5 n s5 st5 rd5 q5 => ?_
    have s15 := s14.trans s5
    exact q5 F5 H5 u w v5 st5 (rd1.mono (((s2.trans s3).trans s4).trans s5)) (rd2.mono ((s3.trans s4).trans s5)) rd5 (z.mono s15) _ fun F6 H6 O6 s6 st6 q6 => l.nx F6 H6 O6 σ ρ (s15.trans s6) (rs.mono (s15.trans s6)) st6 q6
end
def rIsF (K : Fr) (D a : Addr) (cls : Value) (d : Option Addr) : RC := fun xs H Q => cls = .ref D ∧ (d = none ∨ ∃ dx fs, d = some dx ∧ H dx = some (.xd fs)) ∧ rIsE K D a xs H Q
theorem call_isF {X : Cx} {a D : Addr} {cls : Value} {d : Option Addr} {oe : Obj} {pn : List (Addr × Obj)} (C : ExcC X.K D) (hz : Zc cls d oe) (hf : ∃ vs, oe.data = .fields vs) : CallR (X.suite a ((a, oe) :: pn)) (.builtin "isinstance") (rIsF X.K D a cls d) := by
  intro pins s σ H xs us Q I r h
  obtain ⟨rfl, hd, c, cv, b, rfl, hcv, e, q⟩ := h
  have fin : ∀ {od : Option Obj}, PySem.W.InstAt s.heap a oe D od → wpAny (model X.prog X.w) (X.suite a ((a, oe) :: pn)).A (call (.builtin "isinstance") [.ref a, cv]) (EP (X.suite a ((a, oe) :: pn)) pins σ Q) (X.suite a ((a, oe) :: pn)).xe s := fun J =>
    PySem.W.kia_one (kit_exv C) I.kIn J e (fun z => nomatch z) fun tk => ⟨.bl b, H, I.kept (t' := tk) fun _ _ z => z, rfl, q⟩
  cases r with
  | cons rx rr =>
    cases rr with
    | cons rt rr =>
      cases rr; cases rx
      cases hcv _ rt
      obtain ⟨hget, _⟩ := I.pin (a, oe) (List.mem_append.mpr (.inl List.mem_cons_self))
      obtain ⟨vs, hv⟩ := hf
      obtain ⟨oc, od, oda, osl⟩ := oe
      obtain ⟨h1, h2⟩ := hz
      dsimp only at h1 h2 hv
      subst h1 h2 hv
      rcases hd with rfl | ⟨dx, fs, rfl, hx⟩
      · exact fin (od := none) ⟨hget, rfl, rfl, trivial⟩
      · obtain ⟨mA, hns, _⟩ := I.hok dx _ hx
        obtain ⟨od, hod, _⟩ := lookIn_ns hns
        exact fin (od := some od) ⟨hget, rfl, rfl, hod⟩
theorem k_isFo {c : Cz} {O : Oh} {Q : D → Oh → Prop} {K' : Fr} (hK : K' = c.K) {a C C2 : Addr} {dx : Option Addr} {fs : List (Str × D)} {b : Bool} (h : PySem.W.kitOne c.K (.ref C) (.ref C2) = some b) (q : Q (.bl b) O) : CAR c (rIsF K' C a (.ref C) dx) [.exc a dx C fs, .ref C2] O Q := by
  subst hK
  intro F H vs s r z Q' k
  cases r with
  | cons ra t =>
    cases t with
    | cons rb t =>
      cases t; cases rb
      cases ra with
      | excN => exact ⟨rfl, .inl rfl, _, .ref C2, b, rfl, fun u hu => hu, h, k F H O _ _ (Same.refl F) s (.bl _) q⟩
      | excS _ hx _ => exact ⟨rfl, .inr ⟨_, _, rfl, s.same _ _ hx⟩, _, .ref C2, b, rfl, fun u hu => hu, h, k F H O _ _ (Same.refl F) s (.bl _) q⟩
theorem k_isFt {c : Cz} {O : Oh} {Q : D → Oh → Prop} {K' : Fr} (hK : K' = c.K) {a C : Addr} {n : String} {dx : Option Addr} {fs : List (Str × D)} {b : Bool} (h : PySem.W.kitOne c.K (.ref C) (.type n) = some b) (q : Q (.bl b) O) : CAR c (rIsF K' C a (.ref C) dx) [.exc a dx C fs, .ty n] O Q := by
  subst hK
  intro F H vs s r z Q' k
  cases r with
  | cons ra t =>
    cases t with
    | cons rb t =>
      cases t; cases rb
      cases ra with
      | excN => exact ⟨rfl, .inl rfl, _, .type n, b, rfl, fun u hu => hu, h, k F H O _ _ (Same.refl F) s (.bl _) q⟩
      | excS _ hx _ => exact ⟨rfl, .inr ⟨_, _, rfl, s.same _ _ hx⟩, _, .type n, b, rfl, fun u hu => hu, h, k F H O _ _ (Same.refl F) s (.bl _) q⟩
end VL
set_option maxHeartbeats 2000000
namespace VL
open PySem PySem.Spec PyProof.Rows L2 MB
section
variable {c : Cz} {ρ : En} {O : Oh} {Q : D → Oh → Prop} {E : EnL}
theorem k_lenScr {K' : Fr} (hK : K' = c.K) {ns : List Int} (q : Q (.int ns.length) O) : CAR c (rLenQ K') [.scr ns] O Q := by
  subst hK
  intro F H vs s r x Q' k
  cases r with
  | cons a t =>
    cases t
    cases a with
    | scr h =>
      refine ⟨_, ns.map V.int, rfl, .inl (s.same.seq h), ?_⟩
      rw [List.length_map]
      exact k F H O _ _ (Same.refl F) s (.int _) q
/-- a new dict -/
theorem l_dnew (q : ∀ p, O p = none → Q (.ref p) (updO O p (.dk []))) : LE c tDNewK ρ O Q := fun F H σ rs s x Q' k p hp =>
  k F _ (updO O p (.dk [])) _ _ (Same.refl F) (s.newO (o := .dk []) hp ⟨[], upd_same, .nil⟩) (.ref p) (q p (s.fresh hp).1)
theorem ip_I {f : Int → Int → Int} {i j : Int} (q : Q (.int (f i j)) O) : IPR c (ipI f) (.int i) (.int j) O Q := fun F H v w s rv rw z Q' k => by
  cases rv; cases rw
  exact ⟨i, j, rfl, rfl, k F H O _ _ (Same.refl F) s (.int _) q⟩
theorem tyD_dk {p : Addr} {kvs : List (Key × D)} (h : O p = some (.dk kvs)) : tyD O (.ref p) = some "dict" := by
  show (match O p with | some (.lst _) => some "list" | some (.dk _) => some "dict" | _ => none) = _
  rw [h]
end
theorem kit_is' : kitB "int" "str" = some false := by decide +kernel
theorem kit_ss' : kitB "str" "str" = some true := by decide +kernel
theorem kit_bs' : kitB "bool" "str" = some false := by decide +kernel
theorem kit_ns' : kitB "NoneType" "str" = some false := by decide +kernel
theorem kit_ts' : kitB "tuple" "str" = some false := by decide +kernel
theorem kit_dl : kitB "dict" "list" = some false := by decide +kernel
theorem kit_dt : kitB "dict" "tuple" = some false := by decide +kernel
theorem kit_di : kitB "dict" "int" = some false := by decide +kernel
theorem asS_dk {O : Oh} {p : Addr} {kvs : List (Key × D)} (h : O p = some (.dk kvs)) : asS O (.ref p) = none := by
  show (match O p with | some (.lst xs) => some xs | _ => none) = _
  rw [h]
/-- a thing of a known kind, or a dict -/
def KnD (O : Oh) (t : D) : Prop := Kn O t ∨ ∃ p, t = .ref p ∧ O p = some (.dk [])
theorem KnD.ext {O O' : Oh} {x : D} (e : Ext O O') (h : KnD O x) : KnD O' x := h.elim (fun h => .inl (h.ext e)) fun ⟨p, h1, h2⟩ => .inr ⟨p, h1, e p _ h2⟩
/-- k is the first place of xs at which p holds, or there is none -/
theorem o_ixTn {c : Cz} {O : Oh} {Q : D → Oh → Prop} {K' : Fr} (hK : K' = c.K) {xs : List D} {i : Int} (h0 : 0 ≤ i) (h : i < xs.length) (q : ∀ x, xs[i.toNat]? = some x → Q x O) : O2R c (rIxT K') (.tup xs) (.int i) O Q := by
  obtain ⟨x, _, e1, e2⟩ := at_in h0 h
  exact o_ixT hK e2 (q x e1)
theorem o_ixQn {c : Cz} {O : Oh} {Q : D → Oh → Prop} {K' : Fr} (hK : K' = c.K) {y : D} {xs : List D} {i : Int} (hy : asS O y = some xs) (h0 : 0 ≤ i) (h : i < xs.length) (q : ∀ x, x ∈ xs → xs[i.toNat]? = some x → Q x O) : O2R c (rIx K') y (.int i) O Q := by
  obtain ⟨x, hx, e1, e2⟩ := at_in h0 h
  exact o_ixQ hK hy e2 (q x hx e1)
end VL
set_option maxHeartbeats 2000000
namespace VL
open PySem PySem.Spec PyProof.Rows L2 MB
theorem OwnRows.move {O O' : Oh} {r L : Addr} {ps : List Addr} {es : List (List Int)} (h : OwnRows O O' L ps es) (hr : delO O' L r = none) : OwnRows O (updO (delO O' L) r (.lst (ps.map D.ref))) r ps es := by
  have np : r ∉ ps := fun z => by
    obtain ⟨i, hi, ei⟩ := List.getElem_of_mem z
    have hp : ps[i]? = some r := by rw [List.getElem?_eq_getElem hi, ei]
    have := h.each i r (es[i]'(by rw [← h.len]; exact hi)) hp (List.getElem?_eq_getElem _)
    rw [delO_ne (h.free r z).2, this] at hr; cases hr
  have hO : O r = none := by
    by_cases z : r = L
    · subst z; exact h.new
    · rw [delO_ne z, h.rest r z np] at hr; exact hr
  refine ⟨hO, updO_same, h.len, fun i p e hp he => ?_, fun p hp => ⟨(h.free p hp).1, fun z => np (z ▸ hp)⟩, h.nd, fun a h1 h2 => ?_⟩
  · have hm := List.mem_of_getElem? hp
    rw [updO_ne (fun (z : p = r) => np (z ▸ hm)), delO_ne (h.free p hm).2]
    exact h.each i p e hp he
  · rw [updO_ne h1]
    by_cases z : a = L
    · subst z; rw [delO_same, h.new]
    · rw [delO_ne z, h.rest a z h2]
theorem OwnRows.write {O O' : Oh} {r p : Addr} {ps : List Addr} {es : List (List Int)} {i : Nat} {e : List Int} (h : OwnRows O O' r ps es) (hp : ps[i]? = some p) : OwnRows O (updO O' p (.lst (e.map D.int))) r ps (es.set i e) := by
  have hm := List.mem_of_getElem? hp
  refine ⟨h.new, by rw [updO_ne (fun z => (h.free p hm).2 z.symm)]; exact h.own, by rw [List.length_set]; exact h.len, fun j q f hq hf => ?_, h.free, h.nd, fun a h1 h2 => ?_⟩
  · by_cases hij : i = j
    · subst hij
      rw [hp] at hq; cases hq
      rw [List.getElem?_set_self (by rw [← h.len]; exact (List.getElem?_eq_some_iff.mp hp).1)] at hf
      cases hf
      exact updO_same
    · rw [List.getElem?_set_ne hij] at hf
      have nq : q ≠ p := fun z => by
        subst z
        obtain ⟨a1, b1⟩ := List.getElem?_eq_some_iff.mp hp
        obtain ⟨a2, b2⟩ := List.getElem?_eq_some_iff.mp hq
        exact hij ((List.getElem_inj h.nd).mp (b1.trans b2.symm))
      rw [updO_ne nq]
      exact h.each j q f hq hf
  · rw [updO_ne (fun z => h2 (by rw [z]; exact hm))]
    exact h.rest a h1 h2
theorem OwnRows.at {O O' : Oh} {r : Addr} {ps : List Addr} {es : List (List Int)} {i : Nat} (h : OwnRows O O' r ps es) (hi : i < es.length) : ∃ p, ps[i]? = some p ∧ O' p = some (.lst (es[i].map D.int)) := by
  have hi' : i < ps.length := by rw [h.len]; exact hi
  exact ⟨_, List.getElem?_eq_getElem hi', h.each i _ _ (List.getElem?_eq_getElem hi') (List.getElem?_eq_getElem hi)⟩
def delAll (O : Oh) : List Addr → Oh
  | [] => O
  | q :: qs => delAll (delO O q) qs
theorem delAll_ne {a : Addr} : ∀ {qs : List Addr} {O : Oh}, a ∉ qs → delAll O qs a = O a
  | [], _, _ => rfl
  | q :: qs, O, h => by
    show delAll (delO O q) qs a = _
    rw [delAll_ne (fun z => h (List.mem_cons_of_mem _ z)), delO_ne (fun z => h (by rw [z]; exact List.mem_cons_self ..))]
theorem StO.frzAll {K : Fr} {H : Hp} : ∀ {qs : List Addr} {es : List (List D)} {F : Hp} {O : Oh}, StO K F O H → qs.Nodup → qs.length = es.length → (∀ (i : Nat) (q : Addr) (e : List D), qs[i]? = some q → es[i]? = some e → O q = some (.lst e)) →
    ∃ F', Same F F' ∧ StO K F' (delAll O qs) H ∧ RepsD K F' (qs.map V.ref) (es.map D.lst)
  | [], [], F, O, s, _, _, _ => ⟨F, Same.refl _, s, .nil⟩
  | [], _ :: _, _, _, _, _, h, _ => by cases h
  | _ :: _, [], _, _, _, _, h, _ => by cases h
  | q :: qs, e :: es, F, O, s, nd, hl, he => by
    obtain ⟨n1, n2⟩ := List.nodup_cons.mp nd
    obtain ⟨F1, sm, st, rd⟩ := s.freeze (he 0 q e rfl rfl)
    obtain ⟨F2, sm2, st2, rd2⟩ := StO.frzAll (qs := qs) (es := es) st n2 (by simpa using hl) fun i q' e' hq' he' => by
      rw [delO_ne (fun z => n1 (by rw [← z]; exact List.mem_of_getElem? hq'))]
      exact he (i + 1) q' e' (by simpa using hq') (by simpa using he')
    exact ⟨F2, sm.trans sm2, st2, .cons (rd.mono sm2) rd2⟩
theorem reps_refs {K : Fr} {F : Hp} : ∀ {vs : List V} {qs : List Addr}, RepsD K F vs (qs.map D.ref) → vs = qs.map V.ref
  | _, [], h => by cases h; rfl
  | _, q :: qs, h => by
    cases h with
    | cons a t => cases a; rw [reps_refs t]; rfl
section
variable {c : Cz} {ρ : En} {O : Oh} {Q : D → Oh → Prop} {E : EnL}
/-- a list of owned lists is told: from here on they stay -/
theorem l_frzs {te : TE} (O0 : Oh) (q : LE c te ρ O fun d O1 => ∃ (qs : List Addr) (es : List (List D)), d = .lst (qs.map D.ref) ∧ qs.length = es.length ∧ qs.Nodup ∧ (∀ (i : Nat) (p : Addr) (e : List D), qs[i]? = some p → es[i]? = some e → O1 p = some (.lst e)) ∧ (∀ p ∈ qs, O0 p = none) ∧ Ext O0 O1 ∧ Q (.lst (es.map D.lst)) O0) : LE c te ρ O Q := fun F H σ rs s x Q' k =>
  q F H σ rs s x Q' fun F1 H1 O1 v d s1 st1 rd1 ⟨qs, es, e, hl, nd, he, hf, ex, h⟩ => by
    subst e
    obtain ⟨F2, sm, st2, rd2⟩ := st1.frzAll nd hl he
    cases rd1 with
    | lst a r =>
      cases reps_refs r
      refine k F2 H1 O0 _ _ (s1.trans sm) (st2.sub fun b o e => ?_) (.lst (sm _ _ a) rd2) h
      rw [delAll_ne (fun z => by rw [hf b z] at e; cases e)]
      exact ex b o e
theorem o_ixTi {K' : Fr} (hK : K' = c.K) {xs : List D} {i : Int} (ns : List Int) (e : xs = ns.map D.int) (h0 : 0 ≤ i) (h : i < ns.length) (q : ∀ v ∈ ns, Q (.int v) O) : O2R c (rIx K') (.tup xs) (.int i) O Q := by
  subst e
  refine o_ixQn hK rfl h0 (by rw [List.length_map]; exact h) fun x hx _ => ?_
  obtain ⟨v, hv, rfl⟩ := List.mem_map.mp hx
  exact q v hv
end
theorem Ext.upd {O O1 : Oh} {s : Addr} {o : OD} (h : Ext O O1) : Ext (updO O s o) (updO O1 s o) := fun a u e => by
  by_cases z : a = s
  · subst z; rw [updO_same] at e ⊢; exact e
  · rw [updO_ne z] at e ⊢; exact h a u e
def keepO (O : Oh) (d : D) : Bool := match asS O d with
  | some xs => !xs.isEmpty
  | none => false
theorem filt_zip {keep : D → Bool} : ∀ {ps : List Addr} {es : List (List Int)}, ps.length = es.length → (∀ (i : Nat) (p : Addr) (e : List Int), ps[i]? = some p → es[i]? = some e → keep (.ref p) = !e.isEmpty) →
    (ps.map D.ref).filter keep = (((ps.zip es).filter fun z => !z.2.isEmpty).map (·.1)).map D.ref
  | [], [], _, _ => rfl
  | [], _ :: _, h, _ => by cases h
  | _ :: _, [], h, _ => by cases h
  | p :: ps, e :: es, hl, h => by
    have ih := filt_zip (keep := keep) (ps := ps) (es := es) (by simpa using hl) fun i q f hq hf => h (i + 1) q f (by simpa using hq) (by simpa using hf)
    have h0 := h 0 p e rfl rfl
    rw [List.map_cons, List.zip_cons_cons, List.filter_cons, List.filter_cons, h0]
    cases e with
    | nil => exact ih
    | cons a e => show D.ref p :: _ = _; rw [ih]; rfl
/-- the rows of a new list of lists that are not empty -/
structure Kept (O O' : Oh) (ps : List Addr) (es : List (List Int)) (qs : List Addr) (fs : List (List Int)) : Prop where
  fil : (ps.map D.ref).filter (keepO O') = qs.map D.ref
  len : qs.length = (fs.map fun f => f.map D.int).length
  nd : qs.Nodup
  each : ∀ (i : Nat) (p : Addr) (e : List D), qs[i]? = some p → (fs.map fun f => f.map D.int)[i]? = some e → O' p = some (.lst e)
  free : ∀ p ∈ qs, O p = none
  sub : ∀ f ∈ fs, f ∈ es ∧ f ≠ []
  le : fs.length ≤ es.length
theorem OwnRows.kept {O O' : Oh} {r : Addr} {ps : List Addr} {es : List (List Int)} (h : OwnRows O O' r ps es) : ∃ qs fs, Kept O O' ps es qs fs := by
  have mz : ∀ z ∈ (ps.zip es).filter (fun z => !z.2.isEmpty), ∃ j : Nat, ps[j]? = some z.1 ∧ es[j]? = some z.2 ∧ z.2 ≠ [] := fun z hz => by
    obtain ⟨h1, h2⟩ := List.mem_filter.mp hz
    obtain ⟨j, hj, e⟩ := List.getElem_of_mem h1
    have e' : (ps.zip es)[j]? = some (z.1, z.2) := by rw [List.getElem?_eq_getElem hj, e]
    obtain ⟨a, b⟩ := List.getElem?_zip_eq_some.mp e'
    exact ⟨j, a, b, fun y => by rw [y] at h2; cases h2⟩
  have sl : (((ps.zip es).filter fun z => !z.2.isEmpty).map (·.1)).Sublist ps := by
    have := (List.filter_sublist (p := fun z : Addr × List Int => !z.2.isEmpty) (l := ps.zip es)).map (fun z : Addr × List Int => z.1)
    have e : (ps.zip es).map (fun z : Addr × List Int => z.1) = ps := List.map_fst_zip (by rw [h.len]; exact Nat.le_refl _)
    rwa [e] at this
  refine ⟨((ps.zip es).filter fun z => !z.2.isEmpty).map (·.1), ((ps.zip es).filter fun z => !z.2.isEmpty).map (·.2), ?_, by rw [List.length_map, List.length_map, List.length_map], sl.nodup h.nd, fun i p e hp he => ?_, fun p hp => (h.free p (sl.subset hp)).1, fun f hf => ?_, ?_⟩
  · refine filt_zip h.len fun i p e hp he => ?_
    unfold keepO
    rw [asS_own (h.each i p e hp he)]
    cases e <;> rfl
  · rw [List.getElem?_map] at hp
    rw [List.getElem?_map, List.getElem?_map] at he
    cases hz : ((ps.zip es).filter fun z => !z.2.isEmpty)[i]? with
    | none => rw [hz] at hp; cases hp
    | some z =>
      rw [hz] at hp he
      cases hp; cases he
      obtain ⟨j, a, b, _⟩ := mz z (List.mem_of_getElem? hz)
      exact h.each j _ _ a b
  · obtain ⟨z, hz, rfl⟩ := List.mem_map.mp hf
    obtain ⟨j, a, b, n⟩ := mz z hz
    exact ⟨List.mem_of_getElem? b, n⟩
  · rw [List.length_map]
    refine Nat.le_trans (List.length_filter_le _ _) ?_
    rw [List.length_zip, h.len]
    omega
theorem erase_cut (xs : List D) (i : Nat) (h : i < xs.length) : cutD xs none (some (i : Int)) ++ cutD xs (some ((i : Int) + 1)) none = xs.eraseIdx i := by
  rw [cut_le, show ((i : Int) + 1) = ((i + 1 : Nat) : Int) by omega, cut_ge, List.eraseIdx_eq_take_drop_succ]
end VL
set_option maxHeartbeats 2000000
namespace VL
open PySem PySem.Spec PyProof.Rows L2 MB
theorem get_list {X : Cx} : PGet X (rIxL X.K) := by
  intro pins s σ H o i ov iv Q I ro ri h
  obtain ⟨p, xs, k, z, rfl, rfl, hq, he, q⟩ := h
  cases ro
  obtain ⟨t, rfl⟩ := ri
  obtain ⟨its, r, pl, hz⟩ := I.list hq
  obtain ⟨j, h1, h2, h3, h4, h5⟩ := atI_get he
  obtain ⟨w, ew, rw'⟩ := r.get h2
  have hl := r.length
  have hn := L2.line63
  have fin : EP X pins σ Q w s := ⟨z, H, I, rw', q⟩
  by_cases h0 : 0 ≤ k
  · have hj : k.toNat = j := by
      rw [seqIndex_of h0 h5] at h1
      exact Option.some.inj h1
    exact wpAny_getItem_list pl.isList h0 (by omega) (by rw [hj]; simpa using ew) fin
  · have hj : (k + (its.toArray.size : Int)).toNat = j := by
      rw [seqIndex_neg (by omega) h4] at h1
      rw [List.size_toArray, ← hl]
      exact Option.some.inj h1
    exact wpAny_getItem_list_neg pl.isList (by omega) (by rw [List.size_toArray] <;> omega) (by omega) (by rw [hj]; simpa using ew) fin
theorem asS_asL {O : Oh} {x : D} {xs : List D} (h : asL O x = some xs) : asS O x = some xs := by
  cases x with
  | tup ys => cases h
  | _ => exact h
end VL
set_option maxHeartbeats 2000000
namespace VL
open PySem PySem.Spec PyProof.Rows L2 MB
def rLcm : List V → Hp → VK → Prop := fun vs H Q => ∃ a b : Nat, vs = [.int a, .int b] ∧ a < 2 ^ 6000 ∧ b < 2 ^ 6000 ∧ Q (.int ((Nat.lcm a b : Nat) : Int)) H
set_option exponentiation.threshold 20000 in
theorem cr_lcm {X : Cx} : CallR X (.builtin "math.lcm") rLcm := by
  intro pins s σ H vs us Q I r h
  obtain ⟨a, b, rfl, ha, hb, q⟩ := h
  obtain ⟨t, u, rfl⟩ := Vals.int2 r
  have la : (max 1 a).log2 ≤ 5999 := PySem.W.mg_log (by
    have : (1 : Nat) < 2 ^ 6000 := Nat.one_lt_two_pow (by decide)
    omega)
  have lb : (max a b).log2 ≤ 5999 := PySem.W.mg_log (by omega)
  have hz : Nat.lcm a b < 2 ^ 12000 := by
    have h1 : Nat.lcm a b ≤ a * b := Nat.div_le_self _ _
    have h2 : a * b < 2 ^ 6000 * 2 ^ 6000 := Nat.mul_lt_mul'' ha hb
    rw [← Nat.pow_add] at h2
    exact Nat.lt_of_le_of_lt h1 h2
  have hl : (Nat.lcm a b).log2 ≤ 11999 := PySem.W.mg_log (by omega)
  have e2 : (((Nat.lcm 1 (a : Int).natAbs).lcm (b : Int).natAbs : Nat) : Int) = ((Nat.lcm a b : Nat) : Int) := by
    rw [Int.natAbs_natCast, Int.natAbs_natCast, Nat.lcm_one_left]
  have g := PySem.W.mg_run_lcm (a : Int) t (b : Int) u (by rw [Int.natAbs_natCast]; omega) (by rw [Int.natAbs_natCast, Int.natAbs_natCast]; omega) (by
    rw [e2, Int.natAbs_natCast]
    have : bitsLine = 134217728 := by decide
    omega)
  rw [e2] at g
  exact call_function_meets PySem.W.MGF.kind_lcm PySem.W.MGF.plain_lcm PySem.W.MGF.entry_lcm (PySem.W.MGF.args_lcm _ _) g.meets ⟨.int _, H, I.tok _, ⟨_, rfl⟩, q⟩
def lcmB (K : Fr) : Bool := match PySem.W.nsIn K mainGlobals "lcm" with
  | some (some (.builtin n)) => decide (n = "math.lcm")
  | _ => false
theorem TxtV.lcm {fa : List He.Fa} {fn : List He.DefD} {cs : List (Str × List Str)} {ex : Fr → Bool} {K : Fr} {mg : Str → Option Value} (T : TxtV fa fn cs ex K mg) (c2 : lcmB K = true) : mg "lcm" = some (.builtin "math.lcm") := by
  obtain ⟨h', X, G⟩ := T.h
  unfold lcmB at c2
  split at c2
  · rename_i n q
    rw [of_decide_eq_true c2] at q
    exact PySem.W.mg_of X G q
  · cases c2
theorem star_lst {X : Cx} {pins : List (Addr × Obj)} {σ : L2.St} {H : Hp} {s : Shared} {a : Addr} {xs : List V} {E : Value → Shared → Prop} {Q : List Value → Shared → Prop} (I : Inv X pins σ H s) (h : SqL X.K H a xs) (hQ : ∀ us s', Inv X pins σ H s' → Vals xs us → Q us s') :
    PySem.W.StarOf (model X.prog X.w) X.A E (.ref a) Q s := by
  obtain ⟨its, r, ⟨o, n, ho, hc, _, hd⟩, hz⟩ := I.list h
  have hT : s.TypeIs (.ref a) "list" := ⟨o, ho, hc⟩
  have hl := r.length
  have z : wpAny (model X.prog X.w) X.A (collect (.ref a)) Q E s := by
    refine wpAny_collect_seq a (.inl rfl) ho hc hd (fun h' hk => ?_) (by rw [List.size_toArray]; omega)
    have e : its.toArray.toList = its := by simp
    rw [e]
    exact hQ its _ (I.kept (t' := s.toks) hk) r
  unfold PySem.W.StarOf notIterableAtAll
  exact wpAny_bind (wpAny_specialOf hT PySem.F.slot_list_iter.lookup (wpAny_pure ⟨rfl, z⟩))
def tStar (K : Fr) (te : TE) (tr : TA) : TA := fun σ H Q => te σ H fun x H1 => ∃ a vs, x = .ref a ∧ (SqL K H1 a vs ∨ SqT K H1 a vs) ∧ tr σ H1 fun ws H2 => Q (vs ++ ws) H2
theorem pa_star {X : Cx} {e : Expr} {es : List Expr} {p : Pos} {te : TE} {tr : TA} (ha : PE X e te) (hr : PA X es tr) (hs : starEach (.Starred e p :: es) X.env = (true, eval e X.env) :: starEach es X.env := by rfl) : PA X (.Starred e p :: es) (tStar X.K te tr) := by
  refine ⟨fun pos pins s σ H Q I h => ?_⟩
  rw [hs]
  show wpAny _ _ (spliced ((true, (do let v ← eval e X.env; standAt pos; pure v)) :: backTo pos (starEach es X.env))) _ _ s
  refine PySem.W.ks_spliced (thn (ha.run pins s σ H _ I h) fun u s1 ⟨x, H1, I1, r1, a, vs, e, hq, q1⟩ => ?_)
  subst e
  obtain rfl : u = Value.ref a := r1
  rcases hq with hq | hq
  · exact star_lst I1 hq fun us s2 I2 rv => thn (hr.run pos pins s2 σ H1 _ I2 q1) fun ws s3 ⟨xs, H3, I3, r3, q3⟩ => ⟨vs ++ xs, H3, I3, rv.append r3, q3⟩
  · exact star_tup I1 hq fun us s2 I2 rv => thn (hr.run pos pins s2 σ H1 _ I2 q1) fun ws s3 ⟨xs, H3, I3, r3, q3⟩ => ⟨vs ++ xs, H3, I3, rv.append r3, q3⟩
section
variable {c : Cz} {ρ : En} {O : Oh} {Q : D → Oh → Prop}
theorem la_star {K' : Fr} (hK : K' = c.K) {te : TE} {tr : TA} {Q : List D → Oh → Prop} (q : LE c te ρ O fun x O1 => ∃ xs, asS O1 x = some xs ∧ LA c tr ρ O1 fun ys O2 => Q (xs ++ ys) O2) : LA c (tStar K' te tr) ρ O Q := by
  subst hK
  intro F H σ rs s z Q' k
  refine q F H σ rs s z _ fun F1 H1 O1 v d s1 st1 rd1 ⟨xs, h, q1⟩ => ?_
  obtain ⟨p, vs, rfl, hp, r⟩ := asS_sq st1 rd1 h
  exact ⟨p, vs, rfl, hp, q1 F1 H1 σ (rs.mono s1) st1 (z.mono s1) _ fun F2 H2 O2 ws ds s2 st2 rd2 q2 => k F2 H2 O2 _ _ (s1.trans s2) st2 ((r.mono s2).append rd2) q2⟩
theorem k_lcm {a b : Nat} (ha : a < 2 ^ 6000) (hb : b < 2 ^ 6000) (q : Q (.int ((Nat.lcm a b : Nat) : Int)) O) : CAR c rLcm [.int a, .int b] O Q := fun F H vs s r x Q' k => by
  cases r with
  | cons a t =>
    cases t with
    | cons b t => cases t; cases a; cases b; exact ⟨_, _, rfl, ha, hb, k F H O _ _ (Same.refl F) s (.int _) q⟩
theorem k_max {K' : Fr} (hK : K' = c.K) {x : D} {ns : List Int} (h : asL O x = some (ns.map D.int)) (h0 : ns ≠ []) (q : ∀ M, M ∈ ns → (∀ a ∈ ns, a ≤ M) → Q (.int M) O) : CAR c (rMax K') [x] O Q := by
  subst hK
  intro F H vs s r x Q' k
  cases r with
  | cons a t =>
    cases t
    obtain ⟨p, ws, rfl, hp, r⟩ := asL_sq s a h
    cases repsD_ints r
    exact ⟨p, ns, rfl, .of hp, List.length_pos_iff.mpr h0, fun M h1 h2 => k F H O _ _ (Same.refl F) s (.int _) (q M h1 h2)⟩
theorem k_min {K' : Fr} (hK : K' = c.K) {x : D} {ns : List Int} (h : asL O x = some (ns.map D.int)) (h0 : ns ≠ []) (q : ∀ M, M ∈ ns → (∀ a ∈ ns, M ≤ a) → Q (.int M) O) : CAR c (rMin K') [x] O Q := by
  subst hK
  intro F H vs s r x Q' k
  cases r with
  | cons a t =>
    cases t
    obtain ⟨p, ws, rfl, hp, r⟩ := asL_sq s a h
    cases repsD_ints r
    exact ⟨p, ns, rfl, .of hp, List.length_pos_iff.mpr h0, fun M h1 h2 => k F H O _ _ (Same.refl F) s (.int _) (q M h1 h2)⟩
end
end VL
set_option maxHeartbeats 2000000
namespace VL
open PySem PySem.Spec PyProof.Rows L2 MB
def rl (a sc : Scope) : Scope := { a with names := a.names.map fun (n, k) => if (k == NameKind.free && sc.kind == .function && sc.names.lookup n == some .cell) then (n, NameKind.cell) else (n, k) }
theorem relabel_rl (a : Scope) (e : Env) : relabel a e = rl a e.scope := rfl
end VL
set_option maxHeartbeats 2000000
namespace VL
open PySem PySem.Spec PyProof.Rows L2 MB
section
variable {c : Cz} {ρ : En} {O : Oh}
theorem ln_rg2 {ta tb : TE} {Q : List D → Oh → Prop} (q : LE c ta ρ O fun x O1 => LE c tb ρ O1 fun y O2 => ∃ i j, x = .int i ∧ y = .int j ∧ (0 ≤ i ∧ i ≤ j ∧ j ≤ 100000) ∧ Q (rngD i (j - i).toNat) O2) : LN c (tLstRg (tRg2 ta tb)) ρ O Q := fun F H σ rs s z Q' k =>
  q F H σ rs s z _ fun F1 H1 O1 v d s1 st1 rd1 q1 => q1 F1 H1 σ (rs.mono s1) st1 (z.mono s1) _ fun F2 H2 O2 w e s2 st2 rd2 ⟨i, j, e1, e2, hn, q2⟩ => by
    subst e1; subst e2; cases rd1; cases rd2
    refine ⟨i, j, rfl, rfl, ?_, fun p hp => k F2 H2 O2 p _ (rngD i (j - i).toNat) (s1.trans s2) st2 hp ?_ q2⟩
    · exact RgOk.of_le (by omega) (by omega) (by omega) (by omega)
    · exact rg_reps (K := c.K) (F := F2) (i := i) (j := j)
end
end VL
set_option maxHeartbeats 2000000
namespace VL
open PySem PySem.Spec PyProof.Rows L2 MB
def dkLook (kvs : List (Key × D)) (k : Key) : Option D := (kvs.find? fun kv => decide (kv.1 = k)).map (·.2)
def dkPut (kvs : List (Key × D)) (k : Key) (d : D) : List (Key × D) := if (kvs.any fun kv => decide (kv.1 = k)) = true then kvs.map (fun kv => if kv.1 = k then (kv.1, d) else kv) else kvs ++ [(k, d)]
theorem dkLook_pos {p : Key × D} {r : List (Key × D)} {k : Key} (e : p.1 = k) : dkLook (p :: r) k = some p.2 := by
  unfold dkLook; rw [List.find?_cons_of_pos (by simpa using e)]; rfl
theorem dkLook_neg {p : Key × D} {r : List (Key × D)} {k : Key} (e : ¬ p.1 = k) : dkLook (p :: r) k = dkLook r k := by
  unfold dkLook; rw [List.find?_cons_of_neg (by simpa using e)]
section
variable {K : Fr} {F : Hp}
theorem RepK.look {k : Key} : ∀ {vs : List (Key × V)} {ds : List (Key × D)}, RepK K F vs ds → (valV vs k = none ∧ dkLook ds k = none) ∨ ∃ v d, valV vs k = some v ∧ dkLook ds k = some d ∧ RepD K F v d
  | _, _, .nil => .inl ⟨rfl, rfl⟩
  | _, _, .cons (x := x) a t => by
    by_cases e : x = k
    · exact .inr ⟨_, _, valV_pos (p := (x, _)) e, dkLook_pos (p := (x, _)) e, a⟩
    · rw [valV_neg (p := (x, _)) e, dkLook_neg (p := (x, _)) e]; exact RepK.look t
theorem RepK.len : ∀ {vs : List (Key × V)} {ds : List (Key × D)}, RepK K F vs ds → vs.length = ds.length
  | _, _, .nil => rfl
  | _, _, .cons _ t => by rw [List.length_cons, List.length_cons, RepK.len t]
theorem RepK.anyE {k : Key} : ∀ {vs : List (Key × V)} {ds : List (Key × D)}, RepK K F vs ds → (vs.any fun kv => decide (kv.1 = k)) = (ds.any fun kv => decide (kv.1 = k))
  | _, _, .nil => rfl
  | _, _, .cons _ t => by rw [List.any_cons, List.any_cons, RepK.anyE t]
theorem RepK.append : ∀ {vs ws : List (Key × V)} {ds es : List (Key × D)}, RepK K F vs ds → RepK K F ws es → RepK K F (vs ++ ws) (ds ++ es)
  | _, _, _, _, .nil, s => s
  | _, _, _, _, .cons a t, s => .cons a (RepK.append t s)
theorem RepK.mapP {k : Key} {v : V} {d : D} (r : RepD K F v d) : ∀ {vs : List (Key × V)} {ds : List (Key × D)}, RepK K F vs ds → RepK K F (vs.map fun kv => if kv.1 = k then (kv.1, v) else kv) (ds.map fun kv => if kv.1 = k then (kv.1, d) else kv)
  | _, _, .nil => .nil
  | _, _, .cons (x := x) a t => by
    rw [List.map_cons, List.map_cons]
    by_cases e : x = k
    · rw [if_pos e, if_pos e]; exact .cons r (RepK.mapP r t)
    · rw [if_neg e, if_neg e]; exact .cons a (RepK.mapP r t)
theorem RepK.put {k : Key} {v : V} {d : D} {vs : List (Key × V)} {ds : List (Key × D)} (h : RepK K F vs ds) (r : RepD K F v d) : RepK K F (putK vs k v) (dkPut ds k d) := by
  unfold putK dkPut
  rw [RepK.anyE h]
  split
  · exact RepK.mapP r h
  · exact h.append (.cons r .nil)
theorem RepK.vals : ∀ {vs : List (Key × V)} {ds : List (Key × D)}, RepK K F vs ds → RepsD K F (vs.map (·.2)) (ds.map (·.2))
  | _, _, .nil => .nil
  | _, _, .cons a t => .cons a (RepK.vals t)
end
section
variable {c : Cz} {ρ : En} {O : Oh} {Q : D → Oh → Prop} {E : EnL}
theorem dk_get {F H : Hp} {p : Addr} {kvs : List (Key × D)} (s : StO c.K F O H) (h : O p = some (.dk kvs)) : ∃ vs, H p = some (.dK vs) ∧ RepK c.K F vs kvs := (s.own p _ h).2
theorem l_din {ty td : TE} (q : LE c ty ρ O fun y O1 => LE c td ρ O1 fun x O2 => ∃ a i kvs, x = .ref a ∧ y = .int i ∧ O2 a = some (.dk kvs) ∧ Q (.bl (dkLook kvs (.inl i)).isSome) O2) : LE c (tDIn ty td) ρ O Q := fun F H σ rs s x Q' k =>
  q F H σ rs s x _ fun F1 H1 O1 v d s1 st1 rd1 q1 => q1 F1 H1 σ (rs.mono s1) st1 (x.mono s1) _ fun F2 H2 O2 w e s2 st2 rd2 ⟨a, i, kvs, e1, e2, ho, q2⟩ => by
    subst e1 e2
    cases rd1; cases rd2
    obtain ⟨vs, hd, rk⟩ := dk_get st2 ho
    refine ⟨a, valV vs (.inl i), rfl, .inl ⟨vs, .inl i, .inl hd, rfl, rfl⟩, ?_⟩
    refine k F2 H2 O2 _ _ (s1.trans s2) st2 (.bl _) ?_
    rcases rk.look (k := .inl i) with ⟨h1, h2⟩ | ⟨v, d, h1, h2, _⟩ <;> rw [h2] at q2 <;> rw [h1] <;> exact q2
theorem l_dnotin {ty td : TE} (q : LE c ty ρ O fun y O1 => LE c td ρ O1 fun x O2 => ∃ a i kvs, x = .ref a ∧ y = .int i ∧ O2 a = some (.dk kvs) ∧ Q (.bl (!(dkLook kvs (.inl i)).isSome)) O2) : LE c (tDNotIn ty td) ρ O Q := fun F H σ rs s x Q' k =>
  q F H σ rs s x _ fun F1 H1 O1 v d s1 st1 rd1 q1 => q1 F1 H1 σ (rs.mono s1) st1 (x.mono s1) _ fun F2 H2 O2 w e s2 st2 rd2 ⟨a, i, kvs, e1, e2, ho, q2⟩ => by
    subst e1 e2
    cases rd1; cases rd2
    obtain ⟨vs, hd, rk⟩ := dk_get st2 ho
    refine ⟨a, valV vs (.inl i), rfl, .inl ⟨vs, .inl i, .inl hd, rfl, rfl⟩, ?_⟩
    refine k F2 H2 O2 _ _ (s1.trans s2) st2 (.bl _) ?_
    rcases rk.look (k := .inl i) with ⟨h1, h2⟩ | ⟨v, d, h1, h2, _⟩ <;> rw [h2] at q2 <;> rw [h1] <;> exact q2
theorem l_dget {td ty : TE} (q : LE c td ρ O fun x O1 => LE c ty ρ O1 fun y O2 => ∃ a i kvs d, x = .ref a ∧ y = .int i ∧ O2 a = some (.dk kvs) ∧ dkLook kvs (.inl i) = some d ∧ Q d O2) : LE c (tDGet td ty) ρ O Q := fun F H σ rs s x Q' k =>
  q F H σ rs s x _ fun F1 H1 O1 v d s1 st1 rd1 q1 => q1 F1 H1 σ (rs.mono s1) st1 (x.mono s1) _ fun F2 H2 O2 w e s2 st2 rd2 ⟨a, i, kvs, d2, e1, e2, ho, hl, q2⟩ => by
    subst e1 e2
    cases rd1; cases rd2
    obtain ⟨vs, hd, rk⟩ := dk_get st2 ho
    rcases rk.look (k := .inl i) with ⟨_, h2⟩ | ⟨v, d, h1, h2, r⟩
    · rw [h2] at hl; cases hl
    · rw [h2] at hl; cases hl
      exact ⟨a, v, rfl, .inl ⟨vs, .inl i, .inl hd, rfl, h1.symm⟩, k F2 H2 O2 _ _ (s1.trans s2) st2 r q2⟩
theorem s_dput {td ty tv : TE} (q : LE c tv ρ O fun v O1 => LE c td ρ O1 fun x O2 => LE c ty ρ O2 fun y O3 => ∃ a i kvs, x = .ref a ∧ y = .int i ∧ O3 a = some (.dk kvs) ∧ kvs.length < sizeLine ∧ E.nx ρ (updO O3 a (.dk (dkPut kvs (.inl i) v)))) : LS c (sDPut td ty tv) E ρ O := fun F H σ rs s x Dd l =>
  q F H σ rs s x _ fun F1 H1 O1 u d s1 st1 rd1 q1 => q1 F1 H1 σ (rs.mono s1) st1 (x.mono s1) _ fun F2 H2 O2 v e s2 st2 rd2 q2 => by
    have s12 := s1.trans s2
    refine q2 F2 H2 σ (rs.mono s12) st2 (x.mono s12) _ fun F3 H3 O3 w f s3 st3 rd3 ⟨a, i, kvs, e1, e2, ho, hz, q3⟩ => ?_
    subst e1 e2
    cases rd2; cases rd3
    obtain ⟨vs, hd, rk⟩ := dk_get st3 ho
    have s13 := s12.trans s3
    have s23 := s2.trans s3
    exact ⟨a, _, rfl, .inl ⟨vs, .inl i, hd, rfl, by rw [rk.len]; exact hz, rfl⟩, l.nx F3 _ _ σ ρ s13 (rs.mono s13) (st3.write (o' := .dk (dkPut kvs (.inl i) d)) ho ⟨_, upd_same, rk.put (rd1.mono s23)⟩) q3⟩
theorem l_dsetd {td ty tx : TE} (q : LE c td ρ O fun x O1 => ∃ a, x = .ref a ∧ (∃ kvs, O1 a = some (.dk kvs)) ∧ LE c ty ρ O1 fun y O2 => LE c tx ρ O2 fun z O3 => ∃ i kvs, y = .int i ∧ O3 a = some (.dk kvs) ∧ kvs.length < sizeLine ∧ (∀ d, dkLook kvs (.inl i) = some d → Q d O3) ∧ (dkLook kvs (.inl i) = none → Q z (updO O3 a (.dk (dkPut kvs (.inl i) z))))) : LE c (tDSetd td ty tx) ρ O Q := fun F H σ rs s x Q' k =>
  q F H σ rs s x _ fun F1 H1 O1 v d s1 st1 rd1 ⟨a, e1, ⟨kv1, ho1⟩, q1⟩ => by
    subst e1
    cases rd1
    obtain ⟨us, hd1, _⟩ := dk_get st1 ho1
    refine ⟨a, rfl, .inl ⟨us, .inl hd1⟩, ?_⟩
    refine q1 F1 H1 σ (rs.mono s1) st1 (x.mono s1) _ fun F2 H2 O2 w e s2 st2 rd2 q2 => ?_
    have s12 := s1.trans s2
    refine q2 F2 H2 σ (rs.mono s12) st2 (x.mono s12) _ fun F3 H3 O3 z f s3 st3 rd3 ⟨i, kvs, e2, ho, hz, qa, qb⟩ => ?_
    subst e2
    cases rd2
    obtain ⟨vs, hd, rk⟩ := dk_get st3 ho
    have s13 := s12.trans s3
    refine ⟨vs, .inl i, hd, rfl, by rw [rk.len]; exact hz, fun v hv => ?_, fun hn => ?_⟩
    · rcases rk.look (k := .inl i) with ⟨h1, _⟩ | ⟨v', d, h1, h2, r⟩
      · rw [h1] at hv; cases hv
      · rw [h1] at hv; cases hv
        exact k F3 H3 O3 _ _ s13 st3 r (qa d h2)
    · rcases rk.look (k := .inl i) with ⟨_, h2⟩ | ⟨v', d, h1, h2, r⟩
      · exact k F3 _ _ _ _ s13 (st3.write (o' := .dk (dkPut kvs (.inl i) f)) ho ⟨_, upd_same, rk.put rd3⟩) rd3 (qb h2)
      · rw [h1] at hn; cases hn
/-- {k: v} -/
theorem l_disp1 {tk tv : TE} (q : ∀ p, O p = none → LE c tk ρ (updO O p (.dk [])) fun x O1 => LE c tv ρ O1 fun y O2 => O2 p = some (.dk []) ∧ ∃ i, x = .int i ∧ Q (.ref p) (updO O2 p (.dk [(.inl i, y)]))) : LE c (tDisp [(tk, tv)]) ρ O Q := fun F H σ rs s x Q' k => by
  intro p hp
  have st0 : StO c.K F (updO O p (.dk [])) (upd H p (.dK [])) := s.newO (o := .dk []) hp ⟨[], upd_same, .nil⟩
  show tk σ (upd H p (.dK [])) fun x H1 => tv σ H1 fun y H2 => _
  refine q p (s.fresh hp).1 F _ σ rs st0 x _ fun F1 H1 O1 v d s1 st1 rd1 q1 => ?_
  refine q1 F1 H1 σ (rs.mono s1) st1 (x.mono s1) _ fun F2 H2 O2 w e s2 st2 rd2 ⟨ho, i, e1, q2⟩ => ?_
  subst e1
  cases rd1
  obtain ⟨vs, hd, rk⟩ := dk_get st2 ho
  cases rk
  refine ⟨hd, [(.inl i, w)], rfl, by simp, ?_⟩
  exact k F2 _ _ _ _ (s1.trans s2) (st2.write (o' := .dk [(.inl i, e)]) ho ⟨[(.inl i, w)], upd_same, .cons rd2 .nil⟩) (.ref p) q2
/-- a new list made while a dict is walked -/
theorem ln_lock {te : TE} {Q : List D → Oh → Prop} (p : Addr) (kvs : List (Key × D)) (ho : O p = some (.dk kvs)) (q : ∀ od vs, LN c te ρ (updO O p (.fdk od vs kvs)) fun ys O1 => O1 p = some (.fdk od vs kvs) ∧ Q ys (updO O1 p (.dk kvs))) : LN c (tLockE te) ρ O Q := fun F H σ rs s x Q' k => by
  obtain ⟨vs, hd, rk⟩ := dk_get s ho
  refine ⟨p, _, hd, trivial, fun od => ?_⟩
  refine q od vs F _ σ rs (s.write (o' := .fdk od vs kvs) ho ⟨upd_same, rk⟩) x _ fun F1 H1 O1 L us ds s1 st1 hL rd1 ⟨ho1, q1⟩ => ?_
  obtain ⟨_, h1, rk1⟩ := st1.own p _ ho1
  have ne : p ≠ L := fun z => by subst z; rw [hL] at h1; cases h1
  refine ⟨by rw [upd_ne ne]; exact h1, ?_⟩
  have e : upd (upd H1 L (.lst us)) p (.dK vs) = upd (upd H1 p (.dK vs)) L (.lst us) := by
    funext b
    by_cases hb : b = p
    · subst hb; rw [upd_same, upd_ne ne, upd_same]
    · rw [upd_ne hb]
      by_cases hl : b = L
      · subst hl; rw [upd_same, upd_same]
      · rw [upd_ne hl, upd_ne hl, upd_ne hb]
  rw [e]
  exact k F1 _ _ L us ds s1 (st1.write (o' := .dk kvs) ho1 ⟨vs, upd_same, rk1⟩) (by rw [upd_ne (Ne.symm ne)]; exact hL) rd1 q1
theorem dw_vals {K : Fr} {F : Hp} {p : Addr} {od : Obj} {vs : List (Key × V)} {kvs : List (Key × D)} (hl : vs.length = kvs.length) : DW K F (Itd p od vs) (kvs.map (·.2)) (fun O' => O' p = some (.fdk od vs kvs)) := by
  refine ⟨fun H' => H' p = some (.frz od (.dK vs)), fun i H' x H2 => H2 = H' ∧ ∃ k, vs[i]? = some (k, x), ?_, ?_⟩
  · rw [List.length_map, ← hl]; exact walk_values
  · refine ⟨fun F' H' O' s1 st1 g => (st1.own p _ g).2.1, fun i F' H' O' x H2 s1 st1 g hi ⟨e, k, hk⟩ => ?_⟩
    subst e
    have r : RepsD K F' (vs.map (·.2)) (kvs.map (·.2)) := RepK.vals (st1.own p _ g).2.2
    obtain ⟨d, e1, e2⟩ := r.at (i := i) (v := x) (by rw [List.getElem?_map, hk]; rfl)
    exact ⟨F', d, Same.refl _, st1, e2, e1⟩
theorem i_vals {td : TE} {Q : List D → (Oh → Prop) → Oh → Prop} (q : LE c td ρ O fun x O1 => ∃ p od vs kvs, x = .ref p ∧ O1 p = some (.fdk od vs kvs) ∧ Q (kvs.map (·.2)) (fun O2 => O2 p = some (.fdk od vs kvs)) O1) : LI c (iVals td) ρ O Q := fun F H σ rs s z Q' k =>
  q F H σ rs s z _ fun F1 H1 O1 v x s1 st1 rd1 ⟨p, od, vs, kvs, e, h, q1⟩ => by
    subst e
    cases rd1
    obtain ⟨_, h1, h2⟩ := st1.own p _ h
    exact ⟨p, od, vs, rfl, h1, k F1 H1 O1 _ _ _ s1 st1 (dw_vals h2.len) q1⟩
theorem ln_revL {K' : Fr} (hK : K' = c.K) {te : TE} {Q : List D → Oh → Prop} (q : LE c te ρ O fun x O1 => ∃ xs, asL O1 x = some xs ∧ Q xs.reverse O1) : LN c (tRevL K' te) ρ O Q := by
  subst hK
  intro F H σ rs s z Q' k
  exact q F H σ rs s z _ fun F1 H1 O1 v x s1 st1 rd1 ⟨xs, h, q1⟩ => by
    obtain ⟨p, vs, e, hp, r⟩ := asL_sq st1 rd1 h
    subst e
    exact ⟨p, vs, rfl, .of hp, fun L hL => k F1 H1 O1 L _ _ s1 st1 hL r.reverse q1⟩
end
end VL
set_option maxHeartbeats 2000000
namespace VL
open PySem PySem.Spec PyProof.Rows L2 MB
def rngC (lo c : Int) (n : Nat) : List D := (List.range n).map fun (k : Nat) => D.int (lo + (k : Int) * c)
theorem rngC_len (lo c : Int) (n : Nat) : (rngC lo c n).length = n := by unfold rngC; simp
theorem rngC_at {lo c : Int} {n i : Nat} {d : D} (h : (rngC lo c n)[i]? = some d) : i < n ∧ d = .int (lo + (i : Int) * c) := by
  unfold rngC at h
  rw [List.getElem?_map] at h
  by_cases hi : i < n
  · rw [List.getElem?_range hi] at h
    cases h; exact ⟨hi, rfl⟩
  · rw [List.getElem?_eq_none (by simpa using Nat.le_of_not_lt hi)] at h
    cases h
theorem dw_rangeC {K : Fr} {F : Hp} (lo c : Int) (n : Nat) : DW K F (Itc lo c n) (rngC lo c n) (fun _ => True) := by
  refine ⟨fun _ => True, YFn fun i => .int (lo + (i : Int) * c), by rw [rngC_len]; exact walk_rangeC, fun _ _ _ _ _ _ => trivial, fun i F' H' O' y H2 s2 st2 _ hi ⟨e1, e2⟩ => ?_⟩
  subst e1 e2
  rw [rngC_len] at hi
  exact ⟨F', .int (lo + (i : Int) * c), Same.refl _, st2, .int _, by unfold rngC; rw [List.getElem?_map, List.getElem?_range hi]; rfl⟩
section
variable {c : Cz} {ρ : En} {O : Oh} {Q : D → Oh → Prop}
theorem i_rng3 {ta : TA} {Q : List D → (Oh → Prop) → Oh → Prop} (q : LA c ta ρ O fun ds O1 => ∃ (i j k : Int) (n : Nat), ds = [.int i, .int j, .int k] ∧ RgC i j k n ∧ Q (rngC i k n) (fun _ => True) O1) : LI c (iRng3 ta) ρ O Q := fun F H σ rs s z Q' k =>
  q F H σ rs s z _ fun F1 H1 O1 vs ds s1 st1 rd1 ⟨i, j, k2, n, e, b, q1⟩ => by
    subst e
    cases rd1 with
    | cons a t =>
      cases t with
      | cons a' t =>
        cases t with
        | cons a'' t => cases t; cases a; cases a'; cases a''; exact ⟨i, j, k2, n, rfl, b, k F1 H1 O1 _ _ _ s1 st1 (dw_rangeC i k2 n) q1⟩
end
theorem size_two {n : Nat} (h : n % 2 = 0) : Builtin.Range.rangeSize 1 (n : Int) 2 = ((n / 2 : Nat) : Int) := by
  unfold Builtin.Range.rangeSize
  simp only [show (2 : Int) > 0 by decide, if_true]
  split <;> omega
theorem fits_small {i : Int} (h : -1000000000 ≤ i) (h2 : i ≤ 1000000000) : Builtin.Range.rangeFitsLong i = true := by
  unfold Builtin.Range.rangeFitsLong
  rw [Bool.and_eq_true, decide_eq_true_eq, decide_eq_true_eq]
  omega
theorem RgC_two {n : Nat} (h : n % 2 = 0) (hn : n ≤ 1000000) : RgC 1 (n : Int) 2 (n / 2) := by
  refine ⟨by decide, by decide, ?_, size_two h⟩
  unfold Builtin.Range.small
  rw [size_two h, fits_small (by omega) (by omega), fits_small (by omega) (by omega), fits_small (by omega) (by omega), fits_small (by omega) (by omega), if_pos (by decide), fits_small (by omega) (by omega), Bool.or_true]
  rfl
def ev2 {α : Type} : List α → List α
  | [] => []
  | [x] => [x]
  | x :: _ :: xs => x :: ev2 xs
theorem ev2_len {α : Type} : ∀ xs : List α, (ev2 xs).length = (xs.length + 1) / 2
  | [] => by simp [ev2]
  | [x] => by simp [ev2]
  | x :: y :: xs => by rw [ev2, List.length_cons, ev2_len xs, List.length_cons, List.length_cons]; omega
theorem ev2_at {α : Type} : ∀ (xs : List α) (k : Nat), (ev2 xs)[k]? = xs[2 * k]?
  | [], k => by simp [ev2]
  | [x], 0 => rfl
  | [x], k + 1 => by rw [ev2, List.getElem?_cons_succ]; simp
  | x :: y :: xs, 0 => rfl
  | x :: y :: xs, k + 1 => by
    rw [ev2, List.getElem?_cons_succ, ev2_at xs k, show 2 * (k + 1) = 2 * k + 1 + 1 by omega, List.getElem?_cons_succ, List.getElem?_cons_succ]
theorem pick_ev2 {α : Type} (xs : Array α) (i m : Nat) (hm : m = (xs.size - i + 1) / 2) : (List.range m).filterMap (fun (k : Nat) => xs[((i : Int) + (k : Int) * 2).toNat]?) = ev2 (xs.toList.drop i) := by
  have hall : (fun (k : Nat) => xs[((i : Int) + (k : Int) * 2).toNat]?) = fun k => (ev2 (xs.toList.drop i))[k]? := by
    funext k
    rw [ev2_at, List.getElem?_drop, show ((i : Int) + (k : Int) * 2).toNat = i + 2 * k by omega, Array.getElem?_toList]
  rw [hall]
  have hl : (ev2 (xs.toList.drop i)).length = m := by rw [ev2_len, List.length_drop, Array.length_toList]; omega
  generalize ev2 (xs.toList.drop i) = ys at hl
  subst hl
  have := pick_run ys.toArray 0 ys.length
  simpa using this
/-- xs[l::2] -/
def stepV {α : Type} (xs : List α) (l : Option Int) : List α := ev2 (xs.drop (HT.sIx xs.length 0 l))
theorem stepV_len {α : Type} (xs : List α) (l : Option Int) : (stepV xs l).length ≤ xs.length := by
  unfold stepV; rw [ev2_len, List.length_drop]; omega
theorem bounds_two (l : Option Int) (n : Nat) : sliceBounds l none (some 2) n = (((HT.sIx n 0 l : Nat) : Int), (n : Int), 2) := by
  have h1 : (2 : Int) > 0 := by omega
  unfold sliceBounds
  simp only [Option.getD_some, h1, if_true]
  refine Prod.ext ?_ rfl
  cases l with
  | none => rfl
  | some v =>
    show max 0 (min (if v < 0 then v + (n : Int) else v) (n : Int)) = (((if v < 0 then (v + (n : Int)).toNat else min v.toNat n) : Nat) : Int)
    by_cases hv : v < 0
    · simp only [hv, if_true]; omega
    · simp only [hv, if_false]; omega
theorem range_two (i n : Nat) (h : i ≤ n) : sliceRange (i : Int) (n : Int) 2 = (List.range ((n - i + 1) / 2)).map fun (k : Nat) => ((i : Int) + 2 * (k : Int)).toNat := by
  unfold sliceRange
  have h1 : (2 : Int) > 0 := by omega
  simp only [h1, if_true]
  congr 2
  by_cases hlt : (i : Int) < n
  · simp only [hlt, if_true]; omega
  · simp only [hlt, if_false]; omega
theorem pick_two (its : List Value) (l : Option Int) : slicePick its.toArray l none (some 2) = (stepV its l).toArray := by
  have hi : HT.sIx its.length 0 l ≤ its.length := HT.sIx_le _ _ (Nat.zero_le _) l
  unfold slicePick stepV
  rw [List.size_toArray, bounds_two]
  dsimp only
  rw [range_two _ _ hi, List.filterMap_map]
  have := pick_ev2 its.toArray (HT.sIx its.length 0 l) ((its.length - HT.sIx its.length 0 l + 1) / 2) (by rw [List.size_toArray])
  have e : ((fun x => its.toArray[x]?) ∘ fun (k : Nat) => (((HT.sIx its.length 0 l : Nat) : Int) + 2 * (k : Int)).toNat) = fun (k : Nat) => its.toArray[(((HT.sIx its.length 0 l : Nat) : Int) + (k : Int) * 2).toNat]? := by
    funext k
    show its.toArray[_]? = _
    rw [Int.mul_comm]
  rw [e, this]
theorem adjust_two (l : Option Int) (n : Nat) : Builtin.Slice.sliceAdjust l none 2 (n : Int) = (((HT.sIx n 0 l : Nat) : Int), (n : Int)) := by
  have h1 : ¬ ((2 : Int) < 0) := by omega
  unfold Builtin.Slice.sliceAdjust
  simp only [h1, if_false]
  refine Prod.ext ?_ rfl
  cases l with
  | none => rfl
  | some v => exact HT.clip_eq v n 0
theorem places_two (i n : Nat) (h : i ≤ n) : Builtin.Slice.slicePlaces (i : Int) (n : Int) 2 = (n - i + 1) / 2 := by
  unfold Builtin.Slice.slicePlaces
  have h1 : (2 : Int) > 0 := by omega
  simp only [h1, if_true]
  split <;> omega
section
variable {prog : Program} {w : World} {A : Around} {E : Value → Shared → Prop} {s : Shared}
theorem sliceApplied_two {sl : Addr} {vl vu vs : Value} {lo : Option Int} {n : Nat} {Q : Int × Int × Nat → Shared → Prop} (hs : s.heap.IsSliceOf sl vl vu vs) (pl : IsPart vl lo) (pu : IsPart vu none) (ps : IsPart vs (some 2))
    (h : Q (((HT.sIx n 0 lo : Nat) : Int), 2, (n - HT.sIx n 0 lo + 1) / 2) s) : wpAny (model prog w) A (Builtin.Slice.sliceApplied (.ref sl) (pure (n : Int))) Q E s := by
  have hi : HT.sIx n 0 lo ≤ n := HT.sIx_le _ _ (Nat.zero_le _) lo
  obtain ⟨os, hos, hcs, hds⟩ := id hs
  unfold Builtin.Slice.sliceApplied Builtin.Slice.sliceFields
  refine wpAny_bind (wpAny_bind (wpAny_field hos hds (x := vl) rfl (wpAny_bind (wpAny_field hos hds (x := vu) rfl (wpAny_bind (wpAny_field hos hds (x := vs) rfl (wpAny_pure ?_)))))))
  refine wpAny_bind (HT.slicePart_ ps ?_)
  show wpAny _ _ (if ((2 : Int) == 0) = true then _ else _) _ _ s
  rw [if_neg (by decide)]
  refine wpAny_bind (HT.slicePart_ pl (wpAny_bind (HT.slicePart_ pu (wpAny_bind (wpAny_pure ?_)))))
  show wpAny _ _ (match Builtin.Slice.sliceAdjust lo none 2 (n : Int) with | (lo, hi) => pure (lo, (2 : Int), Builtin.Slice.slicePlaces lo hi 2)) _ _ s
  rw [adjust_two lo n]
  show wpAny _ _ (pure (((HT.sIx n 0 lo : Nat) : Int), (2 : Int), Builtin.Slice.slicePlaces ((HT.sIx n 0 lo : Nat) : Int) (n : Int) 2)) _ _ s
  rw [places_two _ _ hi]
  exact wpAny_pure h
theorem getItem_tuple_two {t sl : Addr} {items : Array Value} {vl vu vs : Value} {lo : Option Int} {Q : Value → Shared → Prop} (ht : IsTup s.heap t items) (hs : s.heap.IsSliceOf sl vl vu vs) (pl : IsPart vl lo) (pu : IsPart vu none) (ps : IsPart vs (some 2))
    (h : Q (.ref s.heap.objs.size) { s with heap := s.heap.push { cls := .type "tuple", data := .seq (stepV items.toList lo).toArray } })
    (hsz : items.size ≤ sizeLine) : wpAny (model prog w) A (getItem (.ref t) (.ref sl)) Q E s := by
  have htake : sizeOk (.seq (stepV items.toList lo).toArray) := by
    show (stepV items.toList lo).toArray.size ≤ sizeLine
    rw [List.size_toArray]
    exact Nat.le_trans (stepV_len _ _) (by rw [Array.length_toList]; exact hsz)
  obtain ⟨os, hos, hcs, hds⟩ := id hs
  have hTs : s.TypeIs (.ref sl) "slice" := ⟨os, hos, hcs⟩
  unfold getItem
  try with_reducible refine wpAny_holding ?_
  first | refine wpAny_bind (wpAny_pure ?_) | skip
  refine wpAny_bind (wpAny_sequenceKey ht.typeIs (by decide) ?_)
  refine wpAny_bind (wpAny_callSpecial?_slot (name := Str.ofString "__getitem__") ht.typeIs PyProof.Rows.slot_tuple_getitem
    (wpAny_call_entry PyProof.Rows.slot_tuple_getitem ht.typeIs entry_tuple_getitem ?_ (args_tuple_getitem _ _)))
  show wpAny _ _ (Builtin.Tuple.tupleItemsOf (.ref t) >>= _) _ _ s
  refine wpAny_bind (tupleItemsOf_ ht ?_)
  refine wpAny_bind (wpAny_typeOf hTs ?_)
  rw [if_pos (by decide)]
  refine wpAny_bind (sliceApplied_two hs pl pu ps ?_)
  have hno : ¬ ((((HT.sIx items.size 0 lo : Nat) : Int) == 0 && (2 : Int) == 1 && ((items.size - HT.sIx items.size 0 lo + 1) / 2) == items.size) = true) := by
    intro q
    rw [Bool.and_eq_true, Bool.and_eq_true] at q
    exact absurd q.1.2 (by decide)
  show wpAny _ _ (if (((HT.sIx items.size 0 lo : Nat) : Int) == 0 && (2 : Int) == 1 && ((items.size - HT.sIx items.size 0 lo + 1) / 2) == items.size) = true then _ else _) _ _ s
  rw [if_neg hno]
  have e : ((List.range ((items.size - HT.sIx items.size 0 lo + 1) / 2)).filterMap fun (k : Nat) => items[(((HT.sIx items.size 0 lo : Nat) : Int) + (k : Int) * 2).toNat]?).toArray = (stepV items.toList lo).toArray := by
    rw [pick_ev2 items _ _ rfl]; unfold stepV; rw [Array.length_toList]
  show wpAny _ _ (Builtin.Tuple.tupleExact ((List.range ((items.size - HT.sIx items.size 0 lo + 1) / 2)).filterMap fun (k : Nat) => items[(((HT.sIx items.size 0 lo : Nat) : Int) + (k : Int) * 2).toNat]?).toArray >>= _) _ _ s
  rw [e]
  first
    | exact wpAny_bind (m := Builtin.Tuple.tupleExact _) (wpAny_newObj_type (wpAny_pure ⟨_, rfl, wpAny_pure h⟩) htake)
    | exact wpAny_bind (m := Builtin.Tuple.tupleExact _) (wpAny_newObj_type (wpAny_bind (wpAny_pure (wpAny_pure ⟨_, rfl, wpAny_pure h⟩))) htake)
    | exact wpAny_bind (wpAny_bind (m := Builtin.Tuple.tupleExact _) (wpAny_newObj_type (wpAny_pure (wpAny_pure ⟨_, rfl, wpAny_pure h⟩)) htake))
    | exact wpAny_bind (wpAny_bind (m := Builtin.Tuple.tupleExact _) (wpAny_newObj_type (wpAny_pure ⟨_, rfl, wpAny_pure h⟩) htake))
end
/-- e[l::2] of a list or a tuple -/
def tStep (K : PySem.W.Frag) (te : L2.TE) (tl : TO) : L2.TE := fun σ H Q => te σ H fun x H1 => tl σ H1 fun l H2 => ∃ a xs, x = .ref a ∧ ((SqL K H2 a xs ∧ ∀ p, H2 p = none → Q (.ref p) (upd H2 p (.lst (stepV xs l)))) ∨ (SqT K H2 a xs ∧ ∀ p, H2 p = none → Q (.ref p) (upd H2 p (.tup (stepV xs l)))))
section
variable {X : Cx}
theorem vals_step {xs : List V} {its : List Value} (r : Vals xs its) (l : Option Int) : Vals (stepV xs l) (stepV its l) := by
  unfold stepV
  rw [r.length]
  have h := r.drop (HT.sIx its.length 0 l)
  generalize xs.drop (HT.sIx its.length 0 l) = ys at h
  generalize its.drop (HT.sIx its.length 0 l) = zs at h
  clear r
  revert zs
  have : ∀ (n : Nat) (ys : List V) (zs : List Value), ys.length ≤ n → Vals ys zs → Vals (ev2 ys) (ev2 zs) := by
    intro n
    induction n with
    | zero =>
      intro ys zs hn h
      cases h with
      | nil => exact .nil
      | cons _ _ => simp at hn
    | succ n ih =>
      intro ys zs hn h
      cases h with
      | nil => exact .nil
      | cons a t =>
        cases t with
        | nil => exact .cons a .nil
        | cons b t => exact .cons a (ih _ _ (by simp only [List.length_cons] at hn; omega) t)
  exact fun zs h => this _ _ _ (Nat.le_refl _) h
theorem pe_step {e : Expr} {te : L2.TE} {lo : Option Expr} {tl : TO} {k : Nat} {p1 p3 pos : Pos} (he : PE X e te) (hl : PO X lo tl) : PE X (.Subscript e (.Slice lo none (some (.Constant (.int 2) k p1)) p3) pos) (tStep X.K te tl) := by
  refine ⟨fun pins s σ H Q I h => ?_⟩
  refine Subscript_ (thn (he.run pins s σ H _ I h) fun v s1 ⟨x, H1, I1, r1, q1⟩ => ?_)
  have hst : PO X (some (.Constant (.int 2) k p1)) (tPart (tC (.int 2))) := po_some pe_int
  refine wpAny_Slice (thn (hl.run pins s1 σ H1 _ I1 q1) fun vl s2 ⟨l, H2, I2, pl, q2⟩ => ?_)
  refine thn (po_none.run pins s2 σ H2 (fun o H3 => o = none ∧ H3 = H2) I2 ⟨rfl, rfl⟩) fun vu s3 ⟨u, H3, I3, pu, eu, e3⟩ => ?_
  subst eu e3
  refine thn (hst.run pins s3 σ H3 (fun o H4 => o = some 2 ∧ H4 = H3) I3 ⟨2, rfl, rfl, rfl⟩) fun vs s4 ⟨o, H4, I4, ps, eo, e4⟩ => ?_
  subst eo e4
  obtain ⟨a, xs, ex, q⟩ := q2
  subst ex
  cases r1
  have I5 : Inv X pins σ H4 { s4 with heap := s4.heap.push { cls := .type "slice", data := .fields #[vl, vu, vs] } } := I4.kept (t' := s4.toks) fun b ob q => Heap.get?_push_of_some _ q
  show wpAny (model X.prog X.w) X.A (subscriptTail e (.Slice lo none (some (.Constant (.int 2) k p1)) p3) (.ref a) (.ref s4.heap.objs.size)) (EP X pins σ Q) X.xe { s4 with heap := s4.heap.push { cls := .type "slice", data := .fields #[vl, vu, vs] } }
  rcases q with ⟨hx, q⟩ | ⟨hx, q⟩
  · obtain ⟨its, r, ht, hz⟩ := I5.list hx
    have hlen := r.length
    refine tail_any (ops := [.ref a, .ref s4.heap.objs.size]) ht.isList.typeIs (PySem.slot_list_getitem.lookup) ?_ (by with_unfolding_all rfl)
    refine wpAny_getItem_list_slice ht.isList (Heap.IsSliceOf.new _ vl vu vs) pl pu ps (by decide) ?_ (by rw [List.size_toArray]; omega)
    rw [pick_two]
    refine ⟨.ref _, _, I5.laid (t' := s4.toks) (o := .lst (stepV xs l)) (fun b ob q => Heap.get?_push_of_some _ q) (Nat.le_refl _) ?_, rfl, q _ (I5.hok.fresh (Nat.le_refl _))⟩
    exact ⟨Nat.le_trans (stepV_len _ _) hz, _, 0, vals_step r l, Heap.get?_push_size _ rfl⟩
  · obtain ⟨its, r, ht, hz⟩ := I5.tuple hx
    have hlen := r.length
    refine tail_any (ops := [.ref a, .ref s4.heap.objs.size]) ht.typeIs (PyProof.Rows.slot_tuple_getitem.lookup) ?_ (by with_unfolding_all rfl)
    refine getItem_tuple_two ht (Heap.IsSliceOf.new _ vl vu vs) pl pu ps ?_ (by rw [List.size_toArray]; omega)
    refine ⟨.ref _, _, I5.laid (t' := s4.toks) (o := .tup (stepV xs l)) (fun b ob q => Heap.get?_push_of_some _ q) (Nat.le_refl _) ?_, rfl, q _ (I5.hok.fresh (Nat.le_refl _))⟩
    exact ⟨Nat.le_trans (stepV_len _ _) hz, _, vals_step r l, IsTup.new _ _⟩
end
section
variable {c : Cz} {ρ : En} {O : Oh} {Q : D → Oh → Prop}
theorem reps_step {K : Fr} {F : Hp} {vs : List V} {xs : List D} (r : RepsD K F vs xs) (l : Option Int) : RepsD K F (stepV vs l) (stepV xs l) := by
  unfold stepV
  rw [r.len]
  have h := r.drop (HT.sIx xs.length 0 l)
  generalize vs.drop (HT.sIx xs.length 0 l) = ys at h
  generalize xs.drop (HT.sIx xs.length 0 l) = zs at h
  have : ∀ (n : Nat) (ys : List V) (zs : List D), ys.length ≤ n → RepsD K F ys zs → RepsD K F (ev2 ys) (ev2 zs) := by
    intro n
    induction n with
    | zero =>
      intro ys zs hn h
      cases h with
      | nil => exact .nil
      | cons _ _ => simp at hn
    | succ n ih =>
      intro ys zs hn h
      cases h with
      | nil => exact .nil
      | cons a t =>
        cases t with
        | nil => exact .cons a .nil
        | cons b t => exact .cons a (ih _ _ (by simp only [List.length_cons] at hn; omega) t)
  exact this _ _ _ (Nat.le_refl _) h
/-- e[l::2], a list (frozen) or a tuple -/
theorem f_step {K' : Fr} (hK : K' = c.K) {te : TE} {tl : TO} (q : LE c te ρ O fun x O1 => LO c tl ρ O1 fun l O2 => ∃ xs, (asL O2 x = some xs ∧ Q (.lst (stepV xs l)) O2) ∨ (x = .tup xs ∧ Q (.tup (stepV xs l)) O2)) : LE c (tStep K' te tl) ρ O Q := by
  subst hK
  intro F H σ rs s z Q' k
  exact q F H σ rs s z _ fun F1 H1 O1 v x s1 st1 rd1 q1 => q1 F1 H1 σ (rs.mono s1) st1 (z.mono s1) _ fun F2 H2 O2 l s2 st2 ⟨xs, q2⟩ => by
    have rd2 := rd1.mono s2
    rcases q2 with ⟨h, q2⟩ | ⟨e, q2⟩
    · obtain ⟨p, vs, e, hp, r⟩ := asL_sq st2 rd2 h
      subst e
      refine ⟨p, vs, rfl, .inl ⟨.of hp, fun a ha => ?_⟩⟩
      have sm : Same F2 (upd F2 a (.lst (stepV vs l))) := MB.Same.upd (st2.fresh ha).2
      exact k _ _ O2 _ _ ((s1.trans s2).trans sm) (st2.newF ha) (.lst upd_same ((reps_step r l).mono sm)) q2
    · subst e
      cases rd2 with
      | @tup p us _ h r =>
        refine ⟨p, us, rfl, .inr ⟨sqT_same st2.same h, fun a ha => ?_⟩⟩
        have sm : Same F2 (upd F2 a (.tup (stepV us l))) := MB.Same.upd (st2.fresh ha).2
        exact k _ _ O2 _ _ ((s1.trans s2).trans sm) (st2.newF ha) (.tup (.of upd_same) ((reps_step r l).mono sm)) q2
end
end VL
set_option maxHeartbeats 2000000
namespace VL
open PySem PySem.Spec PyProof.Rows L2
theorem slot_rt_hint : Slot "reversed" "__length_hint__" "reversed.__length_hint__" :=
  .of (owner := "reversed") (n := "__length_hint__") (by rw [typeLookup_type, builtinLookup_eq_fast]; kernel_rfl) (by decide +kernel) (by decide +kernel) (by decide +kernel)
    (by first | exact .inl (by decide +kernel) | exact .inr (by decide +kernel)) (by rw [isSubtype_type]; kernel_rfl)
theorem entry_rt_hint : entryFor table "reversed.__length_hint__" = some Builtin.«reversed.__length_hint__» := entryFor_of_tree (by kernel_rfl)
theorem args_rt_hint (a : Value) : argsOk "reversed.__length_hint__" ⟨[a], []⟩ := by
  unfold argsOk; rw [signature?_of (id := "reversed.__length_hint__") (n := ['_', '_', 't', 'n', 'i', 'h', '_', 'h', 't', 'g', 'n', 'e', 'l', '_', '_']) (o := ['d', 'e', 's', 'r', 'e', 'v', 'e', 'r']) (by kernel_rfl) RT.owner_rt]; kernel_rfl
theorem nolen_rt : typeLookup (.type "reversed") "__len__" = pure none := by rw [typeLookup_type, builtinLookup_eq_fast]; kernel_rfl
theorem walks_rt {prog : Program} {w : World} {A : Around} (hh : A.handled = none) (I t : Addr) (hne : t ≠ I) (items : Array Value) (hsz : items.size ≤ sizeLine) :
    Walks prog w A I [I, t] [I] items.size (fun i v => items[items.size - 1 - i]? = some v) (fun i h => i ≤ items.size ∧ RT.IsRt h I t ((items.size : Int) - 1 - (i : Int)) ∧ IsTup h t items) where
  sub := fun b hb => by simp at hb; simp [hb]
  frame := fun _ _ _ x hk => ⟨x.1, x.2.1.at fun o e => hk I (by simp) o e, let ⟨o, ho, r⟩ := x.2.2; ⟨o, hk t (by simp) o ho, r⟩⟩
  item := fun i s Q E hi x hQ => by
    have e : (items.size : Int) - 1 - (i : Int) = ((items.size - 1 - i : Nat) : Int) := by omega
    have hit := x.2.1
    rw [e] at hit
    have hx : items[items.size - 1 - i]? = some (items[items.size - 1 - i]'(by omega)) := Array.getElem?_eq_getElem (by omega)
    refine RT.next_rt_item hit x.2.2 hx hsz fun h' hit' hs' => ?_
    have e2 : ((items.size - 1 - i : Nat) : Int) - 1 = (items.size : Int) - 1 - ((i + 1 : Nat) : Int) := by omega
    rw [e2] at hit'
    exact hQ _ h' (s.toks + 1) hx ⟨hi, hit', let ⟨o, ho, r⟩ := x.2.2; ⟨o, (hs'.2 t hne).trans ho, r⟩⟩ fun b o hb eo => hs'.extBut b o (fun h => hb (by simp [h])) eo
  done := fun s Q E x hQ => by
    have e : (items.size : Int) - 1 - (items.size : Int) = -1 := by omega
    have hit := x.2.1
    rw [e] at hit
    exact RT.next_rt_end hh hit fun h' he' => hQ h' s.toks fun b o hb eo => he' b o (fun h => hb (by simp [h])) eo
  self := fun _ _ _ _ x hQ => RT.iter_rt x.2.1 hQ
section
variable {prog : Program} {w : World} {A : Around} {E : Value → Shared → Prop} {s : Shared}
theorem call_rt_hint {a t : Addr} {items : Array Value} {Q : Value → Shared → Prop} (hit : RT.IsRt s.heap a t ((items.size : Int) - 1)) (ht : IsTup s.heap t items) (hsz : items.size ≤ sizeLine)
    (q : ∀ tk tk', Q (.int (items.size : Int) tk) { s with toks := tk' }) : wpAny (model prog w) A (call (.builtin "reversed.__length_hint__") [.ref a]) Q E s := by
  obtain ⟨o, ho, hc, hd⟩ := id hit
  rw [sizeLine_eq] at hsz
  refine wpAny_call_entry slot_rt_hint hit.typeIs entry_rt_hint ?_ (args_rt_hint _)
  unfold Builtin.«reversed.__length_hint__»
  refine wpAny_bind (wpAny_of_eq (a := Value.ref a) rfl ?_)
  try dsimp only
  refine wpAny_bind (wpAny_field ho hd (x := .ref t) rfl ?_)
  try dsimp only
  rw [if_neg (show ¬ ((Value.ref t == Value.none) = true) from Bool.false_ne_true)]
  try dsimp only
  refine wpAny_bind (len_tuple ht (by omega) ?_)
  refine wpAny_bind (wpAny_of_eq (a := some ((items.size : Nat) : Int)) rfl ?_)
  try dsimp only
  refine wpAny_bind (wpAny_field (s := { s with toks := s.toks + 1 + 1 }) ho hd (x := rawInt ((items.size : Int) - 1)) rfl ?_)
  show wpAny _ _ (if (items.size : Int) < (items.size : Int) - 1 + 1 then _ else _) _ _ _
  rw [if_neg (by omega)]
  rw [show (items.size : Int) - 1 + 1 = (items.size : Int) by omega]
  show wpAny _ _ (mkInt (items.size : Int) >>= fun v => ret v) _ _ _
  exact wpAny_bind (wpAny_mkInt (wpAny_pure ⟨_, rfl, q _ _⟩))
theorem hint_rt {a t : Addr} {items : Array Value} {Q : Bool → Shared → Prop} (hit : RT.IsRt s.heap a t ((items.size : Int) - 1)) (ht : IsTup s.heap t items) (hsz : items.size ≤ sizeLine)
    (q : ∀ b tk, Q b { s with toks := tk }) : wpAny (model prog w) A (Builtin.List.listLengthHint (.ref a)) Q E s := by
  have hT := hit.typeIs
  have hsz2 := hsz
  rw [sizeLine_eq] at hsz2
  unfold Builtin.List.listLengthHint
  refine wpAny_bind (wpAny_specialOf hT nolen_rt ?_)
  show wpAny _ A (specialOf (Value.ref a) (Str.ofString "__length_hint__") >>= _) _ _ _
  refine wpAny_bind (wpAny_specialOf hT slot_rt_hint.lookup ?_)
  generalize hid : ("reversed.__length_hint__" : String) = id0
  wp_delta
  rw [show splitId id0 = some ("reversed", "__length_hint__") from by subst hid; decide +kernel]
  subst hid
  refine wpAny_bind (wpAny_isInstance (b := true) hT (by rw [isSubtype_type]; kernel_rfl) ?_)
  rw [if_neg (by decide), if_neg (by decide)]
  refine wpAny_bind (wpAny_rule ?_)
  rw [slot_rt_hint.bind]
  refine wpAny_bind (wpAny_pure ?_)
  try dsimp only
  refine wpAny_bind (wpAny_attempt (call_rt_hint hit ht hsz fun tk tk' => ?_))
  try dsimp only
  refine wpAny_bind ?_
  rw [show asInt? (.int (items.size : Int) tk) = pure (some (items.size : Int)) from rfl]
  refine wpAny_pure ?_
  try dsimp only
  have f1 : Builtin.List.listFitsIndex (items.size : Int) = true := by
    unfold Builtin.List.listFitsIndex
    rw [Bool.and_eq_true, decide_eq_true_eq, decide_eq_true_eq]; omega
  rw [f1]
  rw [if_neg (show ¬ ((!true) = true) from Bool.false_ne_true), if_neg (by omega)]
  have f2 : Builtin.List.listTooLong (items.size : Int).toNat = false := by
    unfold Builtin.List.listTooLong
    rw [Int.toNat_natCast]; exact decide_eq_false (by omega)
  rw [f2]
  rw [if_neg Bool.false_ne_true]
  exact wpAny_pure (q _ _)
theorem ext_rt {R : Result → Shared → Prop} {I t : Addr} {items : Array Value} (hh : A.handled = none) (hit : RT.IsRt s.heap I t ((items.size : Int) - 1)) (ht : IsTup s.heap t items) (hne : t ≠ I) (hsz : items.size ≤ sizeLine) (S : Addr) (res : Value) (c₀ : Nat)
    (hS : s.heap.get? S = some { cls := .type "list", data := .seq #[] c₀ }) (hSI : S ≠ I) (hSt : S ≠ t)
    (hR : ∀ h' tk acc' c', (∀ b o, b ≠ S → b ≠ I → s.heap.get? b = some o → h'.get? b = some o) → h'.get? S = some { cls := .type "list", dict := none, data := .seq acc' c', slots := #[] } →
      ItemsOf (fun i v => items[items.size - 1 - i]? = some v) acc' items.size → R (.ok (.ret res)) { s with heap := h', toks := tk }) :
    wpAny (model prog w) A.in1 (Builtin.List.listExtendWith (.ref S) (.ref I) res)
      (fun fin s' => match fin with | .done f => R (.ok f) s' | .again c' => c'.quiet = true ∧ codeAny (model prog w) A c' R s') (fun e s' => R (.error e) s') s := by
  have hSf : S ∉ [I, t] := by simp only [List.mem_cons, List.not_mem_nil, or_false, not_or]; exact ⟨hSI, hSt⟩
  have W := (walks_rt (prog := prog) (w := w) (A := A.in1) hh I t hne items hsz).toS
  have e0 : ((items.size : Nat) : Int) - 1 - ((0 : Nat) : Int) = (items.size : Int) - 1 := by omega
  have key : ∀ (h : Heap) (c₁ tk : Nat), RT.IsRt h I t ((items.size : Int) - 1) → IsTup h t items → (∀ b o, b ≠ S → s.heap.get? b = some o → h.get? b = some o) →
      h.get? S = some { cls := .type "list", data := .seq #[] c₁ } → codeAny (model prog w) A (.builtin "list.extend.loop" ⟨[.ref S, .ref I, res], []⟩) R { s with heap := h, toks := tk } := by
    intro h c₁ tk hit1 ht1 hk hS₁
    refine codeAny_extend_loopS W hsz S hSf res items.size 0 _ #[] c₁ rfl (Nat.zero_le _) ⟨Nat.zero_le _, by rw [e0]; exact hit1, ht1⟩ hS₁ (ItemsOf.nil _) fun s' acc' c' hm hS' hacc => ?_
    rw [Moved.eq_with hm]
    refine hR s'.heap s'.toks acc' c' (fun b o hb hb2 e => hm.heap b o (fun hmem => ?_) (hk b o hb e)) hS' hacc
    rcases List.mem_cons.mp hmem with e' | hmem
    · exact hb e'
    · exact hb2 (List.mem_singleton.mp hmem)
  have hT := hit.typeIs
  unfold Builtin.List.listExtendWith
  refine wpAny_bind (wpAny_typeOf hT ?_)
  have h1 : Builtin.List.listSameRef (.ref S) (.ref I) = false := by simp [Builtin.List.listSameRef, hSI]
  have h2 : (Value.type "reversed" == Value.type "list") = false := by decide
  have h3 : (Value.type "reversed" == Value.type "tuple") = false := by decide
  simp only [h1, h2, h3, Bool.or_false, Bool.false_eq_true, if_false]
  refine wpAny_bind (RT.iter_rt hit ?_)
  refine wpAny_bind (wpAny_holding (hint_rt hit ht hsz fun b tk => ?_))
  refine wpAny_ite_split (fun _ => ?_) (fun _ => wpAny_pure ⟨plainId_quiet F.plain_extend_loop _, key _ c₀ _ hit ht (fun b o _ e => e) hS⟩)
  refine wpAny_bind (wpAny_rule ?_)
  refine wpAny_bind ?_
  show wpAny _ _ (updateSeq S (·.push .none) >>= fun _ => updateSeq S (·.pop)) _ _ _
  refine wpAny_bind (wpAny_updateSeq (s := { s with toks := tk }) hS rfl ?_)
  have hS₂ := Heap.get?_update_self (Obj.mapSeq (·.push Value.none)) hS rfl
  refine wpAny_updateSeq (hz := by seq_fits) hS₂ rfl ?_
  have hS₃ := Heap.get?_update_self (Obj.mapSeq (·.pop)) hS₂ rfl
  have oth : ∀ b o, b ≠ S → s.heap.get? b = some o → ((s.heap.update S (Obj.mapSeq (·.push Value.none))).update S (Obj.mapSeq (·.pop))).get? b = some o := fun b o hb e =>
    (Heap.get?_update_other _ _ (Ne.symm hb)).trans ((Heap.get?_update_other _ _ (Ne.symm hb)).trans e)
  refine wpAny_pure ⟨plainId_quiet F.plain_extend_loop _, key _ _ _ (hit.at fun o e => oth I o (Ne.symm hSI) e) (let ⟨o, ho, r⟩ := ht; ⟨o, oth t o (Ne.symm hSt) ho, r⟩) oth hS₃⟩
theorem call_list_rt {Q : Value → Shared → Prop} {I t : Addr} {items : Array Value} (hh : A.handled = none) (hit : RT.IsRt s.heap I t ((items.size : Int) - 1)) (ht : IsTup s.heap t items) (hne : t ≠ I) (hsz : items.size ≤ sizeLine)
    (hQ : ∀ h' tk acc' c', (∀ b o, b ≠ I → s.heap.get? b = some o → h'.get? b = some o) →
      h'.get? s.heap.objs.size = some { cls := .type "list", dict := none, data := .seq acc' c', slots := #[] } → ItemsOf (fun i v => items[items.size - 1 - i]? = some v) acc' items.size → Q (.ref s.heap.objs.size) { s with heap := h', toks := tk }) :
    wpAny (model prog w) A (call (.type "list") [.ref I]) Q E s := by
  refine callType_codes (Q₁ := fun obj s₁ => obj = .ref s.heap.objs.size ∧ s₁ = { s with heap := s.heap.push { cls := .type "list", data := .seq #[] } }) F.called_list (F.typeCall_list_1 _) F.entry_list_init
    (code_list_new _ ⟨rfl, rfl⟩) fun obj s₁ h₁ => ?_
  obtain ⟨rfl, rfl⟩ := h₁
  have hS : (s.heap.push { cls := .type "list", data := .seq #[] }).get? s.heap.objs.size = some { cls := .type "list", data := .seq #[] } := Heap.get?_push_size _ rfl
  obtain ⟨oi, hoi, _⟩ := id hit
  obtain ⟨ot, hot, _⟩ := id ht
  have hSI : s.heap.objs.size ≠ I := Nat.ne_of_gt (Heap.lt_size hoi)
  have hSt : s.heap.objs.size ≠ t := Nat.ne_of_gt (Heap.lt_size hot)
  refine ⟨⟨_, hS, rfl⟩, F.args_list_init_2 _ _, ?_⟩
  show wpAny _ A.in1.in1 (do let old ← Builtin.List.listItems (.ref s.heap.objs.size); Builtin.List.listUpdate (.ref s.heap.objs.size) (fun _ => #[]); letGo old.toList.reverse; Builtin.List.listExtendWith (.ref s.heap.objs.size) (.ref I) .none) _ _ _
  refine wpAny_bind ?_
  unfold Builtin.List.listItems
  refine wpAny_bind (wpAny_seqItems hS rfl (wpAny_pure ?_))
  show wpAny _ _ (updateSeq s.heap.objs.size (fun _ => #[]) >>= fun _ => letGo (#[] : Array Value).toList.reverse >>= fun _ => Builtin.List.listExtendWith (.ref s.heap.objs.size) (.ref I) .none) _ _ _
  refine wpAny_bind (wpAny_updateSeq hS rfl ?_)
  have hS₂ := Heap.get?_update_self (Obj.mapSeq (fun _ => (#[] : Array Value))) hS rfl
  have oth : ∀ b o, b ≠ s.heap.objs.size → s.heap.get? b = some o → ((s.heap.push { cls := .type "list", data := .seq #[] }).update s.heap.objs.size (Obj.mapSeq (fun _ => (#[] : Array Value)))).get? b = some o :=
    fun b o hb e => (Heap.get?_update_other _ _ (Ne.symm hb)).trans (Heap.get?_push_of_some _ e)
  refine wpAny_bind (wpAny_letGo ?_)
  refine ext_rt (A := A.in1) hh (hit.at fun o e => oth I o (Ne.symm hSI) e) (let ⟨o, ho, r⟩ := ht; ⟨o, oth t o (Ne.symm hSt) ho, r⟩) hne hsz _ .none _ hS₂ hSI hSt fun h' tk acc' c' hk hS' hacc => ?_
  exact ⟨rfl, hQ h' tk acc' c' (fun b o hb e => hk b o (Nat.ne_of_lt (Heap.lt_size e)) hb (oth b o (Nat.ne_of_lt (Heap.lt_size e)) e)) hS' hacc⟩
end
/-- list(reversed(x)), x a tuple -/
def tLstRev (K : PySem.W.Frag) (te : TE) : TE := fun σ H Q => te σ H fun v H1 => ∃ (a : Addr) (xs : List V), v = .ref a ∧ SqT K H1 a xs ∧ ∀ q, H1 q = none → Q (.ref q) (upd H1 q (.lst xs.reverse))
section
variable {X : Cx}
theorem pe_lstRev {e : Expr} {te : TE} {p p2 pos pos2 : Pos} (hc : X.calm = true) (hg : Gl X "list") (hm : X.mg "list" = none) (hg2 : Gl X "reversed") (hm2 : X.mg "reversed" = none) (he : PE X e te)
    (hs : starEach [e] X.env = (false, eval e X.env) :: starEach [] X.env := by rfl)
    (hs2 : starEach [.Call (.Name "reversed" p2) [e] [] pos2] X.env = (false, eval (.Call (.Name "reversed" p2) [e] [] pos2) X.env) :: starEach [] X.env := by rfl) :
    PE X (.Call (.Name "list" p) [.Call (.Name "reversed" p2) [e] [] pos2] [] pos) (tLstRev X.K te) := by
  refine ⟨fun pins s σ H Q I h => ?_⟩
  refine Call_ (ld_blt I hg hm boot_list (PyProof.Rows.callWith_type1 (args_cons (Call_ (ld_blt I hg2 hm2 PyProof.Rows.boot_reversed (PyProof.Rows.callWith_type1 (args_cons (thn (he.run pins s σ H _ I h) fun u s1 ⟨v, H1, I1, r1, q1⟩ => args_nil ?_) hs) hs rfl))) hs2) hs2 rfl))
  obtain ⟨a, xs, ev, hq, q⟩ := q1
  subst ev
  obtain rfl : u = Value.ref a := r1
  obtain ⟨its, rv, p', hz⟩ := I1.tuple hq
  have hn := line63
  have hsz : its.toArray.size ≤ sizeLine := by rw [List.size_toArray, ← rv.length]; exact hz
  refine RT.call_reversed_tup p' (fun A E Q k => len_tuple p' (by omega) k) (args_nil ?_)
  have k0 : ∀ b o, s1.heap.get? b = some o → (s1.heap.push (RT.rtObj a ((its.toArray.size : Int) - 1))).get? b = some o := fun b o e => Heap.get?_push_of_some _ e
  have I2 : Inv X pins σ H1 { s1 with heap := s1.heap.push (RT.rtObj a ((its.toArray.size : Int) - 1)), toks := s1.toks + 1 + 1 } := I1.kept (t' := s1.toks + 1 + 1) k0
  obtain ⟨f0, f1, f2, f3, f4, f5⟩ := I1.fpOk (H' := H1) (b := s1.heap.objs.size) (Nat.le_refl _) (I1.hok.fresh (Nat.le_refl _))
  obtain ⟨ol, hol, _⟩ := id p'
  have hne : a ≠ s1.heap.objs.size := Nat.ne_of_lt (Heap.lt_size hol)
  refine call_list_rt (s := { s1 with heap := s1.heap.push (RT.rtObj a ((its.toArray.size : Int) - 1)), toks := s1.toks + 1 + 1 }) (I1.ok.hd hc) ⟨_, Heap.get?_push_size _ rfl, rfl, rfl⟩ (p'.push _) hne hsz fun h' tk acc c' hk hS hi => ?_
  have hfp : ∀ b ∈ [s1.heap.objs.size], FpOk X pins H1 b := fun b hb => by
    rw [List.mem_singleton.mp hb]
    exact ⟨f0, f1, f2, f3, f4, f5⟩
  refine ⟨.ref _, upd H1 _ (.lst xs.reverse), I2.turnedNew (t' := tk) (ch := [s1.heap.objs.size]) (fun b o hb e => hk b o (by simpa using hb) e) hfp (Nat.le_refl _) (show ObjOk X.prog X.w _ _ _ (.lst xs.reverse) from ⟨by rw [List.length_reverse]; exact hz, acc.toList, c', RT.vals_rev rv hi, ?_⟩), rfl, q _ (I2.hok.fresh (Nat.le_refl _))⟩
  rw [Array.toArray_toList]
  exact hS
end
end VL
set_option maxHeartbeats 2000000
namespace VL
open PySem PySem.Spec PyProof.Rows L2 MB
section
variable {c : Cz} {ρ : En} {O : Oh}
theorem ln_lstRev {K' : Fr} (hK : K' = c.K) {te : TE} {Q : List D → Oh → Prop} (q : LE c te ρ O fun x O1 => ∃ xs, x = .tup xs ∧ Q xs.reverse O1) : LN c (tLstRev K' te) ρ O Q := by
  subst hK
  intro F H σ rs s z Q' k
  exact q F H σ rs s z _ fun F1 H1 O1 v x s1 st1 rd1 ⟨xs, e, q1⟩ => by
    subst e
    cases rd1 with
    | @tup p us _ h r => exact ⟨p, us, rfl, sqT_same st1.same h, fun L hL => k F1 H1 O1 L _ _ s1 st1 hL r.reverse q1⟩
end
end VL
set_option maxHeartbeats 2000000
namespace VL
open PySem PySem.Spec PyProof.Rows L2 MB
def natD (as : List Nat) : List D := as.map fun (k : Nat) => D.int (k : Int)
/-- as: each number's parent; L: its root; h: a height that falls along parents -/
structure UF (m : Nat) (as : List Nat) (L h : Nat → Nat) : Prop where
  len : as.length = m
  lt : ∀ x y : Nat, as[x]? = some y → y < m
  lab : ∀ x y : Nat, as[x]? = some y → L y = L x
  root : ∀ x : Nat, as[x]? = some x → L x = x
  fix : ∀ x : Nat, x < m → as[L x]? = some (L x)
  low : ∀ x y : Nat, as[x]? = some y → y ≠ x → h y < h x
theorem UF.start (m : Nat) : UF m (List.range m) id fun _ => 0 := by
  have e : ∀ x y : Nat, (List.range m)[x]? = some y → x < m ∧ y = x := fun x y h => by
    obtain ⟨h1, h2⟩ := List.getElem?_eq_some_iff.mp h
    rw [List.getElem_range] at h2
    rw [List.length_range] at h1
    exact ⟨h1, h2.symm⟩
  refine ⟨List.length_range, fun x y h => ?_, fun x y h => ?_, fun _ _ => rfl, fun x h => ?_, fun x y h n => absurd (e x y h).2 n⟩
  · obtain ⟨h1, h2⟩ := e x y h; omega
  · obtain ⟨h1, h2⟩ := e x y h; exact h2
  · exact List.getElem?_range h
theorem set_at {as : List Nat} {x z u v : Nat} (h : (as.set x z)[u]? = some v) : (u = x ∧ v = z ∧ x < as.length) ∨ (u ≠ x ∧ as[u]? = some v) := by
  rw [List.getElem?_set] at h
  split at h
  · rename_i e
    split at h
    · cases h; exact .inl ⟨e.symm, rfl, by assumption⟩
    · cases h
  · rename_i e
    exact .inr ⟨fun z => e z.symm, h⟩
theorem UF.halve {m : Nat} {as : List Nat} {L h : Nat → Nat} (u : UF m as L h) {x y z : Nat} (h1 : as[x]? = some y) (n : y ≠ x) (h2 : as[y]? = some z) : UF m (as.set x z) L h := by
  have hy := u.low x y h1 n
  have hz : h z < h x := by
    by_cases e : z = y
    · subst e; exact hy
    · exact Nat.lt_trans (u.low y z h2 e) hy
  refine ⟨by rw [List.length_set]; exact u.len, fun p q e => ?_, fun p q e => ?_, fun p e => ?_, fun p hp => ?_, fun p q e ne => ?_⟩
  · rcases set_at e with ⟨_, rfl, _⟩ | ⟨_, e⟩
    · exact u.lt _ _ h2
    · exact u.lt _ _ e
  · rcases set_at e with ⟨rfl, rfl, _⟩ | ⟨_, e⟩
    · rw [u.lab _ _ h2, u.lab _ _ h1]
    · exact u.lab _ _ e
  · rcases set_at e with ⟨rfl, e2, _⟩ | ⟨_, e⟩
    · subst e2; omega
    · exact u.root _ e
  · have f := u.fix p hp
    rw [List.getElem?_set_ne (fun e => ?_)]
    · exact f
    · rw [← e, h1] at f
      injection f with f
      exact n f
  · rcases set_at e with ⟨rfl, rfl, _⟩ | ⟨_, e⟩
    · exact hz
    · exact u.low _ _ e ne
theorem UF.rlt {m : Nat} {as : List Nat} {L h : Nat → Nat} (u : UF m as L h) {x : Nat} (hx : x < m) : L x < m := u.lt _ _ (u.fix x hx)
theorem UF.idem {m : Nat} {as : List Nat} {L h : Nat → Nat} (u : UF m as L h) {x : Nat} (hx : x < m) : L (L x) = L x := u.root _ (u.fix x hx)
def lnkL (L : Nat → Nat) (a b : Nat) : Nat → Nat := fun x => if L x = L a then L b else L x
theorem UF.link {m : Nat} {as : List Nat} {L h : Nat → Nat} (u : UF m as L h) {a b : Nat} (ha : a < m) (hb : b < m) : ∃ h', UF m (as.set (L a) (L b)) (lnkL L a b) h' := by
  have ia := u.idem ha
  have ib := u.idem hb
  refine ⟨fun x => if L x = L a then h x + h (L b) + 1 else h x, by rw [List.length_set]; exact u.len, fun p q e => ?_, fun p q e => ?_, fun p e => ?_, fun p hp => ?_, fun p q e ne => ?_⟩
  · rcases set_at e with ⟨_, rfl, _⟩ | ⟨_, e⟩
    · exact u.rlt hb
    · exact u.lt _ _ e
  · unfold lnkL
    rcases set_at e with ⟨rfl, rfl, _⟩ | ⟨_, e⟩
    · rw [ia, ib]; simp
    · rw [u.lab _ _ e]
  · unfold lnkL
    rcases set_at e with ⟨e1, e2, _⟩ | ⟨n, e⟩
    · subst e1; rw [ia, if_pos rfl]; exact e2.symm
    · rw [u.root _ e, if_neg n]
  · unfold lnkL
    split
    · by_cases e : L b = L a
      · rw [e, List.getElem?_set_self]
        rw [u.len]; exact u.rlt ha
      · rw [List.getElem?_set_ne (fun z => e z.symm)]; exact u.fix b hb
    · rename_i n
      rw [List.getElem?_set_ne (fun z => n z.symm)]; exact u.fix p hp
  · rcases set_at e with ⟨rfl, rfl, _⟩ | ⟨n, e⟩
    · show (if L (L b) = L a then _ else _) < if L (L a) = L a then _ else _
      rw [ib, ia, if_neg ne, if_pos rfl]; omega
    · show (if L q = L a then _ else _) < if L p = L a then _ else _
      have := u.low _ _ e ne
      rw [u.lab _ _ e]
      split <;> omega
/-- joined by the pairs -/
inductive Cn (es : List (Nat × Nat)) : Nat → Nat → Prop
  | refl (x : Nat) : Cn es x x
  | edge {a b : Nat} : (a, b) ∈ es → Cn es a b
  | symm {x y : Nat} : Cn es x y → Cn es y x
  | trans {x y z : Nat} : Cn es x y → Cn es y z → Cn es x z
theorem Cn.mono {es fs : List (Nat × Nat)} (h : ∀ p ∈ es, p ∈ fs) {x y : Nat} (c : Cn es x y) : Cn fs x y := by
  induction c with
  | refl x => exact .refl x
  | edge e => exact .edge (h _ e)
  | symm _ ih => exact .symm ih
  | trans _ _ ih1 ih2 => exact .trans ih1 ih2
/-- L tells the pieces -/
def Lab (es : List (Nat × Nat)) (L : Nat → Nat) : Prop := ∀ x y, L x = L y ↔ Cn es x y
theorem Lab.start : Lab [] id := fun x y => ⟨fun h => by have h : x = y := h; subst h; exact .refl x, fun h => by
  induction h with
  | refl x => rfl
  | edge e => cases e
  | symm _ ih => exact ih.symm
  | trans _ _ a b => exact a.trans b⟩
theorem Lab.link {es : List (Nat × Nat)} {L : Nat → Nat} (l : Lab es L) (a b : Nat) : Lab (es ++ [(a, b)]) (lnkL L a b) := fun x y => by
  have up : ∀ {x y : Nat}, Cn es x y → Cn (es ++ [(a, b)]) x y := fun c => c.mono fun p h => List.mem_append.mpr (.inl h)
  have ab : Cn (es ++ [(a, b)]) a b := .edge (by simp)
  constructor
  · intro h
    unfold lnkL at h
    split at h <;> split at h
    · rename_i h1 h2
      exact up ((l x y).mp (h1.trans h2.symm))
    · rename_i h1 h2
      exact ((up ((l x a).mp h1)).trans ab).trans (up ((l b y).mp h))
    · rename_i h1 h2
      exact (up ((l x b).mp h)).trans (.symm ((up ((l y a).mp h2)).trans ab))
    · exact up ((l x y).mp h)
  · intro c
    induction c with
    | refl x => rfl
    | symm _ ih => exact ih.symm
    | trans _ _ a b => exact a.trans b
    | edge e =>
      rename_i p q
      unfold lnkL
      rcases List.mem_append.mp e with e | e
      · rw [(l p q).mpr (.edge e)]
      · rw [List.mem_singleton] at e
        cases e
        rw [if_pos rfl]
        split <;> rfl
theorem Lab.same {es : List (Nat × Nat)} {L M : Nat → Nat} (l : Lab es L) (k : Lab es M) (x y : Nat) : L x = L y ↔ M x = M y := (l x y).trans (k x y).symm
/-- the firsts of their pieces below i -/
def fsts (L : Nat → Nat) (i : Nat) : List Nat := (List.range i).filter fun b => (List.range b).all fun a => decide (L a ≠ L b)
def pcOf (L : Nat → Nat) (i b : Nat) : List Nat := (List.range i).filter fun x => decide (L x = L b)
/-- the pieces, each from the least, in the order of the least -/
def grp (L : Nat → Nat) (m : Nat) : List (List Nat) := (fsts L m).map (pcOf L m)
theorem grp_same {L M : Nat → Nat} (h : ∀ x y, L x = L y ↔ M x = M y) (m : Nat) : grp L m = grp M m := by
  have e1 : fsts L m = fsts M m := List.filter_congr fun b _ => by
    congr 1; funext a; exact decide_eq_decide.mpr (not_congr (h a b))
  unfold grp
  rw [e1]
  exact List.map_congr_left fun b _ => List.filter_congr fun x _ => decide_eq_decide.mpr (h x b)
theorem fsts_mem {L : Nat → Nat} {i b : Nat} : b ∈ fsts L i ↔ b < i ∧ ∀ a < b, L a ≠ L b := by
  unfold fsts
  rw [List.mem_filter, List.mem_range, List.all_eq_true]
  exact and_congr_right fun _ => ⟨fun h a ha => of_decide_eq_true (h a (List.mem_range.mpr ha)), fun h a ha => decide_eq_true (h a (List.mem_range.mp ha))⟩
theorem fsts_inj {L : Nat → Nat} {i a b : Nat} (ha : a ∈ fsts L i) (hb : b ∈ fsts L i) (e : L a = L b) : a = b := by
  have h1 := (fsts_mem.mp ha).2
  have h2 := (fsts_mem.mp hb).2
  rcases Nat.lt_trichotomy a b with h | h | h
  · exact absurd e (h2 a h)
  · exact h
  · exact absurd e.symm (h1 b h)
theorem fsts_nodup (L : Nat → Nat) (i : Nat) : (fsts L i).Nodup := List.Nodup.sublist List.filter_sublist List.nodup_range
theorem fsts_ex {L : Nat → Nat} {i : Nat} : ∀ x, x < i → ∃ b ∈ fsts L i, L b = L x := by
  intro x
  induction x using Nat.strongRecOn with
  | _ x ih =>
    intro hx
    by_cases h : ∀ a < x, L a ≠ L x
    · exact ⟨x, fsts_mem.mpr ⟨hx, h⟩, rfl⟩
    · obtain ⟨a, ha⟩ := Classical.not_forall.mp h
      obtain ⟨h1, h2⟩ := Classical.not_imp.mp ha
      obtain ⟨b, hb, e⟩ := ih a h1 (by omega)
      exact ⟨b, hb, e.trans (Classical.not_not.mp h2)⟩
theorem fsts_old {L : Nat → Nat} {i b : Nat} (hb : b ∈ fsts L i) (e : L b = L i) : fsts L (i + 1) = fsts L i := by
  unfold fsts
  rw [List.range_succ, List.filter_append]
  rw [show [i].filter (fun b => (List.range b).all fun a => decide (L a ≠ L b)) = [] from ?_, List.append_nil]
  rw [List.filter_eq_nil_iff]
  intro x hx
  rw [List.mem_singleton] at hx; subst hx
  intro z
  have := of_decide_eq_true (List.all_eq_true.mp z b (List.mem_range.mpr (fsts_mem.mp hb).1))
  exact this e
theorem fsts_new {L : Nat → Nat} {i : Nat} (h : ∀ b ∈ fsts L i, L b ≠ L i) : fsts L (i + 1) = fsts L i ++ [i] := by
  unfold fsts
  rw [List.range_succ, List.filter_append]
  congr 1
  rw [List.filter_cons_of_pos]
  · rfl
  · refine List.all_eq_true.mpr fun a ha => decide_eq_true fun e => ?_
    obtain ⟨b, hb, e2⟩ := fsts_ex (L := L) (i := i) a (List.mem_range.mp ha)
    exact h b hb (e2.trans e)
theorem pcOf_succ (L : Nat → Nat) (i b : Nat) : pcOf L (i + 1) b = if L b = L i then pcOf L i b ++ [i] else pcOf L i b := by
  unfold pcOf
  rw [List.range_succ, List.filter_append]
  split
  · rename_i e
    rw [List.filter_cons_of_pos (by simpa using e.symm)]; rfl
  · rename_i e
    rw [List.filter_cons_of_neg (by simpa using fun z => e z.symm)]; simp
theorem pcOf_none {L : Nat → Nat} {i : Nat} (h : ∀ b ∈ fsts L i, L b ≠ L i) : pcOf L i i = [] := by
  unfold pcOf
  rw [List.filter_eq_nil_iff]
  intro x hx
  obtain ⟨b, hb, e⟩ := fsts_ex (L := L) (i := i) x (List.mem_range.mp hx)
  intro z
  exact h b hb (e.trans (of_decide_eq_true z))
theorem map_set_one {α : Type} {bs : List Nat} (nd : bs.Nodup) {f g : Nat → α} {j b : Nat} (hj : bs[j]? = some b) (h : ∀ x ∈ bs, x ≠ b → g x = f x) : (bs.map f).set j (g b) = bs.map g := by
  refine List.ext_getElem? fun i => ?_
  rw [List.getElem?_set, List.getElem?_map, List.getElem?_map, List.length_map]
  obtain ⟨hl, e⟩ := List.getElem?_eq_some_iff.mp hj
  split
  · rename_i q; subst q
    (try rw [if_pos hl]); rw [hj]; rfl
  · rename_i q
    cases e2 : bs[i]? with
    | none => rfl
    | some x =>
      show some (f x) = some (g x)
      rw [h x (List.mem_of_getElem? e2) fun z => ?_]
      subst z
      exact q ((List.getElem?_inj hl nd).mp (hj.trans e2.symm))
/-- the groups so far -/
def grpI (L : Nat → Nat) (i : Nat) : List (List Nat) := (fsts L i).map (pcOf L i)
theorem grpI_old {L : Nat → Nat} {i j b : Nat} (hj : (fsts L i)[j]? = some b) (e : L b = L i) : grpI L (i + 1) = (grpI L i).set j (pcOf L i b ++ [i]) := by
  unfold grpI
  have hb := List.mem_of_getElem? hj
  rw [fsts_old hb e]
  have e2 : pcOf L i b ++ [i] = pcOf L (i + 1) b := by rw [pcOf_succ, if_pos e]
  rw [e2]
  refine (map_set_one (fsts_nodup L i) hj fun x hx n => ?_).symm
  rw [pcOf_succ, if_neg fun z => n (fsts_inj hx hb (z.trans e.symm))]
theorem grpI_new {L : Nat → Nat} {i : Nat} (h : ∀ b ∈ fsts L i, L b ≠ L i) : grpI L (i + 1) = grpI L i ++ [[i]] := by
  unfold grpI
  rw [fsts_new h, List.map_append]
  congr 1
  · exact List.map_congr_left fun b hb => by rw [pcOf_succ, if_neg (h b hb)]
  · rw [List.map_singleton, pcOf_succ, if_pos rfl, pcOf_none h]; rfl
end VL
set_option maxHeartbeats 2000000
namespace VL
open PySem PySem.Spec PyProof.Rows L2 MB
def dkL (ks : List Int) (ps : List Addr) : List (Key × D) := List.zipWith (fun k p => (Sum.inl k, D.ref p)) ks ps
theorem dkL_len {ks : List Int} {ps : List Addr} (h : ps.length = ks.length) : (dkL ks ps).length = ks.length := by
  unfold dkL; rw [List.length_zipWith, h, Nat.min_self]
theorem dkL_vals : ∀ {ks : List Int} {ps : List Addr}, ps.length = ks.length → (dkL ks ps).map (·.2) = ps.map D.ref
  | [], [], _ => rfl
  | k :: ks, p :: ps, h => by
    show _ :: (dkL ks ps).map (·.2) = _
    rw [dkL_vals (by simpa using h)]; rfl
theorem dkL_miss {k : Int} : ∀ {ks : List Int} {ps : List Addr}, k ∉ ks → dkLook (dkL ks ps) (.inl k) = none
  | [], _, _ => rfl
  | _ :: _, [], _ => rfl
  | a :: ks, p :: ps, h => by
    show dkLook ((Sum.inl a, D.ref p) :: dkL ks ps) _ = _
    rw [dkLook_neg (fun z => h (by injection z with z; subst z; exact List.mem_cons_self ..))]
    exact dkL_miss fun z => h (List.mem_cons_of_mem _ z)
theorem dkL_hit {k : Int} {p : Addr} : ∀ {ks : List Int} {ps : List Addr} {j : Nat}, ks.Nodup → ks[j]? = some k → ps[j]? = some p → dkLook (dkL ks ps) (.inl k) = some (.ref p)
  | [], _, j, _, h, _ => by simp at h
  | _ :: _, [], j, _, _, h => by simp at h
  | a :: ks, q :: ps, 0, _, h1, h2 => by
    simp at h1 h2; subst h1; subst h2
    show dkLook ((Sum.inl _, D.ref _) :: dkL ks ps) _ = _
    rw [dkLook_pos rfl]
  | a :: ks, q :: ps, j + 1, nd, h1, h2 => by
    show dkLook ((Sum.inl a, D.ref q) :: dkL ks ps) _ = _
    have h1 : ks[j]? = some k := by simpa using h1
    rw [dkLook_neg (fun z => by injection z with z; subst z; exact (List.nodup_cons.mp nd).1 (List.mem_of_getElem? h1))]
    exact dkL_hit (List.nodup_cons.mp nd).2 h1 (by simpa using h2)
theorem dkL_any {k : Int} : ∀ {ks : List Int} {ps : List Addr}, k ∉ ks → ((dkL ks ps).any fun kv => decide (kv.1 = Sum.inl k)) = false
  | [], _, _ => rfl
  | _ :: _, [], _ => rfl
  | a :: ks, p :: ps, h => by
    show (decide (Sum.inl a = Sum.inl k) || (dkL ks ps).any _) = false
    rw [dkL_any fun z => h (List.mem_cons_of_mem _ z), decide_eq_false (fun z => h (by injection z with z; subst z; exact List.mem_cons_self ..))]
    rfl
theorem dkL_snoc {k : Int} {q : Addr} : ∀ {ks : List Int} {ps : List Addr}, ps.length = ks.length → dkL (ks ++ [k]) (ps ++ [q]) = dkL ks ps ++ [(.inl k, .ref q)]
  | [], [], _ => rfl
  | a :: ks, p :: ps, h => by
    show _ :: dkL (ks ++ [k]) (ps ++ [q]) = _ :: dkL ks ps ++ _
    rw [dkL_snoc (by simpa using h)]; rfl
theorem dkL_put {k : Int} {q : Addr} {ks : List Int} {ps : List Addr} (h : ps.length = ks.length) (n : k ∉ ks) : dkPut (dkL ks ps) (.inl k) (.ref q) = dkL (ks ++ [k]) (ps ++ [q]) := by
  unfold dkPut
  rw [dkL_any n, if_neg (by decide), dkL_snoc h]
/-- the dict at g, with keys ks, holds the lists es, owned at ps; what was owned stays -/
structure OwnDk (O O' : Oh) (g : Addr) (ks : List Int) (ps : List Addr) (es : List (List D)) : Prop where
  dk : O' g = some (.dk (dkL ks ps))
  lp : ps.length = ks.length
  le : es.length = ks.length
  nd : ps.Nodup
  ng : g ∉ ps
  at_ : ∀ (i : Nat) (p : Addr) (e : List D), ps[i]? = some p → es[i]? = some e → O' p = some (.lst e)
  fg : O g = none
  fp : ∀ p ∈ ps, O p = none
  ext : ∀ a u, O a = some u → O' a = some u
theorem OwnDk.start {O O' : Oh} {g : Addr} (fg : O g = none) (ex : ∀ a u, O a = some u → O' a = some u) : OwnDk O (updO O' g (.dk [])) g [] [] [] :=
  ⟨updO_same, rfl, rfl, List.nodup_nil, (fun h => by cases h), (fun i p e h => by simp at h), fg, (fun p h => by cases h), fun a u h => by
    have : a ≠ g := fun z => by subst z; rw [fg] at h; cases h
    rw [updO_ne this]; exact ex a u h⟩
theorem OwnDk.other {O O' : Oh} {g : Addr} {ks : List Int} {ps : List Addr} {es : List (List D)} (h : OwnDk O O' g ks ps es) {a : Addr} {u : OD} (n1 : a ≠ g) (n2 : a ∉ ps) (n3 : O a = none) : OwnDk O (updO O' a u) g ks ps es :=
  ⟨by rw [updO_ne (Ne.symm n1)]; exact h.dk, h.lp, h.le, h.nd, h.ng, fun i p e h1 h2 => by
    rw [updO_ne fun z => n2 (by subst z; exact List.mem_of_getElem? h1)]; exact h.at_ i p e h1 h2, h.fg, h.fp, fun b v e => by
    rw [updO_ne fun z => by subst z; rw [n3] at e; cases e]; exact h.ext b v e⟩
theorem OwnDk.fresh {O O' : Oh} {g : Addr} {ks : List Int} {ps : List Addr} {es : List (List D)} (h : OwnDk O O' g ks ps es) {a : Addr} (n : O' a = none) : a ≠ g ∧ a ∉ ps ∧ O a = none := by
  refine ⟨fun z => ?_, fun z => ?_, ?_⟩
  · subst z; rw [h.dk] at n; cases n
  · obtain ⟨i, hi⟩ := List.mem_iff_getElem?.mp z
    have hl : i < es.length := by
      have := (List.getElem?_eq_some_iff.mp hi).1
      rw [h.lp] at this; rw [h.le]; exact this
    rw [h.at_ i a _ hi (List.getElem?_eq_getElem hl)] at n; cases n
  · cases e : O a with
    | none => rfl
    | some u => rw [h.ext a u e] at n; cases n
theorem OwnDk.old {O O' : Oh} {g p : Addr} {ks : List Int} {ps : List Addr} {es : List (List D)} {e e2 : List D} {j : Nat} (h : OwnDk O O' g ks ps es) (hj : ps[j]? = some p) : OwnDk O (updO O' p (.lst e2)) g ks ps (es.set j e2) := by
  have mp := List.mem_of_getElem? hj
  refine ⟨by rw [updO_ne fun z => h.ng (by rw [z]; exact mp)]; exact h.dk, h.lp, by rw [List.length_set]; exact h.le, h.nd, h.ng, fun i q f h1 h2 => ?_, h.fg, h.fp, fun b v z => ?_⟩
  · by_cases q2 : i = j
    · subst q2
      rw [hj] at h1; cases h1
      rw [List.getElem?_set] at h2
      rw [if_pos rfl] at h2
      split at h2
      · cases h2; exact updO_same
      · cases h2
    · rw [List.getElem?_set_ne (Ne.symm q2)] at h2
      have : q ≠ p := fun z => by
        subst z
        exact q2 (((List.getElem?_inj (List.getElem?_eq_some_iff.mp h1).1 h.nd).mp (h1.trans hj.symm)))
      rw [updO_ne this]; exact h.at_ i q f h1 h2
  · rw [updO_ne fun y => by subst y; rw [h.fp _ mp] at z; cases z]; exact h.ext b v z
theorem OwnDk.new {O O' : Oh} {g q : Addr} {k : Int} {ks : List Int} {ps : List Addr} {es : List (List D)} {e : List D} (h : OwnDk O O' g ks ps es) (hq : O' q = none) : OwnDk O (updO (updO O' g (.dk (dkL (ks ++ [k]) (ps ++ [q])))) q (.lst e)) g (ks ++ [k]) (ps ++ [q]) (es ++ [e]) := by
  obtain ⟨n1, n2, n3⟩ := h.fresh hq
  refine ⟨by rw [updO_ne (Ne.symm n1), updO_same], by rw [List.length_append, List.length_append, h.lp]; rfl, by rw [List.length_append, List.length_append, h.le]; rfl, ?_, ?_, fun i p f h1 h2 => ?_, h.fg, ?_, fun b v z => ?_⟩
  · exact List.nodup_append.mpr ⟨h.nd, by simp, fun a ha b hb => by rw [List.mem_singleton] at hb; subst hb; exact fun z => n2 (z ▸ ha)⟩
  · intro z
    rcases List.mem_append.mp z with z | z
    · exact h.ng z
    · rw [List.mem_singleton] at z; exact n1 z.symm
  · by_cases hi : i < ps.length
    · rw [List.getElem?_append_left hi] at h1
      rw [List.getElem?_append_left (by rw [h.le, ← h.lp]; exact hi)] at h2
      have m := List.mem_of_getElem? h1
      rw [updO_ne fun z => n2 (by rw [← z]; exact m), updO_ne fun z => h.ng (by rw [← z]; exact m)]
      exact h.at_ i p f h1 h2
    · have hl : i = ps.length := by
        have := (List.getElem?_eq_some_iff.mp h1).1
        rw [List.length_append, List.length_singleton] at this; omega
      subst hl
      rw [List.getElem?_append_right (Nat.le_refl _), Nat.sub_self] at h1
      rw [List.getElem?_append_right (by rw [h.le, h.lp]; exact Nat.le_refl _), h.le, h.lp, Nat.sub_self] at h2
      cases h1; cases h2
      exact updO_same
  · intro p hp
    rcases List.mem_append.mp hp with hp | hp
    · exact h.fp p hp
    · rw [List.mem_singleton] at hp; subst hp; exact n3
  · have y1 : b ≠ q := fun y => by subst y; rw [n3] at z; cases z
    have y2 : b ≠ g := fun y => by subst y; rw [h.fg] at z; cases z
    rw [updO_ne y1, updO_ne y2]
    exact h.ext b v z
end VL
set_option maxHeartbeats 2000000
namespace VL
open PySem PySem.Spec PyProof.Rows L2 MB
def edg (c : List Int) : List (Nat × Nat) := match c with
  | [] => []
  | a :: t => t.map fun b => (b.toNat, a.toNat)
def edgs (cs : List (List Int)) : List (Nat × Nat) := cs.flatMap edg
theorem Lab.ex1 : ∀ (fs es : List (Nat × Nat)) (L : Nat → Nat), Lab es L → ∃ M, Lab (es ++ fs) M
  | [], es, L, l => ⟨L, by rw [List.append_nil]; exact l⟩
  | (a, b) :: fs, es, L, l => by
    obtain ⟨M, h⟩ := Lab.ex1 fs (es ++ [(a, b)]) _ (l.link a b)
    exact ⟨M, by rw [List.append_assoc] at h; exact h⟩
theorem Lab.ex (es : List (Nat × Nat)) : ∃ L, Lab es L := Lab.ex1 es [] id Lab.start
theorem lot_lab {cs : List (List Int)} {L : Nat → Nat} (hL : Lab (edgs cs) L) {c : List Int} (hc : c ∈ cs) {x y : Int} (hx : x ∈ c) (hy : y ∈ c) : L x.toNat = L y.toNat := by
  cases c with
  | nil => cases hx
  | cons a t =>
    have key : ∀ z ∈ a :: t, L z.toNat = L a.toNat := fun z hz => by
      rcases List.mem_cons.mp hz with h | h
      · rw [h]
      · exact (hL _ _).mpr (.edge (List.mem_flatMap.mpr ⟨_, hc, List.mem_map.mpr ⟨z, h, rfl⟩⟩))
    rw [key x hx, key y hy]
/-- c lies within ms, or off it -/
def Clo (ms c : List Int) : Prop := ∀ x ∈ c, x ∈ ms → ∀ y ∈ c, y ∈ ms
def stp (ms c : List Int) : List Int := if (c.any fun x => decide (x ∈ ms)) = true then ms ++ c.filter (fun x => decide (x ∉ ms)) else ms
theorem stp_clo {ms c : List Int} (h : Clo ms c) : stp ms c = ms := by
  unfold stp
  split
  · rename_i e
    obtain ⟨x, hx, e⟩ := List.any_eq_true.mp e
    have : c.filter (fun x => decide (x ∉ ms)) = [] := List.filter_eq_nil_iff.mpr fun y hy z => (of_decide_eq_true z) (h x hx (of_decide_eq_true e) y hy)
    rw [this, List.append_nil]
  · rfl
theorem stp_len {ms c : List Int} : Clo ms c ∨ ms.length < (stp ms c).length := by
  by_cases h : Clo ms c
  · exact .inl h
  · right
    unfold Clo at h
    obtain ⟨x, h⟩ := Classical.not_forall.mp h
    obtain ⟨hx, h⟩ := Classical.not_imp.mp h
    obtain ⟨hm, h⟩ := Classical.not_imp.mp h
    obtain ⟨y, h⟩ := Classical.not_forall.mp h
    obtain ⟨hy, h⟩ := Classical.not_imp.mp h
    unfold stp
    rw [if_pos (List.any_eq_true.mpr ⟨x, hx, decide_eq_true hm⟩), List.length_append]
    have : 0 < (c.filter fun x => decide (x ∉ ms)).length := List.length_pos_of_mem (List.mem_filter.mpr ⟨hy, decide_eq_true h⟩)
    omega
/-- part of the piece of i, and i in it -/
structure Pc (L : Nat → Nat) (n i : Nat) (ms : List Int) : Prop where
  nd : ms.Nodup
  at_ : ∀ x ∈ ms, (0 ≤ x ∧ x < (n : Int)) ∧ L x.toNat = L i
  me : (i : Int) ∈ ms
theorem Pc.start {L : Nat → Nat} {n i : Nat} (h : i < n) : Pc L n i [(i : Int)] := ⟨by simp, fun x hx => by
  rw [List.mem_singleton] at hx; subst hx; exact ⟨⟨by omega, by omega⟩, by rw [Int.toNat_natCast]⟩, by simp⟩
theorem Pc.step {cs : List (List Int)} {L : Nat → Nat} (hL : Lab (edgs cs) L) {n i : Nat} {ms c : List Int} (h : Pc L n i ms) (hc : c ∈ cs) (hl : Lot n c) : Pc L n i (stp ms c) := by
  unfold stp
  split
  · rename_i e
    obtain ⟨x, hx, e⟩ := List.any_eq_true.mp e
    have e := of_decide_eq_true e
    refine ⟨List.nodup_append.mpr ⟨h.nd, List.Nodup.sublist List.filter_sublist hl.nodup, fun a ha b hb z => ?_⟩, fun y hy => ?_, List.mem_append.mpr (.inl h.me)⟩
    · subst z; exact (of_decide_eq_true (List.mem_filter.mp hb).2) ha
    · rcases List.mem_append.mp hy with hy | hy
      · exact h.at_ y hy
      · have hy := (List.mem_filter.mp hy).1
        exact ⟨hl.2 y hy, (lot_lab hL hc hy hx).trans (h.at_ x e).2⟩
  · exact h
theorem Pc.len {L : Nat → Nat} {n i : Nat} {ms : List Int} (h : Pc L n i ms) : ms.length ≤ n := by
  have h1 : (ms.map Int.toNat).Nodup := List.pairwise_map.mpr (List.Pairwise.imp_of_mem (fun {a b} ha hb ne z => ne (by
    have := (h.at_ a ha).1; have := (h.at_ b hb).1; omega)) h.nd)
  have := h1.length_le_of_subset (l₂ := List.range n) fun x hx => by
    obtain ⟨y, hy, rfl⟩ := List.mem_map.mp hx
    have := (h.at_ y hy).1
    exact List.mem_range.mpr (by omega)
  rwa [List.length_map, List.length_range] at this
theorem clo_cn {cs : List (List Int)} {n : Nat} (hl : ∀ c ∈ cs, Lot n c) {ms : List Int} (h : ∀ c ∈ cs, Clo ms c) {x y : Nat} (c : Cn (edgs cs) x y) : (x : Int) ∈ ms ↔ (y : Int) ∈ ms := by
  induction c with
  | refl x => exact Iff.rfl
  | symm _ ih => exact ih.symm
  | trans _ _ a b => exact a.trans b
  | edge e =>
    obtain ⟨c, hc, e⟩ := List.mem_flatMap.mp e
    cases c with
    | nil => cases e
    | cons a t =>
      obtain ⟨b, hb, e⟩ := List.mem_map.mp e
      cases e
      have ha := (hl _ hc).2 a (List.mem_cons_self ..)
      have hb2 := (hl _ hc).2 b (List.mem_cons_of_mem _ hb)
      rw [Int.toNat_of_nonneg ha.1, Int.toNat_of_nonneg hb2.1]
      exact ⟨fun z => h _ hc b (List.mem_cons_of_mem _ hb) z a (List.mem_cons_self ..), fun z => h _ hc a (List.mem_cons_self ..) z b (List.mem_cons_of_mem _ hb)⟩
/-- the piece, grown out and sorted -/
theorem Pc.whole {cs : List (List Int)} {L : Nat → Nat} (hL : Lab (edgs cs) L) {n i : Nat} (hl : ∀ c ∈ cs, Lot n c) {ms ss : List Int} (h : Pc L n i ms) (hc : ∀ c ∈ cs, Clo ms c) (pm : ss.Perm ms) (so : ss.Pairwise (· ≤ ·)) : ss.map D.int = natD (pcOf L n i) := by
  have e : ss = (pcOf L n i).map fun (k : Nat) => (k : Int) := by
    have s2 : ((pcOf L n i).map fun (k : Nat) => (k : Int)).Pairwise (· < ·) := List.pairwise_map.mpr (List.Pairwise.imp (fun h => by omega) (List.Pairwise.sublist List.filter_sublist List.pairwise_lt_range))
    refine List.Perm.eq_of_pairwise (le := fun a b : Int => a ≤ b) (fun a b _ _ h h' => Int.le_antisymm h h') so (s2.imp fun h => by omega) ?_
    refine (List.perm_ext_iff_of_nodup (pm.nodup_iff.mpr h.nd) (s2.imp fun h => by omega)).mpr fun a => ?_
    rw [pm.mem_iff, List.mem_map]
    constructor
    · intro ha
      obtain ⟨⟨h0, h1⟩, h2⟩ := h.at_ a ha
      exact ⟨a.toNat, List.mem_filter.mpr ⟨List.mem_range.mpr (by omega), decide_eq_true h2⟩, by omega⟩
    · rintro ⟨k, hk, rfl⟩
      obtain ⟨h1, h2⟩ := List.mem_filter.mp hk
      exact (clo_cn hl hc ((hL k i).mp (of_decide_eq_true h2))).mpr h.me
  rw [e, List.map_map]; rfl
theorem fsts_if {L : Nat → Nat} {n i : Nat} (hi : i < n) : (((fsts L i).map (pcOf L n)).any fun e => decide (i ∈ e)) = true ↔ ∃ b ∈ fsts L i, L b = L i := by
  rw [List.any_map, List.any_eq_true]
  refine exists_congr fun b => and_congr_right fun hb => ?_
  show decide (i ∈ pcOf L n b) = true ↔ _
  rw [decide_eq_true_iff, pcOf, List.mem_filter, List.mem_range, decide_eq_true_iff]
  exact ⟨fun h => h.2.symm, fun h => ⟨hi, h.symm⟩⟩
end VL
set_option maxHeartbeats 2000000
namespace VL
open PySem PySem.Spec PyProof.Rows L2 MB
def Adj (es : List (List Nat)) (x y : Nat) : Prop := ∃ e, es[x]? = some e ∧ y ∈ e
def kys (s : Nat) (bs : List (Nat × Nat)) : List Nat := s :: bs.map (·.1)
def bfD (bs : List (Nat × Nat)) : List (Key × D) := bs.map fun b => (.inl (b.1 : Int), .int (b.2 : Int))
def dkB (s : Nat) (bs : List (Nat × Nat)) : List (Key × D) := (.inl (s : Int), .non) :: bfD bs
theorem key_ne {a b : Nat} (h : a ≠ b) : ¬ (Sum.inl (a : Int) : Key) = .inl (b : Int) := fun z => h (by injection z with z; omega)
theorem bfD_none {k : Nat} : ∀ {bs : List (Nat × Nat)}, k ∉ bs.map (·.1) → dkLook (bfD bs) (.inl (k : Int)) = none
  | [], _ => rfl
  | b :: bs, h => by
    show dkLook ((Sum.inl (b.1 : Int), _) :: bfD bs) _ = none
    rw [dkLook_neg (key_ne fun z => h (by rw [← z]; exact List.mem_cons_self ..))]
    exact bfD_none fun z => h (List.mem_cons_of_mem _ z)
theorem dkB_none {s k : Nat} {bs : List (Nat × Nat)} (h : k ∉ kys s bs) : dkLook (dkB s bs) (.inl (k : Int)) = none := by
  unfold dkB
  rw [dkLook_neg (key_ne fun z => h (by rw [← z]; exact List.mem_cons_self ..))]
  exact bfD_none fun z => h (List.mem_cons_of_mem _ z)
theorem bfD_some {k p : Nat} : ∀ {bs : List (Nat × Nat)}, (bs.map (·.1)).Nodup → (k, p) ∈ bs → dkLook (bfD bs) (.inl (k : Int)) = some (.int (p : Int))
  | [], _, h => by cases h
  | b :: bs, nd, h => by
    show dkLook ((Sum.inl (b.1 : Int), D.int (b.2 : Int)) :: bfD bs) _ = _
    rcases List.mem_cons.mp h with h | h
    · subst h
      rw [dkLook_pos rfl]
    · rw [dkLook_neg (key_ne fun z => (List.nodup_cons.mp nd).1 (by show b.1 ∈ _; rw [z]; exact List.mem_map.mpr ⟨_, h, rfl⟩))]
      exact bfD_some (List.nodup_cons.mp nd).2 h
theorem dkB_some {s k p : Nat} {bs : List (Nat × Nat)} (nd : (kys s bs).Nodup) (h : (k, p) ∈ bs) : dkLook (dkB s bs) (.inl (k : Int)) = some (.int (p : Int)) := by
  unfold dkB
  obtain ⟨n1, n2⟩ := List.nodup_cons.mp nd
  rw [dkLook_neg (key_ne fun z => n1 (by rw [z]; exact List.mem_map.mpr ⟨_, h, rfl⟩))]
  exact bfD_some n2 h
theorem dkB_is {s k : Nat} {bs : List (Nat × Nat)} (nd : (kys s bs).Nodup) : (dkLook (dkB s bs) (.inl (k : Int))).isSome = decide (k ∈ kys s bs) := by
  by_cases h : k ∈ kys s bs
  · rw [decide_eq_true h]
    rcases List.mem_cons.mp h with h | h
    · subst h
      unfold dkB
      rw [dkLook_pos rfl]; rfl
    · obtain ⟨⟨a, p⟩, h1, rfl⟩ := List.mem_map.mp h
      rw [dkB_some nd h1]; rfl
  · rw [decide_eq_false h, dkB_none h]; rfl
theorem dkB_put {s k p : Nat} {bs : List (Nat × Nat)} (h : k ∉ kys s bs) : dkPut (dkB s bs) (.inl (k : Int)) (.int (p : Int)) = dkB s (bs ++ [(k, p)]) := by
  have : ((dkB s bs).any fun kv => decide (kv.1 = Sum.inl (k : Int))) = false := by
    rw [Bool.eq_false_iff]
    intro z
    obtain ⟨kv, h1, h2⟩ := List.any_eq_true.mp z
    have h2 := of_decide_eq_true h2
    rcases List.mem_cons.mp h1 with h3 | h3
    · subst h3; exact key_ne (fun z => h (by rw [← z]; exact List.mem_cons_self ..)) h2
    · obtain ⟨b, hb, rfl⟩ := List.mem_map.mp h3
      exact key_ne (fun z => h (List.mem_cons_of_mem _ (by rw [← z]; exact List.mem_map.mpr ⟨b, hb, rfl⟩))) h2
  unfold dkPut
  rw [this, if_neg (by decide)]
  unfold dkB bfD
  rw [List.map_append]; rfl
/-- what the search knows: each key but the first has a parent that came before it -/
structure Bf (es : List (List Nat)) (n s : Nat) (bs : List (Nat × Nat)) : Prop where
  nd : (kys s bs).Nodup
  par : ∀ (i k p : Nat), bs[i]? = some (k, p) → p ∈ kys s (bs.take i) ∧ Adj es p k
  lt : ∀ k ∈ kys s bs, k < n
theorem Bf.start {es : List (List Nat)} {n s : Nat} (h : s < n) : Bf es n s [] := ⟨by simp [kys], fun i k p h => by simp at h, fun k hk => by
  simp [kys] at hk; omega⟩
theorem Bf.len {es : List (List Nat)} {n s : Nat} {bs : List (Nat × Nat)} (h : Bf es n s bs) : bs.length + 1 ≤ n := by
  have := h.nd.length_le_of_subset (l₂ := List.range n) fun x hx => List.mem_range.mpr (h.lt x hx)
  unfold kys at this
  rwa [List.length_cons, List.length_map, List.length_range] at this
theorem kys_snoc (s : Nat) (bs : List (Nat × Nat)) (k p : Nat) : kys s (bs ++ [(k, p)]) = kys s bs ++ [k] := by unfold kys; rw [List.map_append]; rfl
theorem kys_take {s : Nat} {bs : List (Nat × Nat)} {i k : Nat} (h : k ∈ kys s (bs.take i)) : k ∈ kys s bs := by
  rcases List.mem_cons.mp h with h | h
  · rw [h]; exact List.mem_cons_self ..
  · obtain ⟨b, hb, rfl⟩ := List.mem_map.mp h
    exact List.mem_cons_of_mem _ (List.mem_map.mpr ⟨b, List.mem_of_mem_take hb, rfl⟩)
theorem Bf.add {es : List (List Nat)} {n s : Nat} {bs : List (Nat × Nat)} (h : Bf es n s bs) {k p : Nat} (hk : k ∉ kys s bs) (hp : p ∈ kys s bs) (ha : Adj es p k) (hn : k < n) : Bf es n s (bs ++ [(k, p)]) := by
  refine ⟨?_, fun i a b e => ?_, fun a ha => ?_⟩
  · rw [kys_snoc]
    exact List.nodup_append.mpr ⟨h.nd, by simp, fun a h1 b h2 z => by rw [List.mem_singleton] at h2; subst h2; subst z; exact hk h1⟩
  · by_cases hi : i < bs.length
    · rw [List.getElem?_append_left hi] at e
      rw [List.take_append_of_le_length (by omega)]
      exact h.par i a b e
    · have hl : i = bs.length := by
        have := (List.getElem?_eq_some_iff.mp e).1
        rw [List.length_append, List.length_singleton] at this; omega
      subst hl
      rw [List.getElem?_append_right (Nat.le_refl _), Nat.sub_self] at e
      cases e
      rw [List.take_left' rfl]
      exact ⟨hp, ha⟩
  · rw [kys_snoc] at ha
    rcases List.mem_append.mp ha with h1 | h1
    · exact h.lt a h1
    · rw [List.mem_singleton] at h1; omega
/-- a parent comes before -/
theorem Bf.back {es : List (List Nat)} {n s : Nat} {bs : List (Nat × Nat)} (h : Bf es n s bs) {k : Nat} (hk : k ∈ kys s bs) (ns : k ≠ s) : ∃ p : Nat, dkLook (dkB s bs) (.inl (k : Int)) = some (.int (p : Int)) ∧ p ∈ kys s bs ∧ Adj es p k ∧ (kys s bs).idxOf p < (kys s bs).idxOf k := by
  rcases List.mem_cons.mp hk with e | hk'
  · exact absurd e ns
  · obtain ⟨⟨a, p⟩, hm, rfl⟩ := List.mem_map.mp hk'
    obtain ⟨i, hi⟩ := List.mem_iff_getElem?.mp hm
    obtain ⟨h1, h2⟩ := h.par i a p hi
    refine ⟨p, dkB_some h.nd hm, kys_take h1, h2, ?_⟩
    have hil := (List.getElem?_eq_some_iff.mp hi).1
    have hka : (kys s bs)[i + 1]? = some a := by
      show (bs.map (·.1))[i]? = some a
      rw [List.getElem?_map, hi]; rfl
    have e1 : (kys s bs).idxOf a = i + 1 := by
      obtain ⟨hl, e⟩ := List.getElem?_eq_some_iff.mp hka
      rw [← e]; exact h.nd.idxOf_getElem _ hl
    obtain ⟨j, hj⟩ := List.mem_iff_getElem?.mp h1
    have hjl := (List.getElem?_eq_some_iff.mp hj).1
    have hjl2 : j < i + 1 := by
      unfold kys at hjl; rw [List.length_cons, List.length_map, List.length_take] at hjl; omega
    have hj2 : (kys s bs)[j]? = some p := by
      have e2 : kys s (bs.take i) = (kys s bs).take (i + 1) := by unfold kys; rw [List.take_succ_cons, List.map_take]
      rw [e2, List.getElem?_take, if_pos hjl2] at hj
      exact hj
    have e3 : (kys s bs).idxOf p = j := by
      obtain ⟨hl, e⟩ := List.getElem?_eq_some_iff.mp hj2
      rw [← e]; exact h.nd.idxOf_getElem _ hl
    rw [e1, e3]; exact hjl2
/-- a way from s to g -/
structure IsWay (es : List (List Nat)) (s g : Nat) (ws : List Nat) : Prop where
  hd : ws.head? = some s
  lst : ws.getLast? = some g
  nd : ws.Nodup
  ch : ∀ (i a b : Nat), ws[i]? = some a → ws[i + 1]? = some b → Adj es a b
/-- a way back from g, so far to l -/
structure Bk (es : List (List Nat)) (s g : Nat) (bs : List (Nat × Nat)) (w0 : List Nat) (l : Nat) : Prop where
  hd : (w0 ++ [l]).head? = some g
  dec : (w0 ++ [l]).Pairwise fun a b => (kys s bs).idxOf b < (kys s bs).idxOf a
  ch : ∀ (i a b : Nat), (w0 ++ [l])[i]? = some a → (w0 ++ [l])[i + 1]? = some b → Adj es b a
  me : l ∈ kys s bs
theorem Bk.start {es : List (List Nat)} {s g : Nat} {bs : List (Nat × Nat)} (h : g ∈ kys s bs) : Bk es s g bs [] g := ⟨rfl, by simp, fun i a b _ h => by simp at h, h⟩
theorem Bk.add {es : List (List Nat)} {s g : Nat} {bs : List (Nat × Nat)} {w0 : List Nat} {l p : Nat} (h : Bk es s g bs w0 l) (hp : p ∈ kys s bs) (ha : Adj es p l) (hi : (kys s bs).idxOf p < (kys s bs).idxOf l) : Bk es s g bs (w0 ++ [l]) p := by
  refine ⟨?_, ?_, fun i a b h1 h2 => ?_, hp⟩
  · rw [List.head?_append, h.hd]; rfl
  · refine List.pairwise_append.mpr ⟨h.dec, by simp, fun a ha2 b hb => ?_⟩
    rw [List.mem_singleton] at hb; subst hb
    rcases List.mem_append.mp ha2 with h1 | h1
    · have := (List.pairwise_append.mp h.dec).2.2 a h1 l (by simp)
      omega
    · rw [List.mem_singleton] at h1; subst h1; exact hi
  · by_cases hl : i + 1 < (w0 ++ [l]).length
    · rw [List.getElem?_append_left (by omega)] at h1
      rw [List.getElem?_append_left hl] at h2
      exact h.ch i a b h1 h2
    · have hl2 : i + 1 = (w0 ++ [l]).length := by
        have := (List.getElem?_eq_some_iff.mp h2).1
        rw [List.length_append, List.length_singleton] at this; omega
      rw [hl2, List.getElem?_append_right (Nat.le_refl _), Nat.sub_self] at h2
      cases h2
      rw [List.length_append, List.length_singleton] at hl2
      have : i = w0.length := by omega
      subst this
      rw [List.append_assoc, List.getElem?_append_right (Nat.le_refl _), Nat.sub_self] at h1
      cases h1
      exact ha
theorem Bk.way {es : List (List Nat)} {s g : Nat} {bs : List (Nat × Nat)} {w0 : List Nat} (h : Bk es s g bs w0 s) : IsWay es s g (w0 ++ [s]).reverse := by
  refine ⟨by rw [List.head?_reverse, List.getLast?_concat], by rw [List.getLast?_reverse, h.hd], ?_, fun i a b h1 h2 => ?_⟩
  · exact List.pairwise_reverse.mpr (h.dec.imp fun {a b} h z => by subst z; omega)
  · have hl := (List.getElem?_eq_some_iff.mp h2).1
    rw [List.length_reverse] at hl
    rw [List.getElem?_reverse (by omega)] at h1 h2
    have e : (w0 ++ [s]).length - 1 - i = (w0 ++ [s]).length - 1 - (i + 1) + 1 := by omega
    rw [e] at h1
    exact h.ch _ _ _ h2 h1
theorem m_pop {c : Cz} {O : Oh} {Q : D → Oh → Prop} {p : Addr} {xs : List D} {d : D} (h : O p = some (.lst (xs ++ [d]))) (q : Q d (updO O p (.lst xs))) : MTR c rPop (.ref p) [] O Q := fun F H v vs s rv rs z Q' k => by
  cases rv
  cases rs
  obtain ⟨_, us, h1, h2⟩ := s.own p _ h
  have hl := h2.len
  rw [List.length_append, List.length_singleton] at hl
  obtain ⟨y, h3, h4⟩ := h2.at' (i := xs.length) (d := d) (by rw [List.getElem?_append_right (Nat.le_refl _), Nat.sub_self]; rfl)
  have h5 : RepsD c.K F us.dropLast xs := by
    have := h2.take xs.length
    rw [List.take_left' rfl] at this
    rw [List.dropLast_eq_take, hl]
    exact this
  exact ⟨p, us, y, rfl, rfl, h1, by rw [hl]; exact h3, k F _ _ _ _ (Same.refl F) (s.write (o' := .lst xs) h ⟨_, upd_same, h5⟩) h4 q⟩
/-- the last item -/
theorem at_last {xs : List D} {d : D} : atI (xs ++ [d]) (-1) = some d := by
  unfold atI ixN
  rw [List.length_append, List.length_singleton, if_neg (by omega)]
  rw [if_pos (by omega)]
  rw [show ((-1 : Int) + ((xs.length + 1 : Nat) : Int)).toNat = xs.length by omega]
  show (xs ++ [d])[xs.length]? = some d
  rw [List.getElem?_append_right (Nat.le_refl _), Nat.sub_self]; rfl
theorem u1 {n : Nat} (h : n + 64 < cLine) : n + 1 < cLine := by omega
end VL
set_option maxHeartbeats 2000000
namespace VL
open PySem PySem.Spec PyProof.Rows L2 MB
theorem lnkL_same {L : Nat → Nat} {a b : Nat} (h : L a = L b) : lnkL L a b = L := by
  funext x
  unfold lnkL
  split
  · rename_i e; rw [e, h]
  · rfl
theorem lnkL_eq {L : Nat → Nat} {a b x y : Nat} (h : L a ≠ L b) : lnkL L a b x = lnkL L a b y ↔ L x = L y ∨ (L x = L a ∧ L y = L b) ∨ (L x = L b ∧ L y = L a) := by
  unfold lnkL
  split <;> split <;> omega
theorem len_link {L : Nat → Nat} {V a b : Nat} (ha : a < V) (hb : b < V) (h : L a ≠ L b) : (fsts L V).length = (fsts (lnkL L a b) V).length + 1 := by
  obtain ⟨fa, hfa, ea⟩ := fsts_ex (L := L) (i := V) a ha
  obtain ⟨fb, hfb, eb⟩ := fsts_ex (L := L) (i := V) b hb
  have ma := fsts_mem.mp hfa
  have mb := fsts_mem.mp hfb
  have nab : fa ≠ fb := fun z => by subst z; exact h (ea.symm.trans eb)
  -- the later of the two firsts goes
  have key : ∃ mx mn, mn < mx ∧ ((mx = fa ∧ mn = fb) ∨ (mx = fb ∧ mn = fa)) := by
    rcases Nat.lt_or_gt_of_ne nab with z | z
    · exact ⟨fb, fa, z, .inr ⟨rfl, rfl⟩⟩
    · exact ⟨fa, fb, z, .inl ⟨rfl, rfl⟩⟩
  obtain ⟨mx, mn, hlt, hor⟩ := key
  have hmx : mx ∈ fsts L V := by rcases hor with ⟨h1, _⟩ | ⟨h1, _⟩ <;> rw [h1] <;> assumption
  have hM : ∀ {x y : Nat}, lnkL L a b x = lnkL L a b y ↔ L x = L y ∨ (L x = L a ∧ L y = L b) ∨ (L x = L b ∧ L y = L a) := lnkL_eq h
  have hn : mx ∉ fsts (lnkL L a b) V := fun z => (fsts_mem.mp z).2 mn hlt (hM.mpr (by
    rcases hor with ⟨h1, h2⟩ | ⟨h1, h2⟩ <;> subst h1 <;> subst h2
    · exact .inr (.inr ⟨eb, ea⟩)
    · exact .inr (.inl ⟨ea, eb⟩)))
  have pm : (fsts L V).Perm (mx :: fsts (lnkL L a b) V) := by
    refine (List.perm_ext_iff_of_nodup (fsts_nodup L V) (List.nodup_cons.mpr ⟨hn, fsts_nodup _ V⟩)).mpr fun x => ?_
    rw [List.mem_cons]
    constructor
    · intro hx
      by_cases e : x = mx
      · exact .inl e
      · right
        have mx' := fsts_mem.mp hx
        refine fsts_mem.mpr ⟨mx'.1, fun y hy z => ?_⟩
        rcases hM.mp z with z | ⟨z1, z2⟩ | ⟨z1, z2⟩
        · exact mx'.2 y hy z
        · -- x is the first of b's
          have e1 : x = fb := fsts_inj hx hfb (z2.trans eb.symm)
          have e2 : ¬ y < fa := fun q => ma.2 y q (z1.trans ea.symm)
          rcases hor with ⟨h1, h2⟩ | ⟨h1, h2⟩
          · omega
          · exact e (e1.trans h1.symm)
        · have e1 : x = fa := fsts_inj hx hfa (z2.trans ea.symm)
          have e2 : ¬ y < fb := fun q => mb.2 y q (z1.trans eb.symm)
          rcases hor with ⟨h1, h2⟩ | ⟨h1, h2⟩
          · exact e (e1.trans h1.symm)
          · omega
    · rintro (e | hx)
      · subst e; exact hmx
      · have m := fsts_mem.mp hx
        exact fsts_mem.mpr ⟨m.1, fun y hy z => m.2 y hy (hM.mpr (.inl z))⟩
  rw [pm.length_eq]; rfl
/-- each pair joins two pieces of those before it -/
def RFree (es : List (Nat × Nat)) : Prop := ∀ (i a b : Nat), es[i]? = some (a, b) → ¬ Cn (es.take i) a b
theorem fsts_id (V : Nat) : fsts id V = List.range V := by
  unfold fsts
  rw [List.filter_eq_self]
  intro b _
  exact List.all_eq_true.mpr fun a ha => decide_eq_true fun z => by
    have z : a = b := z
    have := List.mem_range.mp ha
    omega
theorem Lab.len {es : List (Nat × Nat)} {L M : Nat → Nat} (l : Lab es L) (k : Lab es M) (V : Nat) : (fsts L V).length = (fsts M V).length := by
  have := congrArg List.length (grp_same (l.same k) V)
  unfold grp at this
  rwa [List.length_map, List.length_map] at this
theorem count {V : Nat} : ∀ (k : Nat) (es : List (Nat × Nat)), es.length = k → (∀ p ∈ es, p.1 < V ∧ p.2 < V) → ∀ L, Lab es L → V ≤ (fsts L V).length + es.length ∧ (V = (fsts L V).length + es.length ↔ RFree es)
  | 0, es, hk, _, L, l => by
    have : es = [] := List.length_eq_zero_iff.mp hk
    subst this
    rw [l.len Lab.start V, fsts_id, List.length_range]
    exact ⟨by simp, ⟨fun _ i a b h => by simp at h, fun _ => by simp⟩⟩
  | k + 1, es, hk, hv, L, l => by
    obtain ⟨fs, ⟨a, b⟩, rfl⟩ : ∃ fs p, es = fs ++ [p] := by
      rcases List.eq_nil_or_concat es with h | ⟨x, y, h⟩
      · subst h; simp at hk
      · exact ⟨x, y, by simpa using h⟩
    obtain ⟨M, m⟩ := Lab.ex1 fs [] id Lab.start
    rw [List.nil_append] at m
    have hk2 : fs.length = k := by simpa using hk
    obtain ⟨c1, c2⟩ := count k fs hk2 (fun p hp => hv p (List.mem_append.mpr (.inl hp))) M m
    have hab : a < V ∧ b < V := hv (a, b) (by simp)
    have e := l.len (m.link a b) V
    have tk : ∀ i, i ≤ fs.length → (fs ++ [(a, b)]).take i = fs.take i := fun i hi => List.take_append_of_le_length hi
    have rf : RFree (fs ++ [(a, b)]) ↔ RFree fs ∧ ¬ Cn fs a b := by
      constructor
      · intro h
        refine ⟨fun i x y q => ?_, ?_⟩
        · have hi := (List.getElem?_eq_some_iff.mp q).1
          have := h i x y (by rw [List.getElem?_append_left hi]; exact q)
          rwa [tk i (by omega)] at this
        · have := h fs.length a b (by rw [List.getElem?_append_right (Nat.le_refl _), Nat.sub_self]; rfl)
          rwa [List.take_left' rfl] at this
      · rintro ⟨h1, h2⟩ i x y q
        by_cases hi : i < fs.length
        · rw [List.getElem?_append_left hi] at q
          rw [tk i (by omega)]
          exact h1 i x y q
        · have hl : i = fs.length := by
            have := (List.getElem?_eq_some_iff.mp q).1
            rw [List.length_append, List.length_singleton] at this; omega
          subst hl
          rw [List.getElem?_append_right (Nat.le_refl _), Nat.sub_self] at q
          cases q
          rw [List.take_left' rfl]
          exact h2
    rw [List.length_append, List.length_singleton, rf, ← c2, e]
    by_cases hL : M a = M b
    · rw [lnkL_same hL]
      refine ⟨by omega, ⟨fun h => by omega, fun ⟨_, h⟩ => absurd ((m a b).mp hL) h⟩⟩
    · have := len_link hab.1 hab.2 hL
      refine ⟨by omega, ⟨fun h => ⟨by omega, fun z => hL ((m a b).mpr z)⟩, fun ⟨h, _⟩ => by omega⟩⟩
/-- the links of a code as pairs: bit, and n + the check's number; in the program's order -/
def bipF (n : Nat) : Nat → List (List Int) → List (Nat × Nat)
  | _, [] => []
  | j, c :: cs => c.map (fun b => (b.toNat, n + j)) ++ bipF n (j + 1) cs
theorem bipF_mem {n : Nat} : ∀ {cs : List (List Int)} {j : Nat} {p : Nat × Nat}, p ∈ bipF n j cs ↔ ∃ i c b, cs[i]? = some c ∧ b ∈ c ∧ p = (Int.toNat b, n + (j + i))
  | [], j, p => ⟨fun h => (by cases h), fun ⟨i, c, b, h, _⟩ => by simp at h⟩
  | c :: cs, j, p => by
    show p ∈ c.map _ ++ bipF n (j + 1) cs ↔ _
    rw [List.mem_append, List.mem_map, bipF_mem]
    constructor
    · rintro (⟨b, hb, rfl⟩ | ⟨i, c', b, h1, h2, rfl⟩)
      · exact ⟨0, c, b, rfl, hb, rfl⟩
      · exact ⟨i + 1, c', b, by simpa using h1, h2, by rw [show j + 1 + i = j + (i + 1) by omega]⟩
    · rintro ⟨i, c', b, h1, h2, rfl⟩
      cases i with
      | zero => simp at h1; subst h1; exact .inl ⟨b, h2, rfl⟩
      | succ i => exact .inr ⟨i, c', b, by simpa using h1, h2, by rw [show j + 1 + i = j + (i + 1) by omega]⟩
theorem bipF_len (n : Nat) : ∀ (cs : List (List Int)) (j : Nat), (bipF n j cs).length = (cs.map List.length).sum
  | [], _ => rfl
  | c :: cs, j => by
    show (c.map _ ++ bipF n (j + 1) cs).length = _
    rw [List.length_append, List.length_map, bipF_len n cs (j + 1)]; rfl
theorem bipF_take (n : Nat) {c : List Int} : ∀ (cs : List (List Int)) (i j : Nat), cs[i]? = some c → bipF n j (cs.take (i + 1)) = bipF n j (cs.take i) ++ c.map fun b => (b.toNat, n + (j + i))
  | [], i, j, h => by simp at h
  | d :: cs, 0, j, h => by
    simp at h; subst h
    show d.map _ ++ bipF n (j + 1) (cs.take 0) = [] ++ _
    rw [List.take_zero]; show _ ++ [] = _; rw [List.append_nil]; rfl
  | d :: cs, i + 1, j, h => by
    show d.map _ ++ bipF n (j + 1) (cs.take (i + 1)) = (d.map _ ++ bipF n (j + 1) (cs.take i)) ++ _
    rw [bipF_take n cs i (j + 1) (by simpa using h), List.append_assoc, show j + 1 + i = j + (i + 1) by omega]
def bips (n : Nat) (cs : List (List Int)) : List (Nat × Nat) := bipF n 0 cs
theorem bips_mem {n : Nat} {cs : List (List Int)} {p : Nat × Nat} : p ∈ bips n cs ↔ ∃ i c b, cs[i]? = some c ∧ b ∈ c ∧ p = (Int.toNat b, n + i) := by
  unfold bips
  rw [bipF_mem]
  simp only [Nat.zero_add]
/-- a bit for each: itself, or its check's first -/
def bitOf (n : Nat) (cs : List (List Int)) (u : Nat) : Nat := if u < n then u else match cs[u - n]? with
  | some (a :: _) => a.toNat
  | _ => u
theorem cn_bit {n : Nat} {cs : List (List Int)} (hl : ∀ c ∈ cs, Lot n c ∧ c ≠ []) {x y : Nat} (h : Cn (bips n cs) x y) : Cn (edgs cs) (bitOf n cs x) (bitOf n cs y) := by
  induction h with
  | refl x => exact .refl _
  | symm _ ih => exact .symm ih
  | trans _ _ a b => exact .trans a b
  | edge e =>
    obtain ⟨i, c, b, h1, h2, e⟩ := bips_mem.mp e
    cases e
    have hc := List.mem_of_getElem? h1
    obtain ⟨hlot, _⟩ := hl c hc
    have hb := hlot.2 b h2
    cases c with
    | nil => cases h2
    | cons a t =>
      have e1 : bitOf n cs b.toNat = b.toNat := by unfold bitOf; rw [if_pos (by omega)]
      have e2 : bitOf n cs (n + i) = a.toNat := by
        unfold bitOf; rw [if_neg (by omega), show n + i - n = i by omega, h1]
      rw [e1, e2]
      rcases List.mem_cons.mp h2 with h | h
      · rw [h]; exact .refl _
      · exact .edge (List.mem_flatMap.mpr ⟨_, hc, List.mem_map.mpr ⟨b, h, rfl⟩⟩)
theorem cn_bip {n : Nat} {cs : List (List Int)} {x y : Nat} (h : Cn (edgs cs) x y) : Cn (bips n cs) x y := by
  induction h with
  | refl x => exact .refl _
  | symm _ ih => exact .symm ih
  | trans _ _ a b => exact .trans a b
  | edge e =>
    obtain ⟨c, hc, e⟩ := List.mem_flatMap.mp e
    obtain ⟨i, hi⟩ := List.mem_iff_getElem?.mp hc
    cases c with
    | nil => cases e
    | cons a t =>
      obtain ⟨b, hb, e⟩ := List.mem_map.mp e
      cases e
      have h1 : Cn (bips n cs) b.toNat (n + i) := .edge (bips_mem.mpr ⟨i, _, b, hi, List.mem_cons_of_mem _ hb, rfl⟩)
      have h2 : Cn (bips n cs) a.toNat (n + i) := .edge (bips_mem.mpr ⟨i, _, a, hi, List.mem_cons_self .., rfl⟩)
      exact h1.trans h2.symm
theorem fsts_bip {n : Nat} {cs : List (List Int)} (hl : ∀ c ∈ cs, Lot n c ∧ c ≠ []) {M : Nat → Nat} (m : Lab (bips n cs) M) : ∀ k, k ≤ cs.length → fsts M (n + k) = fsts M n
  | 0, _ => rfl
  | k + 1, hk => by
    obtain ⟨c, hc⟩ : ∃ c, cs[k]? = some c := ⟨_, List.getElem?_eq_getElem (by omega)⟩
    obtain ⟨hlot, hne⟩ := hl c (List.mem_of_getElem? hc)
    obtain ⟨a, t, rfl⟩ : ∃ a t, c = a :: t := by cases c with
      | nil => exact absurd rfl hne
      | cons a t => exact ⟨a, t, rfl⟩
    have ha := hlot.2 a (List.mem_cons_self ..)
    have e : M a.toNat = M (n + k) := (m _ _).mpr (.edge (bips_mem.mpr ⟨k, _, a, hc, List.mem_cons_self .., rfl⟩))
    obtain ⟨b, hb, e2⟩ := fsts_ex (L := M) (i := n + k) a.toNat (by omega)
    show fsts M (n + k + 1) = _
    rw [fsts_old hb (e2.trans e)]
    exact fsts_bip hl m k (by omega)
theorem ring_count {n : Nat} {cs : List (List Int)} (hl : ∀ c ∈ cs, Lot n c ∧ c ≠ []) {L : Nat → Nat} (l : Lab (edgs cs) L) : n + cs.length = (grp L n).length + (bips n cs).length ↔ RFree (bips n cs) := by
  obtain ⟨M, m⟩ := Lab.ex (bips n cs)
  have hv : ∀ p ∈ bips n cs, p.1 < n + cs.length ∧ p.2 < n + cs.length := fun p hp => by
    obtain ⟨i, c, b, h1, h2, e⟩ := bips_mem.mp hp
    subst e
    have hi := (List.getElem?_eq_some_iff.mp h1).1
    have hb := (hl c (List.mem_of_getElem? h1)).1.2 b h2
    exact ⟨by show b.toNat < _; omega, by show n + i < _; omega⟩
  have c := (count (V := n + cs.length) _ _ rfl hv M m).2
  rw [fsts_bip hl m _ (Nat.le_refl _)] at c
  have e : fsts M n = fsts L n := List.filter_congr fun b hb => by
    have hb := List.mem_range.mp hb
    rw [Bool.eq_iff_iff, List.all_eq_true, List.all_eq_true]
    have key : ∀ a, a < b → (M a = M b ↔ L a = L b) := fun a ha => by
      rw [m a b, l a b]
      refine ⟨fun h => ?_, cn_bip⟩
      have := cn_bit hl h
      unfold bitOf at this
      rwa [if_pos (by omega), if_pos (by omega)] at this
    exact ⟨fun h a ha => decide_eq_true fun z => of_decide_eq_true (h a ha) ((key a (List.mem_range.mp ha)).mpr z), fun h a ha => decide_eq_true fun z => of_decide_eq_true (h a ha) ((key a (List.mem_range.mp ha)).mp z)⟩
  rw [e] at c
  unfold grp
  rw [List.length_map]
  exact c
end VL
set_option maxHeartbeats 2000000
namespace VL
open PySem PySem.Spec PyProof.Rows L2 MB
/-- bits and checks by turns, each once, each check holding the bits beside it -/
structure RingOk (n : Nat) (cs : List (List Int)) (r : List Nat) : Prop where
  four : 4 ≤ r.length
  ev : r.length % 2 = 0
  lt0 : ∀ k p : Nat, r[k]? = some p → k % 2 = 0 → p < n
  lt1 : ∀ k p : Nat, r[k]? = some p → k % 2 = 1 → p < cs.length
  ne : ∀ j k a b : Nat, j < k → j % 2 = k % 2 → r[j]? = some a → r[k]? = some b → a ≠ b
  wire : ∀ (k q : Nat) (c : List Int), k % 2 = 1 → r[k]? = some q → cs[q]? = some c → ∃ a b : Nat, r[k - 1]? = some a ∧ r[(k + 1) % r.length]? = some b ∧ (a : Int) ∈ c ∧ (b : Int) ∈ c
theorem bips_lt {n : Nat} {cs : List (List Int)} (hl : ∀ c ∈ cs, Lot n c ∧ c ≠ []) {x y : Nat} (h : (x, y) ∈ bips n cs) : x < n ∧ n ≤ y ∧ y < n + cs.length ∧ ∃ c, cs[y - n]? = some c ∧ (x : Int) ∈ c := by
  obtain ⟨i, c, b, h1, h2, e⟩ := bips_mem.mp h
  cases e
  have hi := (List.getElem?_eq_some_iff.mp h1).1
  have hb := (hl c (List.mem_of_getElem? h1)).1.2 b h2
  refine ⟨by omega, by omega, by omega, c, ?_, ?_⟩
  · rw [show n + i - n = i by omega]; exact h1
  · rw [Int.toNat_of_nonneg hb.1]; exact h2
def rgOf (n : Nat) (ws : List Nat) : List Nat := ws.map fun p => if p < n then p else p - n
theorem way_ring {n : Nat} {cs : List (List Int)} (hl : ∀ c ∈ cs, Lot n c ∧ c ≠ []) {adj : List (List Nat)} {es : List (Nat × Nat)} (hes : ∀ p ∈ es, p ∈ bips n cs) (ha : ∀ x y, Adj adj x y → (x, y) ∈ es ∨ (y, x) ∈ es) {s i : Nat} {c : List Int} (hc : cs[i]? = some c) (hs : (s : Int) ∈ c) (hne : (s, n + i) ∉ es) {ws : List Nat} (w : IsWay adj s (n + i) ws) : RingOk n cs (rgOf n ws) := by
  have hsn : s < n := by
    have := (hl c (List.mem_of_getElem? hc)).1.2 _ hs
    omega
  have h0 : ws[0]? = some s := by rw [← List.head?_eq_getElem?]; exact w.hd
  have hlast : ws[ws.length - 1]? = some (n + i) := by rw [← List.getLast?_eq_getElem?]; exact w.lst
  have hpos : 0 < ws.length := (List.getElem?_eq_some_iff.mp h0).1
  have link : ∀ x y, Adj adj x y → (x < n ∧ n ≤ y ∧ y < n + cs.length ∧ ∃ c, cs[y - n]? = some c ∧ (x : Int) ∈ c) ∨ (y < n ∧ n ≤ x ∧ x < n + cs.length ∧ ∃ c, cs[x - n]? = some c ∧ (y : Int) ∈ c) := fun x y h => by
    rcases ha x y h with h | h
    · exact .inl (bips_lt hl (hes _ h))
    · exact .inr (bips_lt hl (hes _ h))
  have par : ∀ k p, ws[k]? = some p → (k % 2 = 0 → p < n) ∧ (k % 2 = 1 → n ≤ p ∧ p < n + cs.length) := by
    intro k
    induction k with
    | zero => intro p h; rw [h0] at h; cases h; exact ⟨fun _ => hsn, fun h => by omega⟩
    | succ k ih =>
      intro p h
      have hk := (List.getElem?_eq_some_iff.mp h).1
      have h1 : ws[k]? = some (ws[k]'(by omega)) := List.getElem?_eq_getElem _
      have i1 := ih _ h1
      rcases link _ _ (w.ch k _ _ h1 h) with ⟨a1, a2, a3, _⟩ | ⟨a1, a2, a3, _⟩
      · refine ⟨fun z => ?_, fun _ => ⟨a2, a3⟩⟩
        have := (i1.2 (by omega)).1
        omega
      · refine ⟨fun _ => a1, fun z => ?_⟩
        have := i1.1 (by omega)
        omega
  have hev : ws.length % 2 = 0 := by
    have := (par _ _ hlast).1
    rcases Nat.mod_two_eq_zero_or_one ws.length with h | h
    · exact h
    · have := this (by omega); omega
  have h4 : 4 ≤ ws.length := by
    refine Nat.le_of_not_lt fun hlt => ?_
    have h2 : ws.length = 2 := by omega
    rw [h2] at hlast
    rcases ha _ _ (w.ch 0 _ _ h0 hlast) with h | h
    · exact hne h
    · have := (bips_lt hl (hes _ h)).1; omega
  have at_ : ∀ k q, (rgOf n ws)[k]? = some q → ∃ p, ws[k]? = some p ∧ q = if p < n then p else p - n := fun k q h => by
    unfold rgOf at h
    rw [List.getElem?_map] at h
    cases e : ws[k]? with
    | none => rw [e] at h; cases h
    | some p => rw [e] at h; cases h; exact ⟨p, e, rfl⟩
  have of_ : ∀ k p, ws[k]? = some p → p < n → (rgOf n ws)[k]? = some p := fun k p h hp => by
    unfold rgOf; rw [List.getElem?_map, h]; show some (if p < n then p else p - n) = _; rw [if_pos hp]
  have hlen : (rgOf n ws).length = ws.length := by unfold rgOf; rw [List.length_map]
  refine ⟨by rw [hlen]; exact h4, by rw [hlen]; exact hev, fun k q h e => ?_, fun k q h e => ?_, fun j k a b hjk hp h1 h2 => ?_, fun k q c' hk h hc' => ?_⟩
  · obtain ⟨p, h1, rfl⟩ := at_ k q h
    have := (par k p h1).1 e
    rw [if_pos this]; exact this
  · obtain ⟨p, h1, rfl⟩ := at_ k q h
    have := (par k p h1).2 e
    rw [if_neg (by omega)]; omega
  · obtain ⟨p, p1, rfl⟩ := at_ j a h1
    obtain ⟨q, q1, rfl⟩ := at_ k b h2
    have hpq : p ≠ q := fun z => by
      subst z
      have := (List.getElem?_inj (List.getElem?_eq_some_iff.mp p1).1 w.nd).mp (p1.trans q1.symm)
      omega
    have a1 := par j p p1
    have a2 := par k q q1
    rcases Nat.mod_two_eq_zero_or_one j with e | e
    · have b1 := a1.1 e; have b2 := a2.1 (by omega)
      rw [if_pos b1, if_pos b2]; exact hpq
    · have b1 := a1.2 e; have b2 := a2.2 (by omega)
      rw [if_neg (by omega), if_neg (by omega)]; omega
  · obtain ⟨p, p1, e⟩ := at_ k q h
    have hp := (par k p p1).2 hk
    rw [if_neg (by omega)] at e
    have hkl := (List.getElem?_eq_some_iff.mp p1).1
    have ep : p - n = q := e.symm
    -- the one before
    have hb : ws[k - 1]? = some (ws[k - 1]'(by omega)) := List.getElem?_eq_getElem _
    have hbn := (par _ _ hb).1 (by omega)
    have hch := w.ch (k - 1) _ p hb (by rw [show k - 1 + 1 = k by omega]; exact p1)
    have m1 : ((ws[k - 1]'(by omega) : Nat) : Int) ∈ c' := by
      rcases link _ _ hch with ⟨_, _, _, c2, h2, h3⟩ | ⟨a1, a2, _⟩
      · rw [ep, hc'] at h2; cases h2; exact h3
      · omega
    by_cases hl2 : k + 1 < ws.length
    · have hn : ws[k + 1]? = some (ws[k + 1]'hl2) := List.getElem?_eq_getElem _
      have hnn := (par _ _ hn).1 (by omega)
      refine ⟨_, _, of_ _ _ hb hbn, by rw [hlen, Nat.mod_eq_of_lt hl2]; exact of_ _ _ hn hnn, m1, ?_⟩
      rcases link _ _ (w.ch k p _ p1 hn) with ⟨a1, _⟩ | ⟨_, _, _, c2, h2, h3⟩
      · omega
      · rw [ep, hc'] at h2; cases h2; exact h3
    · have e2 : k + 1 = ws.length := by omega
      refine ⟨_, s, of_ _ _ hb hbn, by rw [hlen, e2, Nat.mod_self]; exact of_ _ _ h0 hsn, m1, ?_⟩
      have : ws.length - 1 = k := by omega
      rw [this, p1] at hlast
      cases hlast
      rw [show n + i - n = i by omega] at ep
      subst ep
      rw [hc] at hc'; cases hc'
      exact hs
theorem adj_push {adj : List (List Nat)} {a b : Nat} {e : List Nat} (h : adj[a]? = some e) (x y : Nat) : Adj (adj.set a (e ++ [b])) x y ↔ Adj adj x y ∨ (x = a ∧ y = b) := by
  have hl := (List.getElem?_eq_some_iff.mp h).1
  unfold Adj
  by_cases hx : x = a
  · subst hx
    rw [List.getElem?_set_self hl]
    constructor
    · rintro ⟨f, h1, h2⟩
      cases h1
      rcases List.mem_append.mp h2 with h2 | h2
      · exact .inl ⟨e, h, h2⟩
      · rw [List.mem_singleton] at h2; exact .inr ⟨rfl, h2⟩
    · rintro (⟨f, h1, h2⟩ | ⟨_, h2⟩)
      · rw [h] at h1; cases h1
        exact ⟨_, rfl, List.mem_append.mpr (.inl h2)⟩
      · exact ⟨_, rfl, by rw [h2]; simp⟩
  · rw [List.getElem?_set_ne (fun z => hx z.symm)]
    exact ⟨fun h => .inl h, fun h => h.elim id fun h => absurd h.1 hx⟩
/-- adj holds the pairs es, both ways -/
structure AdjE (V : Nat) (adj : List (List Nat)) (es : List (Nat × Nat)) : Prop where
  len : adj.length = V
  iff_ : ∀ x y, Adj adj x y ↔ (x, y) ∈ es ∨ (y, x) ∈ es
  lt : ∀ e ∈ adj, ∀ y ∈ e, y < V
  few : ∀ e ∈ adj, e.length ≤ es.length
theorem AdjE.start (V : Nat) : AdjE V (List.replicate V []) [] := by
  refine ⟨List.length_replicate, fun x y => ?_, fun e he y hy => ?_, fun e he => ?_⟩
  · constructor
    · rintro ⟨e, h1, h2⟩
      rw [List.eq_of_mem_replicate (List.mem_of_getElem? h1)] at h2
      cases h2
    · rintro (h | h) <;> cases h
  · rw [List.eq_of_mem_replicate he] at hy; cases hy
  · rw [List.eq_of_mem_replicate he]; exact Nat.le_refl _
theorem AdjE.add {V : Nat} {adj : List (List Nat)} {es : List (Nat × Nat)} (h : AdjE V adj es) {a b : Nat} {ea eb : List Nat} (ha : adj[a]? = some ea) (hb : adj[b]? = some eb) (ne : a ≠ b) : AdjE V ((adj.set a (ea ++ [b])).set b (eb ++ [a])) (es ++ [(a, b)]) := by
  have hav := (List.getElem?_eq_some_iff.mp ha).1
  have hbv := (List.getElem?_eq_some_iff.mp hb).1
  have hb2 : (adj.set a (ea ++ [b]))[b]? = some eb := by rw [List.getElem?_set_ne ne]; exact hb
  have mem : ∀ e, e ∈ (adj.set a (ea ++ [b])).set b (eb ++ [a]) → e ∈ adj ∨ e = ea ++ [b] ∨ e = eb ++ [a] := fun e he => by
    rcases List.mem_or_eq_of_mem_set he with h1 | h1
    · rcases List.mem_or_eq_of_mem_set h1 with h2 | h2
      · exact .inl h2
      · exact .inr (.inl h2)
    · exact .inr (.inr h1)
  refine ⟨by rw [List.length_set, List.length_set]; exact h.len, fun x y => ?_, fun e he y hy => ?_, fun e he => ?_⟩
  · rw [adj_push hb2, adj_push ha, h.iff_]
    simp only [List.mem_append, List.mem_singleton, Prod.mk.injEq]
    constructor
    · rintro ((h1 | h1) | h1)
      · rcases h1 with h1 | h1
        · exact .inl (.inl h1)
        · exact .inr (.inl h1)
      · exact .inl (.inr h1)
      · exact .inr (.inr ⟨h1.2, h1.1⟩)
    · rintro ((h1 | h1) | (h1 | h1))
      · exact .inl (.inl (.inl h1))
      · exact .inl (.inr h1)
      · exact .inl (.inl (.inr h1))
      · exact .inr ⟨h1.2, h1.1⟩
  · rw [h.len] at hav hbv
    rcases mem e he with h1 | h1 | h1
    · exact h.lt e h1 y hy
    · subst h1
      rcases List.mem_append.mp hy with h2 | h2
      · exact h.lt ea (List.mem_of_getElem? ha) y h2
      · rw [List.mem_singleton] at h2; omega
    · subst h1
      rcases List.mem_append.mp hy with h2 | h2
      · exact h.lt eb (List.mem_of_getElem? hb) y h2
      · rw [List.mem_singleton] at h2; omega
  · rw [List.length_append, List.length_singleton]
    rcases mem e he with h1 | h1 | h1
    · have := h.few e h1; omega
    · subst h1
      have := h.few ea (List.mem_of_getElem? ha)
      rw [List.length_append, List.length_singleton]; omega
    · subst h1
      have := h.few eb (List.mem_of_getElem? hb)
      rw [List.length_append, List.length_singleton]; omega
theorem AdjE.cn {V : Nat} {adj : List (List Nat)} {es : List (Nat × Nat)} (h : AdjE V adj es) {S : Nat → Prop} (hs : ∀ x y, S x → Adj adj x y → S y) {x y : Nat} (c : Cn es x y) : S x ↔ S y := by
  induction c with
  | refl x => exact Iff.rfl
  | symm _ ih => exact ih.symm
  | trans _ _ a b => exact a.trans b
  | edge e => exact ⟨fun z => hs _ _ z ((h.iff_ _ _).mpr (.inl e)), fun z => hs _ _ z ((h.iff_ _ _).mpr (.inr e))⟩
theorem AdjE.way {V : Nat} {adj : List (List Nat)} {es : List (Nat × Nat)} (h : AdjE V adj es) {s g : Nat} {ws : List Nat} (w : IsWay adj s g ws) : Cn es s g := by
  have key : ∀ k p : Nat, ws[k]? = some p → Cn es s p := by
    intro k
    induction k with
    | zero =>
      intro p hp
      have := w.hd
      rw [List.head?_eq_getElem?, hp] at this
      cases this; exact .refl _
    | succ k ih =>
      intro p hp
      have hk := (List.getElem?_eq_some_iff.mp hp).1
      have h1 : ws[k]? = some (ws[k]'(by omega)) := List.getElem?_eq_getElem _
      rcases (h.iff_ _ _).mp (w.ch k _ p h1 hp) with e | e
      · exact (ih _ h1).trans (.edge e)
      · exact (ih _ h1).trans (.symm (.edge e))
  have hl := w.lst
  rw [List.getLast?_eq_getElem?] at hl
  exact key _ _ hl
theorem RFree.snoc {es : List (Nat × Nat)} {a b : Nat} (h : RFree es) (n : ¬ Cn es a b) : RFree (es ++ [(a, b)]) := fun i x y q => by
  by_cases hi : i < es.length
  · rw [List.getElem?_append_left hi] at q
    rw [List.take_append_of_le_length (by omega)]
    exact h i x y q
  · have hl : i = es.length := by
      have := (List.getElem?_eq_some_iff.mp q).1
      rw [List.length_append, List.length_singleton] at this; omega
    subst hl
    rw [List.getElem?_append_right (Nat.le_refl _), Nat.sub_self] at q
    cases q
    rw [List.take_left' rfl]; exact n
/-- the first pair within a piece: no forest -/
theorem not_rfree {es fs : List (Nat × Nat)} {a b : Nat} (h : Cn es a b) : ¬ RFree (es ++ (a, b) :: fs) := fun r => by
  have := r es.length a b (by rw [List.getElem?_append_right (Nat.le_refl _), Nat.sub_self]; rfl)
  rw [List.take_left' rfl] at this
  exact this h
theorem bipF_app (n : Nat) : ∀ (xs ys : List (List Int)) (j : Nat), bipF n j (xs ++ ys) = bipF n j xs ++ bipF n (j + xs.length) ys
  | [], ys, j => rfl
  | c :: xs, ys, j => by
    show c.map _ ++ bipF n (j + 1) (xs ++ ys) = (c.map _ ++ bipF n (j + 1) xs) ++ _
    rw [bipF_app n xs ys (j + 1), List.append_assoc, List.length_cons, show j + 1 + xs.length = j + (xs.length + 1) by omega]
/-- the links before the j-th of check i -/
def bipAt (n : Nat) (cs : List (List Int)) (i : Nat) (c : List Int) (j : Nat) : List (Nat × Nat) := bipF n 0 (cs.take i) ++ (c.take j).map fun b => (b.toNat, n + i)
theorem bipAt_split {n : Nat} {cs : List (List Int)} {i j : Nat} {c : List Int} {b : Int} (hc : cs[i]? = some c) (hb : c[j]? = some b) : ∃ fs, bips n cs = bipAt n cs i c j ++ (b.toNat, n + i) :: fs := by
  have hi := (List.getElem?_eq_some_iff.mp hc).1
  have e1 : cs = cs.take i ++ c :: cs.drop (i + 1) := by
    have := List.take_append_drop i cs
    rw [List.drop_eq_getElem_cons hi] at this
    rw [(List.getElem?_eq_some_iff.mp hc).2] at this
    exact this.symm
  have hj := (List.getElem?_eq_some_iff.mp hb).1
  have e2 : c = c.take j ++ b :: c.drop (j + 1) := by
    have := List.take_append_drop j c
    rw [List.drop_eq_getElem_cons hj] at this
    rw [(List.getElem?_eq_some_iff.mp hb).2] at this
    exact this.symm
  refine ⟨(c.drop (j + 1)).map (fun b => (b.toNat, n + i)) ++ bipF n (0 + (cs.take i).length + 1) (cs.drop (i + 1)), ?_⟩
  unfold bips
  have e3 : bipF n 0 cs = bipF n 0 (cs.take i) ++ bipF n (0 + (cs.take i).length) (c :: cs.drop (i + 1)) := by
    rw [← bipF_app, ← e1]
  rw [e3]
  have hl : 0 + (cs.take i).length = i := by rw [List.length_take]; omega
  show bipF n 0 (cs.take i) ++ (c.map (fun b => (b.toNat, n + (0 + (cs.take i).length))) ++ bipF n (0 + (cs.take i).length + 1) (cs.drop (i + 1))) = _
  unfold bipAt
  rw [hl]
  conv => lhs; rw [e2]
  simp [List.append_assoc]
theorem bipAt_sub {n : Nat} {cs : List (List Int)} {i j : Nat} {c : List Int} {b : Int} (hc : cs[i]? = some c) (hb : c[j]? = some b) : ∀ p ∈ bipAt n cs i c j, p ∈ bips n cs := fun p hp => by
  obtain ⟨fs, e⟩ := bipAt_split (n := n) hc hb
  rw [e]; exact List.mem_append.mpr (.inl hp)
theorem bipAt_new {n : Nat} {cs : List (List Int)} {i j : Nat} {c : List Int} {b : Int} (hl : Lot n c) (hc : cs[i]? = some c) (hb : c[j]? = some b) : (b.toNat, n + i) ∉ bipAt n cs i c j := fun h => by
  rcases List.mem_append.mp h with h | h
  · obtain ⟨i', c', b', h1, h2, e⟩ := bipF_mem.mp h
    have hi := (List.getElem?_eq_some_iff.mp h1).1
    rw [List.length_take] at hi
    injection e with e1 e2
    omega
  · obtain ⟨b', h1, e⟩ := List.mem_map.mp h
    injection e with e1 e2
    obtain ⟨k, hk⟩ := List.mem_iff_getElem?.mp h1
    rw [List.getElem?_take] at hk
    split at hk
    · rename_i hkj
      have r1 := hl.2 b' (List.mem_of_getElem? hk)
      have r2 := hl.2 b (List.mem_of_getElem? hb)
      have : b' = b := by omega
      subst this
      have := (List.getElem?_inj (List.getElem?_eq_some_iff.mp hk).1 hl.nodup).mp (hk.trans hb.symm)
      omega
    · cases hk
theorem bipAt_step {n : Nat} {cs : List (List Int)} {i j : Nat} {c : List Int} {b : Int} (hb : c[j]? = some b) : bipAt n cs i c (j + 1) = bipAt n cs i c j ++ [(b.toNat, n + i)] := by
  unfold bipAt
  rw [List.take_add_one, hb, List.map_append, List.append_assoc]; rfl
theorem bipAt_end {n : Nat} {cs : List (List Int)} {i : Nat} {c : List Int} (hc : cs[i]? = some c) : bipAt n cs i c c.length = bipF n 0 (cs.take (i + 1)) := by
  unfold bipAt
  rw [List.take_length, bipF_take n cs i 0 hc, Nat.zero_add]
def adjI (adj : List (List Nat)) : List (List Int) := adj.map fun e => e.map fun (k : Nat) => (k : Int)
theorem nat_ints (e : List Nat) : (e.map fun (k : Nat) => (k : Int)).map D.int = natD e := by rw [List.map_map]; rfl
theorem own_at {O O' : Oh} {r : Addr} {ps : List Addr} {adj : List (List Nat)} (h : OwnRows O O' r ps (adjI adj)) {x : Nat} {e : List Nat} (hx : adj[x]? = some e) : ∃ p, ps[x]? = some p ∧ O' p = some (.lst (natD e)) := by
  have h1 : (adjI adj)[x]? = some (e.map fun (k : Nat) => (k : Int)) := by unfold adjI; rw [List.getElem?_map, hx]; rfl
  obtain ⟨p, hp⟩ : ∃ p, ps[x]? = some p := ⟨_, List.getElem?_eq_getElem (by rw [h.len]; exact (List.getElem?_eq_some_iff.mp h1).1)⟩
  exact ⟨p, hp, by rw [h.each x p _ hp h1, nat_ints]⟩
theorem own_push {O O' : Oh} {r p : Addr} {ps : List Addr} {adj : List (List Nat)} (h : OwnRows O O' r ps (adjI adj)) {x y : Nat} {e : List Nat} (hp : ps[x]? = some p) : OwnRows O (updO O' p (.lst (natD (e ++ [y])))) r ps (adjI (adj.set x (e ++ [y]))) := by
  have := h.write (e := (e ++ [y]).map fun (k : Nat) => (k : Int)) hp
  rw [nat_ints] at this
  have e2 : adjI (adj.set x (e ++ [y])) = (adjI adj).set x ((e ++ [y]).map fun (k : Nat) => (k : Int)) := by unfold adjI; rw [List.map_set]
  rw [e2]; exact this
theorem AdjE.small {V : Nat} {adj : List (List Nat)} {es : List (Nat × Nat)} (h : AdjE V adj es) {s g : Nat} {ws : List Nat} (w : IsWay adj s g ws) (hs : s < V) : ws.length ≤ V := by
  have key : ∀ p ∈ ws, p < V := fun p hp => by
    obtain ⟨k, hk⟩ := List.mem_iff_getElem?.mp hp
    cases k with
    | zero =>
      have := w.hd
      rw [List.head?_eq_getElem?, hk] at this
      cases this; exact hs
    | succ k =>
      have hl := (List.getElem?_eq_some_iff.mp hk).1
      obtain ⟨e, h1, h2⟩ := w.ch k _ p (List.getElem?_eq_getElem (by omega)) hk
      exact h.lt e (List.mem_of_getElem? h1) p h2
  have := w.nd.length_le_of_subset (l₂ := List.range V) fun x hx => List.mem_range.mpr (key x hx)
  rwa [List.length_range] at this
theorem sum_lens {m : Nat} : ∀ {cs : List (List Int)}, (∀ c ∈ cs, c.length ≤ m) → (cs.map List.length).sum ≤ cs.length * m
  | [], _ => by simp
  | c :: cs, h => by
    have h1 := h c (List.mem_cons_self ..)
    have h2 := sum_lens (cs := cs) fun c hc => h c (List.mem_cons_of_mem _ hc)
    rw [List.map_cons, List.sum_cons, List.length_cons, Nat.add_mul]
    omega
theorem bips_few {n : Nat} {cs : List (List Int)} (hl : ∀ c ∈ cs, Lot n c) : (bips n cs).length ≤ cs.length * n := by
  unfold bips
  rw [bipF_len]
  exact sum_lens fun c hc => by
    have := (hl c hc).len (by omega)
    omega
end VL
set_option maxHeartbeats 2000000
namespace K80
open PySem PySem.Spec PyProof.Rows L2 MB
def top (i : Nat) : Stmt := PySem.Challenge.pw_letbychecks_k80_whole_pieces_and_rings_o.main.body.getD i (.Pass ⟨0, 0, 0, 0⟩)
abbrev s_is_whole : Stmt := top 4
theorem sc_is_whole : FnScope ["thing", "low", "high"] ["thing", "low", "high"] (defScope s_is_whole) := ⟨rfl, rfl, rfl, by decide +kernel, rfl, by decide +kernel, by decide +kernel⟩
abbrev s_is_sequence : Stmt := top 5
theorem sc_is_sequence : FnScope ["thing"] ["thing"] (defScope s_is_sequence) := ⟨rfl, rfl, rfl, by decide +kernel, rfl, by decide +kernel, by decide +kernel⟩
abbrev s_is_lot : Stmt := top 9
theorem sc_is_lot : FnScope ["thing", "many", "item"] ["thing", "many"] (defScope s_is_lot) := ⟨rfl, rfl, rfl, by decide +kernel, rfl, by decide +kernel, by decide +kernel⟩
abbrev s_root_of : Stmt := top 12
theorem sc_root_of : FnScope ["above", "number"] ["above", "number"] (defScope s_root_of) := ⟨rfl, rfl, rfl, by decide +kernel, rfl, by decide +kernel, by decide +kernel⟩
abbrev s_joined_groups : Stmt := top 13
theorem sc_joined_groups : FnScope ["many", "lots", "above", "lot", "number", "groups", "group"] ["many", "lots"] (defScope s_joined_groups) := ⟨rfl, rfl, rfl, by decide +kernel, rfl, by decide +kernel, by decide +kernel⟩
abbrev s_code_pieces : Stmt := top 14
theorem sc_code_pieces : FnScope ["code"] ["code"] (defScope s_code_pieces) := ⟨rfl, rfl, rfl, by decide +kernel, rfl, by decide +kernel, by decide +kernel⟩
abbrev s_way_between : Stmt := top 15
theorem sc_way_between : FnScope ["links", "start", "goal", "before", "waiting", "place", "near", "way"] ["links", "start", "goal"] (defScope s_way_between) := ⟨rfl, rfl, rfl, by decide +kernel, rfl, by decide +kernel, by decide +kernel⟩
abbrev s_web_ring : Stmt := top 16
theorem sc_web_ring : FnScope ["code", "links", "number", "check", "bit", "way", "_", "place"] ["code"] (defScope s_web_ring) := ⟨rfl, rfl, rfl, by decide +kernel, rfl, by decide +kernel, by decide +kernel⟩
abbrev s_is_ring_form : Stmt := top 17
theorem sc_is_ring_form : FnScope ["code", "ring"] ["code", "ring"] (defScope s_is_ring_form) := ⟨rfl, rfl, rfl, by decide +kernel, rfl, by decide +kernel, by decide +kernel⟩
abbrev s_ring_fault : Stmt := top 18
theorem sc_ring_fault : FnScope ["code", "ring", "place", "check"] ["code", "ring"] (defScope s_ring_fault) := ⟨rfl, rfl, rfl, by decide +kernel, rfl, by decide +kernel, by decide +kernel⟩
abbrev s_l_stir : Stmt := top 20
theorem sc_l_stir : FnScope ["_law_number", "_law_turn", "_law_once", "_law_twice"] ["_law_number", "_law_turn"] (defScope s_l_stir) := ⟨rfl, rfl, rfl, by decide +kernel, rfl, by decide +kernel, by decide +kernel⟩
abbrev s_l_hand : Stmt := top 21
theorem sc_l_hand : FnScope ["_law_script", "_law_state", "_law_place", "_law_cell"] ["_law_script"] (defScope s_l_hand) := ⟨rfl, rfl, rfl, by decide +kernel, rfl, by decide +kernel, by decide +kernel⟩
abbrev s_l_draw : Stmt := top 22
theorem sc_l_draw : FnScope ["_law_hand_here", "_law_many", "_law_cell", "_law_rest"] ["_law_hand_here", "_law_many"] (defScope s_l_draw) := ⟨rfl, rfl, rfl, by decide +kernel, rfl, by decide +kernel, by decide +kernel⟩
abbrev s_l_whole : Stmt := top 23
theorem sc_l_whole : FnScope ["_law_thing"] ["_law_thing"] (defScope s_l_whole) := ⟨rfl, rfl, rfl, by decide +kernel, rfl, by decide +kernel, by decide +kernel⟩
abbrev s_l_wholes : Stmt := top 24
theorem sc_l_wholes : FnScope ["_law_thing", "_law_many", "_law_part"] ["_law_thing", "_law_many"] (defScope s_l_wholes) := ⟨rfl, rfl, rfl, by decide +kernel, rfl, by decide +kernel, by decide +kernel⟩
abbrev s_l_lot : Stmt := top 25
theorem sc_l_lot : FnScope ["_law_hand_here", "_law_bits", "_law_size", "_law_pool", "_law_out", "_law_k"] ["_law_hand_here", "_law_bits", "_law_size"] (defScope s_l_lot) := ⟨rfl, rfl, rfl, by decide +kernel, rfl, by decide +kernel, by decide +kernel⟩
abbrev s_l_free_checks : Stmt := top 26
theorem sc_l_free_checks : FnScope ["_law_hand_here", "_law_bits", "_law_many", "_law_widest", "_law_out", "_law_k", "_law_pick", "_law_size"] ["_law_hand_here", "_law_bits", "_law_many", "_law_widest"] (defScope s_l_free_checks) := ⟨rfl, rfl, rfl, by decide +kernel, rfl, by decide +kernel, by decide +kernel⟩
abbrev s_l_tie_checks : Stmt := top 27
theorem sc_l_tie_checks : FnScope ["_law_hand_here", "_law_bits", "_law_posts", "_law_ends", "_law_bit", "_law_low", "_law_high", "_law_rows", "_law_post", "_law_row"] ["_law_hand_here", "_law_bits", "_law_posts"] (defScope s_l_tie_checks) := ⟨rfl, rfl, rfl, by decide +kernel, rfl, by decide +kernel, by decide +kernel⟩
abbrev s_l_ringless_checks : Stmt := top 28
theorem sc_l_ringless_checks : FnScope ["_law_hand_here", "_law_bits", "_law_widest", "_law_out", "_law_reached", "_law_k", "_law_old", "_law_size", "_law_fresh"] ["_law_hand_here", "_law_bits", "_law_widest"] (defScope s_l_ringless_checks) := ⟨rfl, rfl, rfl, by decide +kernel, rfl, by decide +kernel, by decide +kernel⟩
abbrev s_l_code : Stmt := top 29
theorem sc_l_code : FnScope ["_law_hand_here", "_law_low", "_law_high", "_law_widest", "_law_bits", "_law_pick"] ["_law_hand_here", "_law_low", "_law_high", "_law_widest"] (defScope s_l_code) := ⟨rfl, rfl, rfl, by decide +kernel, rfl, by decide +kernel, by decide +kernel⟩
abbrev s_l_made : Stmt := top 30
theorem sc_l_made : FnScope ["_law_bits", "_law_checks", "_law_lot_here"] ["_law_bits", "_law_checks"] (defScope s_l_made) := ⟨rfl, rfl, rfl, by decide +kernel, rfl, by decide +kernel, by decide +kernel⟩
abbrev s_l_pieces : Stmt := top 31
theorem sc_l_pieces : FnScope ["_law_bits", "_law_checks", "_law_out", "_law_bit", "_law_piece", "_law_turn", "_law_lot_here", "_law_other"] ["_law_bits", "_law_checks"] (defScope s_l_pieces) := ⟨rfl, rfl, rfl, by decide +kernel, rfl, by decide +kernel, by decide +kernel⟩
abbrev s_l_fault : Stmt := top 32
theorem sc_l_fault : FnScope ["_law_bits", "_law_checks", "_law_ring", "_law_at", "_law_thing", "_law_most", "_law_half", "_law_k", "_law_j", "_law_lot_here"] ["_law_bits", "_law_checks", "_law_ring"] (defScope s_l_fault) := ⟨rfl, rfl, rfl, by decide +kernel, rfl, by decide +kernel, by decide +kernel⟩
abbrev s_l_judged : Stmt := top 33
theorem sc_l_judged : FnScope ["_law_code_here", "_law_bits", "_law_checks", "_law_ring", "_law_told", "_law_due"] ["_law_code_here", "_law_bits", "_law_checks", "_law_ring"] (defScope s_l_judged) := ⟨rfl, rfl, rfl, by decide +kernel, rfl, by decide +kernel, by decide +kernel⟩
abbrev s_l_spoilt_rings : Stmt := top 34
theorem sc_l_spoilt_rings : FnScope ["_law_hand_here", "_law_bits", "_law_checks", "_law_ring", "_law_out", "_law_changed", "_law_at"] ["_law_hand_here", "_law_bits", "_law_checks", "_law_ring"] (defScope s_l_spoilt_rings) := ⟨rfl, rfl, rfl, by decide +kernel, rfl, by decide +kernel, by decide +kernel⟩
abbrev s_law : Stmt := top 35
theorem sc_law : FnScope ["_law_script", "_law_hand_here", "_law_bits", "_law_checks", "_law_code_here", "_law_pieces_here", "_law_told", "_law_links", "_law_ring", "_law_walks", "_law_walk", "_law_thing", "_law_lot_here", "_law_piece"] ["_law_script"] (defScope s_law) := ⟨rfl, rfl, rfl, by decide +kernel, rfl, by decide +kernel, by decide +kernel⟩
abbrev s_BadCode___init__ : Stmt := inClass (top 2) 0
theorem sc_BadCode___init__ : FnScope ["self", "what", "place"] ["self", "what", "place"] (defScope s_BadCode___init__) := ⟨rfl, rfl, rfl, by decide +kernel, rfl, by decide +kernel, by decide +kernel⟩
abbrev s_Code___init__ : Stmt := inClass (top 10) 0
theorem sc_Code___init__ : FnScope ["self", "bits", "checks", "number", "check"] ["self", "bits", "checks"] (defScope s_Code___init__) := ⟨rfl, rfl, rfl, by decide +kernel, rfl, by decide +kernel, by decide +kernel⟩
abbrev s_Code___len__ : Stmt := inClass (top 10) 1
theorem sc_Code___len__ : FnScope ["self"] ["self"] (defScope s_Code___len__) := ⟨rfl, rfl, rfl, by decide +kernel, rfl, by decide +kernel, by decide +kernel⟩
abbrev s_Code___eq__ : Stmt := inClass (top 10) 2
theorem sc_Code___eq__ : FnScope ["self", "other"] ["self", "other"] (defScope s_Code___eq__) := ⟨rfl, rfl, rfl, by decide +kernel, rfl, by decide +kernel, by decide +kernel⟩
def dd_is_whole : He.DefD := ⟨("is_whole", none), "is_whole", "is_whole", defArgs s_is_whole, defBody s_is_whole, defScope s_is_whole, [.non, .non], []⟩
def dd_is_sequence : He.DefD := ⟨("is_sequence", none), "is_sequence", "is_sequence", defArgs s_is_sequence, defBody s_is_sequence, defScope s_is_sequence, [], []⟩
def dd_is_lot : He.DefD := ⟨("is_lot", none), "is_lot", "is_lot", defArgs s_is_lot, defBody s_is_lot, defScope s_is_lot, [], []⟩
def dd_root_of : He.DefD := ⟨("root_of", none), "root_of", "root_of", defArgs s_root_of, defBody s_root_of, defScope s_root_of, [], []⟩
def dd_joined_groups : He.DefD := ⟨("joined_groups", none), "joined_groups", "joined_groups", defArgs s_joined_groups, defBody s_joined_groups, defScope s_joined_groups, [], []⟩
def dd_code_pieces : He.DefD := ⟨("code_pieces", none), "code_pieces", "code_pieces", defArgs s_code_pieces, defBody s_code_pieces, defScope s_code_pieces, [], []⟩
def dd_way_between : He.DefD := ⟨("way_between", none), "way_between", "way_between", defArgs s_way_between, defBody s_way_between, defScope s_way_between, [], []⟩
def dd_web_ring : He.DefD := ⟨("web_ring", none), "web_ring", "web_ring", defArgs s_web_ring, defBody s_web_ring, defScope s_web_ring, [], []⟩
def dd_is_ring_form : He.DefD := ⟨("is_ring_form", none), "is_ring_form", "is_ring_form", defArgs s_is_ring_form, defBody s_is_ring_form, defScope s_is_ring_form, [], []⟩
def dd_ring_fault : He.DefD := ⟨("ring_fault", none), "ring_fault", "ring_fault", defArgs s_ring_fault, defBody s_ring_fault, defScope s_ring_fault, [], []⟩
def dd_l_stir : He.DefD := ⟨("_law_stir", none), "_law_stir", "_law_stir", defArgs s_l_stir, defBody s_l_stir, defScope s_l_stir, [], []⟩
def dd_l_hand : He.DefD := ⟨("_law_hand", none), "_law_hand", "_law_hand", defArgs s_l_hand, defBody s_l_hand, defScope s_l_hand, [], []⟩
def dd_l_draw : He.DefD := ⟨("_law_draw", none), "_law_draw", "_law_draw", defArgs s_l_draw, defBody s_l_draw, defScope s_l_draw, [], []⟩
def dd_l_whole : He.DefD := ⟨("_law_whole", none), "_law_whole", "_law_whole", defArgs s_l_whole, defBody s_l_whole, defScope s_l_whole, [], []⟩
def dd_l_wholes : He.DefD := ⟨("_law_wholes", none), "_law_wholes", "_law_wholes", defArgs s_l_wholes, defBody s_l_wholes, defScope s_l_wholes, [], []⟩
def dd_l_lot : He.DefD := ⟨("_law_lot", none), "_law_lot", "_law_lot", defArgs s_l_lot, defBody s_l_lot, defScope s_l_lot, [], []⟩
def dd_l_free_checks : He.DefD := ⟨("_law_free_checks", none), "_law_free_checks", "_law_free_checks", defArgs s_l_free_checks, defBody s_l_free_checks, defScope s_l_free_checks, [], []⟩
def dd_l_tie_checks : He.DefD := ⟨("_law_tie_checks", none), "_law_tie_checks", "_law_tie_checks", defArgs s_l_tie_checks, defBody s_l_tie_checks, defScope s_l_tie_checks, [], []⟩
def dd_l_ringless_checks : He.DefD := ⟨("_law_ringless_checks", none), "_law_ringless_checks", "_law_ringless_checks", defArgs s_l_ringless_checks, defBody s_l_ringless_checks, defScope s_l_ringless_checks, [], []⟩
def dd_l_code : He.DefD := ⟨("_law_code", none), "_law_code", "_law_code", defArgs s_l_code, defBody s_l_code, defScope s_l_code, [], []⟩
def dd_l_made : He.DefD := ⟨("_law_made", none), "_law_made", "_law_made", defArgs s_l_made, defBody s_l_made, defScope s_l_made, [], []⟩
def dd_l_pieces : He.DefD := ⟨("_law_pieces", none), "_law_pieces", "_law_pieces", defArgs s_l_pieces, defBody s_l_pieces, defScope s_l_pieces, [], []⟩
def dd_l_fault : He.DefD := ⟨("_law_fault", none), "_law_fault", "_law_fault", defArgs s_l_fault, defBody s_l_fault, defScope s_l_fault, [], []⟩
def dd_l_judged : He.DefD := ⟨("_law_judged", none), "_law_judged", "_law_judged", defArgs s_l_judged, defBody s_l_judged, defScope s_l_judged, [], []⟩
def dd_l_spoilt_rings : He.DefD := ⟨("_law_spoilt_rings", none), "_law_spoilt_rings", "_law_spoilt_rings", defArgs s_l_spoilt_rings, defBody s_l_spoilt_rings, defScope s_l_spoilt_rings, [], []⟩
def dd_law : He.DefD := ⟨("law", none), "law", "law", defArgs s_law, defBody s_law, defScope s_law, [], []⟩
def dd_BadCode___init__ : He.DefD := ⟨("BadCode", some "__init__"), "__init__", "BadCode.__init__", defArgs s_BadCode___init__, defBody s_BadCode___init__, defScope s_BadCode___init__, [], []⟩
def dd_Code___init__ : He.DefD := ⟨("Code", some "__init__"), "__init__", "Code.__init__", defArgs s_Code___init__, defBody s_Code___init__, defScope s_Code___init__, [], []⟩
def dd_Code___len__ : He.DefD := ⟨("Code", some "__len__"), "__len__", "Code.__len__", defArgs s_Code___len__, defBody s_Code___len__, defScope s_Code___len__, [], []⟩
def dd_Code___eq__ : He.DefD := ⟨("Code", some "__eq__"), "__eq__", "Code.__eq__", defArgs s_Code___eq__, defBody s_Code___eq__, defScope s_Code___eq__, [], []⟩
def fa0 : List He.Fa := [.free "isinstance", .free "int", .free "bool", .free "len", .free "abs", .free "all", .free "any", .free "sum", .free "range", .free "enumerate", .free "tuple", .free "list", .free "set", .free "sorted", .free "min", .free "max", .free "reversed", .free "str", .free "ValueError", .glo "CodeError"]
def fa1 : List He.Fa := [.glo "BadCode", .glo "Code", .glo "is_whole", .glo "is_sequence", .glo "is_lot", .glo "root_of", .glo "joined_groups", .glo "code_pieces", .glo "way_between", .glo "web_ring", .glo "is_ring_form", .glo "ring_fault", .glo "_law_stir", .glo "_law_hand", .glo "_law_draw", .glo "_law_whole", .glo "_law_wholes", .glo "_law_lot", .glo "_law_free_checks", .glo "_law_tie_checks"]
def fa2 : List He.Fa := [.glo "_law_ringless_checks", .glo "_law_code", .glo "_law_made", .glo "_law_pieces", .glo "_law_fault", .glo "_law_judged", .glo "_law_spoilt_rings", .glo "law", .int "MOST_BITS" 10, .int "MOST_CHECKS" 63, .cls "Code", .noat "Code" "bits", .noat "Code" "checks", .mkr "Code", .meth "Code" "__len__", .meth "Code" "__eq__"]
def fa : List He.Fa := fa0 ++ fa1 ++ fa2
def fn0 : List He.DefD := [dd_is_whole, dd_is_sequence, dd_is_lot, dd_root_of, dd_joined_groups, dd_code_pieces, dd_way_between, dd_web_ring, dd_is_ring_form, dd_ring_fault, dd_l_stir, dd_l_hand, dd_l_draw, dd_l_whole, dd_l_wholes, dd_l_lot, dd_l_free_checks, dd_l_tie_checks, dd_l_ringless_checks, dd_l_code]
def fn1 : List He.DefD := [dd_l_made, dd_l_pieces, dd_l_fault, dd_l_judged, dd_l_spoilt_rings, dd_law, dd_BadCode___init__, dd_Code___init__, dd_Code___len__, dd_Code___eq__]
def fn : List He.DefD := fn0 ++ fn1
def cs : List (PySem.Str × List PySem.Str) := [("CodeError", []), ("BadCode", ["what", "place"])]
def ex (K : PySem.W.Frag) : Bool := VL.neB K "Code" && (VL.isB K "Code" && (true))
abbrev Txt (K : PySem.W.Frag) (mg : Str → Option Value) : Prop := VL.TxtV fa fn cs ex K mg
theorem ne_Code {K : PySem.W.Frag} {mg : Str → Option Value} (T : Txt K mg) : VL.neB K "Code" = true := (He.ba T.ex_).1
theorem is_Code {K : PySem.W.Frag} {mg : Str → Option Value} (T : Txt K mg) : VL.isB K "Code" = true := (He.ba (He.ba T.ex_).2).1
section
variable {P : Program} {w : World} {K : PySem.W.Frag} {mg : Str → Option Value} {base : Heap}
theorem FI_BadCode (T : Txt K mg) : ∃ fI, FnOk P w K mg base CX0 1 (He.ma K (He.ga K "BadCode") "__init__") fI ["self", "what", "place"] (spInit2 (He.ga K "BadCode") "what" "place") ∧ Binds K fI ["self", "what", "place"] [] := by
  obtain ⟨fd, F⟩ := T.c.def_ 26 (d := dd_BadCode___init__) rfl
  refine ⟨fd, FunD.ok (CX := CX0) F sc_BadCode___init__ (fun vs H Q E h => ?_) (fun cdv A outer s H vs Q E hr h => ?_), F.bindsN fun _ _ _ _ _ _ us hl => match us, hl with | [_, _, _], _ => rfl⟩
  · obtain ⟨a, v, u, rfl, _⟩ := h; rfl
  · obtain ⟨a, v, u, rfl, ha, k⟩ := h
    refine ⟨_, PSs.nox (pss_cons (ps_ost (pv 0) (pv 1)) (pss_one (ps_ost (pv 0) (pv 2)))), ?_⟩
    refine MB.st0 (σ := [some (.ref a), some v, some u]) rfl ?_
    refine ⟨_, rfl, _, rfl, a, _, rfl, T.bo 1, T.bn 1 0, .inl ⟨ha, fun dx h1 h2 => ?_⟩⟩
    exact ⟨_, rfl, _, rfl, a, _, rfl, T.bo 1, T.bn 1 1, .inr ⟨dx, [("what", v)], upd_same, (upd_ne h2).trans upd_same, by show 1 ≤ 900; decide, k dx h1 h2⟩⟩
end
end K80
set_option maxHeartbeats 0
namespace K80
open PySem PySem.Spec PyProof.Rows L2 MB
def exx (K : PySem.W.Frag) : Bool := cs.all (VL.errB K) && ex K
abbrev R : PySem.W.OpenRow := PySem.W.OpenLaw.row PySem.Challenge.rw_letbychecks_k80_whole_pieces_and_rings_o
def names0 : List PySem.Str := ["CodeError", "BadCode", "is_whole", "is_sequence", "MOST_BITS", "MOST_CHECKS", "is_lot", "Code", "root_of", "joined_groups", "code_pieces", "way_between", "web_ring", "is_ring_form", "ring_fault", "_law_stir", "_law_hand", "_law_draw", "_law_whole", "_law_wholes"]
def names1 : List PySem.Str := ["_law_lot", "_law_free_checks", "_law_tie_checks", "_law_ringless_checks", "_law_code", "_law_made", "_law_pieces", "_law_fault", "_law_judged", "_law_spoilt_rings"]
def names : List PySem.Str := names0 ++ names1

abbrev hk : PySem.W.Hook := He.hookX 5 fa fn [] [] exx
def ob (s : PySem.W.SharedT) : He.AlX := He.obsX 5 fa fn [] [] exx (HandSHeadRun.getT s)
theorem ob_eq (s : PySem.W.SharedT) : ob s = hk.obs s.abs := He.obsX_eq (HandSHeadRun.getT_eq s)
theorem run (w : World) : HandSHeadRun.RunEq R (PySem.W.view R.prog [35]) hk ob 12000 names w := by
  intro os
  kernel_rfl
end K80
set_option Elab.async false
set_option linter.all false
set_option maxRecDepth 100000
set_option exponentiation.threshold 1000
set_option maxHeartbeats 4000000
local macro_rules | `(tactic| walk_at "cm") => `(tactic| first
  | assumption
  | exact Or.inr ⟨by decide, by decide⟩
  | exact Or.inl ⟨by decide, by decide⟩
  | exact Or.inr ⟨by omega, by omega⟩
  | exact Or.inl ⟨by omega, by omega⟩
  | (show (0 : Int) < _; omega)
  | (show (0 : Int) ≤ _; omega)
  | exact ⟨by decide, by decide⟩
  | exact ⟨by omega, by omega⟩
  | exact ⟨by decide, by decide, by decide⟩
  | exact ⟨by omega, by omega, by omega, by omega⟩
  | omega)
local macro_rules | `(tactic| walk_at "ol") => `(tactic| first
  | assumption
  | exact VL.updO_same
  | exact (VL.updO_ne (by first | assumption | exact Ne.symm (by assumption))).trans (by walk_at "ol"))
local macro_rules | `(tactic| walk_at "sq") => `(tactic| first
  | rfl
  | exact VL.asL_own (by walk_at "ol")
  | exact VL.asS_own (by walk_at "ol")
  | assumption)
local macro_rules | `(tactic| walk_at "ty") => `(tactic| first
  | rfl
  | exact VL.tyD_own (by walk_at "ol")
  | assumption)
local macro_rules | `(tactic| walk_at "kit") => `(tactic| first
  | exact K00.kit_ii | exact K00.kit_bi | exact K00.kit_si | exact K00.kit_ni | exact K00.kit_li | exact K00.kit_ti
  | exact K00.kit_ib | exact K00.kit_bb | exact K00.kit_sb | exact K00.kit_nb | exact K00.kit_lb | exact K00.kit_tb
  | exact K00.kit_it | exact K00.kit_bt | exact K00.kit_st | exact K00.kit_nt | exact K00.kit_lt | exact K00.kit_tt
  | exact VL.kit_is' | exact VL.kit_ss' | exact VL.kit_bs' | exact VL.kit_ns' | exact VL.kit_ts'
  | exact K00.kit_il | exact K00.kit_bl | exact K00.kit_sl | exact K00.kit_nl | exact K00.kit_ll | exact K00.kit_tl)
local macro_rules | `(tactic| walk_at "vw") => `(tactic| repeat (first
  | ((with_reducible apply VL.l_var); (next => rfl))
  | ((with_reducible apply VL.l_c); (next => rfl))
  | with_reducible refine VL.l_own (VL.ln_lst ?_)
  | with_reducible refine VL.l_own (VL.ln_cb ?_)
  | with_reducible refine VL.l_own (VL.ln_op ?_)
  | with_reducible refine VL.l_own (VL.ln_sl ?_)
  | with_reducible refine VL.l_own (VL.ln_rg1 ?_)
  | with_reducible refine VL.l_own ?_
  | with_reducible refine VL.f_lst ?_
  | ((with_reducible apply VL.f_list); (next => rfl))
  | ((with_reducible apply VL.f_sorted); (next => rfl))
  | ((with_reducible apply VL.f_sortedA); (next => rfl))
  | with_reducible refine VL.f_cat ?_
  | with_reducible refine VL.f_rep ?_
  | ((with_reducible apply VL.f_sl); (next => rfl))
  | with_reducible refine VL.f_lc ?_
  | ((with_reducible apply VL.l_isiT); (next => rfl))
  | with_reducible refine VL.l_op ?_
  | with_reducible refine VL.l_un ?_
  | with_reducible refine VL.l_cb ?_
  | with_reducible refine VL.la_nil ?_
  | with_reducible refine VL.la_cons ?_
  | with_reducible refine VL.l_tup ?_
  | with_reducible refine VL.and_len (Nat.le_of_ble_eq_true rfl) ?_
  | with_reducible refine VL.l_test ?_
  | with_reducible refine VL.l_tB ?_
  | with_reducible refine VL.ex_bl ?_
  | with_reducible refine VL.ex_int ?_
  | with_reducible refine VL.ex_tup ?_
  | with_reducible refine VL.ex_two ?_
  | with_reducible refine VL.ex_one ?_
  | with_reducible refine VL.l_and ?_
  | with_reducible refine VL.l_or ?_
  | with_reducible refine VL.l_not ?_
  | with_reducible refine VL.l_andV ?_
  | with_reducible refine VL.l_orV ?_
  | with_reducible refine VL.l_notV ?_
  | with_reducible refine VL.l_if ?_
  | with_reducible refine VL.l_chain ?_
  | with_reducible refine VL.l_yes ?_
  | with_reducible refine VL.lo_none ?_
  | with_reducible refine VL.lo_some ?_
  | with_reducible refine VL.l_sl ?_
  | ((with_reducible apply VL.l_fld); (next => rfl))
  | ((with_reducible apply VL.l_xfv); (next => rfl); (next => rfl))
  | ((with_reducible apply VL.o_I0); (next => rfl))
  | ((with_reducible apply VL.o_I); (next => walk_at "cm"); (next => rfl))
  | ((with_reducible apply VL.o_U); (next => rfl))
  | ((with_reducible apply VL.o_eqs); (next => rfl); (next => rfl); (next => rfl); (next => rfl))
  | ((with_reducible apply VL.o_nes); (next => rfl); (next => rfl); (next => rfl); (next => rfl))
  | with_reducible refine VL.o_isN ?_
  | with_reducible refine VL.o_notN ?_
  | ((with_reducible apply VL.o_ixL); (next => rfl); (next => walk_at "sq"); (next => rfl))
  | ((with_reducible apply VL.o_ixT); (next => rfl); (next => rfl))
  | ((with_reducible apply VL.o_ixQ); (next => rfl); (next => walk_at "sq"); (next => rfl))
  | ((with_reducible apply VL.l_lenSet2); (next => rfl))
  | ((with_reducible apply VL.k_repr0); (next => rfl))
  | ((with_reducible apply VL.o_inI); (next => rfl); (next => walk_at "sq"))
  | ((with_reducible apply VL.o_niI); (next => rfl); (next => walk_at "sq"))
  | ((with_reducible apply VL.k_len); (next => rfl); (next => walk_at "sq"))
  | ((with_reducible apply VL.k_allM); (next => rfl); (next => rfl))
  | ((with_reducible apply VL.k_anyM); (next => rfl); (next => rfl))
  | ((with_reducible apply VL.k_sumM); (next => rfl); (next => rfl))
  | with_reducible refine VL.ln_rg1 ?_
  | with_reducible refine VL.ex_rg (by first | exact ⟨by decide, by decide⟩ | exact ⟨by omega, by omega⟩) ?_
  | with_reducible refine VL.i_rng1 ?_
  | with_reducible refine VL.ex_r1 (by first | exact ⟨by decide, by decide⟩ | exact ⟨by omega, by omega⟩) ?_
  | ((with_reducible apply VL.l_bm); (next => rfl))
  | ((with_reducible apply VL.l_bm0); (next => rfl))
  | ((with_reducible apply VL.ex_asLB); (next => walk_at "sq"))
  | with_reducible refine VL.k_int1 ?_
  | with_reducible refine VL.k_abs ?_
  | with_reducible refine VL.k_gcd ?_
  | with_reducible refine VL.k_MM ?_
  | ((with_reducible apply VL.k_listOf); (next => rfl); (next => walk_at "sq"))
  | ((with_reducible apply VL.k_tupOf); (next => rfl); (next => walk_at "sq"))
  | ((with_reducible apply VL.k_sum); (next => rfl); (next => walk_at "sq"))
  | ((with_reducible apply VL.k_sumA); (next => rfl); (next => walk_at "sq"))
  | ((with_reducible apply VL.k_lenScr); (next => rfl))
  | with_reducible refine VL.o_isB ?_
  | ((with_reducible apply VL.k_isi); (next => rfl); (next => walk_at "ty"); (next => walk_at "kit"))
  | ((with_reducible apply VL.sl_L); (next => rfl); (next => walk_at "sq"))
  | ((with_reducible apply VL.sl_T); (next => rfl))
  | with_reducible refine VL.s_seq ?_
  | with_reducible refine VL.s_asg ?_
  | with_reducible refine VL.h_name ?_
  | with_reducible refine VL.h_sub ?_
  | with_reducible refine VL.h_nil ?_
  | with_reducible refine VL.h_cons ?_
  | ((with_reducible apply VL.h_tup); (next => rfl); (next => rfl))
  | with_reducible refine VL.g_name (by simp) ?_
  | with_reducible refine VL.g_nil ?_
  | with_reducible refine VL.g_cons ?_
  | ((with_reducible apply VL.g_tup); (next => rfl); (next => rfl))
  | ((with_reducible apply VL.t_setL); (next => walk_at "ol"); (next => rfl))
  | with_reducible refine VL.s_next ?_
  | with_reducible refine VL.s_break ?_
  | with_reducible refine VL.s_cont ?_
  | with_reducible refine VL.s_ret ?_
  | with_reducible refine VL.s_retN ?_
  | with_reducible refine VL.s_drop ?_
  | with_reducible refine VL.s_if ?_
  | with_reducible refine VL.s_par ?_
  | with_reducible refine VL.l_callN ?_
  | with_reducible refine VL.l_makeN ?_
  | with_reducible refine VL.l_calln1 ?_
  | with_reducible refine VL.l_calln2 ?_
  | with_reducible refine VL.nn0 ?_
  | with_reducible refine VL.nn1 ?_
  | with_reducible refine VL.nn2 ?_
  | with_reducible refine VL.nn3 ?_
  | with_reducible refine VL.nn4 ?_
  | with_reducible refine VL.nn5 ?_
  | with_reducible refine VL.nn6 ?_
  | with_reducible refine VL.mm0 ?_
  | with_reducible refine VL.mm1 ?_
  | with_reducible refine VL.mm2 ?_
  | with_reducible refine VL.mm3 ?_
  | with_reducible refine VL.mm4 ?_
  | with_reducible refine VL.mm5 ?_
  | with_reducible refine VL.mm6 ?_
  | with_reducible refine MB.if_nt ?_
  | with_reducible refine MB.if_nf ?_
  | with_reducible refine L2.iteF ?_
  | with_reducible refine L2.iteT ?_))
local macro_rules | `(tactic| walk_at "vx") => `(tactic| repeat (first
  | ((with_reducible apply VL.l_var); (next => rfl))
  | ((with_reducible apply VL.l_c); (next => rfl))
  | with_reducible refine VL.l_own (VL.ln_lst ?_)
  | with_reducible refine VL.l_own (VL.ln_cb ?_)
  | with_reducible refine VL.l_own (VL.ln_op ?_)
  | with_reducible refine VL.l_own (VL.ln_sl ?_)
  | with_reducible refine VL.l_own (VL.ln_rg1 ?_)
  | with_reducible refine VL.l_own ?_
  | with_reducible refine VL.f_lst ?_
  | ((with_reducible apply VL.f_list); (next => rfl))
  | ((with_reducible apply VL.f_sorted); (next => rfl))
  | ((with_reducible apply VL.f_sortedA); (next => rfl))
  | with_reducible refine VL.f_cat ?_
  | with_reducible refine VL.f_rep ?_
  | ((with_reducible apply VL.f_sl); (next => rfl))
  | with_reducible refine VL.f_lc ?_
  | ((with_reducible apply VL.l_isiT); (next => rfl))
  | with_reducible refine VL.l_op ?_
  | with_reducible refine VL.l_un ?_
  | with_reducible refine VL.l_cb ?_
  | with_reducible refine VL.la_nil ?_
  | with_reducible refine VL.la_cons ?_
  | with_reducible refine VL.l_tup ?_
  | with_reducible refine VL.and_len (Nat.le_of_ble_eq_true rfl) ?_
  | with_reducible refine VL.l_test ?_
  | with_reducible refine VL.l_tB ?_
  | with_reducible refine VL.ex_bl ?_
  | with_reducible refine VL.ex_int ?_
  | with_reducible refine VL.ex_tup ?_
  | with_reducible refine VL.ex_two ?_
  | with_reducible refine VL.ex_one ?_
  | with_reducible refine VL.l_and ?_
  | with_reducible refine VL.l_or ?_
  | with_reducible refine VL.l_not ?_
  | with_reducible refine VL.l_andV ?_
  | with_reducible refine VL.l_orV ?_
  | with_reducible refine VL.l_notV ?_
  | with_reducible refine VL.l_chain ?_
  | with_reducible refine VL.l_yes ?_
  | with_reducible refine VL.lo_none ?_
  | with_reducible refine VL.lo_some ?_
  | with_reducible refine VL.l_sl ?_
  | ((with_reducible apply VL.l_fld); (next => rfl))
  | ((with_reducible apply VL.l_xfv); (next => rfl); (next => rfl))
  | ((with_reducible apply VL.o_I0); (next => rfl))
  | ((with_reducible apply VL.o_I); (next => walk_at "cm"); (next => rfl))
  | ((with_reducible apply VL.o_U); (next => rfl))
  | ((with_reducible apply VL.o_eqs); (next => rfl); (next => rfl); (next => rfl); (next => rfl))
  | ((with_reducible apply VL.o_nes); (next => rfl); (next => rfl); (next => rfl); (next => rfl))
  | with_reducible refine VL.o_isN ?_
  | with_reducible refine VL.o_notN ?_
  | ((with_reducible apply VL.o_ixL); (next => rfl); (next => walk_at "sq"); (next => rfl))
  | ((with_reducible apply VL.o_ixT); (next => rfl); (next => rfl))
  | ((with_reducible apply VL.o_ixQ); (next => rfl); (next => walk_at "sq"); (next => rfl))
  | ((with_reducible apply VL.l_lenSet2); (next => rfl))
  | ((with_reducible apply VL.k_repr0); (next => rfl))
  | ((with_reducible apply VL.o_inI); (next => rfl); (next => walk_at "sq"))
  | ((with_reducible apply VL.o_niI); (next => rfl); (next => walk_at "sq"))
  | ((with_reducible apply VL.k_len); (next => rfl); (next => walk_at "sq"))
  | ((with_reducible apply VL.k_allM); (next => rfl); (next => rfl))
  | ((with_reducible apply VL.k_anyM); (next => rfl); (next => rfl))
  | ((with_reducible apply VL.k_sumM); (next => rfl); (next => rfl))
  | with_reducible refine VL.ln_rg1 ?_
  | with_reducible refine VL.ex_rg (by first | exact ⟨by decide, by decide⟩ | exact ⟨by omega, by omega⟩) ?_
  | with_reducible refine VL.i_rng1 ?_
  | with_reducible refine VL.ex_r1 (by first | exact ⟨by decide, by decide⟩ | exact ⟨by omega, by omega⟩) ?_
  | ((with_reducible apply VL.l_bm); (next => rfl))
  | ((with_reducible apply VL.l_bm0); (next => rfl))
  | ((with_reducible apply VL.ex_asLB); (next => walk_at "sq"))
  | with_reducible refine VL.k_int1 ?_
  | with_reducible refine VL.k_abs ?_
  | with_reducible refine VL.k_gcd ?_
  | with_reducible refine VL.k_MM ?_
  | ((with_reducible apply VL.k_listOf); (next => rfl); (next => walk_at "sq"))
  | ((with_reducible apply VL.k_tupOf); (next => rfl); (next => walk_at "sq"))
  | ((with_reducible apply VL.k_sum); (next => rfl); (next => walk_at "sq"))
  | ((with_reducible apply VL.k_sumA); (next => rfl); (next => walk_at "sq"))
  | ((with_reducible apply VL.k_lenScr); (next => rfl))
  | with_reducible refine VL.o_isB ?_
  | ((with_reducible apply VL.k_isi); (next => rfl); (next => walk_at "ty"); (next => walk_at "kit"))
  | ((with_reducible apply VL.sl_L); (next => rfl); (next => walk_at "sq"))
  | ((with_reducible apply VL.sl_T); (next => rfl))
  | with_reducible refine VL.s_seq ?_
  | with_reducible refine VL.s_asg ?_
  | with_reducible refine VL.h_name ?_
  | with_reducible refine VL.h_sub ?_
  | with_reducible refine VL.h_nil ?_
  | with_reducible refine VL.h_cons ?_
  | ((with_reducible apply VL.h_tup); (next => rfl); (next => rfl))
  | with_reducible refine VL.g_name (by simp) ?_
  | with_reducible refine VL.g_nil ?_
  | with_reducible refine VL.g_cons ?_
  | ((with_reducible apply VL.g_tup); (next => rfl); (next => rfl))
  | ((with_reducible apply VL.t_setL); (next => walk_at "ol"); (next => rfl))
  | with_reducible refine VL.s_next ?_
  | with_reducible refine VL.s_break ?_
  | with_reducible refine VL.s_cont ?_
  | with_reducible refine VL.s_ret ?_
  | with_reducible refine VL.s_retN ?_
  | with_reducible refine VL.s_drop ?_
  | with_reducible refine VL.s_if ?_
  | with_reducible refine VL.s_par ?_
  | with_reducible refine VL.l_callN ?_
  | with_reducible refine VL.l_makeN ?_
  | with_reducible refine VL.l_calln1 ?_
  | with_reducible refine VL.l_calln2 ?_
  | with_reducible refine VL.nn0 ?_
  | with_reducible refine VL.nn1 ?_
  | with_reducible refine VL.nn2 ?_
  | with_reducible refine VL.nn3 ?_
  | with_reducible refine VL.nn4 ?_
  | with_reducible refine VL.nn5 ?_
  | with_reducible refine VL.nn6 ?_
  | with_reducible refine VL.mm0 ?_
  | with_reducible refine VL.mm1 ?_
  | with_reducible refine VL.mm2 ?_
  | with_reducible refine VL.mm3 ?_
  | with_reducible refine VL.mm4 ?_
  | with_reducible refine VL.mm5 ?_
  | with_reducible refine VL.mm6 ?_
  | with_reducible refine MB.if_nt ?_
  | with_reducible refine MB.if_nf ?_
  | with_reducible refine L2.iteF ?_
  | with_reducible refine L2.iteT ?_))
namespace K80
open PySem PySem.Spec PyProof.Rows L2 MB
def W_stir : VL.WL := fun ds O Q _ => ∃ n t : Int, ds = [.int n, .int t] ∧ ∀ r : Int, Q (.int r) O
def W_hand : VL.WL := fun ds O Q _ => ∃ ns : List Int, ds = [.scr ns] ∧ ns.length ≤ 63 ∧ ∀ p, O p = none → Q (.ref p) (VL.updO O p .hand)
def W_draw : VL.WL := fun ds O Q _ => ∃ (p : Addr) (m : Int), ds = [.ref p, .int m] ∧ O p = some .hand ∧ 0 < m ∧ m < 1073741824 ∧ ∀ d : Int, 0 ≤ d → d < m → Q (.int d) O
section
variable {P : Program} {w : World} {K : PySem.W.Frag} {mg : Str → Option Value} {base : Heap}
theorem c_l_stir (T : Txt K mg) : Cal P w K mg base CX0 1 "_law_stir" ["_law_number", "_law_turn"] [] (VL.SpL K W_stir) := by
  obtain ⟨fd, F⟩ := T.c.def_ 10 (d := dd_l_stir) rfl
  refine ⟨_, fd, [], VL.fnL' (CX := CX0) F sc_l_stir ?_ (fun cdv A outer s H E hr => ⟨_, PSs.nox (pss_cons (ps_set (i := 2) sc_l_stir.nd rfl (Or.inl rfl) (pe_op op_mod (pe_callTy MB.k_int1 rfl (T.free 1) (by decide +kernel) (pa_cons (pe_op op_add (pe_op op_add (pe_op op_mul (pv 0) pe_int) (pe_op op_mul (pv 1) pe_int)) pe_int) pa_nil)) pe_int))
 (pss_cons (ps_set (i := 3) sc_l_stir.nd rfl (Or.inl rfl) (pe_op op_mod (pe_callTy MB.k_int1 rfl (T.free 1) (by decide +kernel) (pa_cons (pe_op op_add (pe_op op_add (pe_op op_mul (pv 2) (pv 2)) (pe_op op_mul (pv 1) pe_int)) (pe_op op_fdiv (pv 2) pe_int)) pa_nil)) pe_int))
 (pss_one (ps_ret (pe_op op_fdiv (pe_op op_mod (pe_callTy MB.k_int1 rfl (T.free 1) (by decide +kernel) (pa_cons (pe_op op_add (pe_op op_mul (pv 3) pe_int) (pe_op op_fdiv (pv 2) pe_int)) pa_nil)) pe_int) pe_int))))), ?_⟩), T.glo 32, F.kp, F.bindsN fun _ _ _ _ _ _ us hl => match us, hl with | [_, _], _ => rfl, .nil⟩

  · rintro ds O Q E ⟨n, t, rfl, _⟩; rfl
  · rintro ds O Q E ⟨n, t, rfl, k⟩
    walk_at "vw"
    exact k _
theorem ints_at {ns : List Int} {i : Int} (h0 : 0 ≤ i) (h : i < (ns.map VL.D.int).length) : ∃ c, c ∈ ns ∧ atI (ns.map VL.D.int) i = some (.int c) := by
  rw [List.length_map] at h
  have e : i = ((i.toNat : Nat) : Int) := by omega
  have hl : i.toNat < ns.length := by omega
  have g : atI (ns.map VL.D.int) ((i.toNat : Nat) : Int) = some (.int ns[i.toNat]) := by
    refine atI_nat ?_
    rw [List.getElem?_map, List.getElem?_eq_getElem hl]
    rfl
  rw [← e] at g
  exact ⟨_, List.getElem_mem hl, g⟩
theorem c_l_draw (T : Txt K mg) : Cal P w K mg base CX0 2 "_law_draw" ["_law_hand_here", "_law_many"] [] (VL.SpL K W_draw) := by
  have c_l_stir := @c_l_stir P w K mg base T
  obtain ⟨fd, F⟩ := T.c.def_ 12 (d := dd_l_draw) rfl
  refine ⟨_, fd, [], VL.fnL' (CX := CX0) F sc_l_draw ?_ (fun cdv A outer s H E hr => ⟨_, PSs.nox (pss_cons (ps_if (PW.pt (pw_and (pt_cmpR (VL.op_eqX hr.units) (pe_ix ix_seq (pv 0) pe_int (fun _ _ => rfl)) pe_int (nomark _)) (pw_and1 (pt_cmpR op_lt (pe_ix ix_seq (pv 0) pe_int (fun _ _ => rfl)) (pe_callB MB.k_len rfl (T.free 3) PySem.boot_len (pa_cons (pe_ix ix_seq (pv 0) pe_int (fun _ _ => rfl)) pa_nil)) (nomark _)))))
  (pss_cons (ps_set (i := 2) sc_l_draw.nd rfl (Or.inl rfl) (pe_ix ix_seq (pe_ix ix_seq (pv 0) pe_int (fun _ _ => rfl)) (pe_ix ix_seq (pv 0) pe_int (fun _ _ => rfl)) (fun _ _ => rfl)))
 (pss_cons (ps_asg (pe_op op_add (pe_ix ix_seq (pv 0) pe_int (fun _ _ => rfl)) pe_int) (pg_sub (pv 0) pe_int set_list (by intros; rfl)))
 (pss_cons (ps_if (pt_cmpR op_lt (pv 2) (pe_op op_pow pe_int pe_int) (nomark _))
  (pss_one (ps_ret (pe_op op_mod (pe_callTy MB.k_int1 rfl (T.free 1) (by decide +kernel) (pa_cons (pe_cal c_l_stir (hr.mono (by decide)) pass0 (pa_cons (pv 2) (pa_cons (pe_ix ix_seq (pv 0) pe_int (fun _ _ => rfl)) pa_nil))) pa_nil)) (pv 1))))
  pss_nil)
 (pss_one (ps_asg (pv 2) (pg_sub (pv 0) pe_int set_list (by intros; rfl)))))))
  pss_nil)
 (pss_cons (ps_if (pt_cmpR op_gt (pe_ix ix_seq (pv 0) pe_int (fun _ _ => rfl)) pe_int (nomark _))
  (pss_cons (ps_set (i := 3) sc_l_draw.nd rfl (Or.inl rfl) (pe_ix ix_seq (pv 0) pe_int (fun _ _ => rfl)))
 (pss_cons (ps_asg (pe_op op_fdiv (pv 3) (pv 1)) (pg_sub (pv 0) pe_int set_list (by intros; rfl)))
 (pss_one (ps_ret (pe_op op_mod (pe_callTy MB.k_int1 rfl (T.free 1) (by decide +kernel) (pa_cons (pv 3) pa_nil)) (pv 1))))))
  pss_nil)
 (pss_cons (ps_asg (pe_op op_mod (pe_callTy MB.k_int1 rfl (T.free 1) (by decide +kernel) (pa_cons (pe_op op_add (pe_ix ix_seq (pv 0) pe_int (fun _ _ => rfl)) pe_int) pa_nil)) pe_int) (pg_sub (pv 0) pe_int set_list (by intros; rfl)))
 (pss_one (ps_ret (pe_op op_mod (pe_callTy MB.k_int1 rfl (T.free 1) (by decide +kernel) (pa_cons (pe_cal c_l_stir (hr.mono (by decide)) pass0 (pa_cons (pe_ix ix_seq (pv 0) pe_int (fun _ _ => rfl)) (pa_cons (pe_ix ix_seq (pv 0) pe_int (fun _ _ => rfl)) pa_nil))) pa_nil)) (pv 1))))))), ?_⟩), T.glo 34, F.kp, F.bindsN fun _ _ _ _ _ _ us hl => match us, hl with | [_, _], _ => rfl, .nil⟩

  · rintro ds O Q E ⟨p, m, rfl, _⟩; rfl
  · rintro ds O Q E ⟨p, m, rfl, hp, hm, hm2, k⟩
    refine VL.s_hand hp fun ns i rest st b => ?_
    have fin : ∀ (z i rest st : Int) (O' : VL.Oh), O' = VL.updO O p (.lst [.lst (ns.map VL.D.int), .int i, .int rest, .int st]) → 0 ≤ i → 0 ≤ rest → ∃ (ns : List Int) (i rest st : Int), O' p = some (.lst [.lst (ns.map VL.D.int), .int i, .int rest, .int st]) ∧ (0 ≤ i ∧ 0 ≤ rest ∧ (∀ n ∈ ns, 0 ≤ n) ∧ ns.length ≤ 63) ∧ Q (.int (z % m)) (VL.updO O' p .hand) := by
      rintro z i rest st O' rfl h1 h2
      refine ⟨ns, i, rest, st, VL.updO_same, ⟨h1, h2, b.2.2.1, b.2.2.2⟩, ?_⟩
      rw [VL.updO_id hp]
      exact k _ (Int.emod_nonneg _ (by omega)) (Int.emod_lt_of_pos _ hm)
    walk_at "vw"
    refine if_i (fun hr0 => ?_) (fun hr0 => ?_)
    · walk_at "vw"
      refine if_d (fun hi => ?_) (fun hi => ?_)
      · walk_at "vw"
        obtain ⟨c, hc, ea⟩ := ints_at b.1 hi
        refine VL.o_ixQ rfl rfl ea ?_
        walk_at "vw"
        refine if_d (fun hcc => ?_) (fun hcc => ?_)
        · walk_at "vw"
          refine ⟨_, _, rfl, fun r => ?_⟩
          walk_at "vw"
          exact fin r _ _ _ _ (by (repeat rw [VL.updO_updO]); try rfl) (by omega) b.2.1
        · have hc0 := b.2.2.1 c hc
          walk_at "vw"
          refine if_d (fun hc => ?_) (fun hc => ?_)
          · walk_at "vw"
            exact fin _ _ _ _ _ (by (repeat rw [VL.updO_updO]); try rfl) (by omega) (Int.ediv_nonneg hc0 (by omega))
          · walk_at "vw"
            refine ⟨_, _, rfl, fun r => ?_⟩
            walk_at "vw"
            exact fin r _ _ _ _ (by (repeat rw [VL.updO_updO]); try rfl) (by omega) hc0
      · walk_at "vw"
        refine if_d (fun hc => ?_) (fun hc => ?_)
        · walk_at "vw"
          exact fin _ _ _ _ _ (by (repeat rw [VL.updO_updO]); try rfl) b.1 (Int.ediv_nonneg b.2.1 (by omega))
        · walk_at "vw"
          refine ⟨_, _, rfl, fun r => ?_⟩
          walk_at "vw"
          exact fin r _ _ _ _ (by (repeat rw [VL.updO_updO]); try rfl) b.1 b.2.1
    · walk_at "vw"
      refine if_d (fun hc => ?_) (fun hc => ?_)
      · walk_at "vw"
        exact fin _ _ _ _ _ (by (repeat rw [VL.updO_updO]); try rfl) b.1 (Int.ediv_nonneg b.2.1 (by omega))
      · walk_at "vw"
        refine ⟨_, _, rfl, fun r => ?_⟩
        walk_at "vw"
        exact fin r _ _ _ _ (by (repeat rw [VL.updO_updO]); try rfl) b.1 b.2.1
end
end K80
namespace K80
open PySem PySem.Spec PyProof.Rows L2 MB
def W_whole : VL.WL := fun ds O Q _ => ∃ t lo hi, ds = [t, lo, hi] ∧ VL.Kn O t ∧ VL.Bd lo ∧ VL.Bd hi ∧ Q (.bl (VL.isWhole t lo hi)) O
def W_isSeq : VL.WL := fun ds O Q _ => ∃ t, ds = [t] ∧ VL.Kn O t ∧ Q (.bl (VL.asS O t).isSome) O
def W_lot : VL.WL := fun ds O Q _ => ∃ t m, ds = [t, .int m] ∧ VL.Kn O t ∧ (∀ xs, VL.asS O t = some xs → xs.length ≤ 1000 ∧ ∀ x ∈ xs, VL.Kn O x) ∧ Q (.bl (VL.isLot O t m)) O
section
variable {P : Program} {w : World} {K : PySem.W.Frag} {mg : Str → Option Value} {base : Heap}
theorem ok_is_whole (T : Txt K mg) {fd : FuncData} (F : FunD K "is_whole" "is_whole" (defArgs s_is_whole) (defBody s_is_whole) (defScope s_is_whole) [.non, .non] [] (He.ga K "is_whole") fd) : FnOk P w K mg base CX0 1 (He.ga K "is_whole") fd ["thing", "low", "high"] (VL.SpL K W_whole) := by
  refine VL.fnL' (CX := CX0) F sc_is_whole ?_ (fun cdv A outer s H E hr => ⟨_, PSs.nox (pss_cons (ps_if (PW.pt (pw_or (pt_not (pt_val (pe_callB call_isi rfl (T.free 0) (by decide +kernel) (pa_cons (pv 0) (pa_cons (pe_ty "int" rfl (T.free 1) (by decide +kernel)) pa_nil))))) (pw_or1 (pt_val (pe_callB call_isi rfl (T.free 0) (by decide +kernel) (pa_cons (pv 0) (pa_cons (pe_ty "bool" rfl (T.free 2) (by decide +kernel)) pa_nil)))))))
  (pss_one (ps_ret pe_bl))
  pss_nil)
 (pss_one (ps_ret (pe_and (pe_or (pe_cmpR MB.k_isN (pv 1) pe_non (nomark _)) (pe_one (pe_cmpR op_ge (pv 0) (pv 1) (nomark _)))) (pe_one (pe_or (pe_cmpR MB.k_isN (pv 2) pe_non (nomark _)) (pe_one (pe_cmpR op_le (pv 0) (pv 2) (nomark _))))))))), ?_⟩)
  · rintro ds O Q E ⟨t, lo, hi, rfl, _⟩; rfl
  · rintro ds O Q E ⟨t, lo, hi, rfl, ⟨n, hn, h6⟩, hlo, hhi, k⟩
    have ki := VL.kit_six_int h6
    have kb := VL.kit_six_bool h6
    walk_at "vw"
    refine VL.k_isi rfl hn ki ?_
    walk_at "vw"
    by_cases hi2 : (n == "int" || n == "bool") = true
    · rw [hi2]
      walk_at "vw"
      refine VL.k_isi rfl hn kb ?_
      walk_at "vw"
      by_cases hb2 : (n == "bool") = true
      · rw [hb2]
        walk_at "vw"
        cases eq_of_beq hb2
        have e : VL.isWhole t lo hi = false := by
          cases t with
          | int i => simp [VL.tyD] at hn
          | _ => rfl
        rw [e] at k
        exact k
      · rw [Bool.eq_false_iff.mpr hb2]
        walk_at "vw"
        have en : n = "int" := by simpa [hb2] using hi2
        subst en
        obtain ⟨i, rfl⟩ := VL.ty_int hn
        rcases hlo with rfl | ⟨l, rfl⟩
        · rcases hhi with rfl | ⟨h, rfl⟩
          · walk_at "vw"; exact k
          · walk_at "vw"; exact k
        · walk_at "vw"
          refine if_d (fun h1 => ?_) (fun h1 => ?_)
          · rcases hhi with rfl | ⟨h, rfl⟩
            · walk_at "vw"
              have e : VL.isWhole (.int i) (.int l) .non = true := by simp [VL.isWhole, VL.geB, VL.leB, h1]
              rw [e] at k; exact k
            · walk_at "vw"
              have e : VL.isWhole (.int i) (.int l) (.int h) = decide (i ≤ h) := by simp [VL.isWhole, VL.geB, VL.leB, h1]
              rw [e] at k; exact k
          · have e : VL.isWhole (.int i) (.int l) hi = false := by simp [VL.isWhole, VL.geB, h1]
            rw [e] at k; exact k
    · have hi3 := Bool.eq_false_iff.mpr hi2
      rw [hi3]
      walk_at "vw"
      have e : VL.isWhole t lo hi = false := by
        cases t with
        | int i => simp [VL.tyD] at hn; subst hn; simp at hi3
        | _ => rfl
      rw [e] at k
      exact k
theorem c_is_whole1 (T : Txt K mg) : Cal P w K mg base CX0 1 "is_whole" ["thing", "low", "high"] [.non, .non] (VL.SpL K W_whole) := by
  obtain ⟨fd, F⟩ := T.c.def_ 0 (d := dd_is_whole) rfl
  obtain ⟨ds, hd, hb⟩ := FunD.binds1 F 1 0 (List.cons_ne_nil _ _) rfl (ps := ["thing", "low", "high"]) fun _ _ _ _ _ _ _ us its hl hi => match us, its, hl, hi with | [_], [_, _], _, _ => ⟨_, rfl, rfl⟩
  exact ⟨_, fd, ds, ok_is_whole T F, T.glo 22, F.kp, hb, hd⟩
theorem c_is_whole2 (T : Txt K mg) : Cal P w K mg base CX0 1 "is_whole" ["thing", "low", "high"] [.non] (VL.SpL K W_whole) := by
  obtain ⟨fd, F⟩ := T.c.def_ 0 (d := dd_is_whole) rfl
  obtain ⟨ds, hd, hb⟩ := FunD.binds1 F 2 1 (List.cons_ne_nil _ _) rfl (ps := ["thing", "low", "high"]) fun _ _ _ _ _ _ _ us its hl hi => match us, its, hl, hi with | [_, _], [_, _], _, _ => ⟨_, rfl, rfl⟩
  exact ⟨_, fd, ds, ok_is_whole T F, T.glo 22, F.kp, hb, hd⟩
theorem c_is_whole3 (T : Txt K mg) : Cal P w K mg base CX0 1 "is_whole" ["thing", "low", "high"] [] (VL.SpL K W_whole) := by
  obtain ⟨fd, F⟩ := T.c.def_ 0 (d := dd_is_whole) rfl
  obtain ⟨ds, hd, hb⟩ := FunD.binds1 F 3 2 (List.cons_ne_nil _ _) rfl (ps := ["thing", "low", "high"]) fun _ _ _ _ _ _ _ us its hl hi => match us, its, hl, hi with | [_, _, _], [_, _], _, _ => ⟨_, rfl, rfl⟩
  exact ⟨_, fd, ds, ok_is_whole T F, T.glo 22, F.kp, hb, hd⟩
theorem c_is_sequence (T : Txt K mg) : Cal P w K mg base CX0 1 "is_sequence" ["thing"] [] (VL.SpL K W_isSeq) := by
  obtain ⟨fd, F⟩ := T.c.def_ 1 (d := dd_is_sequence) rfl
  refine ⟨_, fd, [], VL.fnL' (CX := CX0) F sc_is_sequence ?_ (fun cdv A outer s H E hr => ⟨_, PSs.nox (pss_one (ps_ret (pe_callB call_isiT rfl (T.free 0) (by decide +kernel) (pa_cons (pv 0) (pa_cons (pe_tup (pa_cons (pe_ty "list" rfl (T.free 11) (by decide +kernel)) (pa_cons (pe_ty "tuple" rfl (T.free 10) (by decide +kernel)) pa_nil))) pa_nil))))), ?_⟩), T.glo 23, F.kp, F.bindsN fun _ _ _ _ _ _ us hl => match us, hl with | [_], _ => rfl, .nil⟩

  · rintro ds O Q E ⟨t, rfl, _⟩; rfl
  · rintro ds O Q E ⟨t, rfl, ⟨n, hn, h6⟩, k⟩
    walk_at "vw"
    refine ⟨n, _, _, hn, VL.kit_six_lst h6, VL.kit_six_tup h6, ?_⟩
    rw [VL.ty_seq hn]
    exact k
end
end K80
namespace K80
open PySem PySem.Spec PyProof.Rows L2 MB
/-- a thing whose items are looked at, too -/
def W_ratio : VL.WL := fun ds O Q _ => ∃ t, ds = [t] ∧ VL.Kn O t ∧ (∀ xs, VL.asS O t = some xs → ∀ x ∈ xs, VL.Kn O x) ∧ Q (.bl (VL.isRatio t)) O
def W_share : VL.WL := fun ds O Q _ => ∃ t, ds = [t] ∧ VL.Kn O t ∧ (∀ xs, VL.asS O t = some xs → ∀ x ∈ xs, VL.Kn O x) ∧ Q (.bl (VL.isShare t)) O
def W_long : VL.WL := fun ds O Q _ => ∃ t m, ds = [t, .int m] ∧ VL.Kn O t ∧ Q (.bl (VL.longA (VL.asS O) t m)) O
def W_digits : VL.WL := fun ds O Q _ => ∃ t m, ds = [t, .int m] ∧ VL.Kn O t ∧ m ≤ 100000 ∧ (∀ xs, VL.asS O t = some xs → ∀ x ∈ xs, VL.Kn O x) ∧ Q (.bl (VL.digitsA (VL.asS O) t m)) O
section
variable {P : Program} {w : World} {K : PySem.W.Frag} {mg : Str → Option Value} {base : Heap}
theorem c_is_lot (T : Txt K mg) : Cal P w K mg base CX0 2 "is_lot" ["thing", "many"] [] (VL.SpL K W_lot) := by
  have c_is_sequence := @c_is_sequence P w K mg base T
  have c_is_whole3 := @c_is_whole3 P w K mg base T
  obtain ⟨fd, F⟩ := T.c.def_ 2 (d := dd_is_lot) rfl
  refine ⟨_, fd, [], VL.fnL' (CX := CX0) F sc_is_lot ?_ (fun cdv A outer s H E hr => ⟨_, PSs.nox (pss_cons (ps_if (PW.pt (pw_or (pt_not (pt_val (pe_cal c_is_sequence (hr.mono (by decide)) pass0 (pa_cons (pv 0) pa_nil)))) (pw_or1 (pt_not (pt_val (pe_callB (cr_all rfl) rfl (T.free 5) (by decide +kernel) (pa_cons (pe_lc (own := [("item", 2)]) (g := gName 2) (tt := tYes) rfl sc_is_lot.nd (VL.pi_seq (pv 0)) (blkOk_by (N := ["thing", "many", "item"]) (sc := defScope s_is_lot) (by decide +kernel)) (fun _ _ _ _ _ => (pg_name (i := 2) sc_is_lot.nd rfl (Or.inl rfl))) (fun _ _ _ _ _ => pts_nil) (fun _ _ _ _ _ => (pe_cal c_is_whole3 (hr.mono (by decide)) pass0 (pa_cons (pv 2) (pa_cons pe_int (pa_cons (pe_op op_sub (pv 1) pe_int) pa_nil)))))) pa_nil)))))))
  (pss_one (ps_ret pe_bl))
  pss_nil)
 (pss_one (ps_ret (pe_cmpR (VL.op_eqX hr.units) (VL.pe_lenSet2 rfl (T.free 3) rfl (T.free 12) (pv 0)) (pe_callB MB.k_len rfl (T.free 3) PySem.boot_len (pa_cons (pv 0) pa_nil)) (nomark _))))), ?_⟩), T.glo 24, F.kp, F.bindsN fun _ _ _ _ _ _ us hl => match us, hl with | [_, _], _ => rfl, .nil⟩

  · rintro ds O Q E ⟨t, m, rfl, _⟩; rfl
  · rintro ds O Q E ⟨t, m, rfl, kn, hx, k⟩
    walk_at "vw"
    refine ⟨_, rfl, kn, ?_⟩
    walk_at "vw"
    refine if_b (fun h1 => ?_) (fun h1 => ?_)
    · have e0 : VL.asS O t = none := by simpa using h1
      walk_at "vw"
      have e : VL.isLot O t m = false := by unfold VL.isLot; rw [e0]
      rw [e] at k; exact k
    · obtain ⟨xs, e⟩ : ∃ xs, VL.asS O t = some xs := Option.isSome_iff_exists.mp (by simpa using h1)
      obtain ⟨hl, hk⟩ := hx xs e
      walk_at "vw"
      refine VL.ln_map (fun d => .bl (VL.isWhole d (.int 0) (.int (m - 1)))) (VL.i_seq rfl ?_)
      walk_at "vw"
      refine ⟨xs, e, by omega, fun O2 x => VL.asS_ext x e, fun i d O2 hd ex => ?_, ?_⟩
      · walk_at "vw"
        exact ⟨_, _, _, rfl, (hk d (List.mem_of_getElem? hd)).ext ex, .inr ⟨_, rfl⟩, .inr ⟨_, rfl⟩, rfl, rfl⟩
      · walk_at "vw"
        refine if_b (fun h2 => ?_) (fun h2 => ?_)
        · walk_at "vw"
          have el : VL.isLot O t m = false := by
            unfold VL.isLot VL.lotB; rw [e]
            show (xs.all (fun d => VL.isWhole d (.int 0) (.int (m - 1))) && _) = false
            rw [show xs.all (fun d => VL.isWhole d (.int 0) (.int (m - 1))) = false by simpa using h2]; rfl
          rw [el] at k; exact k
        · have h3 : xs.all (fun d => VL.isWhole d (.int 0) (.int (m - 1))) = true := by simpa using h2
          obtain ⟨ns, rfl, hn⟩ := VL.ints_of_all h3
          walk_at "vw"
          refine ⟨ns, e, by rw [List.length_map] at hl; omega, ?_⟩
          walk_at "vw"
          rw [vd_int]
          have el : VL.isLot O t m = decide (((VL.ddI ns).length : Int) = ((ns.map VL.D.int).length : Nat)) := by
            unfold VL.isLot VL.lotB; rw [e]
            show ((ns.map VL.D.int).all _ && _) = _
            rw [h3, VL.intsOf_ints]
            show decide ns.Nodup = _
            refine decide_eq_decide.mpr ?_
            rw [List.length_map, ← VL.ddI_len]; omega
          rw [el] at k; exact k
end
end K80
namespace K80
open PySem PySem.Spec PyProof.Rows L2 MB
def W_Code (K : PySem.W.Frag) : VL.WL := fun ds O Q X => ∃ p b t, ds = [.ref p, b, t] ∧ O p = some (.ins (He.ga K "Code") []) ∧ VL.Kn O b ∧ VL.Look3 O t ∧ match VL.codeFault (VL.asS O) b t with
  | some (x, i) => X (He.ga K "BadCode") [("place", .int i), ("what", .str x)] O
  | none => Q .non (VL.updO O p (.ins (He.ga K "Code") [("bits", b), ("checks", .tup ((VL.itemsA (VL.asS O) t).map (VL.chkD (VL.asS O))))]))
section
variable {P : Program} {w : World} {K : PySem.W.Frag} {mg : Str → Option Value} {base : Heap}
theorem c_Code (T : Txt K mg) : VL.Mkr P w K mg base (L2.CX P w) 3 "Code" (He.ga K "Code") ["self", "bits", "checks"] (VL.SpL K (W_Code K)) := by
  obtain ⟨fI_BadCode, FI_BadCode, bI_BadCode⟩ := @FI_BadCode P w K mg base T
  have c_is_whole3 := @c_is_whole3 P w K mg base T
  have c_is_sequence := @c_is_sequence P w K mg base T
  have c_is_lot := @c_is_lot P w K mg base T
  obtain ⟨fd, F⟩ := T.c.def_ 27 (d := dd_Code___init__) rfl
  refine ⟨_, fd, VL.fnL' (CX := (L2.CX P w)) F sc_Code___init__ ?_ (fun cdv A outer s H E hr => ⟨_, (pss_cons (ps_if (pt_not (pt_val (pe_cal c_is_whole3 (hr.mono (by decide)) pass0 (pa_cons (pv 1) (pa_cons pe_int (pa_cons (VL.pe_gint rfl (T.int 48)) pa_nil))))))
  (pss_one (ps_raise rfl (takes_of rfl rfl rfl rfl) (pmk_oex (T.bo 1) (T.bi 1) (T.bt 1) FI_BadCode (hr.mono (by decide)) bI_BadCode .nil pass0 rfl (T.glo 20) (pa_cons pe_str (pa_cons (pe_un un_neg pe_int) pa_nil)))))
  pss_nil)
 (pss_cons (ps_if (PW.pt (pw_or (pt_not (pt_val (pe_cal c_is_sequence (hr.mono (by decide)) pass0 (pa_cons (pv 2) pa_nil)))) (pw_or1 (pt_cmpR op_gt (pe_callB MB.k_len rfl (T.free 3) PySem.boot_len (pa_cons (pv 2) pa_nil)) (VL.pe_gint rfl (T.int 49)) (nomark _)))))
  (pss_one (ps_raise rfl (takes_of rfl rfl rfl rfl) (pmk_oex (T.bo 1) (T.bi 1) (T.bt 1) FI_BadCode (hr.mono (by decide)) bI_BadCode .nil pass0 rfl (T.glo 20) (pa_cons pe_str (pa_cons (pe_un un_neg pe_int) pa_nil)))))
  pss_nil)
 (pss_cons (ps_for (passes_of rfl) rfl (VL.pi_enumA rfl (T.free 9) (pa_cons (pv 2) pa_nil)) (pg_tup rfl (pgs_cons (pg_name (i := 3) sc_Code___init__.nd rfl (Or.inl rfl)) (pgs_cons (pg_name (i := 4) sc_Code___init__.nd rfl (Or.inl rfl)) pgs_nil)))
  (pss_one (ps_if (PW.pt (pw_or (pt_not (pt_val (pe_cal c_is_lot (hr.mono (by decide)) pass0 (pa_cons (pv 4) (pa_cons (pv 1) pa_nil))))) (pw_or1 (pt_cmpR (VL.op_eqX hr.units) (pe_callB MB.k_len rfl (T.free 3) PySem.boot_len (pa_cons (pv 4) pa_nil)) pe_int (nomark _)))))
  (pss_one (ps_raise rfl (takes_of rfl rfl rfl rfl) (pmk_oex (T.bo 1) (T.bi 1) (T.bt 1) FI_BadCode (hr.mono (by decide)) bI_BadCode .nil pass0 rfl (T.glo 20) (pa_cons pe_str (pa_cons (pv 3) pa_nil)))))
  pss_nil)))
 (pss_cons (ps_fld (pv 0) (pv 1) rfl)
 (pss_one (ps_fld (pv 0) (pe_callTy MB.k_tupOf rfl (T.free 10) (by decide +kernel) (pa_cons (pe_lc (own := [("check", 4)]) (g := gName 4) (tt := tYes) rfl sc_Code___init__.nd (VL.pi_seq (pv 2)) (blkOk_by (N := ["self", "bits", "checks", "number", "check"]) (sc := defScope s_Code___init__) (by decide +kernel)) (fun _ _ _ _ _ => (pg_name (i := 4) sc_Code___init__.nd rfl (Or.inl rfl))) (fun _ _ _ _ _ => pts_nil) (fun _ _ _ _ _ => (pe_callTy (show CallR _ (.type "tuple") (MB.rTupOf K) from MB.k_tupOf) rfl (T.free 10) (by decide +kernel) (pa_cons (pe_callB (show CallR _ (.builtin "sorted") (VL.rSortedA K) from VL.cr_sortedA) rfl (T.free 13) (by decide +kernel) (pa_cons (pv 4) pa_nil)) pa_nil)))) pa_nil)) rfl)))))), ?_⟩), T.mkr 53, T.glo 21, F.bindsN fun _ _ _ _ _ _ us hl => match us, hl with | [_, _, _], _ => rfl⟩

  · rintro ds O Q E ⟨p, b, t, rfl, _⟩; rfl
  · rintro ds O Q E ⟨p, b, t, rfl, hp, kb, ⟨kt, hx⟩, k⟩
    walk_at "vw"
    refine ⟨_, _, _, rfl, kb, .inr ⟨1, rfl⟩, .inr ⟨10, rfl⟩, ?_⟩
    walk_at "vw"
    refine if_b (fun h1 => ?_) (fun h1 => ?_)
    · have h1' : VL.isWhole b (.int 1) (.int 10) = false := by simpa using h1
      rw [VL.cf_bits h1'] at k
      refine VL.s_raise2 (fun _ _ _ _ h => h) ?_
      walk_at "vw"
      exact k
    · have h1' : VL.isWhole b (.int 1) (.int 10) = true := by simpa using h1
      obtain ⟨n, rfl⟩ := VL.whole_int h1'
      walk_at "vw"
      refine ⟨_, rfl, kt, ?_⟩
      walk_at "vw"
      refine if_b (fun h2 => ?_) (fun h2 => ?_)
      · have e0 : VL.asS O t = none := by simpa using h2
        rw [VL.cf_seq h1' e0] at k
        walk_at "vw"
        refine VL.s_raise2 (fun _ _ _ _ h => h) ?_
        walk_at "vw"
        exact k
      · obtain ⟨xs, e0⟩ : ∃ xs, VL.asS O t = some xs := Option.isSome_iff_exists.mp (by simpa using h2)
        obtain ⟨hl, hk⟩ := hx xs e0
        walk_at "vw"
        refine if_d (fun h3 => ?_) (fun h3 => ?_)
        · rw [VL.cf_many h1' e0 h3] at k
          refine VL.s_raise2 (fun _ _ _ _ h => h) ?_
          walk_at "vw"
          exact k
        · have h3' : ¬ (xs.length : Int) > 63 := h3
          walk_at "vw"
          refine VL.s_for (VL.i_enumA rfl ?_)
          walk_at "vw"
          refine ⟨_, xs, rfl, e0, ?_⟩
          refine ⟨fun i ρ' O' => O' = O ∧ (∃ x y, ρ' = [some (.ref p), some (.int n), some t, x, y]) ∧ ∀ (j : Nat) (y : VL.D), j < i → xs[j]? = some y → VL.chkA (VL.asS O) n y = true, ⟨rfl, ⟨none, none, rfl⟩, fun j y hj => absurd hj (Nat.not_lt_zero j)⟩, ?_, ?_, ?_⟩
          · rintro i ρ' O' ⟨rfl, _⟩; exact e0
          · rintro i d ρ' O' hd ⟨rfl, ⟨x, y, rfl⟩, hb⟩
            obtain ⟨z, hz, rfl⟩ := VL.enumD_at hd
            have lz := hk z (List.mem_of_getElem? hz)
            walk_at "vw"
            refine ⟨_, _, rfl, lz.1, lz.2, ?_⟩
            walk_at "vw"
            refine if_b (fun h4 => ?_) (fun h4 => ?_)
            · have h4' : VL.isLot O' z n = false := by simpa using h4
              have h4' : VL.lotA (VL.asS O') z n = false := h4'
              rw [VL.cf_at h1' e0 h3' hz (VL.chk_lot h4') hb] at k
              walk_at "vw"
              refine VL.s_raise2 (fun _ _ _ _ h => h) ?_
              walk_at "vw"
              exact k
            · have h4' : VL.isLot O' z n = true := by simpa using h4
              have h4' : VL.lotA (VL.asS O') z n = true := h4'
              obtain ⟨ns, ez, hn⟩ := VL.lotA_seq h4'
              have hc := VL.chk_len ez h4'
              walk_at "vw"
              refine if_i (fun h5 => ?_) (fun h5 => ?_)
              · rw [decide_eq_true h5] at hc
                rw [VL.cf_at h1' e0 h3' hz hc hb] at k
                refine VL.s_raise2 (fun _ _ _ _ h => h) ?_
                walk_at "vw"
                exact k
              · rw [decide_eq_false h5] at hc
                walk_at "vw"
                refine ⟨rfl, ⟨_, _, rfl⟩, fun j y hj hy => ?_⟩
                by_cases hji : j = i
                · subst hji; rw [hz] at hy; cases hy; exact hc
                · exact hb j y (by omega) hy
          · rintro ρ' O' ⟨rfl, ⟨x, y, rfl⟩, hb⟩
            have hb' : ∀ (j : Nat) (y : VL.D), xs[j]? = some y → VL.chkA (VL.asS O') n y = true := fun j y h => hb j y (by rw [VL.enumD_len]; exact (List.getElem?_eq_some_iff.mp h).1) h
            rw [VL.cf_ok h1' e0 h3' hb'] at k
            refine VL.s_seq (VL.s_fld rfl ?_)
            walk_at "vw"
            refine ⟨p, _, [], rfl, hp, T.cls 50, T.noat 51, by decide, ?_⟩
            refine VL.s_fld rfl ?_
            walk_at "vw"
            refine VL.ln_map (VL.chkD (VL.asS O')) (VL.i_seq rfl ?_)
            walk_at "vw"
            have eA : VL.asS (VL.updO O' p (.ins (He.ga K "Code") (VL.putD "bits" (.int n) []))) = VL.asS O' := VL.asS_ins hp
            refine ⟨xs, by rw [eA]; exact e0, by omega, fun O2 x => VL.asS_ext x (by rw [eA]; exact e0), fun i d O2 hd ex => ?_, ?_⟩
            · have h6 : VL.chkA (VL.asS O') n d = true := hb' i d hd
              have h7 : VL.lotA (VL.asS O') d n = true := (Bool.and_eq_true_iff.mp h6).1
              obtain ⟨ns, ez, hn⟩ := VL.lotA_seq h7
              walk_at "vw"
              refine VL.k_sortedA rfl (VL.asS_ext ex (by rw [eA]; exact ez)) fun ms pm so => ?_
              walk_at "vw"
              refine ⟨?_, rfl⟩
              unfold VL.chkD
              rw [VL.intsA_of ez, VL.srt_uniq pm so]
            · walk_at "vw"
              refine ⟨p, _, _, rfl, VL.updO_same, T.cls 50, T.noat 52, by show 1 < 1000; decide, ?_⟩
              rw [VL.updO_updO]
              have ei : VL.itemsA (VL.asS O') t = xs := by unfold VL.itemsA; rw [e0]; rfl
              rw [ei] at k
              exact k
/-- a made code's length -/
def W_len (K : PySem.W.Frag) : VL.WL := fun ds O Q _ => ∃ n cs, ds = [VL.codeD (He.ga K "Code") n cs] ∧ Q (.int cs.length) O
theorem c_len (T : Txt K mg) : VL.Mth P w K mg base CX0 1 (He.ga K "Code") "__len__" ["self"] (VL.SpL K (W_len K)) := by
  obtain ⟨fd, F⟩ := T.c.def_ 28 (d := dd_Code___len__) rfl
  refine ⟨_, fd, VL.fnL' (CX := CX0) F sc_Code___len__ ?_ (fun cdv A outer s H E hr => ⟨_, PSs.nox (pss_one (ps_ret (pe_callB MB.k_len rfl (T.free 3) PySem.boot_len (pa_cons (pe_fld (pv 0) rfl) pa_nil)))), ?_⟩), T.meth 54, F.bindsN fun _ _ _ _ _ _ us hl => match us, hl with | [_], _ => rfl⟩

  · rintro ds O Q E ⟨n, cs, rfl, _⟩; rfl
  · rintro ds O Q E ⟨n, cs, rfl, k⟩
    walk_at "vw"
    refine ⟨_, _, _, rfl, T.cls 50, T.noat 52, rfl, ?_⟩
    walk_at "vw"
    rw [List.length_map]
    exact k
/-- a made code beside another, or beside a thing of another kind -/
def W_eq (K : PySem.W.Frag) : VL.WL := fun ds O Q _ => ∃ n cs y, ds = [VL.codeD (He.ga K "Code") n cs, y] ∧ ((∃ m es, y = VL.codeD (He.ga K "Code") m es ∧ Q (.bl (decide (n = m ∧ cs = es))) O) ∨ (VL.Kn O y ∧ Q (.bl false) O))
theorem c_eq (T : Txt K mg) : VL.Mth P w K mg base CX0 1 (He.ga K "Code") "__eq__" ["self", "other"] (VL.SpL K (W_eq K)) := by
  obtain ⟨fd, F⟩ := T.c.def_ 29 (d := dd_Code___eq__) rfl
  refine ⟨_, fd, VL.fnL' (CX := CX0) F sc_Code___eq__ ?_ (fun cdv A outer s H E hr => ⟨_, PSs.nox (pss_one (ps_ret (pe_and (pe_callB call_isi rfl (T.free 0) (by decide +kernel) (pa_cons (pv 1) (pa_cons (VL.pe_gref rfl (T.glo 21)) pa_nil))) (pe_and (pe_cmpR (VL.op_eqX hr.units) (pe_fld (pv 0) rfl) (pe_fld (pv 1) rfl) (nomark _)) (pe_one (pe_cmpR (VL.op_eqX hr.units) (pe_fld (pv 0) rfl) (pe_fld (pv 1) rfl) (nomark _))))))), ?_⟩), T.meth 55, F.bindsN fun _ _ _ _ _ _ us hl => match us, hl with | [_, _], _ => rfl⟩

  · rintro ds O Q E ⟨n, cs, y, rfl, _⟩; rfl
  · rintro ds O Q E ⟨n, cs, y, rfl, k⟩
    rcases k with ⟨m, es, rfl, k⟩ | ⟨⟨u, hu, h6⟩, k⟩
    · walk_at "vw"
      refine VL.k_isC1 rfl (is_Code T) (T.cls 50) ?_
      walk_at "vw"
      refine ⟨_, _, _, rfl, T.cls 50, T.noat 51, rfl, ?_⟩
      walk_at "vw"
      refine ⟨_, _, _, rfl, T.cls 50, T.noat 51, rfl, ?_⟩
      walk_at "vw"
      refine if_i (fun h1 => ?_) (fun h1 => ?_)
      · walk_at "vw"
        refine ⟨_, _, _, rfl, T.cls 50, T.noat 52, rfl, ?_⟩
        walk_at "vw"
        refine ⟨_, _, _, rfl, T.cls 50, T.noat 52, rfl, ?_⟩
        refine VL.o_eqD rfl (.tup (VL.pd_rowsT cs)) (.tup (VL.pd_rowsT es)) (VL.sh_rowsT cs) (VL.sh_rowsT es) ?_
        have e : PyData.eqv (.tuple (cs.map fun c => .tuple (VL.pInts c))) (.tuple (es.map fun c => .tuple (VL.pInts c))) = decide (n = m ∧ cs = es) := by
          show PyData.eqvAll _ _ = _
          rw [VL.eqv_rows]
          exact decide_eq_decide.mpr ⟨fun h => ⟨h1, h⟩, fun h => h.2⟩
        rw [e]; exact k
      · have e : decide (n = m ∧ cs = es) = false := decide_eq_false fun h => h1 h.1
        rw [e] at k; exact k
    · walk_at "vw"
      refine VL.k_isC0 rfl (is_Code T) hu h6 ?_
      walk_at "vw"
      exact k
end
end K80
namespace K80
open PySem PySem.Spec PyProof.Rows L2 MB
def W_lwhole : VL.WL := fun ds O Q _ => ∃ t, ds = [t] ∧ VL.Kn O t ∧ Q (.bl (VL.isInt t)) O
def wholesD (t : VL.D) (m : Int) : Bool := match t with
  | .tup xs => decide ((xs.length : Int) = m) && xs.all VL.isInt
  | _ => false
theorem wholes_ints (ns : List Int) : wholesD (.tup (ns.map VL.D.int)) ns.length = true := by
  show (decide (((ns.map VL.D.int).length : Int) = _) && _) = true
  rw [List.length_map, decide_eq_true rfl, List.all_map]
  exact List.all_eq_true.mpr fun _ _ => rfl
def W_wholes : VL.WL := fun ds O Q _ => ∃ t m, ds = [t, .int m] ∧ VL.Kn O t ∧ (∀ xs, t = .tup xs → xs.length ≤ 1000 ∧ ∀ x ∈ xs, VL.Kn O x) ∧ Q (.bl (wholesD t m)) O
def W_part : VL.WL := fun ds O Q _ => ∃ a b : Int, ds = [.int a, .int b] ∧ a.natAbs < 2 ^ 400 ∧ b.natAbs < 2 ^ 400 ∧ Q (.int (Nat.gcd a.natAbs b.natAbs : Nat)) O
/-- lowest terms, a bottom that is small and above 0 -/
def lowD (t b : Int) : VL.D := .tup [.int (t / (Nat.gcd t.natAbs b.natAbs : Nat)), .int (b / (Nat.gcd t.natAbs b.natAbs : Nat))]
def W_lratio : VL.WL := fun ds O Q _ => ∃ t b : Int, ds = [.int t, .int b] ∧ 0 < b ∧ b < 1073741824 ∧ t.natAbs < 2 ^ 400 ∧ Q (lowD t b) O
def W_llot : VL.WL := fun ds O Q _ => ∃ (p : Addr) (n m : Int), ds = [.ref p, .int n, .int m] ∧ O p = some .hand ∧ 0 ≤ n ∧ n ≤ 1000 ∧ (0 ≤ m ∧ m ≤ 1000) ∧ ∀ ms, VL.Lot n ms → (ms.length : Int) = (if n < m then n else m) → Q (.tup (ms.map VL.D.int)) O
section
variable {P : Program} {w : World} {K : PySem.W.Frag} {mg : Str → Option Value} {base : Heap}
theorem c_l_hand (T : Txt K mg) : Cal P w K mg base CX0 1 "_law_hand" ["_law_script"] [] (VL.SpL K W_hand) := by
  obtain ⟨fd, F⟩ := T.c.def_ 11 (d := dd_l_hand) rfl
  refine ⟨_, fd, [], VL.fnL' (CX := CX0) F sc_l_hand ?_ (fun cdv A outer s H E hr => ⟨_, PSs.nox (pss_cons (ps_set (i := 1) sc_l_hand.nd rfl (Or.inl rfl) pe_int)
 (pss_cons (ps_for PassesOwn.never rfl (pi_enum rfl (T.free 9) (pa_cons (pv 0) pa_nil)) (pg_tup rfl (pgs_cons (pg_name (i := 2) sc_l_hand.nd rfl (Or.inl rfl)) (pgs_cons (pg_name (i := 3) sc_l_hand.nd rfl (Or.inl rfl)) pgs_nil)))
  (pss_one (ps_set (i := 1) sc_l_hand.nd rfl (Or.inl rfl) (pe_op op_mod (pe_callTy MB.k_int1 rfl (T.free 1) (by decide +kernel) (pa_cons (pe_op op_add (pe_op op_add (pe_op op_mul (pv 1) pe_int) (pe_op op_mul (pe_callTy MB.k_int1 rfl (T.free 1) (by decide +kernel) (pa_cons (pv 3) pa_nil)) (pe_op op_add (pe_op op_mul pe_int (pv 2)) pe_int))) pe_int) pa_nil)) pe_int))))
 (pss_one (ps_ret (VL.pe_own (pe_lst (pa_cons (pe_lc (own := [("_law_cell", 3)]) (g := gName 3) (tt := tYes) rfl sc_l_hand.nd (pi_list (pv 0)) (blkOk_by (N := ["_law_script", "_law_state", "_law_place", "_law_cell"]) (sc := defScope s_l_hand) (by decide +kernel)) (fun _ _ _ _ _ => (pg_name (i := 3) sc_l_hand.nd rfl (Or.inl rfl))) (fun _ _ _ _ _ => pts_nil) (fun _ _ _ _ _ => (pe_callB MB.k_abs rfl (T.free 4) (by decide +kernel) (pa_cons (pe_callTy MB.k_int1 rfl (T.free 1) (by decide +kernel) (pa_cons (pv 3) pa_nil)) pa_nil)))) (pa_cons pe_int (pa_cons pe_int (pa_cons (pv 1) pa_nil)))))))))), ?_⟩), T.glo 33, F.kp, F.bindsN fun _ _ _ _ _ _ us hl => match us, hl with | [_], _ => rfl, .nil⟩

  · rintro ds O Q E ⟨ns, rfl, _⟩; rfl
  · rintro ds O Q E ⟨ns, rfl, hl, k⟩
    walk_at "vw"
    refine VL.s_for (VL.i_enumS rfl ?_)
    walk_at "vw"
    refine ⟨ns, rfl, ?_⟩
    refine ⟨fun i ρ' O' => O' = O ∧ (∃ st x y, ρ' = [some (.scr ns), some (.int st), x, y]), ⟨rfl, ⟨7, none, none, rfl⟩⟩, fun _ _ _ _ => trivial, ?_, ?_⟩
    · rintro i d ρ' O' hd ⟨rfl, ⟨st, x, y, rfl⟩⟩
      obtain ⟨z, hz, rfl⟩ := VL.enumD_at hd
      obtain ⟨c, hc, rfl⟩ := VL.map_int_at hz
      have hi : i < ns.length := (List.getElem?_eq_some_iff.mp hc).1
      walk_at "vw"
      exact ⟨rfl, _, _, _, rfl⟩
    · rintro ρ' O' ⟨rfl, ⟨st, x, y, rfl⟩⟩
      refine VL.s_newHand ?_
      walk_at "vw"
      refine VL.ln_map (fun d => .int (if VL.toI d < 0 then -VL.toI d else VL.toI d)) (VL.i_scr rfl ?_)
      walk_at "vw"
      refine ⟨ns, rfl, by rw [List.length_map]; omega, fun _ _ => trivial, fun j d O2 hd ex => ?_, ?_⟩
      · obtain ⟨b, hb1, rfl⟩ := VL.map_int_at hd
        walk_at "vw"
        exact ⟨rfl, rfl⟩
      · walk_at "vw"
        intro p hp
        refine ⟨p, ns.map (fun n => if n < 0 then -n else n), 0, 0, st, rfl, ?_, ⟨by decide, by decide, ?_, by rw [List.length_map]; exact hl⟩, ?_⟩
        · rw [VL.updO_same, List.map_map, List.map_map]; rfl
        · intro n hn
          obtain ⟨m, _, rfl⟩ := List.mem_map.mp hn
          show 0 ≤ (if m < 0 then -m else m)
          split <;> omega
        · rw [VL.updO_updO]; exact k p hp
theorem c_l_whole (T : Txt K mg) : Cal P w K mg base CX0 1 "_law_whole" ["_law_thing"] [] (VL.SpL K W_lwhole) := by
  obtain ⟨fd, F⟩ := T.c.def_ 13 (d := dd_l_whole) rfl
  refine ⟨_, fd, [], VL.fnL' (CX := CX0) F sc_l_whole ?_ (fun cdv A outer s H E hr => ⟨_, PSs.nox (pss_one (ps_ret (pe_and (pe_callB call_isi rfl (T.free 0) (by decide +kernel) (pa_cons (pv 0) (pa_cons (pe_ty "int" rfl (T.free 1) (by decide +kernel)) pa_nil))) (pe_one (pe_not (pe_callB call_isi rfl (T.free 0) (by decide +kernel) (pa_cons (pv 0) (pa_cons (pe_ty "bool" rfl (T.free 2) (by decide +kernel)) pa_nil)))))))), ?_⟩), T.glo 35, F.kp, F.bindsN fun _ _ _ _ _ _ us hl => match us, hl with | [_], _ => rfl, .nil⟩

  · rintro ds O Q E ⟨t, rfl, _⟩; rfl
  · rintro ds O Q E ⟨t, rfl, ⟨n, hn, h6⟩, k⟩
    have ki := VL.kit_six_int h6
    have kb := VL.kit_six_bool h6
    walk_at "vw"
    refine VL.k_isi rfl hn ki ?_
    walk_at "vw"
    by_cases hi2 : (n == "int" || n == "bool") = true
    · rw [hi2]
      walk_at "vw"
      refine VL.k_isi rfl hn kb ?_
      walk_at "vw"
      have e : VL.isInt t = !(n == "bool") := by
        rcases Bool.or_eq_true_iff.mp hi2 with h | h
        · cases eq_of_beq h; obtain ⟨i, rfl⟩ := VL.ty_int hn; rfl
        · cases eq_of_beq h
          cases t with
          | int i => simp [VL.tyD] at hn
          | _ => rfl
      rw [e] at k; exact k
    · rw [Bool.eq_false_iff.mpr hi2]
      walk_at "vw"
      have e : VL.isInt t = false := by
        cases t with
        | int i => cases hn; exact absurd rfl hi2
        | _ => rfl
      rw [e] at k; exact k
theorem c_l_wholes (T : Txt K mg) : Cal P w K mg base CX0 2 "_law_wholes" ["_law_thing", "_law_many"] [] (VL.SpL K W_wholes) := by
  have c_l_whole := @c_l_whole P w K mg base T
  obtain ⟨fd, F⟩ := T.c.def_ 14 (d := dd_l_wholes) rfl
  refine ⟨_, fd, [], VL.fnL' (CX := CX0) F sc_l_wholes ?_ (fun cdv A outer s H E hr => ⟨_, PSs.nox (pss_cons (ps_if (PW.pt (pw_or (pt_not (pt_val (pe_callB call_isi rfl (T.free 0) (by decide +kernel) (pa_cons (pv 0) (pa_cons (pe_ty "tuple" rfl (T.free 10) (by decide +kernel)) pa_nil))))) (pw_or1 (pt_cmpR (VL.op_neX hr.units) (pe_callB MB.k_len rfl (T.free 3) PySem.boot_len (pa_cons (pv 0) pa_nil)) (pv 1) (nomark _)))))
  (pss_one (ps_ret pe_bl))
  pss_nil)
 (pss_one (ps_ret (pe_callB (cr_all rfl) rfl (T.free 5) (by decide +kernel) (pa_cons (pe_lc (own := [("_law_part", 2)]) (g := gName 2) (tt := tYes) rfl sc_l_wholes.nd (VL.pi_seq (pv 0)) (blkOk_by (N := ["_law_thing", "_law_many", "_law_part"]) (sc := defScope s_l_wholes) (by decide +kernel)) (fun _ _ _ _ _ => (pg_name (i := 2) sc_l_wholes.nd rfl (Or.inl rfl))) (fun _ _ _ _ _ => pts_nil) (fun _ _ _ _ _ => (pe_cal c_l_whole (hr.mono (by decide)) pass0 (pa_cons (pv 2) pa_nil)))) pa_nil))))), ?_⟩), T.glo 36, F.kp, F.bindsN fun _ _ _ _ _ _ us hl => match us, hl with | [_, _], _ => rfl, .nil⟩

  · rintro ds O Q E ⟨t, m, rfl, _⟩; rfl
  · rintro ds O Q E ⟨t, m, rfl, ⟨n, hn, h6⟩, hx, k⟩
    have kt := VL.kit_six_tup h6
    walk_at "vw"
    refine VL.k_isi rfl hn kt ?_
    walk_at "vw"
    by_cases ht : (n == "tuple") = true
    · rw [ht]
      cases eq_of_beq ht
      obtain ⟨xs, rfl⟩ := VL.ty_tup hn
      obtain ⟨hl, hk⟩ := hx xs rfl
      walk_at "vw"
      refine if_ni (fun h2 => ?_) (fun h2 => ?_)
      · walk_at "vw"
        have e : wholesD (.tup xs) m = false := by
          show (decide ((xs.length : Int) = m) && _) = false
          rw [decide_eq_false h2]; rfl
        rw [e] at k; exact k
      · walk_at "vw"
        refine VL.ln_map (fun d => .bl (VL.isInt d)) (VL.i_seq rfl ?_)
        walk_at "vw"
        refine ⟨xs, rfl, by omega, fun _ _ => rfl, fun i d O2 hd ex => ?_, ?_⟩
        · walk_at "vw"
          exact ⟨_, rfl, (hk d (List.mem_of_getElem? hd)).ext ex, rfl, rfl⟩
        · walk_at "vw"
          have e : wholesD (.tup xs) m = xs.all VL.isInt := by
            show (decide ((xs.length : Int) = m) && _) = _
            rw [decide_eq_true h2]; rfl
          rw [e] at k; exact k
    · rw [Bool.eq_false_iff.mpr ht]
      walk_at "vw"
      have e : wholesD t m = false := by
        cases t with
        | tup xs => cases hn; exact absurd rfl ht
        | _ => rfl
      rw [e] at k; exact k
theorem c_l_lot (T : Txt K mg) : Cal P w K mg base CX0 3 "_law_lot" ["_law_hand_here", "_law_bits", "_law_size"] [] (VL.SpL K W_llot) := by
  have c_l_draw := @c_l_draw P w K mg base T
  obtain ⟨fd, F⟩ := T.c.def_ 15 (d := dd_l_lot) rfl
  refine ⟨_, fd, [], VL.fnL' (CX := CX0) F sc_l_lot ?_ (fun cdv A outer s H E hr => ⟨_, PSs.nox (pss_cons (ps_set (i := 3) sc_l_lot.nd rfl (Or.inl rfl) (VL.pe_own (pe_listRg rfl rfl (T.free 11) (prg_1 rfl (T.free 8) (pv 1)))))
 (pss_cons (ps_set (i := 4) sc_l_lot.nd rfl (Or.inl rfl) (VL.pe_own (pe_lst pa_nil)))
 (pss_cons (ps_for PassesOwn.never rfl (pi_range1 rfl (T.free 8) (pa_cons (pe_callB (VL.k_min2 rfl) rfl (T.free 14) (by decide +kernel) (pa_cons (pv 2) (pa_cons (pv 1) pa_nil))) pa_nil)) (pg_name (i := 5) sc_l_lot.nd rfl (Or.inl rfl))
  (pss_one (ps_expr (pe_bm PySem.F.plainAttrs_list PySem.F.slot_list_append PySem.F.type_list_append mt_append (pv 4) (pa_cons (pe_bm PySem.F.plainAttrs_list PySem.F.slot_list_pop PySem.F.type_list_pop mt_popAt (pv 3) (pa_cons (pe_cal c_l_draw (hr.mono (by decide)) pass0 (pa_cons (pv 0) (pa_cons (pe_callB MB.k_len rfl (T.free 3) PySem.boot_len (pa_cons (pv 3) pa_nil)) pa_nil))) pa_nil)) pa_nil)))))
 (pss_one (ps_ret (pe_callTy MB.k_tupOf rfl (T.free 10) (by decide +kernel) (pa_cons (pe_callB VL.cr_sortedA rfl (T.free 13) (by decide +kernel) (pa_cons (pv 4) pa_nil)) pa_nil))))))), ?_⟩), T.glo 37, F.kp, F.bindsN fun _ _ _ _ _ _ us hl => match us, hl with | [_, _, _], _ => rfl, .nil⟩

  · rintro ds O Q E ⟨p, n, m, rfl, _⟩; rfl
  · rintro ds O Q E ⟨p, n, m, rfl, hp, hn0, hn, hm, k⟩
    walk_at "vw"
    refine ⟨⟨hn0, by omega⟩, fun q hq => ?_⟩
    have npq := VL.ne_of hp hq
    rw [VL.rngD_ints]
    walk_at "vw"
    intro r hr1
    have nrq := VL.new_ne hr1
    have npr := VL.ne_of hp (VL.new_old hr1)
    walk_at "vw"
    refine VL.s_for ?_
    walk_at "vw"
    refine ⟨fun i ρ' O' => ∃ (pool out : List Int) (x : Option VL.D), O' = VL.updO (VL.updO O q (.lst (pool.map VL.D.int))) r (.lst (out.map VL.D.int)) ∧ ρ' = [some (.ref p), some (.int n), some (.int m), some (.ref q), some (.ref r), x] ∧ VL.Drawn n.toNat pool out i,
      ⟨_, [], none, rfl, rfl, VL.Drawn.start _⟩, fun _ _ _ _ => trivial, ?_, ?_⟩
    · rintro i d ρ' O' hd ⟨pool, out, x, rfl, rfl, hdr⟩
      obtain ⟨hi, rfl⟩ := VL.rngD_at hd
      have ht := hdr.total
      have hlo := hdr.len
      have hpool : 0 < (pool.length : Int) := by split at hi <;> omega
      walk_at "vw"
      refine ⟨p, _, rfl, ?_, ?_, ?_, fun j hj0 hj1 => ?_⟩
      · walk_at "ol"
      · rw [List.length_map]; omega
      · rw [List.length_map]; omega
      · rw [List.length_map] at hj1
        have hj2 : j.toNat < pool.length := by omega
        walk_at "vw"
        have e1 : seqIndex? j (pool.map VL.D.int).length = some j.toNat := VL.seqIx hj0 (by rw [List.length_map]; exact hj1)
        have e2 : (pool.map VL.D.int)[j.toNat]? = some (.int pool[j.toNat]) := by rw [List.getElem?_map, List.getElem?_eq_getElem hj2]; rfl
        refine VL.m_popAt (by walk_at "ol") ⟨by omega, by omega⟩ e1 e2 ?_
        walk_at "vw"
        refine VL.m_append (xs := out.map VL.D.int) (by walk_at "ol") (VL.lt_line (by rw [List.length_map]; omega)) ?_
        refine ⟨pool.eraseIdx j.toNat, out ++ [pool[j.toNat]], _, ?_, rfl, hdr.step (List.getElem?_eq_getElem hj2)⟩
        rw [VL.updO_comm nrq, VL.updO_updO, VL.updO_updO, List.map_append, VL.map_erase]
        rfl
    · rintro ρ' O' ⟨pool, out, x, rfl, rfl, hdr⟩
      rw [VL.rngD_len] at hdr
      refine VL.s_ret (VL.l_del q (VL.l_del r ?_))
      walk_at "vw"
      refine VL.k_sortedA (ns := out) rfl (VL.asS_own (by walk_at "ol")) fun ms pm so => ?_
      walk_at "vw"
      rw [VL.delO_updO (show VL.updO O q _ r = none by rw [VL.updO_ne nrq]; exact VL.new_old hr1), VL.delO_updO hq]
      refine k ms (by have := hdr.lot pm so; rwa [Int.toNat_of_nonneg hn0] at this) ?_
      rw [pm.length_eq, hdr.len]
      split <;> omega
end
end K80
namespace K80
open PySem PySem.Spec PyProof.Rows L2 MB
def W_lrow : VL.WL := fun ds O Q _ => ∃ (p : Addr) (n : Int), ds = [.ref p, .int n] ∧ O p = some .hand ∧ 0 ≤ n ∧ n ≤ 1000 ∧ ∀ rs : List (Int × Int), (rs.length : Int) = n → (∀ r ∈ rs, VL.isShare (VL.ratD r) = true) → Q (.lst (rs.map VL.ratD)) O
def W_made (K : PySem.W.Frag) : VL.WL := fun ds O Q _ => ∃ (n : Int) (cs : List (List Int)), ds = [.int n, .lst (cs.map fun c => .tup (c.map VL.D.int))] ∧ (1 ≤ n ∧ n ≤ 10) ∧ cs.length ≤ 63 ∧ (∀ c ∈ cs, VL.Lot n c ∧ c ≠ []) ∧ Q (VL.codeD (He.ga K "Code") n cs) O
section
variable {P : Program} {w : World} {K : PySem.W.Frag} {mg : Str → Option Value} {base : Heap}
theorem code_new {O : VL.Oh} {t : VL.D} {n : Int} {cs : List (List Int)} {Q : VL.D → VL.Oh → Prop} (h : VL.Rows O t cs) (hn : 1 ≤ n ∧ n ≤ 10) (hl : cs.length ≤ 63) (g : VL.Good n cs) (q : Q (VL.codeD (He.ga K "Code") n (cs.map VL.srt)) O) : VL.newW (W_Code K) (He.ga K "Code") [.int n, t] O Q fun _ => VL.noX := fun p hp => by
  have hx := h.ext (VL.ext_new (o := .ins (He.ga K "Code") []) hp)
  refine ⟨p, _, t, rfl, VL.updO_same, VL.kn_int, hx.look (by omega) (fun c hc => ?_), ?_⟩
  · obtain ⟨_, g2, g3⟩ := g c hc
    have := VL.nodup_len g2 g3 (by omega)
    omega
  · rw [hx.fault hn hl g, hx.chks]
    refine ⟨rfl, _, VL.updO_same, ?_⟩
    rw [VL.updO_updO, VL.delO_updO hp]
    exact q
theorem srt_lots {n : Int} {cs : List (List Int)} (h : ∀ c ∈ cs, VL.Lot n c ∧ c ≠ []) : cs.map VL.srt = cs := by
  induction cs with
  | nil => rfl
  | cons c cs ih =>
    rw [List.map_cons, ih fun d hd => h d (List.mem_cons_of_mem _ hd), VL.srt_sorted ((h c (List.mem_cons_self ..)).1.1.imp fun h => Int.le_of_lt h)]
theorem c_l_made (T : Txt K mg) : Cal P w K mg base CX0 5 "_law_made" ["_law_bits", "_law_checks"] [] (VL.SpL K (W_made K)) := by
  have c_Code := @c_Code P w K mg base T
  obtain ⟨fd, F⟩ := T.c.def_ 20 (d := dd_l_made) rfl
  refine ⟨_, fd, [], VL.fnL' (CX := CX0) F sc_l_made ?_ (fun cdv A outer s H E hr => ⟨_, PSs.nox (pss_one (ps_ret (VL.pe_mkr c_Code (hr.mono (by decide)) passL (pa_cons (pv 0) (pa_cons (pe_lc (own := [("_law_lot_here", 2)]) (g := gName 2) (tt := tYes) rfl sc_l_made.nd (VL.pi_seq (pv 1)) (blkOk_by (N := ["_law_bits", "_law_checks", "_law_lot_here"]) (sc := defScope s_l_made) (by decide +kernel)) (fun _ _ _ _ _ => (pg_name (i := 2) sc_l_made.nd rfl (Or.inl rfl))) (fun _ _ _ _ _ => pts_nil) (fun _ _ _ _ _ => (pe_callTy (show CallR _ (.type "list") (MB.rListOf K) from MB.k_listOf) rfl (T.free 11) (by decide +kernel) (pa_cons (pv 2) pa_nil)))) pa_nil))))), ?_⟩), T.glo 42, F.kp, F.bindsN fun _ _ _ _ _ _ us hl => match us, hl with | [_, _], _ => rfl, .nil⟩

  · rintro ds O Q E ⟨n, cs, rfl, _⟩; rfl
  · rintro ds O Q E ⟨n, cs, rfl, hn, hl, hc, k⟩
    walk_at "vw"
    refine VL.ln_map (fun d => .lst (VL.itemsA (VL.asS O) d)) (VL.i_seq rfl ?_)
    walk_at "vw"
    refine ⟨_, rfl, by rw [List.length_map]; omega, fun _ _ => rfl, fun j d O2 hd ex => ?_, ?_⟩
    · obtain ⟨c, _, rfl⟩ := VL.rows_at hd
      walk_at "vw"
      exact ⟨rfl, rfl⟩
    · walk_at "vw"
      have e : (cs.map fun c => VL.D.tup (c.map VL.D.int)).map (fun d => VL.D.lst (VL.itemsA (VL.asS O) d)) = cs.map fun c => VL.D.lst (c.map VL.D.int) := by rw [List.map_map]; rfl
      rw [e]
      exact code_new (VL.rows_lsts cs) hn hl (fun c h => ⟨(hc c h).2, (hc c h).1.nodup, (hc c h).1.2⟩) (by rw [srt_lots hc]; exact k)
end
end K80
namespace K80
open PySem PySem.Spec PyProof.Rows L2 MB
abbrev rowsT (cs : List (List Int)) : List VL.D := cs.map fun c => .tup (c.map VL.D.int)
def W_free : VL.WL := fun ds O Q _ => ∃ (p : Addr) (n m wd : Int), ds = [.ref p, .int n, .int m, .int wd] ∧ O p = some .hand ∧ (1 ≤ n ∧ n ≤ 10) ∧ (0 ≤ m ∧ m ≤ 63) ∧ (1 ≤ wd ∧ wd ≤ 10) ∧ ∀ cs : List (List Int), (cs.length : Int) = m → (∀ c ∈ cs, VL.Lot n c ∧ c ≠ []) → Q (.lst (rowsT cs)) O
section
variable {P : Program} {w : World} {K : PySem.W.Frag} {mg : Str → Option Value} {base : Heap}
theorem c_l_free_checks (T : Txt K mg) : Cal P w K mg base CX0 4 "_law_free_checks" ["_law_hand_here", "_law_bits", "_law_many", "_law_widest"] [] (VL.SpL K W_free) := by
  have c_l_draw := @c_l_draw P w K mg base T
  have c_l_lot := @c_l_lot P w K mg base T
  obtain ⟨fd, F⟩ := T.c.def_ 16 (d := dd_l_free_checks) rfl
  refine ⟨_, fd, [], VL.fnL' (CX := CX0) F sc_l_free_checks ?_ (fun cdv A outer s H E hr => ⟨_, PSs.nox (pss_cons (ps_set (i := 4) sc_l_free_checks.nd rfl (Or.inl rfl) (VL.pe_own (pe_lst pa_nil)))
 (pss_cons (ps_for PassesOwn.never rfl (pi_range1 rfl (T.free 8) (pa_cons (pv 2) pa_nil)) (pg_name (i := 5) sc_l_free_checks.nd rfl (Or.inl rfl))
  (pss_cons (ps_set (i := 6) sc_l_free_checks.nd rfl (Or.inl rfl) (pe_cal c_l_draw (hr.mono (by decide)) pass0 (pa_cons (pv 0) (pa_cons pe_int pa_nil))))
 (pss_cons (ps_set (i := 7) sc_l_free_checks.nd rfl (Or.inl rfl) (pe_op op_add pe_int (pe_cal c_l_draw (hr.mono (by decide)) pass0 (pa_cons (pv 0) (pa_cons (pe_callB (VL.k_max2 rfl) rfl (T.free 15) (by decide +kernel) (pa_cons pe_int (pa_cons (pe_op op_sub (pe_callB (VL.k_min2 rfl) rfl (T.free 14) (by decide +kernel) (pa_cons (pv 3) (pa_cons (pv 1) pa_nil))) pe_int) pa_nil))) pa_nil)))))
 (pss_cons (ps_if (pt_cmpR (VL.op_eqX hr.units) (pv 6) pe_int (nomark _))
  (pss_one (ps_set (i := 7) sc_l_free_checks.nd rfl (Or.inl rfl) pe_int))
  pss_nil)
 (pss_one (ps_if (PW.pt (pw_and (pt_cmpR (VL.op_eqX hr.units) (pv 6) pe_int (nomark _)) (pw_and1 (pt_cmpR op_gt (pe_callB MB.k_len rfl (T.free 3) PySem.boot_len (pa_cons (pv 4) pa_nil)) pe_int (nomark _)))))
  (pss_one (ps_expr (pe_bm PySem.F.plainAttrs_list PySem.F.slot_list_append PySem.F.type_list_append mt_append (pv 4) (pa_cons (pe_ix ix_seq (pv 4) (pe_cal c_l_draw (hr.mono (by decide)) pass0 (pa_cons (pv 0) (pa_cons (pe_callB MB.k_len rfl (T.free 3) PySem.boot_len (pa_cons (pv 4) pa_nil)) pa_nil))) (fun _ _ => rfl)) pa_nil))))
  (pss_one (ps_expr (pe_bm PySem.F.plainAttrs_list PySem.F.slot_list_append PySem.F.type_list_append mt_append (pv 4) (pa_cons (pe_cal c_l_lot (hr.mono (by decide)) pass0 (pa_cons (pv 0) (pa_cons (pv 1) (pa_cons (pe_callB (VL.k_min2 rfl) rfl (T.free 14) (by decide +kernel) (pa_cons (pv 7) (pa_cons (pv 1) pa_nil))) pa_nil)))) pa_nil))))))))))
 (pss_one (ps_ret (pv 4))))), ?_⟩), T.glo 38, F.kp, F.bindsN fun _ _ _ _ _ _ us hl => match us, hl with | [_, _, _, _], _ => rfl, .nil⟩

  · rintro ds O Q E ⟨p, n, m, wd, rfl, _⟩; rfl
  · rintro ds O Q E ⟨p, n, m, wd, rfl, hp, hn, hm, hwd, k⟩
    walk_at "vw"
    intro r hr1
    have npr := VL.ne_of hp hr1
    walk_at "vw"
    refine VL.s_for (VL.i_rng1 ?_)
    walk_at "vw"
    refine ⟨fun i ρ' O2 => ∃ (cs : List (List Int)) (x y z : Option VL.D), O2 = VL.updO O r (.lst (rowsT cs)) ∧ cs.length = i ∧ (∀ c ∈ cs, VL.Lot n c ∧ c ≠ []) ∧ ρ' = [some (.ref p), some (.int n), some (.int m), some (.int wd), some (.ref r), x, y, z],
      ⟨[], none, none, none, rfl, rfl, (fun c h => by cases h), rfl⟩, fun _ _ _ _ => trivial, ?_, ?_⟩
    · rintro i d ρ' O2 hd ⟨cs, x, y, z, rfl, hcl, hcs, rfl⟩
      obtain ⟨hi, rfl⟩ := VL.rngD_at hd
      walk_at "vw"
      refine ⟨p, 12, rfl, by walk_at "ol", by decide, by decide, fun pick hk0 hk1 => ?_⟩
      walk_at "vw"
      refine ⟨p, _, rfl, by walk_at "ol", by split <;> split <;> omega, by split <;> split <;> omega, fun s hs0 hs1 => ?_⟩
      have hs2 : s ≤ 10 := by split at hs1 <;> split at hs1 <;> omega
      refine VL.o_I0 rfl ?_
      refine VL.h_name ?_
      refine VL.s_cut (fun ρ' O2 => O2 = VL.updO O r (.lst (rowsT cs)) ∧ ∃ (s : Int), 1 ≤ s ∧ s ≤ 12 ∧ ρ' = [some (.ref p), some (.int n), some (.int m), some (.int wd), some (.ref r), some (.int (0 + (i : Int))), some (.int pick), some (.int s)]) ?_ ?_
      · walk_at "vw"
        refine if_i (fun _ => ?_) (fun _ => ?_)
        · walk_at "vw"
          exact ⟨rfl, 1, by omega, by omega, rfl⟩
        · walk_at "vw"
          exact ⟨rfl, 2 + s, by omega, by omega, rfl⟩
      · rintro ρ' O2 ⟨rfl, s, hs0, hs1, rfl⟩
        walk_at "vw"
        refine if_i (fun _ => ?_) (fun _ => ?_)
        · walk_at "vw"
          refine if_d (fun hpos => ?_) (fun _ => ?_)
          · walk_at "vw"
            refine ⟨p, _, rfl, by walk_at "ol", hpos, by rw [List.length_map]; omega, fun b hb0 hb1 => ?_⟩
            rw [List.length_map] at hb1
            have hb2 : b.toNat < cs.length := by omega
            have hat0 : atI (rowsT cs) ((b.toNat : Nat) : Int) = some (.tup (cs[b.toNat].map VL.D.int)) := atI_nat (by rw [List.getElem?_map, List.getElem?_eq_getElem hb2]; rfl)
            have hat : atI (rowsT cs) b = some (.tup (cs[b.toNat].map VL.D.int)) := (congrArg (atI (rowsT cs)) (show b = ((b.toNat : Nat) : Int) by omega)).trans hat0
            refine VL.o_ixQ rfl (VL.asS_own VL.updO_same) hat ?_
            walk_at "vw"
            refine VL.m_append VL.updO_same (VL.lt_line (by rw [List.length_map]; omega)) ?_
            rw [VL.updO_updO]
            refine ⟨cs ++ [cs[b.toNat]], _, _, _, by rw [rowsT, rowsT, List.map_append]; rfl, by rw [List.length_append, hcl]; rfl, fun c hc => ?_, rfl⟩
            rcases List.mem_append.mp hc with h | h
            · exact hcs c h
            · rw [List.mem_singleton] at h; subst h
              exact hcs _ (List.getElem_mem hb2)
          · walk_at "vw"
            refine ⟨p, n, _, rfl, by walk_at "ol", by omega, by omega, ⟨by split <;> omega, by split <;> omega⟩, fun ms hms hml => ?_⟩
            walk_at "vw"
            refine VL.m_append VL.updO_same (VL.lt_line (by rw [List.length_map]; omega)) ?_
            rw [VL.updO_updO]
            refine ⟨cs ++ [ms], _, _, _, by rw [rowsT, rowsT, List.map_append]; rfl, by rw [List.length_append, hcl]; rfl, fun c hc => ?_, rfl⟩
            rcases List.mem_append.mp hc with h | h
            · exact hcs c h
            · rw [List.mem_singleton] at h; subst h
              refine ⟨hms, fun z => ?_⟩
              subst z
              simp at hml
              split at hml <;> (try split at hml) <;> omega
        · walk_at "vw"
          refine ⟨p, n, _, rfl, by walk_at "ol", by omega, by omega, ⟨by split <;> omega, by split <;> omega⟩, fun ms hms hml => ?_⟩
          walk_at "vw"
          refine VL.m_append VL.updO_same (VL.lt_line (by rw [List.length_map]; omega)) ?_
          rw [VL.updO_updO]
          refine ⟨cs ++ [ms], _, _, _, by rw [rowsT, rowsT, List.map_append]; rfl, by rw [List.length_append, hcl]; rfl, fun c hc => ?_, rfl⟩
          rcases List.mem_append.mp hc with h | h
          · exact hcs c h
          · rw [List.mem_singleton] at h; subst h
            refine ⟨hms, fun z => ?_⟩
            subst z
            simp at hml
            split at hml <;> (try split at hml) <;> omega
    · rintro ρ' O2 ⟨cs, x, y, z, rfl, hcl, hcs, rfl⟩
      rw [VL.rngD_len] at hcl
      refine VL.s_freeze (i := 4) (p := r) rfl VL.updO_same ?_
      rw [VL.delO_updO hr1]
      walk_at "vw"
      exact k cs (by omega) hcs
end
end K80
namespace K80
open PySem PySem.Spec PyProof.Rows L2 MB
def W_tie : VL.WL := fun ds O Q _ => ∃ (p : Addr) (n m : Int), ds = [.ref p, .int n, .int m] ∧ O p = some .hand ∧ (1 ≤ n ∧ n ≤ 10) ∧ (2 ≤ m ∧ m ≤ 10) ∧ ∀ cs : List (List Int), (cs.length : Int) ≤ m → (∀ c ∈ cs, VL.Lot n c ∧ c ≠ []) → Q (.lst (rowsT cs)) O
def prD (q : Int × Int) : VL.D := .tup [.int q.1, .int q.2]
def inE (es : List (Int × Int)) (m : Int) (b : Int) : Bool := match es[b.toNat]? with
  | some q => decide (m ∈ [q.1, q.2])
  | none => false
theorem inE_lot (es : List (Int × Int)) (m : Int) (n : Nat) : ∃ c : List Int, ((VL.rngD 0 n).filter fun d => inE es m (VL.toI d)).map id = c.map VL.D.int ∧ VL.Lot n c := by
  refine ⟨((List.range n).map fun (k : Nat) => (k : Int)).filter (inE es m), ?_, ?_, ?_⟩
  · rw [List.map_id, VL.rngD_ints, List.filter_map]
    rfl
  · refine List.Pairwise.filter _ (List.pairwise_map.mpr ?_)
    exact List.pairwise_lt_range.imp fun h => by omega
  · intro b hb
    obtain ⟨k, hk, rfl⟩ := List.mem_map.mp (List.mem_filter.mp hb).1
    have := List.mem_range.mp hk
    omega
def neD : VL.D → Bool
  | .tup xs => !xs.isEmpty
  | _ => false
theorem ne_filter (cs : List (List Int)) : ((rowsT cs).filter neD).map id = rowsT (cs.filter fun c => !c.isEmpty) := by
  rw [List.map_id, rowsT, rowsT, List.filter_map]
  congr 1
  refine List.filter_congr fun c _ => ?_
  show (!(c.map VL.D.int).isEmpty) = _
  cases c <;> rfl
section
variable {P : Program} {w : World} {K : PySem.W.Frag} {mg : Str → Option Value} {base : Heap}
theorem c_l_tie_checks (T : Txt K mg) : Cal P w K mg base CX0 3 "_law_tie_checks" ["_law_hand_here", "_law_bits", "_law_posts"] [] (VL.SpL K W_tie) := by
  have c_l_draw := @c_l_draw P w K mg base T
  obtain ⟨fd, F⟩ := T.c.def_ 17 (d := dd_l_tie_checks) rfl
  refine ⟨_, fd, [], VL.fnL' (CX := CX0) F sc_l_tie_checks ?_ (fun cdv A outer s H E hr => ⟨_, PSs.nox (pss_cons (ps_set (i := 3) sc_l_tie_checks.nd rfl (Or.inr rfl) (VL.pe_own (pe_lst pa_nil)))
 (pss_cons (ps_for PassesOwn.never rfl (pi_range1 rfl (T.free 8) (pa_cons (pv 1) pa_nil)) (pg_name (i := 4) sc_l_tie_checks.nd rfl (Or.inl rfl))
  (pss_cons (ps_set (i := 5) sc_l_tie_checks.nd rfl (Or.inl rfl) (pe_cal c_l_draw (hr.mono (by decide)) pass0 (pa_cons (pv 0) (pa_cons (pv 2) pa_nil))))
 (pss_cons (ps_set (i := 6) sc_l_tie_checks.nd rfl (Or.inl rfl) (pe_op op_mod (pe_callTy MB.k_int1 rfl (T.free 1) (by decide +kernel) (pa_cons (pe_op op_add (pe_op op_add (pv 5) pe_int) (pe_cal c_l_draw (hr.mono (by decide)) pass0 (pa_cons (pv 0) (pa_cons (pe_op op_sub (pv 2) pe_int) pa_nil)))) pa_nil)) (pv 2)))
 (pss_one (ps_expr (pe_bm PySem.F.plainAttrs_list PySem.F.slot_list_append PySem.F.type_list_append mt_append (pv 3) (pa_cons (pe_tup (pa_cons (pv 5) (pa_cons (pv 6) pa_nil))) pa_nil)))))))
 (pss_cons (ps_setLc (i := 7) (own := [("_law_post", 8)]) (g := gName 8) (tt := tYes) rfl sc_l_tie_checks.nd rfl rfl (sw_true rfl rfl rfl (by decide +kernel)) (pi_range1 rfl (T.free 8) (pa_cons (pv 2) pa_nil)) (blkOk_by (N := ["_law_hand_here", "_law_bits", "_law_posts", "_law_ends", "_law_bit", "_law_low", "_law_high", "_law_rows", "_law_post", "_law_row"]) (sc := defScope s_l_tie_checks) (by decide +kernel)) (fun _ _ _ _ _ => (pg_name (i := 8) sc_l_tie_checks.nd rfl (Or.inr rfl))) (fun _ _ _ _ _ => pts_nil) (fun _ _ _ _ _ => (pe_callTy (show CallR _ (.type "tuple") (MB.rTupOf K) from MB.k_tupOf) rfl (T.free 10) (by decide +kernel) (pa_cons (pe_lc (own := [("_law_bit", 4)]) (g := gName 4) rfl sc_l_tie_checks.nd (pi_range1 rfl (T.free 8) (pa_cons (pv 1) pa_nil)) (by dsimp only [Cx.blk, compEnvC]; rw [VL.relabel_rl]; exact (show BlkOk ["_law_hand_here", "_law_bits", "_law_posts", "_law_ends", "_law_bit", "_law_low", "_law_high", "_law_rows", "_law_post", "_law_row"] (VL.rl _ (defScope s_l_tie_checks)) _ _ from blkOk_by (by decide +kernel))) (fun _ _ _ _ _ => (pg_name (i := 4) sc_l_tie_checks.nd rfl (Or.inl rfl))) (fun _ _ _ _ _ => pts_one (pt_cmpR (show OpR _ (compareOp .In) (rIn K false) from op_in_seq) (pv 8) (pe_ix (show IxR _ (rIx K) from ix_seq) (pv 3) (pv 4) (fun _ _ => rfl)) rfl)) (fun _ _ _ _ _ => (pv 4))) pa_nil))))
 (pss_one (ps_ret (pe_lc (own := [("_law_row", 9)]) (g := gName 9) rfl sc_l_tie_checks.nd (VL.pi_seq (pv 7)) (blkOk_by (N := ["_law_hand_here", "_law_bits", "_law_posts", "_law_ends", "_law_bit", "_law_low", "_law_high", "_law_rows", "_law_post", "_law_row"]) (sc := defScope s_l_tie_checks) (by decide +kernel)) (fun _ _ _ _ _ => (pg_name (i := 9) sc_l_tie_checks.nd rfl (Or.inl rfl))) (fun _ _ _ _ _ => pts_one (pt_cmpR op_gt (pe_callB (show CallR _ (.builtin "len") (MB.rLenQ K) from MB.k_len) rfl (T.free 3) PySem.boot_len (pa_cons (pv 9) pa_nil)) pe_int (nomark _))) (fun _ _ _ _ _ => (pv 9)))))))), ?_⟩), T.glo 39, F.kp, F.bindsN fun _ _ _ _ _ _ us hl => match us, hl with | [_, _, _], _ => rfl, .nil⟩

  · rintro ds O Q E ⟨p, n, m, rfl, _⟩; rfl
  · rintro ds O Q E ⟨p, n, m, rfl, hp, hn, hm, k⟩
    walk_at "vw"
    intro r hr
    have npr := VL.ne_of hp hr
    walk_at "vw"
    refine VL.s_for (VL.i_rng1 ?_)
    walk_at "vw"
    refine ⟨fun i ρ' O2 => ∃ (es : List (Int × Int)) (x y z : Option VL.D), O2 = VL.updO O r (.lst (es.map prD)) ∧ es.length = i ∧ ρ' = [some (.ref p), some (.int n), some (.int m), some (.ref r), x, y, z, none, none, none],
      ⟨[], none, none, none, rfl, rfl, rfl⟩, fun _ _ _ _ => trivial, ?_, ?_⟩
    · rintro i d ρ' O2 hd ⟨es, x, y, z, rfl, hel, rfl⟩
      obtain ⟨hi, rfl⟩ := VL.rngD_at hd
      walk_at "vw"
      refine ⟨p, m, rfl, by walk_at "ol", by omega, by omega, fun lo hl0 hl1 => ?_⟩
      walk_at "vw"
      refine ⟨p, _, rfl, by walk_at "ol", by omega, by omega, fun hg hg0 hg1 => ?_⟩
      walk_at "vw"
      refine VL.m_append VL.updO_same (VL.lt_line (by rw [List.length_map]; omega)) ?_
      rw [VL.updO_updO]
      exact ⟨es ++ [(lo, (lo + 1 + hg) % m)], _, _, _, by rw [List.map_append]; rfl, by rw [List.length_append, hel]; rfl, rfl⟩
    · rintro ρ' O2 ⟨es, x, y, z, rfl, hel, rfl⟩
      rw [VL.rngD_len] at hel
      have hO : VL.updO O r (.lst (es.map prD)) r = some (.lst (es.map prD)) := VL.updO_same
      walk_at "vw"
      refine VL.ln_rel (fun _ _ y => ∃ c : List Int, VL.Lot n c ∧ y = .tup (c.map VL.D.int)) (VL.i_rng1 ?_)
      walk_at "vw"
      refine ⟨by rw [VL.rngD_len]; omega, fun _ _ => trivial, fun j d O3 hd ex => ?_, fun ys hl hy => ?_⟩
      · obtain ⟨hj, rfl⟩ := VL.rngD_at hd
        have hO3 := ex r _ hO
        walk_at "vw"
        refine VL.ln_lcP (fun d => inE es (0 + (j : Int)) (VL.toI d)) id (VL.i_rng1 ?_)
        walk_at "vw"
        refine ⟨by rw [VL.rngD_len]; exact VL.le_line (by omega), fun _ _ _ => trivial, fun i2 d L acc hd2 hL => ?_, ?_⟩
        · obtain ⟨hi2, rfl⟩ := VL.rngD_at hd2
          have hi3 : i2 < es.length := by omega
          have hO4 := VL.ext_new (o := VL.OD.lst acc) hL r _ hO3
          have hat : atI (es.map prD) (0 + (i2 : Int)) = some (prD es[i2]) := by
            rw [Int.zero_add]; exact atI_nat (by rw [List.getElem?_map, List.getElem?_eq_getElem hi3]; rfl)
          walk_at "vw"
          refine VL.o_ixQ rfl (VL.asS_own hO4) hat ?_
          refine VL.o_inI (ns := [es[i2].1, es[i2].2]) rfl rfl ?_
          walk_at "vw"
          refine ⟨⟨?_, rfl⟩, fun _ => ?_⟩
          · unfold inE
            show _ = match es[(0 + (i2 : Int)).toNat]? with | some q => decide ((0 + (j : Int)) ∈ [q.1, q.2]) | none => false
            rw [show (0 + (i2 : Int)).toNat = i2 by omega, List.getElem?_eq_getElem hi3]
          · walk_at "vw"
            exact ⟨rfl, rfl⟩
        · obtain ⟨c, hc, hL⟩ := inE_lot es (0 + (j : Int)) n.toNat
          rw [hc]
          walk_at "vw"
          rw [Int.toNat_of_nonneg (by omega)] at hL
          exact ⟨⟨c, hL, rfl⟩, rfl⟩
      · obtain ⟨cs, rfl, hcs⟩ := VL.rel_list (P := fun c => VL.Lot n c) (f := fun c : List Int => VL.D.tup (c.map VL.D.int)) (VL.rel_mem hl hy fun _ _ _ _ h => h)
        rw [List.length_map, VL.rngD_len] at hl
        refine VL.h_name ?_
        refine VL.s_ret (VL.l_del r ?_)
        walk_at "vw"
        refine VL.ln_lcP neD id (VL.i_seq rfl ?_)
        walk_at "vw"
        refine ⟨_, rfl, by rw [List.length_map]; exact VL.le_line (by omega), fun _ _ _ => rfl, fun j d L acc hd hL => ?_, ?_⟩
        · obtain ⟨c, hc, rfl⟩ := VL.rows_at hd
          walk_at "vw"
          refine ⟨⟨?_, rfl⟩, fun _ => ?_⟩
          · show decide (0 < (((c.map VL.D.int).length : Nat) : Int)) = !(c.map VL.D.int).isEmpty
            cases c with
            | nil => rfl
            | cons a c => exact decide_eq_true (by rw [List.length_map, List.length_cons]; omega)
          · walk_at "vw"
            exact ⟨rfl, rfl⟩
        · have e : ((cs.map fun c : List Int => VL.D.tup (c.map VL.D.int)).filter neD).map id = rowsT (cs.filter fun c => !c.isEmpty) := ne_filter cs
          rw [e, VL.delO_updO hr]
          have := List.length_filter_le (fun c : List Int => !c.isEmpty) cs
          refine k _ (by omega) fun c hc => ?_
          obtain ⟨h1, h2⟩ := List.mem_filter.mp hc
          exact ⟨hcs c h1, fun z => by subst z; cases h2⟩
def W_ringless : VL.WL := fun ds O Q _ => ∃ (p : Addr) (n m : Int), ds = [.ref p, .int n, .int m] ∧ O p = some .hand ∧ (1 ≤ n ∧ n ≤ 10) ∧ (2 ≤ m ∧ m ≤ 10) ∧ ∀ cs : List (List Int), (cs.length : Int) ≤ n → (∀ c ∈ cs, VL.Lot n c ∧ c ≠ []) → Q (.lst (rowsT cs)) O
def rgI (a b : Nat) : List Int := (List.range' a b).map fun (k : Nat) => (k : Int)
theorem rng_ints (a : Int) (n : Nat) (h : 0 ≤ a) : VL.rngD a n = (rgI a.toNat n).map VL.D.int := by
  unfold VL.rngD rgI
  rw [List.map_map, List.range'_eq_map_range, List.map_map]
  refine List.map_congr_left fun k _ => ?_
  show VL.D.int (a + k) = .int (((a.toNat + k : Nat)) : Int)
  congr 1
  omega
end
end K80
namespace K80
open PySem PySem.Spec PyProof.Rows L2 MB
abbrev upD (t : Nat) : List VL.D := (rgI 0 t).map VL.D.int
theorem rgI_len (a b : Nat) : (rgI a b).length = b := by unfold rgI; rw [List.length_map, List.length_range']
theorem rgI_app (t s : Nat) : rgI 0 t ++ rgI t s = rgI 0 (t + s) := by
  unfold rgI
  rw [← List.map_append]
  congr 1
  have := List.range'_append (s := 0) (m := t) (n := s) (step := 1)
  simpa using this
theorem rgI_at {t j : Nat} (h : j < t) : (rgI 0 t)[j]? = some (j : Int) := by
  unfold rgI
  rw [List.getElem?_map, List.getElem?_range' h]
  simp
theorem rgI_mem {t s : Nat} {x : Int} : x ∈ rgI t s ↔ (t : Int) ≤ x ∧ x < (t : Int) + s := by
  unfold rgI
  rw [List.mem_map]
  constructor
  · rintro ⟨k, hk, rfl⟩
    have := List.mem_range'_1.mp hk
    omega
  · rintro ⟨h1, h2⟩
    exact ⟨x.toNat, List.mem_range'_1.mpr (by omega), by omega⟩
theorem rgI_nodup (t s : Nat) : (rgI t s).Nodup := by
  unfold rgI
  exact (List.pairwise_map.mpr ((List.nodup_range' (step := 1)).imp fun h => by omega))
theorem lot_fresh {n : Int} {t s : Nat} {o : Int} {ms : List Int} (ho0 : 0 ≤ o) (ho : o < t) (hn : (t : Int) + s ≤ n) (pm : ms.Perm (o :: rgI t s)) (so : ms.Pairwise (· ≤ ·)) : VL.Lot n ms ∧ ms ≠ [] := by
  have nd : (o :: rgI t s).Nodup := List.nodup_cons.mpr ⟨fun h => by have := rgI_mem.mp h; omega, rgI_nodup t s⟩
  refine ⟨⟨VL.lt_of_le_nodup so (pm.nodup_iff.mpr nd), fun b hb => ?_⟩, fun z => ?_⟩
  · rcases List.mem_cons.mp (pm.mem_iff.mp hb) with h | h
    · omega
    · have := rgI_mem.mp h; omega
  · have := pm.length_eq
    rw [z] at this
    simp at this
section
variable {P : Program} {w : World} {K : PySem.W.Frag} {mg : Str → Option Value} {base : Heap}
theorem c_l_ringless_checks (T : Txt K mg) : Cal P w K mg base CX0 3 "_law_ringless_checks" ["_law_hand_here", "_law_bits", "_law_widest"] [] (VL.SpL K W_ringless) := by
  have c_l_draw := @c_l_draw P w K mg base T
  obtain ⟨fd, F⟩ := T.c.def_ 18 (d := dd_l_ringless_checks) rfl
  refine ⟨_, fd, [], VL.fnL' (CX := CX0) F sc_l_ringless_checks ?_ (fun cdv A outer s H E hr => ⟨_, PSs.nox (pss_cons (ps_set (i := 3) sc_l_ringless_checks.nd rfl (Or.inl rfl) (VL.pe_own (pe_lst pa_nil)))
 (pss_cons (ps_set (i := 4) sc_l_ringless_checks.nd rfl (Or.inl rfl) (pe_lst (pa_cons pe_int pa_nil)))
 (pss_cons (ps_for PassesOwn.never rfl (pi_range1 rfl (T.free 8) (pa_cons (pv 1) pa_nil)) (pg_name (i := 5) sc_l_ringless_checks.nd rfl (Or.inl rfl))
  (pss_cons (ps_if (pt_cmpR (VL.op_eqX hr.units) (pe_callB MB.k_len rfl (T.free 3) PySem.boot_len (pa_cons (pv 4) pa_nil)) (pv 1) (nomark _))
  (pss_one ps_break)
  pss_nil)
 (pss_cons (ps_set (i := 6) sc_l_ringless_checks.nd rfl (Or.inl rfl) (pe_ix ix_seq (pv 4) (pe_cal c_l_draw (hr.mono (by decide)) pass0 (pa_cons (pv 0) (pa_cons (pe_callB MB.k_len rfl (T.free 3) PySem.boot_len (pa_cons (pv 4) pa_nil)) pa_nil))) (fun _ _ => rfl)))
 (pss_cons (ps_set (i := 7) sc_l_ringless_checks.nd rfl (Or.inl rfl) (pe_op op_add pe_int (pe_cal c_l_draw (hr.mono (by decide)) pass0 (pa_cons (pv 0) (pa_cons (pe_callB (VL.k_min2 rfl) rfl (T.free 14) (by decide +kernel) (pa_cons (pe_op op_sub (pv 2) pe_int) (pa_cons (pe_op op_sub (pv 1) (pe_callB MB.k_len rfl (T.free 3) PySem.boot_len (pa_cons (pv 4) pa_nil))) pa_nil))) pa_nil)))))
 (pss_cons (ps_set (i := 8) sc_l_ringless_checks.nd rfl (Or.inl rfl) (pe_listRg rfl rfl (T.free 11) (prg_2 rfl (T.free 8) (pe_callB MB.k_len rfl (T.free 3) PySem.boot_len (pa_cons (pv 4) pa_nil)) (pe_op op_add (pe_callB MB.k_len rfl (T.free 3) PySem.boot_len (pa_cons (pv 4) pa_nil)) (pv 7)))))
 (pss_cons (ps_set (i := 4) sc_l_ringless_checks.nd rfl (Or.inl rfl) (pe_op op_cat (pv 4) (pv 8)))
 (pss_one (ps_if (pt_cmpR op_gt (pe_cal c_l_draw (hr.mono (by decide)) pass0 (pa_cons (pv 0) (pa_cons pe_int pa_nil))) pe_int (nomark _))
  (pss_one (ps_expr (pe_bm PySem.F.plainAttrs_list PySem.F.slot_list_append PySem.F.type_list_append mt_append (pv 3) (pa_cons (pe_callTy MB.k_tupOf rfl (T.free 10) (by decide +kernel) (pa_cons (pe_callB VL.cr_sortedA rfl (T.free 13) (by decide +kernel) (pa_cons (pe_op op_cat (pe_lst (pa_cons (pv 6) pa_nil)) (pv 8)) pa_nil)) pa_nil)) pa_nil))))
  pss_nil))))))))
 (pss_one (ps_ret (pv 3)))))), ?_⟩), T.glo 40, F.kp, F.bindsN fun _ _ _ _ _ _ us hl => match us, hl with | [_, _, _], _ => rfl, .nil⟩

  · rintro ds O Q E ⟨p, n, m, rfl, _⟩; rfl
  · rintro ds O Q E ⟨p, n, m, rfl, hp, hn, hm, k⟩
    walk_at "vw"
    intro r hr
    have npr := VL.ne_of hp hr
    walk_at "vw"
    refine VL.s_post (fun ρ' O2 => ∃ (cs : List (List Int)) (t : Nat) (x y z v : Option VL.D), O2 = VL.updO O r (.lst (rowsT cs)) ∧ (cs.length : Int) ≤ n ∧ (∀ c ∈ cs, VL.Lot n c ∧ c ≠ []) ∧ ρ' = [some (.ref p), some (.int n), some (.int m), some (.ref r), some (.lst (upD t)), x, y, z, v]) ?_ ?_
    · refine VL.s_for (VL.i_rng1 ?_)
      walk_at "vw"
      refine ⟨fun i ρ' O2 => ∃ (cs : List (List Int)) (t : Nat) (x y z v : Option VL.D), O2 = VL.updO O r (.lst (rowsT cs)) ∧ cs.length ≤ i ∧ (1 ≤ t ∧ (t : Int) ≤ n) ∧ (∀ c ∈ cs, VL.Lot n c ∧ c ≠ []) ∧ ρ' = [some (.ref p), some (.int n), some (.int m), some (.ref r), some (.lst (upD t)), x, y, z, v],
        ⟨[], 1, none, none, none, none, rfl, Nat.le_refl _, ⟨by omega, by omega⟩, (fun c h => by cases h), rfl⟩, fun _ _ _ _ => trivial, ?_, ?_⟩
      · rintro i d ρ' O2 hd ⟨cs, t, x, y, z, v, rfl, hcl, ⟨ht1, ht2⟩, hcs, rfl⟩
        obtain ⟨hi, rfl⟩ := VL.rngD_at hd
        have hlen : ((upD t).length : Nat) = t := by rw [List.length_map, rgI_len]
        walk_at "vw"
        refine if_i (fun hbr => ?_) (fun hbr => ?_)
        · refine VL.s_break ?_
          exact ⟨cs, t, _, y, z, v, rfl, by omega, hcs, rfl⟩
        · walk_at "vw"
          rw [hlen] at hbr
          refine ⟨p, _, rfl, by walk_at "ol", by rw [hlen]; omega, by rw [hlen]; omega, fun b hb0 hb1 => ?_⟩
          rw [hlen] at hb1
          have hat0 : atI (upD t) ((b.toNat : Nat) : Int) = some (.int ((b.toNat : Nat) : Int)) := atI_nat (by rw [List.getElem?_map, rgI_at (by omega)]; rfl)
          have hat : atI (upD t) b = some (.int b) := by
            have e : ((b.toNat : Nat) : Int) = b := by omega
            rwa [e] at hat0
          refine VL.o_ixQ rfl rfl hat ?_
          walk_at "vw"
          refine ⟨p, _, rfl, by walk_at "ol", ?_, ?_, fun g hg0 hg1 => ?_⟩
          · rw [hlen]; split <;> omega
          · rw [hlen]; split <;> omega
          rw [hlen] at hg1
          have hg2 : g < n - t := by split at hg1 <;> omega
          walk_at "vw"
          refine VL.l_frz (VL.ln_rg2 ?_)
          walk_at "vw"
          rw [hlen]
          refine ⟨_, _, rfl, rfl, ⟨by omega, by omega, by omega⟩, ?_⟩
          rw [show ((t : Int) + (1 + g) - t).toNat = (1 + g).toNat by omega, rng_ints t _ (by omega)]
          walk_at "vw"
          refine VL.o_cat rfl rfl (VL.le_line (by rw [hlen, List.length_map, rgI_len]; omega)) ?_
          have eup : upD t ++ (rgI ((t : Int)).toNat (1 + g).toNat).map VL.D.int = upD (t + (1 + g).toNat) := by
            rw [Int.toNat_natCast, upD, ← List.map_append, rgI_app]
          rw [eup]
          walk_at "vw"
          refine ⟨p, _, rfl, by walk_at "ol", by omega, by omega, fun h hh0 hh1 => ?_⟩
          walk_at "vw"
          refine if_d (fun _ => ?_) (fun _ => ?_)
          · walk_at "vw"
            refine VL.o_cat rfl rfl (VL.le_line (by rw [List.length_map, rgI_len]; simp; omega)) ?_
            walk_at "vw"
            refine VL.k_sortedA (ns := b :: rgI t (1 + g).toNat) rfl rfl fun ms pm so => ?_
            walk_at "vw"
            refine VL.m_append VL.updO_same (VL.lt_line (by rw [List.length_map]; omega)) ?_
            rw [VL.updO_updO]
            refine ⟨cs ++ [ms], t + (1 + g).toNat, _, _, _, _, by rw [rowsT, rowsT, List.map_append]; rfl, by rw [List.length_append, List.length_singleton]; omega, ⟨by omega, by omega⟩, fun c hc => ?_, rfl⟩
            rcases List.mem_append.mp hc with h | h
            · exact hcs c h
            · rw [List.mem_singleton] at h; subst h
              exact lot_fresh hb0 hb1 (by omega) pm so
          · walk_at "vw"
            exact ⟨cs, t + (1 + g).toNat, _, _, _, _, rfl, by omega, ⟨by omega, by omega⟩, hcs, rfl⟩
      · rintro ρ' O2 ⟨cs, t, x, y, z, v, rfl, hcl, ⟨ht1, ht2⟩, hcs, rfl⟩
        rw [VL.rngD_len] at hcl
        exact ⟨cs, t, x, y, z, v, rfl, by omega, hcs, rfl⟩
    · rintro ρ' O2 ⟨cs, t, x, y, z, v, rfl, hcl, hcs, rfl⟩
      show VL.LS _ _ _ _ _
      refine VL.s_freeze (i := 3) (p := r) rfl VL.updO_same ?_
      rw [VL.delO_updO hr]
      walk_at "vw"
      exact k cs hcl hcs
def W_code : VL.WL := fun ds O Q _ => ∃ (p : Addr) (lo hi wd : Int), ds = [.ref p, .int lo, .int hi, .int wd] ∧ O p = some .hand ∧ (1 ≤ lo ∧ lo ≤ hi ∧ hi ≤ 10) ∧ (2 ≤ wd ∧ wd ≤ 10) ∧ ∀ (n : Int) (cs : List (List Int)), (lo ≤ n ∧ n ≤ hi) → ((cs.length : Int) ≤ 4 ∨ (cs.length : Int) ≤ n) → (∀ c ∈ cs, VL.Lot n c ∧ c ≠ []) → Q (.tup [.int n, .lst (rowsT cs)]) O
theorem c_l_code (T : Txt K mg) : Cal P w K mg base CX0 5 "_law_code" ["_law_hand_here", "_law_low", "_law_high", "_law_widest"] [] (VL.SpL K W_code) := by
  have c_l_draw := @c_l_draw P w K mg base T
  have c_l_free_checks := @c_l_free_checks P w K mg base T
  have c_l_ringless_checks := @c_l_ringless_checks P w K mg base T
  have c_l_tie_checks := @c_l_tie_checks P w K mg base T
  obtain ⟨fd, F⟩ := T.c.def_ 19 (d := dd_l_code) rfl
  refine ⟨_, fd, [], VL.fnL' (CX := CX0) F sc_l_code ?_ (fun cdv A outer s H E hr => ⟨_, PSs.nox (pss_cons (ps_set (i := 4) sc_l_code.nd rfl (Or.inl rfl) (pe_op op_add (pv 1) (pe_cal c_l_draw (hr.mono (by decide)) pass0 (pa_cons (pv 0) (pa_cons (pe_op op_add (pe_op op_sub (pv 2) (pv 1)) pe_int) pa_nil)))))
 (pss_cons (ps_set (i := 5) sc_l_code.nd rfl (Or.inl rfl) (pe_cal c_l_draw (hr.mono (by decide)) pass0 (pa_cons (pv 0) (pa_cons pe_int pa_nil))))
 (pss_cons (ps_if (pt_cmpR (VL.op_eqX hr.units) (pv 5) pe_int (nomark _))
  (pss_one (ps_ret (pe_tup (pa_cons (pv 4) (pa_cons (pe_cal c_l_ringless_checks (hr.mono (by decide)) pass0 (pa_cons (pv 0) (pa_cons (pv 4) (pa_cons (pv 3) pa_nil)))) pa_nil)))))
  pss_nil)
 (pss_cons (ps_if (PW.pt (pw_and (pt_cmpR op_lt (pv 5) pe_int (nomark _)) (pw_and1 (pt_cmpR op_gt (pv 4) pe_int (nomark _)))))
  (pss_one (ps_ret (pe_tup (pa_cons (pv 4) (pa_cons (pe_cal c_l_tie_checks (hr.mono (by decide)) pass0 (pa_cons (pv 0) (pa_cons (pv 4) (pa_cons (pe_op op_add pe_int (pe_cal c_l_draw (hr.mono (by decide)) pass0 (pa_cons (pv 0) (pa_cons pe_int pa_nil)))) pa_nil)))) pa_nil)))))
  pss_nil)
 (pss_one (ps_ret (pe_tup (pa_cons (pv 4) (pa_cons (pe_cal c_l_free_checks (hr.mono (by decide)) pass0 (pa_cons (pv 0) (pa_cons (pv 4) (pa_cons (pe_ifExp (pt_cmpR (VL.op_eqX hr.units) (pv 5) pe_int (nomark _)) (pe_cal c_l_draw (hr.mono (by decide)) pass0 (pa_cons (pv 0) (pa_cons pe_int pa_nil))) (pe_op op_add pe_int (pe_cal c_l_draw (hr.mono (by decide)) pass0 (pa_cons (pv 0) (pa_cons pe_int pa_nil))))) (pa_cons (pv 3) pa_nil))))) pa_nil))))))))), ?_⟩), T.glo 41, F.kp, F.bindsN fun _ _ _ _ _ _ us hl => match us, hl with | [_, _, _, _], _ => rfl, .nil⟩

  · rintro ds O Q E ⟨p, lo, hi, wd, rfl, _⟩; rfl
  · rintro ds O Q E ⟨p, lo, hi, wd, rfl, hp, hlo, hwd, k⟩
    walk_at "vw"
    refine ⟨p, _, rfl, by walk_at "ol", by omega, by omega, fun b hb0 hb1 => ?_⟩
    walk_at "vw"
    refine ⟨p, 8, rfl, by walk_at "ol", by decide, by decide, fun pk hk0 hk1 => ?_⟩
    walk_at "vw"
    refine if_i (fun _ => ?_) (fun _ => ?_)
    · walk_at "vw"
      refine ⟨p, lo + b, wd, rfl, by walk_at "ol", ⟨by omega, by omega⟩, hwd, fun cs hcl hcs => ?_⟩
      walk_at "vw"
      exact k (lo + b) cs ⟨by omega, by omega⟩ (.inr hcl) hcs
    · walk_at "vw"
      refine if_d (fun _ => ?_) (fun _ => ?_)
      · walk_at "vw"
        refine if_d (fun _ => ?_) (fun _ => ?_)
        · walk_at "vw"
          refine ⟨p, _, rfl, by walk_at "ol", by omega, by omega, fun mm h0 h1 => ?_⟩
          walk_at "vw"
          refine ⟨p, lo + b, 2 + mm, rfl, by walk_at "ol", ⟨by omega, by omega⟩, ⟨by omega, by omega⟩, fun cs hcl hcs => ?_⟩
          walk_at "vw"
          exact k (lo + b) cs ⟨by omega, by omega⟩ (.inl (by omega)) hcs
        · walk_at "vx"
          refine VL.l_post (fun y O2 => O2 = O ∧ ∃ mm : Int, 0 ≤ mm ∧ mm ≤ 4 ∧ y = .int mm) ?_ ?_
          · walk_at "vw"
            refine if_i (fun _ => ?_) (fun _ => ?_)
            · walk_at "vw"
              refine ⟨p, _, rfl, by walk_at "ol", by omega, by omega, fun mm h0 h1 => ?_⟩
              walk_at "vw"
              exact ⟨rfl, mm, by omega, by omega, rfl⟩
            · walk_at "vw"
              refine ⟨p, _, rfl, by walk_at "ol", by omega, by omega, fun mm h0 h1 => ?_⟩
              walk_at "vw"
              exact ⟨rfl, 2 + mm, by omega, by omega, rfl⟩
          · rintro y O2 ⟨rfl, mm, h0, h1, rfl⟩
            walk_at "vw"
            refine ⟨p, lo + b, mm, wd, rfl, by walk_at "ol", ⟨by omega, by omega⟩, ⟨by omega, by omega⟩, ⟨by omega, by omega⟩, fun cs hcl hcs => ?_⟩
            walk_at "vw"
            exact k (lo + b) cs ⟨by omega, by omega⟩ (.inl (by omega)) hcs
      · walk_at "vx"
        refine VL.l_post (fun y O2 => O2 = O ∧ ∃ mm : Int, 0 ≤ mm ∧ mm ≤ 4 ∧ y = .int mm) ?_ ?_
        · walk_at "vw"
          refine if_i (fun _ => ?_) (fun _ => ?_)
          · walk_at "vw"
            refine ⟨p, _, rfl, by walk_at "ol", by omega, by omega, fun mm h0 h1 => ?_⟩
            walk_at "vw"
            exact ⟨rfl, mm, by omega, by omega, rfl⟩
          · walk_at "vw"
            refine ⟨p, _, rfl, by walk_at "ol", by omega, by omega, fun mm h0 h1 => ?_⟩
            walk_at "vw"
            exact ⟨rfl, 2 + mm, by omega, by omega, rfl⟩
        · rintro y O2 ⟨rfl, mm, h0, h1, rfl⟩
          walk_at "vw"
          refine ⟨p, lo + b, mm, wd, rfl, by walk_at "ol", ⟨by omega, by omega⟩, ⟨by omega, by omega⟩, ⟨by omega, by omega⟩, fun cs hcl hcs => ?_⟩
          walk_at "vw"
          exact k (lo + b) cs ⟨by omega, by omega⟩ (.inl (by omega)) hcs
end
end K80
namespace K80
open PySem PySem.Spec PyProof.Rows L2 MB
def W_root : VL.WL := fun ds O Q _ => ∃ (p : Addr) (m : Nat) (as : List Nat) (L h : Nat → Nat) (x : Nat), ds = [.ref p, .int (x : Int)] ∧ O p = some (.lst (VL.natD as)) ∧ VL.UF m as L h ∧ m ≤ 100000 ∧ x < m ∧ ∀ as' : List Nat, VL.UF m as' L h → Q (.int (L x : Int)) (VL.updO O p (.lst (VL.natD as')))
theorem natD_at {as : List Nat} {x y : Nat} (h : as[x]? = some y) : atI (VL.natD as) (x : Int) = some (.int (y : Int)) := atI_nat (by unfold VL.natD; rw [List.getElem?_map, h]; rfl)
theorem natD_set (as : List Nat) (x y : Nat) : (VL.natD as).set x (.int (y : Int)) = VL.natD (as.set x y) := by
  unfold VL.natD; rw [List.map_set]
section
variable {P : Program} {w : World} {K : PySem.W.Frag} {mg : Str → Option Value} {base : Heap}
theorem c_root_of (T : Txt K mg) : Cal P w K mg base CX0 1 "root_of" ["above", "number"] [] (VL.SpL K W_root) := by
  obtain ⟨fd, F⟩ := T.c.def_ 3 (d := dd_root_of) rfl
  refine ⟨_, fd, [], VL.fnL' (CX := CX0) F sc_root_of ?_ (fun cdv A outer s H E hr => ⟨_, PSs.nox (pss_cons (ps_while PassesOwn.never (pt_cmpR (VL.op_neX hr.units) (pe_ix ix_seq (pv 0) (pv 1) (fun _ _ => rfl)) (pv 1) (nomark _))
  (pss_cons (ps_asg (pe_ix ix_seq (pv 0) (pe_ix ix_seq (pv 0) (pv 1) (fun _ _ => rfl)) (fun _ _ => rfl)) (pg_sub (pv 0) (pv 1) set_list (by intros; rfl)))
 (pss_one (ps_set (i := 1) sc_root_of.nd rfl (Or.inl rfl) (pe_ix ix_seq (pv 0) (pv 1) (fun _ _ => rfl))))))
 (pss_one (ps_ret (pv 1)))), ?_⟩), T.glo 25, F.kp, F.bindsN fun _ _ _ _ _ _ us hl => match us, hl with | [_, _], _ => rfl, .nil⟩

  · rintro ds O Q E ⟨p, m, as, L, h, x, rfl, _⟩; rfl
  · rintro ds O Q E ⟨p, m, as, L, h, x, rfl, hp, uf, hm, hx, k⟩
    walk_at "vw"
    refine VL.s_while (fun mm ρ' O2 => ∃ (as' : List Nat) (y : Nat), O2 = VL.updO O p (.lst (VL.natD as')) ∧ VL.UF m as' L h ∧ y < m ∧ L y = L x ∧ mm = h y ∧ ρ' = [some (.ref p), some (.int (y : Int))]) ⟨_, as, x, ?_, uf, hx, rfl, rfl, rfl⟩ ?_
    · funext b
      unfold VL.updO
      split
      · rename_i e; rw [e, hp]
      · rfl
    · rintro mm ρ' O2 ⟨as', y, rfl, uf', hy, hL, rfl, rfl⟩
      obtain ⟨z, hz⟩ : ∃ z, as'[y]? = some z := ⟨_, List.getElem?_eq_getElem (by rw [uf'.len]; exact hy)⟩
      have hlen : (VL.natD as').length = m := by unfold VL.natD; rw [List.length_map, uf'.len]
      walk_at "vw"
      refine VL.o_ixQ rfl (VL.asS_own VL.updO_same) (natD_at hz) ?_
      walk_at "vw"
      by_cases hzy : z = y
      · subst hzy
        rw [show (!decide (V.int (z : Int) = V.int (z : Int))) = false by simp]
        show VL.LS _ _ _ _ _
        walk_at "vw"
        have := k as' uf'
        rw [← hL, uf'.root _ hz] at this
        exact this
      · rw [show (!decide (V.int (z : Int) = V.int (y : Int))) = true by simp; omega]
        obtain ⟨t, ht⟩ : ∃ t, as'[z]? = some t := ⟨_, List.getElem?_eq_getElem (by rw [uf'.len]; exact uf'.lt _ _ hz)⟩
        have uf2 := uf'.halve hz hzy ht
        have htm := uf'.lt _ _ ht
        have hat : (as'.set y t)[y]? = some t := List.getElem?_set_self (by rw [uf'.len]; exact hy)
        have hlt : h t < h y := by
          refine uf2.low y t hat fun e => ?_
          subst e
          have h1 := uf'.low _ _ hz hzy
          have h2 := uf'.low _ _ ht (Ne.symm hzy)
          omega
        simp only [if_true]
        walk_at "vw"
        refine VL.o_ixQ rfl (VL.asS_own VL.updO_same) (natD_at hz) ?_
        refine VL.o_ixQ rfl (VL.asS_own VL.updO_same) (natD_at ht) ?_
        walk_at "vw"
        refine VL.t_setL VL.updO_same (VL.ixN_in (by omega) (by rw [hlen]; omega)) ?_
        rw [Int.toNat_natCast, natD_set, VL.updO_updO]
        walk_at "vw"
        refine VL.o_ixQ rfl (VL.asS_own VL.updO_same) (natD_at hat) ?_
        walk_at "vw"
        exact ⟨_, hlt, _, t, rfl, uf2, htm, by rw [uf'.lab _ _ ht, uf'.lab _ _ hz, hL], rfl, rfl⟩
end
end K80
namespace K80
open PySem PySem.Spec PyProof.Rows L2 MB
def grpD (L : Nat → Nat) (m : Nat) : VL.D := .tup ((VL.grp L m).map fun e => .tup (VL.natD e))
def W_joined : VL.WL := fun ds O Q _ => ∃ (n : Nat) (cs : List (List Int)), ds = [.int (n : Int), .tup (rowsT cs)] ∧ n ≤ 1000 ∧ cs.length ≤ 1000 ∧ (∀ c ∈ cs, VL.Lot n c ∧ c ≠ []) ∧ ∀ L, VL.Lab (VL.edgs cs) L → Q (grpD L n) O
theorem cut1 (x : VL.D) (xs : List VL.D) : VL.cutD (x :: xs) (some 1) none = xs := by
  unfold VL.cutD
  show ((x :: xs).drop (min 1 (x :: xs).length)).take _ = xs
  rw [List.length_cons, show min 1 (xs.length + 1) = 1 by omega]
  show xs.take _ = xs
  refine List.take_of_length_le ?_
  show xs.length ≤ (xs.length + 1) - _
  show xs.length ≤ (xs.length + 1) - min 1 (xs.length + 1)
  omega
theorem natA {xs : List VL.D} {d : VL.D} (i : Nat) (h : xs[i]? = some d) : atI xs (i : Int) = some d := atI_nat h
theorem ks_nodup (L : Nat → Nat) (i : Nat) : ((VL.fsts L i).map fun b => (L b : Int)).Nodup :=
  List.pairwise_map.mpr (List.Pairwise.imp_of_mem (fun {a b} ha hb n z => n (VL.fsts_inj ha hb (by omega))) (VL.fsts_nodup L i))
theorem fsts_len (L : Nat → Nat) (i : Nat) : (VL.fsts L i).length ≤ i := by
  have := List.length_filter_le (fun b => (List.range b).all fun a => decide (L a ≠ L b)) (List.range i)
  rwa [List.length_range] at this
theorem pcOf_len (L : Nat → Nat) (i b : Nat) : (VL.pcOf L i b).length ≤ i := by
  have := List.length_filter_le (fun x => decide (L x = L b)) (List.range i)
  rwa [List.length_range] at this
theorem natD_snoc (e : List Nat) (i : Nat) : VL.natD e ++ [.int (i : Int)] = VL.natD (e ++ [i]) := by unfold VL.natD; rw [List.map_append]; rfl
theorem rng_nat (n : Nat) : VL.rngD 0 n = VL.natD (List.range n) := by rw [VL.rngD_ints, List.map_map]; rfl
section
variable {P : Program} {w : World} {K : PySem.W.Frag} {mg : Str → Option Value} {base : Heap}
theorem c_joined_groups (T : Txt K mg) : Cal P w K mg base CX0 2 "joined_groups" ["many", "lots"] [] (VL.SpL K W_joined) := by
  have c_root_of := @c_root_of P w K mg base T
  obtain ⟨fd, F⟩ := T.c.def_ 4 (d := dd_joined_groups) rfl
  refine ⟨_, fd, [], VL.fnL' (CX := CX0) F sc_joined_groups ?_ (fun cdv A outer s H E hr => ⟨_, PSs.nox (pss_cons (ps_set (i := 2) sc_joined_groups.nd rfl (Or.inl rfl) (VL.pe_own (pe_listRg rfl rfl (T.free 11) (prg_1 rfl (T.free 8) (pv 0)))))
 (pss_cons (ps_for PassesOwn.never rfl (VL.pi_seq (pv 1)) (pg_name (i := 3) sc_joined_groups.nd rfl (Or.inl rfl))
  (pss_one (ps_for PassesOwn.never rfl (VL.pi_seq (pe_slice sl_tupA (pv 3) (po_some pe_int) po_none)) (pg_name (i := 4) sc_joined_groups.nd rfl (Or.inl rfl))
  (pss_one (ps_asg (pe_cal c_root_of (hr.mono (by decide)) pass0 (pa_cons (pv 2) (pa_cons (pe_ix ix_seq (pv 3) pe_int (fun _ _ => rfl)) pa_nil))) (pg_sub (pv 2) (pe_cal c_root_of (hr.mono (by decide)) pass0 (pa_cons (pv 2) (pa_cons (pv 4) pa_nil))) set_list (by intros; rfl)))))))
 (pss_cons (ps_set (i := 5) sc_joined_groups.nd rfl (Or.inl rfl) pe_dnewK)
 (pss_cons (ps_for PassesOwn.never rfl (pi_range1 rfl (T.free 8) (pa_cons (pv 0) pa_nil)) (pg_name (i := 4) sc_joined_groups.nd rfl (Or.inl rfl))
  (pss_one (ps_expr (pe_bm PySem.F.plainAttrs_list PySem.F.slot_list_append PySem.F.type_list_append mt_append (pe_dsetd (pv 5) (pe_cal c_root_of (hr.mono (by decide)) pass0 (pa_cons (pv 2) (pa_cons (pv 4) pa_nil))) (VL.pe_own (pe_lst pa_nil)) ⟨rfl, rfl, rfl, rfl⟩) (pa_cons (pv 4) pa_nil)))))
 (pss_one (ps_ret (pe_callTy MB.k_tupOf rfl (T.free 10) (by decide +kernel) (pa_cons (pe_lock (pe_lc (own := [("group", 6)]) (g := gName 6) (tt := tYes) rfl sc_joined_groups.nd (pi_values (pv 5)) (blkOk_by (N := ["many", "lots", "above", "lot", "number", "groups", "group"]) (sc := defScope s_joined_groups) (by decide +kernel)) (fun _ _ _ _ _ => (pg_name (i := 6) sc_joined_groups.nd rfl (Or.inl rfl))) (fun _ _ _ _ _ => pts_nil) (fun _ _ _ _ _ => (pe_callTy (show CallR _ (.type "tuple") (MB.rTupOf K) from MB.k_tupOf) rfl (T.free 10) (by decide +kernel) (pa_cons (pv 6) pa_nil))))) pa_nil)))))))), ?_⟩), T.glo 26, F.kp, F.bindsN fun _ _ _ _ _ _ us hl => match us, hl with | [_, _], _ => rfl, .nil⟩

  · rintro ds O Q E ⟨n, cs, rfl, _⟩; rfl
  · rintro ds O Q E ⟨n, cs, rfl, hn, hcl, hcs, k⟩
    walk_at "vw"
    refine ⟨⟨by omega, by omega⟩, fun r hr => ?_⟩
    rw [Int.toNat_natCast, rng_nat]
    walk_at "vw"
    refine VL.s_post (fun ρ' O2 => ∃ (as : List Nat) (L h : Nat → Nat) (x y : Option VL.D), O2 = VL.updO O r (.lst (VL.natD as)) ∧ VL.UF n as L h ∧ VL.Lab (VL.edgs cs) L ∧ ρ' = [some (.int (n : Int)), some (.tup (rowsT cs)), some (.ref r), x, y, none, none]) ?_ ?_
    · refine VL.s_for (VL.i_seq rfl ?_)
      walk_at "vw"
      refine ⟨_, rfl, fun i ρ' O2 => ∃ (as : List Nat) (L h : Nat → Nat) (x y : Option VL.D), O2 = VL.updO O r (.lst (VL.natD as)) ∧ VL.UF n as L h ∧ VL.Lab (VL.edgs (cs.take i)) L ∧ ρ' = [some (.int (n : Int)), some (.tup (rowsT cs)), some (.ref r), x, y, none, none],
        ⟨_, _, _, none, none, rfl, VL.UF.start n, VL.Lab.start, rfl⟩, fun _ _ _ _ => rfl, ?_, ?_⟩
      · rintro i d ρ' O2 hd ⟨as, L, h, x, y, rfl, uf, lab, rfl⟩
        obtain ⟨c, hc, rfl⟩ := VL.rows_at hd
        have hcm := List.mem_of_getElem? hc
        obtain ⟨⟨hso, hrg⟩, hne⟩ := hcs c hcm
        obtain ⟨a, tl, rfl⟩ : ∃ a tl, c = a :: tl := by cases c with
          | nil => exact absurd rfl hne
          | cons a tl => exact ⟨a, tl, rfl⟩
        have hcl2 : (a :: tl).length ≤ n := by
          have := VL.Lot.len (n := n) ⟨hso, hrg⟩ (by omega)
          omega
        have ha := hrg a (List.mem_cons_self ..)
        have hes : VL.edgs (cs.take (i + 1)) = VL.edgs (cs.take i) ++ tl.map fun b => (b.toNat, a.toNat) := by
          unfold VL.edgs
          rw [List.take_add_one, hc, List.flatMap_append]
          show _ ++ (VL.edg (a :: tl) ++ []) = _
          rw [List.append_nil]; rfl
        walk_at "vw"
        refine VL.s_for (VL.i_seq rfl ?_)
        walk_at "vw"
        rw [List.map_cons, cut1]
        refine ⟨tl.map VL.D.int, rfl, fun j ρ' O2 => ∃ (as : List Nat) (L h : Nat → Nat) (y : Option VL.D), O2 = VL.updO O r (.lst (VL.natD as)) ∧ VL.UF n as L h ∧ VL.Lab (VL.edgs (cs.take i) ++ (tl.take j).map fun b => (b.toNat, a.toNat)) L ∧ ρ' = [some (.int (n : Int)), some (.tup (rowsT cs)), some (.ref r), some (.tup (.int a :: tl.map VL.D.int)), y, none, none],
          ⟨as, L, h, y, rfl, uf, by simpa using lab, rfl⟩, fun _ _ _ _ => rfl, ?_, ?_⟩
        · rintro j d ρ' O2 hd2 ⟨as, L, h, y, rfl, uf, lab, rfl⟩
          obtain ⟨b, hb, rfl⟩ : ∃ b, tl[j]? = some b ∧ d = .int b := by
            rw [List.getElem?_map] at hd2
            cases e : tl[j]? with
            | none => rw [e] at hd2; cases hd2
            | some b => rw [e] at hd2; cases hd2; exact ⟨b, rfl, rfl⟩
          have hbr := hrg b (List.mem_cons_of_mem _ (List.mem_of_getElem? hb))
          walk_at "vw"
          refine VL.o_ixQ (d := .int a) rfl rfl (natA 0 rfl) ?_
          walk_at "vw"
          refine ⟨r, n, as, L, h, a.toNat, by rw [Int.toNat_of_nonneg ha.1], VL.updO_same, uf, by omega, by omega, fun as1 uf1 => ?_⟩
          rw [VL.updO_updO]
          walk_at "vw"
          refine ⟨r, n, as1, L, h, b.toNat, by rw [Int.toNat_of_nonneg hbr.1], VL.updO_same, uf1, by omega, by omega, fun as2 uf2 => ?_⟩
          rw [VL.updO_updO]
          walk_at "vw"
          have hlen : (VL.natD as2).length = n := by unfold VL.natD; rw [List.length_map, uf2.len]
          have hLb := uf2.rlt (x := b.toNat) (by omega)
          refine VL.t_setL VL.updO_same (VL.ixN_in (by omega) (by rw [hlen]; omega)) ?_
          rw [Int.toNat_natCast, natD_set, VL.updO_updO]
          obtain ⟨h', uf3⟩ := uf2.link (a := b.toNat) (b := a.toNat) (by omega) (by omega)
          refine ⟨_, _, h', _, rfl, uf3, ?_, rfl⟩
          rw [List.take_add_one, hb]
          have := lab.link b.toNat a.toNat
          rw [List.append_assoc] at this
          simpa using this
        · rintro ρ' O2 ⟨as, L, h, y, rfl, uf, lab, rfl⟩
          rw [List.length_map, List.take_length] at lab
          exact ⟨as, L, h, _, y, rfl, uf, by rw [hes]; exact lab, rfl⟩
      · rintro ρ' O2 ⟨as, L, h, x, y, rfl, uf, lab, rfl⟩
        rw [List.length_map, List.take_length] at lab
        exact ⟨as, L, h, x, y, rfl, uf, lab, rfl⟩
    · rintro ρ' O2 ⟨as, L, h, x, y, rfl, uf, lab, rfl⟩
      show VL.LS _ _ _ _ _
      walk_at "vw"
      refine VL.l_dnew fun g hg => ?_
      have hrg := VL.ne_of VL.updO_same hg
      have hgO : O g = none := VL.new_old hg
      walk_at "vw"
      refine VL.s_post (fun ρ' O2 => ∃ (as : List Nat) (h : Nat → Nat) (ps : List Addr) (x y : Option VL.D), VL.OwnDk O O2 g ((VL.fsts L n).map fun b => (L b : Int)) ps ((VL.grp L n).map VL.natD) ∧ ρ' = [some (.int (n : Int)), some (.tup (rowsT cs)), some (.ref r), x, y, some (.ref g), none]) ?_ ?_
      · refine VL.s_for (VL.i_rng1 ?_)
        walk_at "vw"
        refine ⟨fun i ρ' O2 => ∃ (as : List Nat) (h : Nat → Nat) (ps : List Addr) (x y : Option VL.D), VL.OwnDk O O2 g ((VL.fsts L i).map fun b => (L b : Int)) ps ((VL.grpI L i).map VL.natD) ∧ O2 r = some (.lst (VL.natD as)) ∧ r ∉ ps ∧ VL.UF n as L h ∧ ρ' = [some (.int (n : Int)), some (.tup (rowsT cs)), some (.ref r), x, y, some (.ref g), none],
          ⟨as, h, [], x, y, VL.OwnDk.start hgO (fun a u e => ?_), by walk_at "ol", (fun z => by cases z), uf, rfl⟩, fun _ _ _ _ => trivial, ?_, ?_⟩
        · rw [VL.updO_ne fun z => by subst z; rw [hr] at e; cases e]; exact e
        · rintro i d ρ' O2 hd ⟨as, h, ps, x, y, od, hra, hrp, uf, rfl⟩
          obtain ⟨hi, rfl⟩ := VL.rngD_at hd
          rw [Int.toNat_natCast] at hi
          walk_at "vw"
          refine VL.l_dsetd ?_
          walk_at "vw"
          refine ⟨g, rfl, ⟨_, od.dk⟩, ?_⟩
          walk_at "vw"
          refine ⟨r, n, as, L, h, i, by rw [Int.zero_add], hra, uf, by omega, hi, fun as1 uf1 => ?_⟩
          have od1 := od.other (u := .lst (VL.natD as1)) hrg hrp hr
          walk_at "vw"
          intro q hq
          obtain ⟨q1, q2, q3⟩ := od1.fresh hq
          have qr : q ≠ r := fun z => by subst z; rw [VL.updO_same] at hq; cases hq
          have od2 := od1.other (u := .lst []) q1 q2 q3
          have hlf := fsts_len L i
          refine ⟨(L i : Int), _, rfl, od2.dk, VL.lt_line (by rw [VL.dkL_len od2.lp, List.length_map]; omega), fun d hd2 => ?_, fun hn2 => ?_⟩
          · by_cases hm : (L i : Int) ∈ (VL.fsts L i).map fun b => (L b : Int)
            · obtain ⟨b, hb, eb⟩ := List.mem_map.mp hm
              have eb : L b = L i := by omega
              obtain ⟨j, hj⟩ := List.mem_iff_getElem?.mp hb
              have hjl := (List.getElem?_eq_some_iff.mp hj).1
              obtain ⟨p, hp⟩ : ∃ p, ps[j]? = some p := ⟨_, List.getElem?_eq_getElem (by rw [od2.lp, List.length_map]; exact hjl)⟩
              have hk : ((VL.fsts L i).map fun b => (L b : Int))[j]? = some (L i : Int) := by rw [List.getElem?_map, hj]; show some (L b : Int) = _; rw [eb]
              rw [VL.dkL_hit (ks_nodup L i) hk hp] at hd2
              cases hd2
              have hO := od2.at_ j p (VL.natD (VL.pcOf L i b)) hp (by rw [List.getElem?_map, VL.grpI, List.getElem?_map, hj]; rfl)
              refine ⟨⟨_, VL.asL_own hO⟩, ?_⟩
              walk_at "vw"
              have hpl := pcOf_len L i b
              refine VL.m_append hO (VL.lt_line (by unfold VL.natD; rw [List.length_map]; omega)) ?_
              rw [Int.zero_add, natD_snoc]
              have od3 := od2.old (e2 := VL.natD (VL.pcOf L i b ++ [i])) (e := []) hp
              rw [← List.map_set, ← VL.grpI_old hj eb, ← VL.fsts_old hb eb] at od3
              have hpr : r ≠ p := fun z => hrp (by rw [z]; exact List.mem_of_getElem? hp)
              exact ⟨as1, h, ps, x, _, od3, by rw [VL.updO_ne hpr, VL.updO_ne (Ne.symm qr), VL.updO_same], hrp, uf1, rfl⟩
            · rw [VL.dkL_miss hm] at hd2; cases hd2
          · have hm : (L i : Int) ∉ (VL.fsts L i).map fun b => (L b : Int) := fun hm => by
              obtain ⟨j, hj⟩ := List.mem_iff_getElem?.mp hm
              have hjl := (List.getElem?_eq_some_iff.mp hj).1
              obtain ⟨p, hp⟩ : ∃ p, ps[j]? = some p := ⟨_, List.getElem?_eq_getElem (by rw [od2.lp]; exact hjl)⟩
              rw [VL.dkL_hit (ks_nodup L i) hj hp] at hn2
              cases hn2
            have hm2 : ∀ b ∈ VL.fsts L i, L b ≠ L i := fun b hb e => hm (List.mem_map.mpr ⟨b, hb, by rw [e]⟩)
            have hq2 : VL.updO (VL.updO (VL.updO O2 r (.lst (VL.natD as1))) q (.lst [])) g (.dk (VL.dkPut (VL.dkL ((VL.fsts L i).map fun b => (L b : Int)) ps) (.inl (L i : Int)) (.ref q))) q = some (.lst []) := by
              rw [VL.updO_ne q1, VL.updO_same]
            refine ⟨⟨_, VL.asL_own hq2⟩, ?_⟩
            walk_at "vw"
            refine VL.m_append hq2 (VL.lt_line (by decide)) ?_
            rw [Int.zero_add, VL.dkL_put od2.lp hm, VL.updO_comm q1, VL.updO_updO]
            have od3 := od1.new (k := (L i : Int)) (e := [.int (i : Int)]) hq
            have e1 : ((VL.fsts L i).map fun b => (L b : Int)) ++ [(L i : Int)] = (VL.fsts L (i + 1)).map fun b => (L b : Int) := by rw [VL.fsts_new hm2, List.map_append]; rfl
            have e2 : (VL.grpI L i).map VL.natD ++ [[.int (i : Int)]] = (VL.grpI L (i + 1)).map VL.natD := by rw [VL.grpI_new hm2, List.map_append]; rfl
            rw [e2] at od3
            have od4 : VL.OwnDk O _ g ((VL.fsts L (i + 1)).map fun b => (L b : Int)) _ _ := e1 ▸ od3
            refine ⟨as1, h, ps ++ [q], x, _, ?_, ?_, ?_, uf1, rfl⟩
            · rw [e1]; rw [e1] at od3; exact od3
            · show VL.updO (VL.updO (VL.updO O2 r _) g _) q _ r = _
              rw [VL.updO_ne (Ne.symm qr), VL.updO_ne hrg, VL.updO_same]
            · intro z
              rcases List.mem_append.mp z with z | z
              · exact hrp z
              · rw [List.mem_singleton] at z; exact qr z.symm
        · rintro ρ' O2 ⟨as, h, ps, x, y, od, hra, hrp, uf, rfl⟩
          rw [VL.rngD_len, Int.toNat_natCast] at od
          exact ⟨as, h, ps, x, y, od, rfl⟩
      · rintro ρ' O2 ⟨as, h, ps, x, y, od, rfl⟩
        show VL.LS _ _ _ _ _
        refine VL.s_ret (VL.l_shrink O ?_)
        walk_at "vw"
        refine VL.l_frz (VL.ln_lock g _ od.dk fun ob vs => ?_)
        refine VL.ln_map (fun d => match VL.asS O2 d with | some xs => .tup xs | none => .non) (VL.i_vals ?_)
        walk_at "vw"
        have hlen : (VL.dkL ((VL.fsts L n).map fun b => (L b : Int)) ps).length ≤ n := by
          rw [VL.dkL_len od.lp, List.length_map]; exact fsts_len L n
        refine ⟨g, ob, vs, _, rfl, VL.updO_same, by rw [List.length_map]; omega, fun O3 ex => ex g _ VL.updO_same, fun i d O3 hd ex => ?_, VL.updO_same, ?_⟩
        · rw [VL.dkL_vals od.lp, List.getElem?_map] at hd
          cases hp : ps[i]? with
          | none => rw [hp] at hd; cases hd
          | some p =>
            rw [hp] at hd
            cases hd
            have hpl := (List.getElem?_eq_some_iff.mp hp).1
            have hO := od.at_ i p _ hp (List.getElem?_eq_getElem (by rw [od.le, ← od.lp]; exact hpl))
            have hpg : p ≠ g := fun z => od.ng (by rw [← z]; exact List.mem_of_getElem? hp)
            walk_at "vw"
            refine VL.k_tupOf rfl (VL.asS_own (ex p _ (by rw [VL.updO_ne hpg]; exact hO))) ?_
            exact ⟨by rw [VL.asS_own hO], rfl⟩
        · rw [VL.updO_updO]
          walk_at "vw"
          refine ⟨fun a u e => ?_, ?_⟩
          · rw [VL.updO_ne fun z => by subst z; rw [hgO] at e; cases e]
            exact od.ext a u e
          · have e1 : (VL.dkL ((VL.fsts L n).map fun b => (L b : Int)) ps).map (fun x => x.2) = ps.map VL.D.ref := VL.dkL_vals od.lp
            rw [e1]
            have e2 : (ps.map VL.D.ref).map (fun d => match VL.asS O2 d with | some xs => VL.D.tup xs | none => VL.D.non) = (VL.grp L n).map fun e => VL.D.tup (VL.natD e) := by
              refine List.ext_getElem? fun i => ?_
              rw [List.map_map, List.getElem?_map, List.getElem?_map]
              cases hp : ps[i]? with
              | none =>
                have : (VL.grp L n)[i]? = none := by
                  have h1 := List.getElem?_eq_none_iff.mp hp
                  have h2 := od.le
                  have h3 := od.lp
                  rw [List.length_map] at h2
                  exact List.getElem?_eq_none_iff.mpr (by omega)
                rw [this]; rfl
              | some p =>
                have hpl := (List.getElem?_eq_some_iff.mp hp).1
                have h2 := od.le
                have h3 := od.lp
                rw [List.length_map] at h2
                have hg2 : (VL.grp L n)[i]? = some ((VL.grp L n)[i]'(by omega)) := List.getElem?_eq_getElem _
                have hO := od.at_ i p (VL.natD ((VL.grp L n)[i]'(by omega))) hp (by rw [List.getElem?_map, hg2]; rfl)
                rw [hg2]
                show some (match VL.asS O2 (.ref p) with | some xs => VL.D.tup xs | none => VL.D.non) = _
                rw [VL.asS_own hO]; rfl
            rw [e2]
            exact k L lab
end
end K80
namespace K80
open PySem PySem.Spec PyProof.Rows L2 MB
def W_pieces (K : PySem.W.Frag) : VL.WL := fun ds O Q _ => ∃ (n : Nat) (cs : List (List Int)), ds = [VL.codeD (He.ga K "Code") n cs] ∧ n ≤ 1000 ∧ cs.length ≤ 1000 ∧ (∀ c ∈ cs, VL.Lot n c ∧ c ≠ []) ∧ ∀ L, VL.Lab (VL.edgs cs) L → Q (grpD L n) O
def W_lpieces : VL.WL := fun ds O Q _ => ∃ (n : Nat) (cs : List (List Int)), ds = [.int (n : Int), .lst (rowsT cs)] ∧ n ≤ 1000 ∧ cs.length ≤ 1000 ∧ (∀ c ∈ cs, VL.Lot n c ∧ c ≠ []) ∧ ∀ L, VL.Lab (VL.edgs cs) L → Q (.lst ((VL.grp L n).map fun e => .tup (VL.natD e))) O
def inT (i : Int) : VL.D → Bool
  | .tup xs => xs.any fun y => decide (i = VL.toI y)
  | _ => false
theorem mem_cast (i : Nat) (e : List Nat) : (i : Int) ∈ (e.map fun (k : Nat) => (k : Int)) ↔ i ∈ e := by
  rw [List.mem_map]
  exact ⟨fun ⟨k, hk, h⟩ => (Int.ofNat.inj h) ▸ hk, fun h => ⟨i, h, rfl⟩⟩
theorem inT_nat (i : Nat) (e : List Nat) : inT (i : Int) (.tup (VL.natD e)) = decide (i ∈ e) := by
  show ((VL.natD e).any fun y => decide ((i : Int) = VL.toI y)) = _
  unfold VL.natD
  rw [List.any_map, Bool.eq_iff_iff, List.any_eq_true, decide_eq_true_iff]
  exact ⟨fun ⟨k, hk, h⟩ => (Int.ofNat.inj (of_decide_eq_true h)) ▸ hk, fun h => ⟨i, h, decide_eq_true rfl⟩⟩
section
variable {P : Program} {w : World} {K : PySem.W.Frag} {mg : Str → Option Value} {base : Heap}
theorem c_code_pieces (T : Txt K mg) : Cal P w K mg base CX0 3 "code_pieces" ["code"] [] (VL.SpL K (W_pieces K)) := by
  have c_joined_groups := @c_joined_groups P w K mg base T
  obtain ⟨fd, F⟩ := T.c.def_ 5 (d := dd_code_pieces) rfl
  refine ⟨_, fd, [], VL.fnL' (CX := CX0) F sc_code_pieces ?_ (fun cdv A outer s H E hr => ⟨_, PSs.nox (pss_one (ps_ret (pe_cal c_joined_groups (hr.mono (by decide)) pass0 (pa_cons (pe_fld (pv 0) rfl) (pa_cons (pe_fld (pv 0) rfl) pa_nil))))), ?_⟩), T.glo 27, F.kp, F.bindsN fun _ _ _ _ _ _ us hl => match us, hl with | [_], _ => rfl, .nil⟩

  · rintro ds O Q E ⟨n, cs, rfl, _⟩; rfl
  · rintro ds O Q E ⟨n, cs, rfl, hn, hcl, hcs, k⟩
    unfold VL.codeD
    walk_at "vw"
    refine ⟨_, _, _, rfl, T.cls 50, T.noat 51, rfl, ?_⟩
    walk_at "vw"
    refine ⟨_, _, _, rfl, T.cls 50, T.noat 52, rfl, ?_⟩
    walk_at "vw"
    refine ⟨n, cs, rfl, hn, hcl, hcs, fun L hL => ?_⟩
    walk_at "vw"
    exact k L hL
theorem c_l_pieces (T : Txt K mg) : Cal P w K mg base CX0 1 "_law_pieces" ["_law_bits", "_law_checks"] [] (VL.SpL K W_lpieces) := by
  obtain ⟨fd, F⟩ := T.c.def_ 21 (d := dd_l_pieces) rfl
  refine ⟨_, fd, [], VL.fnL' (CX := CX0) F sc_l_pieces ?_ (fun cdv A outer s H E hr => ⟨_, PSs.nox (pss_cons (ps_set (i := 2) sc_l_pieces.nd rfl (Or.inl rfl) (VL.pe_own (pe_lst pa_nil)))
 (pss_cons (ps_for PassesOwn.never rfl (pi_range1 rfl (T.free 8) (pa_cons (pv 0) pa_nil)) (pg_name (i := 3) sc_l_pieces.nd rfl (Or.inr rfl))
  (pss_one (ps_if (pt_not (pt_val (pe_callB (cr_any rfl) rfl (T.free 6) (by decide +kernel) (pa_cons (pe_lc (own := [("_law_piece", 4)]) (g := gName 4) (tt := tYes) rfl sc_l_pieces.nd (VL.pi_seq (pv 2)) (blkOk_by (N := ["_law_bits", "_law_checks", "_law_out", "_law_bit", "_law_piece", "_law_turn", "_law_lot_here", "_law_other"]) (sc := defScope s_l_pieces) (by decide +kernel)) (fun _ _ _ _ _ => (pg_name (i := 4) sc_l_pieces.nd rfl (Or.inl rfl))) (fun _ _ _ _ _ => pts_nil) (fun _ _ _ _ _ => (pe_cmpR (show OpR _ (compareOp .In) (rIn K false) from op_in_seq) (pv 3) (pv 4) rfl))) pa_nil))))
  (pss_cons (ps_set (i := 4) sc_l_pieces.nd rfl (Or.inr rfl) (pe_lst (pa_cons (pv 3) pa_nil)))
 (pss_cons (ps_for PassesOwn.never rfl (pi_range1 rfl (T.free 8) (pa_cons (pv 0) pa_nil)) (pg_name (i := 5) sc_l_pieces.nd rfl (Or.inl rfl))
  (pss_one (ps_for PassesOwn.never rfl (VL.pi_seq (pv 1)) (pg_name (i := 6) sc_l_pieces.nd rfl (Or.inl rfl))
  (pss_one (ps_if (pt_val (pe_callB (cr_any rfl) rfl (T.free 6) (by decide +kernel) (pa_cons (pe_lc (own := [("_law_other", 7)]) (g := gName 7) (tt := tYes) rfl sc_l_pieces.nd (VL.pi_seq (pv 6)) (blkOk_by (N := ["_law_bits", "_law_checks", "_law_out", "_law_bit", "_law_piece", "_law_turn", "_law_lot_here", "_law_other"]) (sc := defScope s_l_pieces) (by decide +kernel)) (fun _ _ _ _ _ => (pg_name (i := 7) sc_l_pieces.nd rfl (Or.inl rfl))) (fun _ _ _ _ _ => pts_nil) (fun _ _ _ _ _ => (pe_cmpR (show OpR _ (compareOp .In) (rIn K false) from op_in_seq) (pv 7) (pv 4) rfl))) pa_nil)))
  (pss_one (ps_set (i := 4) sc_l_pieces.nd rfl (Or.inr rfl) (pe_op op_cat (pv 4) (pe_lc (own := [("_law_other", 7)]) (g := gName 7) rfl sc_l_pieces.nd (VL.pi_seq (pv 6)) (blkOk_by (N := ["_law_bits", "_law_checks", "_law_out", "_law_bit", "_law_piece", "_law_turn", "_law_lot_here", "_law_other"]) (sc := defScope s_l_pieces) (by decide +kernel)) (fun _ _ _ _ _ => (pg_name (i := 7) sc_l_pieces.nd rfl (Or.inl rfl))) (fun _ _ _ _ _ => pts_one (pt_cmpR (show OpR _ (compareOp .NotIn) (rIn K true) from op_notIn_seq) (pv 7) (pv 4) rfl)) (fun _ _ _ _ _ => (pv 7))))))
  pss_nil)))))
 (pss_one (ps_expr (pe_bm PySem.F.plainAttrs_list PySem.F.slot_list_append PySem.F.type_list_append mt_append (pv 2) (pa_cons (pe_callTy MB.k_tupOf rfl (T.free 10) (by decide +kernel) (pa_cons (pe_callB VL.cr_sortedA rfl (T.free 13) (by decide +kernel) (pa_cons (pv 4) pa_nil)) pa_nil)) pa_nil))))))
  pss_nil)))
 (pss_one (ps_ret (pv 2))))), ?_⟩), T.glo 43, F.kp, F.bindsN fun _ _ _ _ _ _ us hl => match us, hl with | [_, _], _ => rfl, .nil⟩

  · rintro ds O Q E ⟨n, cs, rfl, _⟩; rfl
  · rintro ds O Q E ⟨n, cs, rfl, hn, hcl, hcs, k⟩
    walk_at "vw"
    intro r hr
    walk_at "vw"
    refine VL.s_for (VL.i_rng1 ?_)
    walk_at "vw"
    obtain ⟨L, hL⟩ : ∃ L, VL.Lab (VL.edgs cs) L := VL.Lab.ex _
    refine ⟨fun i ρ' O2 => ∃ (x y z v : Option VL.D), O2 = VL.updO O r (.lst (((VL.fsts L i).map (VL.pcOf L n)).map fun e => .tup (VL.natD e))) ∧ ρ' = [some (.int (n : Int)), some (.lst (rowsT cs)), some (.ref r), x, y, z, v, none],
      ⟨none, none, none, none, rfl, rfl⟩, fun _ _ _ _ => trivial, ?_, ?_⟩
    · rintro i d ρ' O2 hd ⟨x, y, z, v, rfl, rfl⟩
      obtain ⟨hi, rfl⟩ := VL.rngD_at hd
      rw [Int.toNat_natCast] at hi
      have hne : ∀ b, (VL.pcOf L n b).length ≤ n := pcOf_len L n
      have hfl := fsts_len L i
      walk_at "vw"
      refine VL.ln_map (fun d => .bl (inT (i : Int) d)) (VL.i_seq rfl ?_)
      walk_at "vw"
      refine ⟨_, VL.asS_own VL.updO_same, by rw [List.length_map, List.length_map]; omega, fun O2 ex => VL.asS_own (ex r _ VL.updO_same), fun j d O2 hd ex => ?_, ?_⟩
      · obtain ⟨e, rfl⟩ : ∃ e, d = .tup (VL.natD e) := by
          rw [List.getElem?_map] at hd
          cases h : ((VL.fsts L i).map (VL.pcOf L n))[j]? with
          | none => rw [h] at hd; cases hd
          | some e => rw [h] at hd; cases hd; exact ⟨e, rfl⟩
        walk_at "vw"
        refine VL.o_inI (ns := e.map fun (k : Nat) => (k : Int)) rfl (by show some _ = _; rw [List.map_map]; rfl) ?_
        exact ⟨by rw [inT_nat, Int.zero_add]; congr 1; exact decide_eq_decide.mpr (mem_cast _ _), rfl⟩
      · walk_at "vw"
        have hany : ((((VL.fsts L i).map (VL.pcOf L n)).map fun e => VL.D.tup (VL.natD e)).any (inT (i : Int))) = (((VL.fsts L i).map (VL.pcOf L n)).any fun e => decide (i ∈ e)) := by
          rw [List.any_map]
          congr 1
          funext e
          exact inT_nat i e
        rw [hany]
        by_cases hb : ∃ b ∈ VL.fsts L i, L b = L i
        · rw [(VL.fsts_if hi).mpr hb]
          walk_at "vw"
          obtain ⟨b, hb, eb⟩ := hb
          exact ⟨_, y, z, v, by rw [VL.fsts_old hb eb], rfl⟩
        · rw [show (((VL.fsts L i).map (VL.pcOf L n)).any fun e => decide (i ∈ e)) = false from by
            rw [← Bool.not_eq_true]; exact fun h => hb ((VL.fsts_if hi).mp h)]
          simp only [Bool.not_false, if_true]
          walk_at "vw"
          rw [Int.zero_add]
          have hlot : ∀ c ∈ cs, VL.Lot n c := fun c h => (hcs c h).1
          have hfn := VL.fsts_new (L := L) (i := i) fun b hb' e => hb ⟨b, hb', e⟩
          generalize hX : VL.OD.lst (((VL.fsts L i).map (VL.pcOf L n)).map fun e => VL.D.tup (VL.natD e)) = X
          refine VL.s_post (fun ρ' O2 => ∃ (ms : List Int) (z v : Option VL.D), O2 = VL.updO O r X ∧ VL.Pc L n i ms ∧ (∀ c ∈ cs, VL.Clo ms c) ∧ ρ' = [some (.int (n : Int)), some (.lst (rowsT cs)), some (.ref r), some (.int (i : Int)), some (.lst (ms.map VL.D.int)), z, v, none]) ?_ ?_
          · refine VL.s_for (VL.i_rng1 ?_)
            walk_at "vw"
            refine ⟨fun t ρ' O2 => ∃ (ms : List Int) (z v : Option VL.D), O2 = VL.updO O r X ∧ VL.Pc L n i ms ∧ (t + 1 ≤ ms.length ∨ ∀ c ∈ cs, VL.Clo ms c) ∧ ρ' = [some (.int (n : Int)), some (.lst (rowsT cs)), some (.ref r), some (.int (i : Int)), some (.lst (ms.map VL.D.int)), z, v, none],
              ⟨[(i : Int)], z, v, rfl, VL.Pc.start hi, .inl (Nat.le_refl _), rfl⟩, fun _ _ _ _ => trivial, ?_, ?_⟩
            · rintro t d ρ' O2 hd2 ⟨ms, z, v, rfl, pc, hor, rfl⟩
              obtain ⟨ht, rfl⟩ := VL.rngD_at hd2
              walk_at "vw"
              refine VL.s_for (VL.i_seq rfl ?_)
              walk_at "vw"
              refine ⟨rowsT cs, rfl, fun j ρ' O2 => ∃ (ns : List Int) (v : Option VL.D), O2 = VL.updO O r X ∧ VL.Pc L n i ns ∧ ((ns = ms ∧ ∀ c ∈ cs.take j, VL.Clo ms c) ∨ (ms.length < ns.length ∧ ¬ ∀ c ∈ cs, VL.Clo ms c)) ∧ ρ' = [some (.int (n : Int)), some (.lst (rowsT cs)), some (.ref r), some (.int (i : Int)), some (.lst (ns.map VL.D.int)), some (.int (0 + (t : Int))), v, none],
                ⟨ms, v, rfl, pc, .inl ⟨rfl, fun c h => by cases h⟩, rfl⟩, fun _ _ _ _ => rfl, ?_, ?_⟩
              · rintro j d ρ' O2 hd3 ⟨ns, v, rfl, pn, hor2, rfl⟩
                obtain ⟨c, hc, rfl⟩ := VL.rows_at hd3
                have hcm := List.mem_of_getElem? hc
                have hcl2 : c.length ≤ n := by
                  have := VL.Lot.len (n := n) (hlot c hcm) (by omega)
                  omega
                have hnl := pn.len
                have pn2 := pn.step hL hcm (hlot c hcm)
                have hnext : (VL.stp ns c = ms ∧ ∀ c ∈ cs.take (j + 1), VL.Clo ms c) ∨ (ms.length < (VL.stp ns c).length ∧ ¬ ∀ c ∈ cs, VL.Clo ms c) := by
                  rcases hor2 with ⟨rfl, h⟩ | ⟨h, h2⟩
                  · rcases VL.stp_len (ms := ns) (c := c) with h3 | h3
                    · refine .inl ⟨VL.stp_clo h3, fun c' hc' => ?_⟩
                      rw [List.take_add_one, hc] at hc'
                      rcases List.mem_append.mp hc' with h4 | h4
                      · exact h c' h4
                      · simp at h4; subst h4; exact h3
                    · refine .inr ⟨h3, fun h4 => ?_⟩
                      rw [VL.stp_clo (h4 c hcm)] at h3
                      omega
                  · refine .inr ⟨?_, h2⟩
                    rcases VL.stp_len (ms := ns) (c := c) with h3 | h3
                    · rw [VL.stp_clo h3]; exact h
                    · omega
                have hints : ∀ {m : Nat} {d : VL.D}, (c.map VL.D.int)[m]? = some d → ∃ b ∈ c, d = .int b := fun {m d} h => by
                  rw [List.getElem?_map] at h
                  cases e : c[m]? with
                  | none => rw [e] at h; cases h
                  | some b => rw [e] at h; cases h; exact ⟨b, List.mem_of_getElem? e, rfl⟩
                walk_at "vw"
                refine VL.ln_map (fun d => .bl (decide (VL.toI d ∈ ns))) (VL.i_seq rfl ?_)
                walk_at "vw"
                refine ⟨_, rfl, by rw [List.length_map]; omega, fun _ _ => rfl, fun m d O3 hd4 ex => ?_, ?_⟩
                · obtain ⟨b, _, rfl⟩ := hints hd4
                  walk_at "vw"
                  exact ⟨rfl, rfl⟩
                · walk_at "vw"
                  have hany2 : (c.map VL.D.int).any (fun d => decide (VL.toI d ∈ ns)) = c.any fun x => decide (x ∈ ns) := by rw [List.any_map]; rfl
                  rw [hany2]
                  by_cases hb2 : (c.any fun x => decide (x ∈ ns)) = true
                  · have hstp : VL.stp ns c = ns ++ c.filter fun x => decide (x ∉ ns) := by unfold VL.stp; rw [if_pos hb2]
                    rw [if_pos hb2]
                    walk_at "vw"
                    refine VL.ln_lcP (fun d => decide (VL.toI d ∉ ns)) id (VL.i_seq rfl ?_)
                    walk_at "vw"
                    refine ⟨_, rfl, by rw [List.length_map]; exact VL.le_line (by omega), fun _ _ _ => rfl, fun m d A acc hd4 hA => ?_, ?_⟩
                    · obtain ⟨b, _, rfl⟩ := hints hd4
                      walk_at "vw"
                      refine ⟨⟨?_, rfl⟩, fun _ => ?_⟩
                      · show (!decide (b ∈ ns)) = decide (b ∉ ns)
                        by_cases h : b ∈ ns <;> simp [h]
                      · walk_at "vw"
                        exact ⟨rfl, rfl⟩
                    · have hf : ((c.map VL.D.int).filter fun d => decide (VL.toI d ∉ ns)).map id = (c.filter fun x => decide (x ∉ ns)).map VL.D.int := by rw [List.map_id, List.filter_map]; rfl
                      rw [hf]
                      have hfl2 := List.length_filter_le (fun x => decide (x ∉ ns)) c
                      refine VL.o_cat rfl rfl (VL.le_line (by rw [List.length_map, List.length_map]; omega)) ?_
                      walk_at "vw"
                      exact ⟨VL.stp ns c, _, rfl, pn2, hnext, by rw [hstp, List.map_append]; rfl⟩
                  · have hstp : VL.stp ns c = ns := by unfold VL.stp; rw [if_neg hb2]
                    rw [if_neg hb2]
                    walk_at "vw"
                    rw [hstp] at hnext pn2
                    exact ⟨ns, _, rfl, pn2, hnext, rfl⟩
              · rintro ρ' O2 ⟨ns, v, rfl, pn, hor2, rfl⟩
                rw [List.length_map, List.take_length] at hor2
                refine ⟨ns, _, v, rfl, pn, ?_, rfl⟩
                rcases hor2 with ⟨rfl, h⟩ | ⟨h, h2⟩
                · exact .inr h
                · rcases hor with h3 | h3
                  · exact .inl (by omega)
                  · exact absurd h3 h2
            · rintro ρ' O2 ⟨ms, z, v, rfl, pc, hor, rfl⟩
              rw [VL.rngD_len, Int.toNat_natCast] at hor
              refine ⟨ms, z, v, rfl, pc, ?_, rfl⟩
              have := pc.len
              rcases hor with h | h
              · omega
              · exact h
          · rintro ρ' O2 ⟨ms, z, v, rfl, pc, hclo, rfl⟩
            show VL.LS _ _ _ _ _
            walk_at "vw"
            subst hX
            refine ⟨⟨_, VL.asL_own VL.updO_same⟩, ?_⟩
            walk_at "vw"
            refine VL.k_sortedA (ns := ms) rfl rfl fun ss pm so => ?_
            walk_at "vw"
            refine VL.m_append VL.updO_same (VL.lt_line (by rw [List.length_map, List.length_map]; omega)) ?_
            rw [VL.updO_updO]
            exact ⟨_, _, z, v, by rw [pc.whole hL hlot hclo pm so, hfn, List.map_append, List.map_append]; rfl, rfl⟩
    · rintro ρ' O2 ⟨x, y, z, v, rfl, rfl⟩
      rw [VL.rngD_len, Int.toNat_natCast]
      refine VL.s_freeze (i := 2) (p := r) rfl VL.updO_same ?_
      rw [VL.delO_updO hr]
      walk_at "vw"
      exact k L hL
end
end K80
namespace K80
open PySem PySem.Spec PyProof.Rows L2 MB
def W_way : VL.WL := fun ds O Q _ => ∃ (lr : Addr) (qs : List Addr) (es : List (List Nat)) (n s g : Nat), ds = [.ref lr, .int (s : Int), .int (g : Int)] ∧ O lr = some (.lst (qs.map VL.D.ref)) ∧ qs.length = es.length ∧ es.length = n ∧ (∀ (i : Nat) (p : Addr) (e : List Nat), qs[i]? = some p → es[i]? = some e → O p = some (.lst (VL.natD e))) ∧ n ≤ 1000 ∧ (∀ e ∈ es, ∀ y ∈ e, y < n) ∧ s < n ∧ g < n ∧
  (∀ S : Nat → Prop, S s → ¬ S g → (∀ x y, S x → VL.Adj es x y → S y) → Q .non O) ∧ ∀ ws, VL.IsWay es s g ws → Q (.lst (VL.natD ws)) O
section
variable {P : Program} {w : World} {K : PySem.W.Frag} {mg : Str → Option Value} {base : Heap}
theorem c_way_between (T : Txt K mg) : Cal P w K mg base CX0 1 "way_between" ["links", "start", "goal"] [] (VL.SpL K W_way) := by
  obtain ⟨fd, F⟩ := T.c.def_ 6 (d := dd_way_between) rfl
  refine ⟨_, fd, [], VL.fnL' (CX := CX0) F sc_way_between ?_ (fun cdv A outer s H E hr => ⟨_, PSs.nox (pss_cons (ps_set (i := 3) sc_way_between.nd rfl (Or.inl rfl) (pe_disp (pps_cons (pv 1) pe_non pps_nil) (by rfl) (by rfl) (fun z => by cases z) (by decide)))
 (pss_cons (ps_set (i := 4) sc_way_between.nd rfl (Or.inl rfl) (VL.pe_own (pe_lst (pa_cons (pv 1) pa_nil))))
 (pss_cons (ps_while PassesOwn.never (pt_cmpR op_gt (pe_callB MB.k_len rfl (T.free 3) PySem.boot_len (pa_cons (pv 4) pa_nil)) pe_int (nomark _))
  (pss_cons (ps_set (i := 5) sc_way_between.nd rfl (Or.inl rfl) (pe_bm0 PySem.F.plainAttrs_list PySem.F.slot_list_pop PySem.F.type_list_pop mt_pop (pv 4)))
 (pss_one (ps_for PassesOwn.never rfl (VL.pi_seq (pe_ix ix_seq (pv 0) (pv 5) (fun _ _ => rfl))) (pg_name (i := 6) sc_way_between.nd rfl (Or.inl rfl))
  (pss_one (ps_if (pt_cmp (pc_dnotin (VL.u1 hr.units) (pv 6) (pv 3)))
  (pss_cons (ps_dput (VL.u1 hr.units) (pv 3) (pv 6) (pv 5) rfl)
 (pss_one (ps_expr (pe_bm PySem.F.plainAttrs_list PySem.F.slot_list_append PySem.F.type_list_append mt_append (pv 4) (pa_cons (pv 6) pa_nil)))))
  pss_nil))))))
 (pss_cons (ps_if (pt_cmp (pc_dnotin (VL.u1 hr.units) (pv 2) (pv 3)))
  (pss_one (ps_ret pe_non))
  pss_nil)
 (pss_cons (ps_set (i := 7) sc_way_between.nd rfl (Or.inl rfl) (VL.pe_own (pe_lst (pa_cons (pv 2) pa_nil))))
 (pss_cons (ps_while PassesOwn.never (pt_cmpR (VL.op_neX hr.units) (pe_ix ix_seq (pv 7) (pe_un un_neg pe_int) (fun _ _ => rfl)) (pv 1) (nomark _))
  (pss_one (ps_expr (pe_bm PySem.F.plainAttrs_list PySem.F.slot_list_append PySem.F.type_list_append mt_append (pv 7) (pa_cons (pe_dget (VL.u1 hr.units) (pv 3) (pe_ix ix_seq (pv 7) (pe_un un_neg pe_int) (fun _ _ => rfl)) (fun _ _ => rfl)) pa_nil)))))
 (pss_one (ps_ret (pe_revL (pv 7)))))))))), ?_⟩), T.glo 28, F.kp, F.bindsN fun _ _ _ _ _ _ us hl => match us, hl with | [_, _, _], _ => rfl, .nil⟩

  · rintro ds O Q E ⟨lr, qs, es, n, s, g, rfl, _⟩; rfl
  · rintro ds O Q E ⟨lr, qs, es, n, s, g, rfl, hlr, hql, hel, hat, hn, hlt, hs, hg, kN, kW⟩
    walk_at "vw"
    refine VL.l_disp1 fun b hb => ?_
    walk_at "vw"
    refine ⟨VL.updO_same, _, rfl, ?_⟩
    rw [VL.updO_updO]
    walk_at "vw"
    intro wr hwr
    have nbw : b ≠ wr := VL.ne_of VL.updO_same hwr
    have hwO : O wr = none := VL.new_old hwr
    walk_at "vw"
    have hlb : lr ≠ b := VL.ne_of hlr hb
    have hlw : lr ≠ wr := VL.ne_of hlr hwO
    have hOB : ∀ {a : Addr} {u : VL.OD} (bs : List (Nat × Nat)) (ws : List Nat), O a = some u → VL.updO (VL.updO O b (.dk (VL.dkB s bs))) wr (.lst (VL.natD ws)) a = some u := fun {a u} bs ws h => by
      rw [VL.updO_ne (VL.ne_of h hwO), VL.updO_ne (VL.ne_of h hb)]; exact h
    refine VL.s_post (fun ρ' O2 => ∃ (bs : List (Nat × Nat)) (x y : Option VL.D), O2 = VL.updO (VL.updO O b (.dk (VL.dkB s bs))) wr (.lst (VL.natD [])) ∧ VL.Bf es n s bs ∧ (∀ k ∈ VL.kys s bs, ∀ y, VL.Adj es k y → y ∈ VL.kys s bs) ∧ ρ' = [some (.ref lr), some (.int (s : Int)), some (.int (g : Int)), some (.ref b), some (.ref wr), x, y, none]) ?_ ?_
    · refine VL.s_while (fun m ρ' O2 => ∃ (bs : List (Nat × Nat)) (ws : List Nat) (x y : Option VL.D), O2 = VL.updO (VL.updO O b (.dk (VL.dkB s bs))) wr (.lst (VL.natD ws)) ∧ VL.Bf es n s bs ∧ (∀ w ∈ ws, w ∈ VL.kys s bs) ∧ (∀ k ∈ VL.kys s bs, k ∉ ws → ∀ y, VL.Adj es k y → y ∈ VL.kys s bs) ∧ m = ws.length + 2 * (n - (bs.length + 1)) ∧ ws.length ≤ bs.length + 1 ∧ ρ' = [some (.ref lr), some (.int (s : Int)), some (.int (g : Int)), some (.ref b), some (.ref wr), x, y, none]) ⟨_, [], [s], none, none, rfl, VL.Bf.start hs, (fun w hw => hw), (fun k hk hn => absurd hk hn), rfl, Nat.le_refl _, rfl⟩ ?_
      rintro m ρ' O2 ⟨bs, ws, x, y, rfl, bf, hws, hcl, rfl, hwb, rfl⟩
      have hwl : (VL.natD ws).length = ws.length := by unfold VL.natD; rw [List.length_map]
      walk_at "vw"
      refine if_d (fun hpos => ?_) (fun hpos => ?_)
      · obtain ⟨ws1, pl, rfl⟩ : ∃ ws1 pl, ws = ws1 ++ [pl] := by
          rcases List.eq_nil_or_concat ws with h | ⟨a, c, h⟩
          · subst h; simp [VL.natD] at hpos
          · exact ⟨a, c, by simpa using h⟩
        have hpk := hws pl (by simp)
        have hpn := bf.lt pl hpk
        obtain ⟨e, he⟩ : ∃ e, es[pl]? = some e := ⟨_, List.getElem?_eq_getElem (by omega)⟩
        obtain ⟨q, hq⟩ : ∃ q, qs[pl]? = some q := ⟨_, List.getElem?_eq_getElem (by omega)⟩
        have hO := hat pl q e hq he
        walk_at "vw"
        refine VL.m_pop (xs := VL.natD ws1) (d := .int (pl : Int)) (by rw [VL.updO_same]; unfold VL.natD; rw [List.map_append]; rfl) ?_
        rw [VL.updO_updO]
        walk_at "vw"
        have hbl := bf.len
        refine VL.s_for (VL.i_seq rfl ?_)
        walk_at "vw"
        refine VL.o_ixQ rfl (VL.asS_own (hOB bs ws1 hlr)) (natA (d := .ref q) pl (by rw [List.getElem?_map, hq]; rfl)) ?_
        refine ⟨VL.natD e, VL.asS_own (hOB bs ws1 hO), fun j ρ' O2 => ∃ (bs2 : List (Nat × Nat)) (ws2 : List Nat) (y : Option VL.D), O2 = VL.updO (VL.updO O b (.dk (VL.dkB s bs2))) wr (.lst (VL.natD ws2)) ∧ VL.Bf es n s bs2 ∧ (∀ w ∈ ws2, w ∈ VL.kys s bs2) ∧ pl ∈ VL.kys s bs2 ∧ (∀ k ∈ VL.kys s bs2, k ∉ ws2 → k ≠ pl → ∀ y, VL.Adj es k y → y ∈ VL.kys s bs2) ∧ (∀ y ∈ e.take j, y ∈ VL.kys s bs2) ∧ ws2.length + 2 * (n - (bs2.length + 1)) ≤ ws1.length + 2 * (n - (bs.length + 1)) ∧ ws2.length ≤ bs2.length + 1 ∧ ρ' = [some (.ref lr), some (.int (s : Int)), some (.int (g : Int)), some (.ref b), some (.ref wr), some (.int (pl : Int)), y, none],
          ⟨bs, ws1, y, rfl, bf, (fun w hw => hws w (List.mem_append.mpr (.inl hw))), hpk, ?_, (fun y h => by cases h), Nat.le_refl _, ?_, rfl⟩, ?_, ?_, ?_⟩
        · intro k hk hn1 hn2
          refine hcl k hk fun h => ?_
          rcases List.mem_append.mp h with h | h
          · exact hn1 h
          · rw [List.mem_singleton] at h; exact hn2 h
        · rw [List.length_append, List.length_singleton] at hwb
          omega
        · rintro j ρ' O2 ⟨bs2, ws2, y, rfl, _⟩
          exact VL.asS_own (hOB bs2 ws2 hO)
        · rintro j d ρ' O2 hd ⟨bs2, ws2, y, rfl, bf2, hws2, hpk2, hcl2, htk, hms, hwl2, rfl⟩
          obtain ⟨z, hz, rfl⟩ : ∃ z, e[j]? = some z ∧ d = .int (z : Int) := by
            unfold VL.natD at hd
            rw [List.getElem?_map] at hd
            cases h : e[j]? with
            | none => rw [h] at hd; cases hd
            | some z => rw [h] at hd; cases hd; exact ⟨z, rfl, rfl⟩
          have hze := List.mem_of_getElem? hz
          have hzn := hlt e (List.mem_of_getElem? he) z hze
          have hbl2 := bf2.len
          have hdk : VL.updO (VL.updO O b (.dk (VL.dkB s bs2))) wr (.lst (VL.natD ws2)) b = some (.dk (VL.dkB s bs2)) := by
            rw [VL.updO_ne nbw, VL.updO_same]
          have htk2 : ∀ {bs3 : List (Nat × Nat)}, (∀ y ∈ e.take j, y ∈ VL.kys s bs3) → z ∈ VL.kys s bs3 → ∀ y ∈ e.take (j + 1), y ∈ VL.kys s bs3 := fun {bs3} h1 h2 y hy => by
            rw [List.take_add_one, hz] at hy
            rcases List.mem_append.mp hy with h | h
            · exact h1 y h
            · simp at h; subst h; exact h2
          walk_at "vw"
          refine VL.l_dnotin ?_
          walk_at "vw"
          refine ⟨b, z, _, rfl, rfl, hdk, _, rfl, ?_⟩
          rw [VL.dkB_is bf2.nd]
          by_cases hk : z ∈ VL.kys s bs2
          · rw [decide_eq_true hk]
            walk_at "vw"
            exact ⟨bs2, ws2, _, rfl, bf2, hws2, hpk2, hcl2, htk2 htk hk, hms, hwl2, rfl⟩
          · rw [decide_eq_false hk]
            simp only [Bool.not_false, if_true]
            walk_at "vw"
            refine VL.s_dput ?_
            walk_at "vw"
            refine ⟨b, z, _, rfl, rfl, hdk, VL.lt_line (by unfold VL.dkB VL.bfD; rw [List.length_cons, List.length_map]; omega), ?_⟩
            rw [VL.dkB_put hk, VL.updO_comm (Ne.symm nbw), VL.updO_updO]
            walk_at "vw"
            have bf3 := bf2.add hk hpk2 ⟨e, he, hze⟩ hzn
            have hbl3 := bf3.len
            rw [List.length_append, List.length_singleton] at hbl3
            refine VL.m_append VL.updO_same (VL.lt_line (by unfold VL.natD; rw [List.length_map]; omega)) ?_
            rw [VL.updO_updO, natD_snoc]
            have hks : ∀ {k}, k ∈ VL.kys s bs2 → k ∈ VL.kys s (bs2 ++ [(z, pl)]) := fun {k} h => by rw [VL.kys_snoc]; exact List.mem_append.mpr (.inl h)
            have hkz : z ∈ VL.kys s (bs2 ++ [(z, pl)]) := by rw [VL.kys_snoc]; simp
            refine ⟨bs2 ++ [(z, pl)], ws2 ++ [z], _, rfl, bf3, fun w hw => ?_, hks hpk2, fun k hk1 hk2 hk3 y hy => ?_, htk2 (fun y hy => hks (htk y hy)) hkz, ?_, ?_, rfl⟩
            · rcases List.mem_append.mp hw with h | h
              · exact hks (hws2 w h)
              · rw [List.mem_singleton] at h; subst h; exact hkz
            · rw [VL.kys_snoc] at hk1
              rcases List.mem_append.mp hk1 with h | h
              · exact hks (hcl2 k h (fun h2 => hk2 (List.mem_append.mpr (.inl h2))) hk3 y hy)
              · rw [List.mem_singleton] at h; exact absurd (by rw [h]; simp) hk2
            · rw [List.length_append, List.length_append, List.length_singleton, List.length_singleton]; omega
            · rw [List.length_append, List.length_append, List.length_singleton, List.length_singleton]; omega
        · rintro ρ' O2 ⟨bs2, ws2, y, rfl, bf2, hws2, hpk2, hcl2, htk, hms, hwl2, rfl⟩
          have hel2 : (VL.natD e).length = e.length := by unfold VL.natD; rw [List.length_map]
          rw [hel2, List.take_length] at htk
          refine ⟨_, ?_, bs2, ws2, _, y, rfl, bf2, hws2, fun k hk hn1 z hz => ?_, rfl, hwl2, rfl⟩
          · rw [List.length_append, List.length_singleton]; omega
          · by_cases hkp : k = pl
            · subst hkp
              obtain ⟨e', h1, h2⟩ := hz
              rw [he] at h1; cases h1
              exact htk z h2
            · exact hcl2 k hk hn1 hkp z hz
      · have h0 : ws = [] := by
          cases ws with
          | nil => rfl
          | cons a t => rw [hwl, List.length_cons] at hpos; omega
        subst h0
        exact ⟨bs, x, y, rfl, bf, fun k hk => hcl k hk (fun h => by cases h), rfl⟩
    · rintro ρ' O2 ⟨bs, x, y, rfl, bf, hcl, rfl⟩
      show VL.LS _ _ _ _ _
      walk_at "vw"
      have hdk : VL.updO (VL.updO O b (.dk (VL.dkB s bs))) wr (.lst (VL.natD [])) b = some (.dk (VL.dkB s bs)) := by
        rw [VL.updO_ne nbw, VL.updO_same]
      have hdel : VL.delO (VL.delO (VL.updO (VL.updO O b (.dk (VL.dkB s bs))) wr (.lst (VL.natD []))) wr) b = O := by
        rw [VL.delO_updO (by rw [VL.updO_ne (Ne.symm nbw)]; exact hwO), VL.delO_updO hb]
      have hbl := bf.len
      refine VL.l_dnotin ?_
      walk_at "vw"
      refine ⟨b, g, _, rfl, rfl, hdk, _, rfl, ?_⟩
      rw [VL.dkB_is bf.nd]
      by_cases hk : g ∈ VL.kys s bs
      · rw [decide_eq_true hk]
        simp only [Bool.not_true, Bool.false_eq_true, if_false]
        walk_at "vw"
        intro yr hyr
        have nby : b ≠ yr := VL.ne_of hdk hyr
        walk_at "vw"
        refine VL.s_post (fun ρ' O2 => ∃ (w0 : List Nat), O2 = VL.updO (VL.updO (VL.updO O b (.dk (VL.dkB s bs))) wr (.lst (VL.natD []))) yr (.lst (VL.natD (w0 ++ [s]))) ∧ VL.Bk es s g bs w0 s ∧ ρ' = [some (.ref lr), some (.int (s : Int)), some (.int (g : Int)), some (.ref b), some (.ref wr), x, y, some (.ref yr)]) ?_ ?_
        · refine VL.s_while (fun m ρ' O2 => ∃ (w0 : List Nat) (l : Nat), O2 = VL.updO (VL.updO (VL.updO O b (.dk (VL.dkB s bs))) wr (.lst (VL.natD []))) yr (.lst (VL.natD (w0 ++ [l]))) ∧ VL.Bk es s g bs w0 l ∧ w0.length + (VL.kys s bs).idxOf l ≤ n ∧ m = (VL.kys s bs).idxOf l ∧ ρ' = [some (.ref lr), some (.int (s : Int)), some (.int (g : Int)), some (.ref b), some (.ref wr), x, y, some (.ref yr)]) ⟨_, [], g, rfl, VL.Bk.start hk, ?_, rfl, rfl⟩ ?_
          · have := List.idxOf_lt_length_of_mem hk
            unfold VL.kys at *
            rw [List.length_cons, List.length_map] at this
            simp only [List.length_nil]
            omega
          · rintro m ρ' O2 ⟨w0, l, rfl, bk, hwn, rfl, rfl⟩
            have hlast : atI (VL.natD (w0 ++ [l])) (-1) = some (.int (l : Int)) := by
              rw [← natD_snoc]; exact VL.at_last
            have hdk2 : VL.updO (VL.updO (VL.updO O b (.dk (VL.dkB s bs))) wr (.lst (VL.natD []))) yr (.lst (VL.natD (w0 ++ [l]))) b = some (.dk (VL.dkB s bs)) := by
              rw [VL.updO_ne nby]; exact hdk
            walk_at "vw"
            refine VL.o_ixQ rfl (VL.asS_own VL.updO_same) hlast ?_
            walk_at "vw"
            by_cases hls : l = s
            · subst hls
              rw [show (!decide (V.int (l : Int) = V.int (l : Int))) = false by simp]
              exact ⟨w0, rfl, bk, rfl⟩
            · rw [show (!decide (V.int (l : Int) = V.int (s : Int))) = true by simp; omega]
              obtain ⟨p, h1, h2, h3, h4⟩ := bf.back bk.me hls
              simp only [if_true]
              walk_at "vw"
              refine VL.l_dget ?_
              walk_at "vw"
              refine VL.o_ixQ rfl (VL.asS_own VL.updO_same) hlast ?_
              refine ⟨b, l, _, _, rfl, rfl, hdk2, h1, ?_⟩
              walk_at "vw"
              refine VL.m_append VL.updO_same (VL.lt_line (by unfold VL.natD; rw [List.length_map, List.length_append, List.length_singleton]; omega)) ?_
              rw [VL.updO_updO, natD_snoc]
              exact ⟨_, h4, w0 ++ [l], p, rfl, bk.add h2 h3 h4, by rw [List.length_append, List.length_singleton]; omega, rfl, rfl⟩
        · rintro ρ' O2 ⟨w0, rfl, bk, rfl⟩
          show VL.LS _ _ _ _ _
          refine VL.s_ret (VL.l_del b (VL.l_del wr (VL.l_del yr ?_)))
          refine VL.l_frz (VL.ln_revL rfl ?_)
          walk_at "vw"
          refine ⟨_, VL.asL_own VL.updO_same, ?_⟩
          rw [VL.delO_updO hyr, hdel]
          have := kW _ bk.way
          have e : (VL.natD (w0 ++ [s])).reverse = VL.natD (w0 ++ [s]).reverse := by unfold VL.natD; rw [List.map_reverse]
          rw [e]
          exact this
      · rw [decide_eq_false hk]
        simp only [Bool.not_false, if_true]
        refine VL.s_ret (VL.l_del b (VL.l_del wr ?_))
        walk_at "vw"
        rw [hdel]
        exact kN (fun x => x ∈ VL.kys s bs) (List.mem_cons_self ..) hk fun x y h1 h2 => hcl x h1 y h2
end
end K80
namespace K80
open PySem PySem.Spec PyProof.Rows L2 MB
def W_ring (K : PySem.W.Frag) : VL.WL := fun ds O Q _ => ∃ (n : Nat) (cs : List (List Int)), ds = [VL.codeD (He.ga K "Code") n cs] ∧ n ≤ 60 ∧ cs.length ≤ 60 ∧ (∀ c ∈ cs, VL.Lot n c ∧ c ≠ []) ∧ (VL.RFree (VL.bips n cs) → Q .non O) ∧ ∀ r, VL.RingOk n cs r → ¬ VL.RFree (VL.bips n cs) → Q (.tup (VL.natD r)) O
section
variable {P : Program} {w : World} {K : PySem.W.Frag} {mg : Str → Option Value} {base : Heap}
theorem c_web_ring (T : Txt K mg) : Cal P w K mg base CX0 3 "web_ring" ["code"] [] (VL.SpL K (W_ring K)) := by
  have c_way_between := @c_way_between P w K mg base T
  obtain ⟨fd, F⟩ := T.c.def_ 7 (d := dd_web_ring) rfl
  refine ⟨_, fd, [], VL.fnL' (CX := CX0) F sc_web_ring ?_ (fun cdv A outer s H E hr => ⟨_, PSs.nox (pss_cons (VL.ps_own (ps_setLc (i := 1) (own := [("_", 6)]) (g := gName 6) (tt := tYes) rfl sc_web_ring.nd rfl rfl (sw_true rfl rfl rfl (by decide +kernel)) (pi_range1 rfl (T.free 8) (pa_cons (pe_op op_add (pe_fld (pv 0) rfl) (pe_callB (VL.cr_lenM (c_len T) (hr.mono (by decide)) pass0) rfl (T.free 3) PySem.boot_len (pa_cons (pv 0) pa_nil))) pa_nil)) (blkOk_by (N := ["code", "links", "number", "check", "bit", "way", "_", "place"]) (sc := defScope s_web_ring) (by decide +kernel)) (fun _ _ _ _ _ => (pg_name (i := 6) sc_web_ring.nd rfl (Or.inl rfl))) (fun _ _ _ _ _ => pts_nil) (fun _ _ _ _ _ => (VL.pe_own (pe_lst pa_nil)))))
 (pss_cons (ps_for PassesOwn.never rfl (VL.pi_enumA rfl (T.free 9) (pa_cons (pe_fld (pv 0) rfl) pa_nil)) (pg_tup rfl (pgs_cons (pg_name (i := 2) sc_web_ring.nd rfl (Or.inl rfl)) (pgs_cons (pg_name (i := 3) sc_web_ring.nd rfl (Or.inl rfl)) pgs_nil)))
  (pss_one (ps_for PassesOwn.never rfl (VL.pi_seq (pv 3)) (pg_name (i := 4) sc_web_ring.nd rfl (Or.inl rfl))
  (pss_cons (ps_set (i := 5) sc_web_ring.nd rfl (Or.inl rfl) (pe_cal c_way_between (hr.mono (by decide)) pass0 (pa_cons (pv 1) (pa_cons (pv 4) (pa_cons (pe_op op_add (pe_fld (pv 0) rfl) (pv 2)) pa_nil)))))
 (pss_cons (ps_if (pt_cmpR MB.k_notN (pv 5) pe_non (nomark _))
  (pss_one (ps_ret (pe_callTy MB.k_tupOf rfl (T.free 10) (by decide +kernel) (pa_cons (pe_lc (own := [("place", 7)]) (g := gName 7) (tt := tYes) rfl sc_web_ring.nd (VL.pi_seq (pv 5)) (blkOk_by (N := ["code", "links", "number", "check", "bit", "way", "_", "place"]) (sc := defScope s_web_ring) (by decide +kernel)) (fun _ _ _ _ _ => (pg_name (i := 7) sc_web_ring.nd rfl (Or.inl rfl))) (fun _ _ _ _ _ => pts_nil) (fun _ _ _ _ _ => (pe_ifExp (pt_cmpR op_lt (pv 7) (show PE _ _ (tFld K _ _) from (pe_fld (pv 0) rfl)) (nomark _)) (pv 7) (pe_op op_sub (pv 7) (show PE _ _ (tFld K _ _) from (pe_fld (pv 0) rfl)))))) pa_nil))))
  pss_nil)
 (pss_cons (ps_expr (pe_bm PySem.F.plainAttrs_list PySem.F.slot_list_append PySem.F.type_list_append mt_append (pe_ix ix_seq (pv 1) (pv 4) (fun _ _ => rfl)) (pa_cons (pe_op op_add (pe_fld (pv 0) rfl) (pv 2)) pa_nil)))
 (pss_one (ps_expr (pe_bm PySem.F.plainAttrs_list PySem.F.slot_list_append PySem.F.type_list_append mt_append (pe_ix ix_seq (pv 1) (pe_op op_add (pe_fld (pv 0) rfl) (pv 2)) (fun _ _ => rfl)) (pa_cons (pv 4) pa_nil))))))))))
 (pss_one (ps_ret pe_non)))), ?_⟩), T.glo 29, F.kp, F.bindsN fun _ _ _ _ _ _ us hl => match us, hl with | [_], _ => rfl, .nil⟩

  · rintro ds O Q E ⟨n, cs, rfl, _⟩; rfl
  · rintro ds O Q E ⟨n, cs, rfl, hn, hcl, hcs, kN, kR⟩
    unfold VL.codeD
    have hV : n + cs.length ≤ 120 := by omega
    walk_at "vw"
    refine VL.ln_lc (VL.i_rng1 ?_)
    walk_at "vw"
    refine ⟨_, _, _, rfl, T.cls 50, T.noat 51, rfl, ?_⟩
    walk_at "vw"
    refine VL.k_lenO ⟨_, _, rfl, _, rfl, by omega, by omega, ?_⟩
    walk_at "vw"
    refine fun L hL => ⟨fun i acc O2 => ∃ ps, acc = ps.map VL.D.ref ∧ VL.OwnRows O O2 L ps (List.replicate i []), ⟨[], rfl, VL.OwnRows.start hL⟩, ?_, ?_, ?_⟩
    · rintro i acc O2 ⟨ps, rfl, h⟩
      exact ⟨trivial, h.own⟩
    · rintro i d acc O2 hd ⟨ps, rfl, h⟩
      obtain ⟨hi, rfl⟩ := VL.rngD_at hd
      walk_at "vw"
      intro q hq
      have hl := h.len
      rw [List.length_replicate] at hl
      refine ⟨VL.lt_line (by rw [List.length_map]; omega), by rw [VL.updO_ne (VL.ne_of h.own hq)]; exact h.own, ps ++ [q], by rw [List.map_append]; rfl, ?_⟩
      rw [List.replicate_succ']
      exact h.step (e := []) hq
    · rintro acc O2 ⟨ps, rfl, h⟩ r hr
      rw [VL.rngD_len] at h
      have h := h.move hr
      rw [show ((n : Int) + (cs.length : Int)).toNat = n + cs.length by omega] at h
      generalize VL.updO (VL.delO O2 L) r (.lst (ps.map VL.D.ref)) = O3 at h
      walk_at "vw"
      have hadj0 : VL.adjI (List.replicate (n + cs.length) []) = List.replicate (n + cs.length) [] := by unfold VL.adjI; rw [List.map_replicate]; rfl
      rw [← hadj0] at h
      refine VL.s_for (VL.i_enumA rfl ?_)
      walk_at "vw"
      refine ⟨_, _, _, rfl, T.cls 50, T.noat 52, rfl, ?_⟩
      walk_at "vw"
      refine ⟨_, _, rfl, rfl, ?_⟩
      generalize hcd : VL.D.ins (He.ga K "Code") [("bits", .int (n : Int)), ("checks", .tup (cs.map fun c => .tup (c.map VL.D.int)))] = cd
      refine ⟨fun i ρ' O2 => ∃ (ps : List Addr) (adj : List (List Nat)) (x y z v : Option VL.D), VL.OwnRows O O2 r ps (VL.adjI adj) ∧ VL.AdjE (n + cs.length) adj (VL.bipF n 0 (cs.take i)) ∧ VL.RFree (VL.bipF n 0 (cs.take i)) ∧ ρ' = [some cd, some (.ref r), x, y, z, v, none, none],
        ⟨ps, _, none, none, none, none, h, VL.AdjE.start _, (fun i a b h => by simp [VL.bipF] at h), rfl⟩, fun _ _ _ _ => rfl, ?_, ?_⟩
      · rintro i d ρ' O2 hd ⟨ps, adj, x, y, z, v, ow, ae, rf, rfl⟩
        obtain ⟨t, ht, rfl⟩ := VL.enumD_at hd
        obtain ⟨c, hc, rfl⟩ := VL.rows_at ht
        obtain ⟨hlot, hne⟩ := hcs c (List.mem_of_getElem? hc)
        have hi := (List.getElem?_eq_some_iff.mp hc).1
        have hcn := VL.Lot.len (n := n) hlot (by omega)
        walk_at "vw"
        refine VL.s_for (VL.i_seq rfl ?_)
        walk_at "vw"
        refine ⟨_, rfl, fun j ρ' O2 => ∃ (ps : List Addr) (adj : List (List Nat)) (z v : Option VL.D), VL.OwnRows O O2 r ps (VL.adjI adj) ∧ VL.AdjE (n + cs.length) adj (VL.bipAt n cs i c j) ∧ VL.RFree (VL.bipAt n cs i c j) ∧ ρ' = [some cd, some (.ref r), some (.int (i : Int)), some (.tup (c.map VL.D.int)), z, v, none, none],
          ⟨ps, adj, z, v, ow, by unfold VL.bipAt; simpa using ae, by unfold VL.bipAt; simpa using rf, ?_⟩, fun _ _ _ _ => rfl, ?_, ?_⟩
        · rfl
        · rintro j d ρ' O2 hd2 ⟨ps, adj, z, v, ow, ae, rf, rfl⟩
          obtain ⟨b, hb, rfl⟩ := VL.map_int_at hd2
          have hbr := hlot.2 b (List.mem_of_getElem? hb)
          have hbn : b.toNat < n + cs.length := by omega
          obtain ⟨ea, hea⟩ : ∃ e, adj[b.toNat]? = some e := ⟨_, List.getElem?_eq_getElem (by rw [ae.len]; exact hbn)⟩
          obtain ⟨eb, heb⟩ : ∃ e, adj[n + i]? = some e := ⟨_, List.getElem?_eq_getElem (by rw [ae.len]; omega)⟩
          have hsplit := VL.bipAt_split (n := n) hc hb
          walk_at "vw"
          subst hcd
          refine ⟨_, _, _, rfl, T.cls 50, T.noat 51, rfl, ?_⟩
          walk_at "vw"
          refine ⟨r, ps, adj, n + cs.length, b.toNat, n + i, ?_, ow.own, by rw [ow.len]; unfold VL.adjI; rw [List.length_map], ae.len, fun x p e h1 h2 => ?_, by omega, ae.lt, hbn, by omega, fun S hS hG hclo => ?_, fun ws w => ?_⟩
          · rw [Int.toNat_of_nonneg hbr.1, Int.natCast_add]
          · obtain ⟨p', h3, h4⟩ := VL.own_at ow h2
            rw [h1] at h3; cases h3; exact h4
          · have hcn2 : ¬ VL.Cn (VL.bipAt n cs i c j) b.toNat (n + i) := fun z => hG ((ae.cn hclo z).mp hS)
            walk_at "vw"
            have hbz : ((b.toNat : Nat) : Int) = b := Int.toNat_of_nonneg hbr.1
            have hfew : (VL.bipAt n cs i c j).length ≤ 3600 := by
              obtain ⟨fs, e⟩ := hsplit
              have h1 := VL.bips_few (n := n) (cs := cs) fun c hc => (hcs c hc).1
              have h2 : cs.length * n ≤ 60 * 60 := Nat.mul_le_mul (by omega) (by omega)
              rw [e, List.length_append] at h1
              omega
            obtain ⟨pb, hpb, hOb⟩ := VL.own_at ow hea
            have hat1 : atI (ps.map VL.D.ref) b = some (.ref pb) := by
              rw [← hbz]; exact natA b.toNat (by rw [List.getElem?_map, hpb]; rfl)
            refine VL.o_ixQ rfl (VL.asS_own ow.own) hat1 ?_
            refine ⟨⟨_, VL.asL_own hOb⟩, ?_⟩
            walk_at "vw"
            refine ⟨_, _, _, rfl, T.cls 50, T.noat 51, rfl, ?_⟩
            walk_at "vw"
            have hf1 := ae.few ea (List.mem_of_getElem? hea)
            have hf2 := ae.few eb (List.mem_of_getElem? heb)
            refine VL.m_append hOb (VL.lt_line (by unfold VL.natD; rw [List.length_map]; omega)) ?_
            rw [← Int.natCast_add, natD_snoc]
            have own1 := VL.own_push ow (y := n + i) (e := ea) hpb
            have hne2 : b.toNat ≠ n + i := by omega
            have hb2 : (adj.set b.toNat (ea ++ [n + i]))[n + i]? = some eb := by rw [List.getElem?_set_ne hne2]; exact heb
            obtain ⟨pc, hpc, hOc⟩ := VL.own_at own1 hb2
            have own2 := VL.own_push own1 (y := b.toNat) (e := eb) hpc
            walk_at "vw"
            refine ⟨_, _, _, rfl, T.cls 50, T.noat 51, rfl, ?_⟩
            walk_at "vw"
            rw [← Int.natCast_add]
            refine VL.o_ixQ rfl (VL.asS_own own1.own) (natA (d := .ref pc) (n + i) (by rw [List.getElem?_map, hpc]; rfl)) ?_
            refine ⟨⟨_, VL.asL_own hOc⟩, ?_⟩
            walk_at "vw"
            refine VL.m_append hOc (VL.lt_line (by unfold VL.natD; rw [List.length_map]; omega)) ?_
            have e3 : VL.natD eb ++ [.int b] = VL.natD (eb ++ [b.toNat]) := by rw [← natD_snoc, hbz]
            rw [e3]
            refine ⟨ps, _, _, _, own2, ?_, ?_, rfl⟩
            · rw [VL.bipAt_step hb]; exact ae.add hea heb hne2
            · rw [VL.bipAt_step hb]; exact rf.snoc hcn2
          · have hcn2 := ae.way w
            refine VL.h_name ?_
            show VL.LS _ _ _ _ _
            refine VL.s_sub O ow.ext ?_
            walk_at "vw"
            have hwl := ae.small w hbn
            refine VL.ln_map (fun d => .int (if VL.toI d < (n : Int) then VL.toI d else VL.toI d - n)) (VL.i_seq rfl ?_)
            walk_at "vw"
            refine ⟨_, rfl, by unfold VL.natD; rw [List.length_map]; omega, fun _ _ => rfl, fun k d O3 hd3 ex => ?_, ?_⟩
            · obtain ⟨p, hp, rfl⟩ : ∃ p : Nat, ws[k]? = some p ∧ d = .int (p : Int) := by
                unfold VL.natD at hd3
                rw [List.getElem?_map] at hd3
                cases h : ws[k]? with
                | none => rw [h] at hd3; cases hd3
                | some p => rw [h] at hd3; cases hd3; exact ⟨p, rfl, rfl⟩
              walk_at "vw"
              refine ⟨_, _, _, rfl, T.cls 50, T.noat 51, rfl, ?_⟩
              walk_at "vw"
              have hpc : (p : Int) < (n : Int) ∨ ¬ (p : Int) < (n : Int) := Classical.em _
              refine if_d (fun hlt => ?_) (fun hlt => ?_)
              · walk_at "vw"
                exact ⟨by show _ = VL.D.int (if (p : Int) < (n : Int) then _ else _); rw [if_pos hlt]; rfl, rfl⟩
              · walk_at "vw"
                refine ⟨_, _, _, rfl, T.cls 50, T.noat 51, rfl, ?_⟩
                walk_at "vw"
                exact ⟨by show _ = VL.D.int (if (p : Int) < (n : Int) then _ else _); rw [if_neg hlt]; rfl, rfl⟩
            · walk_at "vw"
              have e : (VL.natD ws).map (fun d => VL.D.int (if VL.toI d < (n : Int) then VL.toI d else VL.toI d - n)) = VL.natD (VL.rgOf n ws) := by
                unfold VL.natD VL.rgOf
                rw [List.map_map, List.map_map]
                refine List.map_congr_left fun p _ => ?_
                show VL.D.int (if (p : Int) < (n : Int) then (p : Int) else (p : Int) - n) = .int ((if p < n then p else p - n : Nat) : Int)
                congr 1
                split <;> split <;> omega
              rw [e]
              obtain ⟨fs, hs⟩ := hsplit
              have hring := VL.way_ring hcs (VL.bipAt_sub hc hb) (fun x y h => (ae.iff_ x y).mp h) hc (by rw [Int.toNat_of_nonneg hbr.1]; exact List.mem_of_getElem? hb) (VL.bipAt_new hlot hc hb) w
              exact kR _ hring (by rw [hs]; exact VL.not_rfree hcn2)
        · rintro ρ' O2 ⟨ps, adj, z, v, ow, ae, rf, rfl⟩
          rw [List.length_map, VL.bipAt_end hc] at ae rf
          exact ⟨ps, adj, _, _, z, v, ow, ae, rf, rfl⟩
      · rintro ρ' O2 ⟨ps, adj, x, y, z, v, ow, ae, rf, rfl⟩
        rw [VL.enumD_len, List.length_map, List.take_length] at rf
        show VL.LS _ _ _ _ _
        refine VL.s_ret (VL.l_shrink O ?_)
        walk_at "vw"
        exact ⟨ow.ext, kN rf⟩
end
end K80
namespace K80
open PySem PySem.Spec PyProof.Rows L2 MB
/-- what may stand in a walk -/
def SmD : VL.D → Prop
  | .int _ => True
  | .bl _ => True
  | .non => True
  | _ => False
def mostOf (n m : Int) (k : Nat) : Int := if k % 2 = 0 then n else m
structure RForm (n m : Int) (xs : List VL.D) : Prop where
  four : 4 ≤ xs.length
  ev : xs.length % 2 = 0
  lt : ∀ (k : Nat) (x : VL.D), xs[k]? = some x → ∃ v : Int, x = .int v ∧ 0 ≤ v ∧ v < mostOf n m k
  ne : ∀ (j k : Nat) (u v : Int), j < k → j % 2 = k % 2 → xs[j]? = some (.int u) → xs[k]? = some (.int v) → u ≠ v
def RWire (cs : List (List Int)) (xs : List VL.D) : Prop := ∀ (k : Nat) (a q b : Int) (c : List Int), k % 2 = 1 → xs[k - 1]? = some (.int a) → xs[k]? = some (.int q) → xs[(k + 1) % xs.length]? = some (.int b) → cs[q.toNat]? = some c → a ∈ c ∧ b ∈ c
def W_lfault : VL.WL := fun ds O Q _ => ∃ (n : Int) (cs : List (List Int)) (xs : List VL.D), ds = [.int n, .lst (rowsT cs), .lst xs] ∧ cs.length ≤ 60 ∧ (1 ≤ n ∧ n ≤ 60) ∧ xs.length ≤ 200 ∧ (∀ x ∈ xs, SmD x) ∧ (¬ RForm n cs.length xs → Q (.str "form") O) ∧ (RForm n cs.length xs → ¬ RWire cs xs → Q (.str "wire") O) ∧ (RForm n cs.length xs → RWire cs xs → Q .non O)
section
variable {P : Program} {w : World} {K : PySem.W.Frag} {mg : Str → Option Value} {base : Heap}
theorem c_l_fault (T : Txt K mg) : Cal P w K mg base CX0 2 "_law_fault" ["_law_bits", "_law_checks", "_law_ring"] [] (VL.SpL K W_lfault) := by
  have c_l_whole := @c_l_whole P w K mg base T
  obtain ⟨fd, F⟩ := T.c.def_ 22 (d := dd_l_fault) rfl
  refine ⟨_, fd, [], VL.fnL' (CX := CX0) F sc_l_fault ?_ (fun cdv A outer s H E hr => ⟨_, PSs.nox (pss_cons (ps_if (PW.pt (pw_or (pt_cmpR op_lt (pe_callB MB.k_len rfl (T.free 3) PySem.boot_len (pa_cons (pv 2) pa_nil)) pe_int (nomark _)) (pw_or1 (pt_cmpR (VL.op_eqX hr.units) (pe_op op_mod (pe_callTy MB.k_int1 rfl (T.free 1) (by decide +kernel) (pa_cons (pe_callB MB.k_len rfl (T.free 3) PySem.boot_len (pa_cons (pv 2) pa_nil)) pa_nil)) pe_int) pe_int (nomark _)))))
  (pss_one (ps_ret pe_str))
  pss_nil)
 (pss_cons (ps_for PassesOwn.never rfl (VL.pi_enumA rfl (T.free 9) (pa_cons (pv 2) pa_nil)) (pg_tup rfl (pgs_cons (pg_name (i := 3) sc_l_fault.nd rfl (Or.inl rfl)) (pgs_cons (pg_name (i := 4) sc_l_fault.nd rfl (Or.inl rfl)) pgs_nil)))
  (pss_cons (ps_set (i := 5) sc_l_fault.nd rfl (Or.inl rfl) (pe_ifExp (pt_cmpR (VL.op_eqX hr.units) (pe_op op_mod (pe_callTy MB.k_int1 rfl (T.free 1) (by decide +kernel) (pa_cons (pv 3) pa_nil)) pe_int) pe_int (nomark _)) (pv 0) (pe_callB MB.k_len rfl (T.free 3) PySem.boot_len (pa_cons (pv 1) pa_nil))))
 (pss_one (ps_if (PW.pt (pw_or (pt_not (pt_val (pe_cal c_l_whole (hr.mono (by decide)) pass0 (pa_cons (pv 4) pa_nil)))) (pw_or (pt_cmpR op_lt (pv 4) pe_int (nomark _)) (pw_or1 (pt_cmpR op_ge (pv 4) (pv 5) (nomark _))))))
  (pss_one (ps_ret pe_str))
  pss_nil))))
 (pss_cons (ps_set (i := 6) sc_l_fault.nd rfl (Or.inl rfl) (pe_op op_fdiv (pe_callB MB.k_len rfl (T.free 3) PySem.boot_len (pa_cons (pv 2) pa_nil)) pe_int))
 (pss_cons (ps_for PassesOwn.never rfl (pi_range1 rfl (T.free 8) (pa_cons (pv 6) pa_nil)) (pg_name (i := 7) sc_l_fault.nd rfl (Or.inl rfl))
  (pss_one (ps_for PassesOwn.never rfl (pi_range1 rfl (T.free 8) (pa_cons (pv 7) pa_nil)) (pg_name (i := 8) sc_l_fault.nd rfl (Or.inl rfl))
  (pss_one (ps_if (PW.pt (pw_or (pt_cmpR (VL.op_eqX hr.units) (pe_ix ix_seq (pv 2) (pe_op op_mul pe_int (pv 8)) (fun _ _ => rfl)) (pe_ix ix_seq (pv 2) (pe_op op_mul pe_int (pv 7)) (fun _ _ => rfl)) (nomark _)) (pw_or1 (pt_cmpR (VL.op_eqX hr.units) (pe_ix ix_seq (pv 2) (pe_op op_add (pe_op op_mul pe_int (pv 8)) pe_int) (fun _ _ => rfl)) (pe_ix ix_seq (pv 2) (pe_op op_add (pe_op op_mul pe_int (pv 7)) pe_int) (fun _ _ => rfl)) (nomark _)))))
  (pss_one (ps_ret pe_str))
  pss_nil)))))
 (pss_cons (ps_for PassesOwn.never rfl (pi_range1 rfl (T.free 8) (pa_cons (pv 6) pa_nil)) (pg_name (i := 7) sc_l_fault.nd rfl (Or.inl rfl))
  (pss_cons (ps_set (i := 9) sc_l_fault.nd rfl (Or.inl rfl) (pe_ix ix_seq (pv 1) (pe_ix ix_seq (pv 2) (pe_op op_add (pe_op op_mul pe_int (pv 7)) pe_int) (fun _ _ => rfl)) (fun _ _ => rfl)))
 (pss_one (ps_if (PW.pt (pw_or (pt_cmpR op_notIn_seq (pe_ix ix_seq (pv 2) (pe_op op_mul pe_int (pv 7)) (fun _ _ => rfl)) (pv 9) rfl) (pw_or1 (pt_cmpR op_notIn_seq (pe_ix ix_seq (pv 2) (pe_op op_mod (pe_callTy MB.k_int1 rfl (T.free 1) (by decide +kernel) (pa_cons (pe_op op_add (pe_op op_mul pe_int (pv 7)) pe_int) pa_nil)) (pe_callB MB.k_len rfl (T.free 3) PySem.boot_len (pa_cons (pv 2) pa_nil))) (fun _ _ => rfl)) (pv 9) rfl))))
  (pss_one (ps_ret pe_str))
  pss_nil))))
 (pss_one (ps_ret pe_non))))))), ?_⟩), T.glo 44, F.kp, F.bindsN fun _ _ _ _ _ _ us hl => match us, hl with | [_, _, _], _ => rfl, .nil⟩

  · rintro ds O Q E ⟨n, cs, xs, rfl, _⟩; rfl
  · rintro ds O Q E ⟨n, cs, xs, rfl, hcl, hn, hxl, hsm, kF, kW, kN⟩
    walk_at "vw"
    refine if_d (fun h4 => ?_) (fun h4 => ?_)
    · simp only [if_true]
      walk_at "vw"
      exact kF fun f => by have := f.four; omega
    · walk_at "vw"
      refine if_i (fun he => ?_) (fun he => ?_)
      · walk_at "vw"
        exact kF fun f => by have := f.ev; omega
      · walk_at "vw"
        refine VL.s_post (fun ρ' O2 => O2 = O ∧ (∀ (k : Nat) (x : VL.D), xs[k]? = some x → ∃ v : Int, x = .int v ∧ 0 ≤ v ∧ v < mostOf n cs.length k) ∧ ∃ x y z, ρ' = [some (.int n), some (.lst (rowsT cs)), some (.lst xs), x, y, z, none, none, none, none]) ?_ ?_
        · refine VL.s_for (VL.i_enumA rfl ?_)
          walk_at "vw"
          refine ⟨_, xs, rfl, rfl, fun i ρ' O2 => O2 = O ∧ (∀ (k : Nat) (x : VL.D), k < i → xs[k]? = some x → ∃ v : Int, x = .int v ∧ 0 ≤ v ∧ v < mostOf n cs.length k) ∧ ∃ x y z, ρ' = [some (.int n), some (.lst (rowsT cs)), some (.lst xs), x, y, z, none, none, none, none],
            ⟨rfl, fun k x h => absurd h (Nat.not_lt_zero k), none, none, none, rfl⟩, fun _ _ _ _ => rfl, ?_, ?_⟩
          · rintro i d ρ' O2 hd ⟨rfl, hlt, x, y, z, rfl⟩
            obtain ⟨t, ht, rfl⟩ := VL.enumD_at hd
            have hsmt := hsm t (List.mem_of_getElem? ht)
            have hil := (List.getElem?_eq_some_iff.mp ht).1
            walk_at "vx"
            refine VL.l_post (fun y O3 => O3 = O2 ∧ y = .int (mostOf n cs.length i)) ?_ ?_
            · walk_at "vw"
              refine if_i (fun h2 => ?_) (fun h2 => ?_)
              · walk_at "vw"
                exact ⟨rfl, by unfold mostOf; rw [if_pos (by omega)]⟩
              · walk_at "vw"
                exact ⟨rfl, by unfold mostOf; rw [if_neg (by omega), List.length_map]⟩
            · rintro y O3 ⟨rfl, rfl⟩
              walk_at "vw"
              have hbad : (∀ v : Int, t = .int v → ¬ (0 ≤ v ∧ v < mostOf n cs.length i)) → Q (.str "form") O3 := fun hb => kF fun f => by
                obtain ⟨v, e, h1, h2⟩ := f.lt i t ht
                exact hb v e ⟨h1, h2⟩
              cases t with
              | int v =>
                refine ⟨.int v, rfl, VL.kn_int, ?_⟩
                refine ⟨_, rfl, ?_⟩
                simp only [VL.isInt, Bool.not_true, Bool.false_eq_true, if_false]
                walk_at "vw"
                refine if_d (fun hv => ?_) (fun hv => ?_)
                · simp only [if_true]
                  walk_at "vw"
                  exact hbad fun u e h => by cases e; omega
                · walk_at "vw"
                  refine if_d (fun hv2 => ?_) (fun hv2 => ?_)
                  · walk_at "vw"
                    exact hbad fun u e h => by cases e; omega
                  · walk_at "vw"
                    refine ⟨rfl, fun k x hk hx => ?_, _, _, _, rfl⟩
                    by_cases hki : k = i
                    · subst hki
                      rw [ht] at hx; cases hx
                      exact ⟨v, rfl, by omega, by omega⟩
                    · exact hlt k x (by omega) hx
              | bl b =>
                refine ⟨.bl b, rfl, VL.kn_bl, ?_⟩
                refine ⟨_, rfl, ?_⟩
                simp only [VL.isInt, Bool.not_false, if_true]
                walk_at "vw"
                exact hbad fun u e => by cases e
              | non =>
                refine ⟨.non, rfl, VL.kn_non, ?_⟩
                refine ⟨_, rfl, ?_⟩
                simp only [VL.isInt, Bool.not_false, if_true]
                walk_at "vw"
                exact hbad fun u e => by cases e
              | _ => cases hsmt
          · rintro ρ' O2 ⟨rfl, hlt, x, y, z, rfl⟩
            rw [VL.enumD_len] at hlt
            exact ⟨rfl, fun k x h => hlt k x (List.getElem?_eq_some_iff.mp h).1 h, x, y, z, rfl⟩
        · rintro ρ' O2 ⟨rfl, hlt, x, y, z, rfl⟩
          show VL.LS _ _ _ _ _
          have hval : ∀ k : Nat, k < xs.length → ∃ v : Int, xs[k]? = some (.int v) ∧ 0 ≤ v ∧ v < mostOf n cs.length k := fun k hk => by
            obtain ⟨v, e, h⟩ := hlt k _ (List.getElem?_eq_getElem hk)
            exact ⟨v, by rw [List.getElem?_eq_getElem hk, e], h⟩
          have hat0 : ∀ (k : Nat) (v : Int), xs[2 * k]? = some (.int v) → atI xs (2 * (0 + (k : Int))) = some (.int v) := fun k v h => by
            rw [show (2 * (0 + (k : Int))) = ((2 * k : Nat) : Int) by omega]; exact natA _ h
          have hat1 : ∀ (k : Nat) (v : Int), xs[2 * k + 1]? = some (.int v) → atI xs (2 * (0 + (k : Int)) + 1) = some (.int v) := fun k v h => by
            rw [show (2 * (0 + (k : Int)) + 1) = ((2 * k + 1 : Nat) : Int) by omega]; exact natA _ h
          walk_at "vw"
          refine VL.s_post (fun ρ' O3 => O3 = O2 ∧ (∀ (a b : Nat) (u v : Int), a < b → b < xs.length / 2 → (xs[2 * a]? = some (.int u) → xs[2 * b]? = some (.int v) → u ≠ v) ∧ (xs[2 * a + 1]? = some (.int u) → xs[2 * b + 1]? = some (.int v) → u ≠ v)) ∧ ∃ x y z v w, ρ' = [some (.int n), some (.lst (rowsT cs)), some (.lst xs), x, y, z, some (.int ((xs.length : Int) / 2)), v, w, none]) ?_ ?_
          · refine VL.s_for (VL.i_rng1 ?_)
            walk_at "vw"
            refine ⟨fun i ρ' O3 => O3 = O2 ∧ (∀ (a b : Nat) (u v : Int), a < b → b < i → (xs[2 * a]? = some (.int u) → xs[2 * b]? = some (.int v) → u ≠ v) ∧ (xs[2 * a + 1]? = some (.int u) → xs[2 * b + 1]? = some (.int v) → u ≠ v)) ∧ ∃ x y z v w, ρ' = [some (.int n), some (.lst (rowsT cs)), some (.lst xs), x, y, z, some (.int ((xs.length : Int) / 2)), v, w, none],
              ⟨rfl, fun a b u v _ h => absurd h (Nat.not_lt_zero b), x, y, z, none, none, rfl⟩, fun _ _ _ _ => trivial, ?_, ?_⟩
            · rintro i d ρ' O3 hd ⟨rfl, hne, x, y, z, v, w2, rfl⟩
              obtain ⟨hi, rfl⟩ := VL.rngD_at hd
              have hi2 : i < xs.length / 2 := by omega
              walk_at "vw"
              refine VL.s_for (VL.i_rng1 ?_)
              walk_at "vw"
              refine ⟨fun j ρ' O4 => O4 = O3 ∧ (∀ (a : Nat) (u v : Int), a < j → (xs[2 * a]? = some (.int u) → xs[2 * i]? = some (.int v) → u ≠ v) ∧ (xs[2 * a + 1]? = some (.int u) → xs[2 * i + 1]? = some (.int v) → u ≠ v)) ∧ ∃ w, ρ' = [some (.int n), some (.lst (rowsT cs)), some (.lst xs), x, y, z, some (.int ((xs.length : Int) / 2)), some (.int (0 + (i : Int))), w, none],
                ⟨rfl, fun a u v h => absurd h (Nat.not_lt_zero a), w2, rfl⟩, fun _ _ _ _ => trivial, ?_, ?_⟩
              · rintro j d ρ' O4 hd2 ⟨rfl, hnj, w3, rfl⟩
                obtain ⟨hj, rfl⟩ := VL.rngD_at hd2
                have hj2 : j < i := by omega
                obtain ⟨a0, ha0, _⟩ := hval (2 * j) (by omega)
                obtain ⟨b0, hb0, _⟩ := hval (2 * i) (by omega)
                obtain ⟨a1, ha1, _⟩ := hval (2 * j + 1) (by omega)
                obtain ⟨b1, hb1, _⟩ := hval (2 * i + 1) (by omega)
                walk_at "vw"
                refine VL.o_ixQ rfl rfl (hat0 j a0 ha0) ?_
                walk_at "vw"
                refine VL.o_ixQ rfl rfl (hat0 i b0 hb0) ?_
                walk_at "vw"
                refine if_i (fun e => ?_) (fun e => ?_)
                · simp only [if_true]
                  walk_at "vw"
                  exact kF fun f => f.ne _ _ _ _ (by omega) (by omega) ha0 hb0 e
                · walk_at "vw"
                  refine VL.o_ixQ rfl rfl (hat1 j a1 ha1) ?_
                  walk_at "vw"
                  refine VL.o_ixQ rfl rfl (hat1 i b1 hb1) ?_
                  walk_at "vw"
                  refine if_i (fun e2 => ?_) (fun e2 => ?_)
                  · walk_at "vw"
                    exact kF fun f => f.ne _ _ _ _ (by omega) (by omega) ha1 hb1 e2
                  · walk_at "vw"
                    refine ⟨rfl, fun a u v h => ?_, _, rfl⟩
                    by_cases haj : a = j
                    · subst haj
                      refine ⟨fun h1 h2 => ?_, fun h1 h2 => ?_⟩
                      · rw [ha0] at h1; rw [hb0] at h2; cases h1; cases h2; exact e
                      · rw [ha1] at h1; rw [hb1] at h2; cases h1; cases h2; exact e2
                    · exact hnj a u v (by omega)
              · rintro ρ' O4 ⟨rfl, hnj, w3, rfl⟩
                rw [VL.rngD_len] at hnj
                refine ⟨rfl, fun a b u v h1 h2 => ?_, x, y, z, _, w3, rfl⟩
                by_cases hbi : b = i
                · subst hbi; exact hnj a u v (by omega)
                · exact hne a b u v h1 (by omega)
            · rintro ρ' O3 ⟨rfl, hne, x, y, z, v, w2, rfl⟩
              rw [VL.rngD_len] at hne
              exact ⟨rfl, fun a b u v h1 h2 => hne a b u v h1 (by omega), x, y, z, v, w2, rfl⟩
          · rintro ρ' O3 ⟨rfl, hne, x, y, z, v, w2, rfl⟩
            show VL.LS _ _ _ _ _
            have hF : RForm n cs.length xs := ⟨by omega, by omega, hlt, fun j k u v h1 h2 h3 h4 => by
              have hkl := (List.getElem?_eq_some_iff.mp h4).1
              have := hne (j / 2) (k / 2) u v (by omega) (by omega)
              rcases Nat.mod_two_eq_zero_or_one j with e | e
              · exact this.1 (by rw [show 2 * (j / 2) = j by omega]; exact h3) (by rw [show 2 * (k / 2) = k by omega]; exact h4)
              · exact this.2 (by rw [show 2 * (j / 2) + 1 = j by omega]; exact h3) (by rw [show 2 * (k / 2) + 1 = k by omega]; exact h4)⟩
            walk_at "vw"
            refine VL.s_for (VL.i_rng1 ?_)
            walk_at "vw"
            refine ⟨fun i ρ' O4 => O4 = O3 ∧ (∀ (k : Nat) (a q b : Int) (c : List Int), k < i → xs[2 * k]? = some (.int a) → xs[2 * k + 1]? = some (.int q) → xs[(2 * k + 2) % xs.length]? = some (.int b) → cs[q.toNat]? = some c → a ∈ c ∧ b ∈ c) ∧ ∃ x y z v w u, ρ' = [some (.int n), some (.lst (rowsT cs)), some (.lst xs), x, y, z, some (.int ((xs.length : Int) / 2)), v, w, u],
              ⟨rfl, fun k a q b c h => absurd h (Nat.not_lt_zero k), x, y, z, v, w2, none, rfl⟩, fun _ _ _ _ => trivial, ?_, ?_⟩
            · rintro i d ρ' O4 hd ⟨rfl, hwi, x, y, z, v, w2, u, rfl⟩
              obtain ⟨hi, rfl⟩ := VL.rngD_at hd
              obtain ⟨a, ha, _⟩ := hval (2 * i) (by omega)
              obtain ⟨q, hq, hq0, hq1⟩ := hval (2 * i + 1) (by omega)
              obtain ⟨b, hb, _⟩ := hval ((2 * i + 2) % xs.length) (Nat.mod_lt _ (by omega))
              unfold mostOf at hq1
              rw [if_neg (by omega)] at hq1
              obtain ⟨c, hc⟩ : ∃ c, cs[q.toNat]? = some c := ⟨_, List.getElem?_eq_getElem (by omega)⟩
              have hatc : atI (rowsT cs) q = some (.tup (c.map VL.D.int)) := by
                have e : ((q.toNat : Nat) : Int) = q := by omega
                rw [← e]; exact natA q.toNat (by rw [List.getElem?_map, hc]; rfl)
              have hatb : atI xs ((2 * (0 + (i : Int)) + 2) % (xs.length : Int)) = some (.int b) := by
                have e : (2 * (0 + (i : Int)) + 2) % (xs.length : Int) = (((2 * i + 2) % xs.length : Nat) : Int) := by
                  rw [Int.natCast_emod]; congr 1; omega
                rw [e]; exact natA _ hb
              walk_at "vw"
              refine VL.o_ixQ rfl rfl (hat1 i q hq) ?_
              walk_at "vw"
              refine VL.o_ixQ rfl rfl hatc ?_
              walk_at "vw"
              refine VL.o_ixQ rfl rfl (hat0 i a ha) ?_
              walk_at "vw"
              have hbadw : ¬ (a ∈ c ∧ b ∈ c) → Q (.str "wire") O4 := fun hb2 => kW hF fun w => hb2 (w (2 * i + 1) a q b c (by omega) ha hq (by rw [show 2 * i + 1 + 1 = 2 * i + 2 by omega]; exact hb) hc)
              by_cases hac : a ∈ c
              · rw [decide_eq_true hac]
                simp only [Bool.not_true, Bool.false_eq_true, if_false]
                walk_at "vw"
                refine VL.o_ixQ rfl rfl hatb ?_
                walk_at "vw"
                by_cases hbc : b ∈ c
                · rw [decide_eq_true hbc]
                  simp only [Bool.not_true, Bool.false_eq_true, if_false]
                  walk_at "vw"
                  refine ⟨rfl, fun k a' q' b' c' hk h1 h2 h3 h4 => ?_, x, y, z, _, _, _, rfl⟩
                  by_cases hki : k = i
                  · subst hki
                    rw [ha] at h1; rw [hq] at h2; rw [hb] at h3
                    cases h1; cases h2; cases h3
                    rw [hc] at h4; cases h4
                    exact ⟨hac, hbc⟩
                  · exact hwi k a' q' b' c' (by omega) h1 h2 h3 h4
                · rw [decide_eq_false hbc]
                  simp only [Bool.not_false, if_true]
                  walk_at "vw"
                  exact hbadw fun z => hbc z.2
              · rw [decide_eq_false hac]
                simp only [Bool.not_false, if_true]
                walk_at "vw"
                exact hbadw fun z => hac z.1
            · rintro ρ' O4 ⟨rfl, hwi, x, y, z, v, w2, u, rfl⟩
              rw [VL.rngD_len] at hwi
              walk_at "vw"
              refine kN hF fun k a q b c hk h1 h2 h3 h4 => ?_
              have hkl := (List.getElem?_eq_some_iff.mp h2).1
              refine hwi (k / 2) a q b c (by omega) ?_ ?_ ?_ h4
              · rw [show 2 * (k / 2) = k - 1 by omega]; exact h1
              · rw [show 2 * (k / 2) + 1 = k by omega]; exact h2
              · rw [show 2 * (k / 2) + 2 = k + 1 by omega]; exact h3
end
end K80
namespace K80
open PySem PySem.Spec PyProof.Rows L2 MB
def W_rform (K : PySem.W.Frag) : VL.WL := fun ds O Q _ => ∃ (n : Nat) (cs : List (List Int)) (t : VL.D), ds = [VL.codeD (He.ga K "Code") n cs, t] ∧ n ≤ 60 ∧ cs.length ≤ 60 ∧ VL.Kn O t ∧ (VL.asS O t = none → Q (.bl false) O) ∧ ∀ xs, VL.asS O t = some xs → xs.length ≤ 200 ∧ (t = .lst xs ∨ t = .tup xs) ∧ (∀ x ∈ xs, SmD x) ∧ (RForm n cs.length xs → Q (.bl true) O) ∧ (¬ RForm n cs.length xs → Q (.bl false) O)
def W_rfault (K : PySem.W.Frag) : VL.WL := fun ds O Q _ => ∃ (n : Nat) (cs : List (List Int)) (t : VL.D), ds = [VL.codeD (He.ga K "Code") n cs, t] ∧ n ≤ 60 ∧ cs.length ≤ 60 ∧ VL.Kn O t ∧ (VL.asS O t = none → Q (.str "form") O) ∧ ∀ xs, VL.asS O t = some xs → xs.length ≤ 200 ∧ (t = .lst xs ∨ t = .tup xs) ∧ (∀ x ∈ xs, SmD x) ∧ (¬ RForm n cs.length xs → Q (.str "form") O) ∧ (RForm n cs.length xs → ¬ RWire cs xs → Q (.str "wire") O) ∧ (RForm n cs.length xs → RWire cs xs → Q .non O)
theorem SmD.kn {O : VL.Oh} {x : VL.D} (h : SmD x) : VL.Kn O x := by
  cases x with
  | int _ => exact VL.kn_int
  | bl _ => exact VL.kn_bl
  | non => exact VL.kn_non
  | _ => exact h.elim
theorem stepV_mem {xs : List VL.D} {l : Option Int} {x : VL.D} (h : x ∈ VL.stepV xs l) : x ∈ xs := by
  unfold VL.stepV at h
  obtain ⟨k, hk⟩ := List.getElem?_of_mem h
  rw [VL.ev2_at, List.getElem?_drop] at hk
  exact List.mem_of_getElem? hk
theorem step0_at (xs : List VL.D) (k : Nat) : (VL.stepV xs none)[k]? = xs[2 * k]? := by
  unfold VL.stepV
  rw [VL.ev2_at, List.getElem?_drop]
  show xs[0 + 2 * k]? = _
  rw [Nat.zero_add]
theorem step1_at {xs : List VL.D} (h : 1 ≤ xs.length) (k : Nat) : (VL.stepV xs (some 1))[k]? = xs[2 * k + 1]? := by
  unfold VL.stepV
  rw [VL.ev2_at, List.getElem?_drop]
  show xs[min (1 : Int).toNat xs.length + 2 * k]? = _
  rw [show min (1 : Int).toNat xs.length + 2 * k = 2 * k + 1 by rw [show (1 : Int).toNat = 1 from rfl]; omega]
theorem lotB_iff {ys : List VL.D} {m : Int} : VL.lotB ys m = true ↔ (∀ (k : Nat) (x : VL.D), ys[k]? = some x → ∃ v : Int, x = .int v ∧ 0 ≤ v ∧ v < m) ∧ ∀ (j k : Nat) (u v : Int), j < k → ys[j]? = some (.int u) → ys[k]? = some (.int v) → u ≠ v := by
  constructor
  · intro h
    obtain ⟨ns, rfl, _⟩ := VL.ints_of_all (show ys.all (fun x => VL.isWhole x (.int 0) (.int (m - 1))) = true by unfold VL.lotB at h; rw [Bool.and_eq_true] at h; exact h.1)
    rw [VL.lotB_ints, decide_eq_true_eq] at h
    obtain ⟨h1, h2⟩ := h
    refine ⟨fun k x hx => ?_, fun j k u v hjk hu hv e => ?_⟩
    · rw [List.getElem?_map, Option.map_eq_some_iff] at hx
      obtain ⟨v, hv, rfl⟩ := hx
      exact ⟨v, rfl, h1 v (List.mem_of_getElem? hv)⟩
    · rw [List.getElem?_map, Option.map_eq_some_iff] at hu hv
      obtain ⟨u', hu, e1⟩ := hu
      obtain ⟨v', hv, e2⟩ := hv
      cases e1; cases e2; subst e
      obtain ⟨hj, e1⟩ := List.getElem?_eq_some_iff.mp hu
      obtain ⟨hk, e2⟩ := List.getElem?_eq_some_iff.mp hv
      exact List.pairwise_iff_getElem.mp h2 j k hj hk hjk (e1.trans e2.symm)
  · rintro ⟨h1, h2⟩
    obtain ⟨ns, rfl⟩ : ∃ ns : List Int, ys = ns.map VL.D.int := by
      have : ∀ zs : List VL.D, (∀ x ∈ zs, ∃ v : Int, x = .int v) → ∃ ns : List Int, zs = ns.map VL.D.int := by
        intro zs
        induction zs with
        | nil => exact fun _ => ⟨[], rfl⟩
        | cons z zs ih =>
          intro h
          obtain ⟨v, rfl⟩ := h _ (List.mem_cons_self ..)
          obtain ⟨ns, rfl⟩ := ih fun x hx => h x (List.mem_cons_of_mem _ hx)
          exact ⟨v :: ns, rfl⟩
      refine this ys fun x hx => ?_
      obtain ⟨k, hk⟩ := List.getElem?_of_mem hx
      obtain ⟨v, e, _⟩ := h1 k x hk
      exact ⟨v, e⟩
    rw [VL.lotB_ints, decide_eq_true_eq]
    refine ⟨fun v hv => ?_, ?_⟩
    · obtain ⟨k, hk⟩ := List.getElem?_of_mem hv
      obtain ⟨v', e, h⟩ := h1 k (.int v) (by rw [List.getElem?_map, hk]; rfl)
      cases e; exact h
    · refine List.pairwise_iff_getElem.mpr fun i j hi hj hij e => ?_
      exact h2 i j _ _ hij (by rw [List.getElem?_map, List.getElem?_eq_getElem hi]; rfl) (by rw [List.getElem?_map, List.getElem?_eq_getElem hj]; rfl) e
theorem rform_iff {n m : Int} {xs : List VL.D} (h4 : 4 ≤ xs.length) (he : xs.length % 2 = 0) : RForm n m xs ↔ VL.lotB (VL.stepV xs none) n = true ∧ VL.lotB (VL.stepV xs (some 1)) m = true := by
  rw [lotB_iff, lotB_iff]
  simp only [step0_at, step1_at (show 1 ≤ xs.length by omega)]
  constructor
  · intro f
    refine ⟨⟨fun k x hx => ?_, fun j k u v hjk hu hv => f.ne _ _ u v (by omega) (by omega) hu hv⟩, ⟨fun k x hx => ?_, fun j k u v hjk hu hv => f.ne _ _ u v (by omega) (by omega) hu hv⟩⟩
    · have := f.lt _ x hx
      unfold mostOf at this; rw [if_pos (by omega)] at this; exact this
    · have := f.lt _ x hx
      unfold mostOf at this; rw [if_neg (by omega)] at this; exact this
  · rintro ⟨⟨a1, a2⟩, b1, b2⟩
    refine ⟨h4, he, fun k x hx => ?_, fun j k u v hjk hp hu hv => ?_⟩
    · unfold mostOf
      by_cases hk : k % 2 = 0
      · rw [if_pos hk]; exact a1 (k / 2) x (by rw [show 2 * (k / 2) = k by omega]; exact hx)
      · rw [if_neg hk]; exact b1 (k / 2) x (by rw [show 2 * (k / 2) + 1 = k by omega]; exact hx)
    · by_cases hk : k % 2 = 0
      · exact a2 (j / 2) (k / 2) u v (by omega) (by rw [show 2 * (j / 2) = j by omega]; exact hu) (by rw [show 2 * (k / 2) = k by omega]; exact hv)
      · exact b2 (j / 2) (k / 2) u v (by omega) (by rw [show 2 * (j / 2) + 1 = j by omega]; exact hu) (by rw [show 2 * (k / 2) + 1 = k by omega]; exact hv)
theorem RForm.val {n m : Int} {xs : List VL.D} (f : RForm n m xs) (k : Nat) (h : k < xs.length) : ∃ v : Int, xs[k]? = some (.int v) ∧ 0 ≤ v ∧ v < mostOf n m k := by
  obtain ⟨v, e, h1⟩ := f.lt k xs[k] (List.getElem?_eq_getElem h)
  exact ⟨v, by rw [List.getElem?_eq_getElem h, e], h1⟩
section
variable {P : Program} {w : World} {K : PySem.W.Frag} {mg : Str → Option Value} {base : Heap}
theorem c_is_ring_form (T : Txt K mg) : Cal P w K mg base CX0 4 "is_ring_form" ["code", "ring"] [] (VL.SpL K (W_rform K)) := by
  have c_is_lot := @c_is_lot P w K mg base T
  have c_is_sequence := @c_is_sequence P w K mg base T
  obtain ⟨fd, F⟩ := T.c.def_ 8 (d := dd_is_ring_form) rfl
  refine ⟨_, fd, [], VL.fnL' (CX := CX0) F sc_is_ring_form ?_ (fun cdv A outer s H E hr => ⟨_, PSs.nox (pss_cons (ps_if (PW.pt (pw_or (pt_not (pt_val (pe_cal c_is_sequence (hr.mono (by decide)) pass0 (pa_cons (pv 1) pa_nil)))) (pw_or (pt_cmpR op_lt (pe_callB MB.k_len rfl (T.free 3) PySem.boot_len (pa_cons (pv 1) pa_nil)) pe_int (nomark _)) (pw_or1 (pt_cmpR (VL.op_eqX hr.units) (pe_op op_mod (pe_callB MB.k_len rfl (T.free 3) PySem.boot_len (pa_cons (pv 1) pa_nil)) pe_int) pe_int (nomark _))))))
  (pss_one (ps_ret pe_bl))
  pss_nil)
 (pss_one (ps_ret (pe_and (pe_cal c_is_lot (hr.mono (by decide)) pass0 (pa_cons (VL.pe_step (pv 1) po_none) (pa_cons (pe_fld (pv 0) rfl) pa_nil))) (pe_one (pe_cal c_is_lot (hr.mono (by decide)) pass0 (pa_cons (VL.pe_step (pv 1) (po_some pe_int)) (pa_cons (pe_callB (VL.cr_lenM (c_len T) (hr.mono (by decide)) pass0) rfl (T.free 3) PySem.boot_len (pa_cons (pv 0) pa_nil)) pa_nil)))))))), ?_⟩), T.glo 30, F.kp, F.bindsN fun _ _ _ _ _ _ us hl => match us, hl with | [_, _], _ => rfl, .nil⟩

  · rintro ds O Q E ⟨n, cs, t, rfl, _⟩; rfl
  · rintro ds O Q E ⟨n, cs, t, rfl, hn, hcl, kn, kF, kX⟩
    walk_at "vw"
    refine ⟨t, rfl, kn, ?_⟩
    walk_at "vw"
    cases hxs : VL.asS O t with
    | none =>
      simp only [Option.isSome_none, Bool.not_false, if_true]
      walk_at "vw"
      exact kF hxs
    | some xs =>
      obtain ⟨hl, hty, hsm, kT, kN⟩ := kX xs hxs
      simp only [Option.isSome_some, Bool.not_true, Bool.false_eq_true, if_false]
      walk_at "vw"
      refine if_d (fun h4 => ?_) (fun h4 => ?_)
      · simp only [if_true]
        walk_at "vw"
        exact kN fun f => by have := f.four; omega
      · walk_at "vw"
        refine if_i (fun he => ?_) (fun he => ?_)
        · walk_at "vw"
          exact kN fun f => by have := f.ev; omega
        · walk_at "vw"
          rcases hty with rfl | rfl
          · refine VL.f_step rfl ?_
            walk_at "vw"
            refine ⟨xs, .inl ⟨rfl, ?_⟩⟩
            walk_at "vw"
            refine ⟨_, _, _, rfl, T.cls 50, T.noat 51, rfl, ?_⟩
            walk_at "vw"
            refine ⟨_, _, rfl, VL.kn_lst, fun ys e => ?_, ?_⟩
            · cases e
              exact ⟨by have := VL.stepV_len xs none; omega, fun x hx => (hsm x (stepV_mem hx)).kn⟩
            refine ⟨VL.lotB (VL.stepV xs none) n, rfl, ?_⟩
            refine if_b (fun h1 => ?_) (fun h1 => ?_)
            · walk_at "vw"
              refine VL.f_step rfl ?_
              walk_at "vw"
              refine ⟨xs, .inl ⟨rfl, ?_⟩⟩
              walk_at "vw"
              refine VL.k_lenO ⟨_, _, rfl, _, rfl, by omega, by omega, ?_⟩
              walk_at "vw"
              refine ⟨_, _, rfl, VL.kn_lst, fun ys e => ?_, ?_⟩
              · cases e
                exact ⟨by have := VL.stepV_len xs (some 1); omega, fun x hx => (hsm x (stepV_mem hx)).kn⟩
              show Q (.bl (VL.lotB (VL.stepV xs (some 1)) cs.length)) O
              cases h2 : VL.lotB (VL.stepV xs (some 1)) cs.length with
              | true => exact kT ((rform_iff (by omega) (by omega)).mpr ⟨h1, h2⟩)
              | false => exact kN fun f => by rw [((rform_iff (by omega) (by omega)).mp f).2] at h2; cases h2
            · walk_at "vw"
              exact kN fun f => by rw [((rform_iff (by omega) (by omega)).mp f).1] at h1; cases h1
          · refine VL.f_step rfl ?_
            walk_at "vw"
            refine ⟨xs, .inr ⟨rfl, ?_⟩⟩
            walk_at "vw"
            refine ⟨_, _, _, rfl, T.cls 50, T.noat 51, rfl, ?_⟩
            walk_at "vw"
            refine ⟨_, _, rfl, VL.kn_tup, fun ys e => ?_, ?_⟩
            · cases e
              exact ⟨by have := VL.stepV_len xs none; omega, fun x hx => (hsm x (stepV_mem hx)).kn⟩
            refine ⟨VL.lotB (VL.stepV xs none) n, rfl, ?_⟩
            refine if_b (fun h1 => ?_) (fun h1 => ?_)
            · walk_at "vw"
              refine VL.f_step rfl ?_
              walk_at "vw"
              refine ⟨xs, .inr ⟨rfl, ?_⟩⟩
              walk_at "vw"
              refine VL.k_lenO ⟨_, _, rfl, _, rfl, by omega, by omega, ?_⟩
              walk_at "vw"
              refine ⟨_, _, rfl, VL.kn_tup, fun ys e => ?_, ?_⟩
              · cases e
                exact ⟨by have := VL.stepV_len xs (some 1); omega, fun x hx => (hsm x (stepV_mem hx)).kn⟩
              show Q (.bl (VL.lotB (VL.stepV xs (some 1)) cs.length)) O
              cases h2 : VL.lotB (VL.stepV xs (some 1)) cs.length with
              | true => exact kT ((rform_iff (by omega) (by omega)).mpr ⟨h1, h2⟩)
              | false => exact kN fun f => by rw [((rform_iff (by omega) (by omega)).mp f).2] at h2; cases h2
            · walk_at "vw"
              exact kN fun f => by rw [((rform_iff (by omega) (by omega)).mp f).1] at h1; cases h1
theorem c_ring_fault (T : Txt K mg) : Cal P w K mg base CX0 5 "ring_fault" ["code", "ring"] [] (VL.SpL K (W_rfault K)) := by
  have c_is_ring_form := @c_is_ring_form P w K mg base T
  obtain ⟨fd, F⟩ := T.c.def_ 9 (d := dd_ring_fault) rfl
  refine ⟨_, fd, [], VL.fnL' (CX := CX0) F sc_ring_fault ?_ (fun cdv A outer s H E hr => ⟨_, PSs.nox (pss_cons (ps_if (pt_not (pt_val (pe_cal c_is_ring_form (hr.mono (by decide)) pass0 (pa_cons (pv 0) (pa_cons (pv 1) pa_nil)))))
  (pss_one (ps_ret pe_str))
  pss_nil)
 (pss_cons (ps_for PassesOwn.never rfl (pi_range3 rfl (T.free 8) (pa_cons pe_int (pa_cons (pe_callB MB.k_len rfl (T.free 3) PySem.boot_len (pa_cons (pv 1) pa_nil)) (pa_cons pe_int pa_nil)))) (pg_name (i := 2) sc_ring_fault.nd rfl (Or.inl rfl))
  (pss_cons (ps_set (i := 3) sc_ring_fault.nd rfl (Or.inl rfl) (pe_ix ix_seq (pe_fld (pv 0) rfl) (pe_ix ix_seq (pv 1) (pv 2) (fun _ _ => rfl)) (fun _ _ => rfl)))
 (pss_one (ps_if (PW.pt (pw_or (pt_cmpR op_notIn_seq (pe_ix ix_seq (pv 1) (pe_op op_sub (pv 2) pe_int) (fun _ _ => rfl)) (pv 3) rfl) (pw_or1 (pt_cmpR op_notIn_seq (pe_ix ix_seq (pv 1) (pe_op op_mod (pe_op op_add (pv 2) pe_int) (pe_callB MB.k_len rfl (T.free 3) PySem.boot_len (pa_cons (pv 1) pa_nil))) (fun _ _ => rfl)) (pv 3) rfl))))
  (pss_one (ps_ret pe_str))
  pss_nil))))
 (pss_one (ps_ret pe_non)))), ?_⟩), T.glo 31, F.kp, F.bindsN fun _ _ _ _ _ _ us hl => match us, hl with | [_, _], _ => rfl, .nil⟩

  · rintro ds O Q E ⟨n, cs, t, rfl, _⟩; rfl
  · rintro ds O Q E ⟨n, cs, t, rfl, hn, hcl, kn, kF, kX⟩
    walk_at "vw"
    refine ⟨n, cs, t, rfl, hn, hcl, kn, fun hx => ?_, fun xs hxs => ?_⟩
    · refine ⟨_, rfl, ?_⟩
      simp only [Bool.not_false, if_true]
      walk_at "vw"
      exact kF hx
    · obtain ⟨hl, hty, hsm, kB, kW, kN⟩ := kX xs hxs
      refine ⟨hl, hty, hsm, fun hF => ?_, fun hF => ?_⟩
      · refine ⟨_, rfl, ?_⟩
        simp only [Bool.not_true, Bool.false_eq_true, if_false]
        walk_at "vw"
        refine VL.s_for (VL.i_rng3 ?_)
        walk_at "vw"
        refine ⟨1, xs.length, 2, xs.length / 2, rfl, VL.RgC_two hF.ev (by omega), ?_⟩
        generalize hcd : VL.codeD (He.ga K "Code") n cs = cd
        refine ⟨fun i ρ' O2 => O2 = O ∧ (∀ (k : Nat) (a q b : Int) (c : List Int), k < i → xs[2 * k]? = some (.int a) → xs[2 * k + 1]? = some (.int q) → xs[(2 * k + 2) % xs.length]? = some (.int b) → cs[q.toNat]? = some c → a ∈ c ∧ b ∈ c) ∧ ∃ x y, ρ' = [some cd, some t, x, y],
          ⟨rfl, fun k a q b c h => absurd h (Nat.not_lt_zero k), none, none, rfl⟩, fun _ _ _ _ => trivial, ?_, ?_⟩
        · rintro i d ρ' O4 hd ⟨rfl, hwi, x, y, rfl⟩
          obtain ⟨hi, rfl⟩ := VL.rngC_at hd
          obtain ⟨a, ha, _⟩ := hF.val (2 * i) (by omega)
          obtain ⟨q, hq, hq0, hq1⟩ := hF.val (2 * i + 1) (by omega)
          obtain ⟨b, hb, _⟩ := hF.val ((2 * i + 2) % xs.length) (Nat.mod_lt _ (by omega))
          unfold mostOf at hq1
          rw [if_neg (by omega)] at hq1
          obtain ⟨c, hc⟩ : ∃ c, cs[q.toNat]? = some c := ⟨_, List.getElem?_eq_getElem (by omega)⟩
          have hatc : atI (rowsT cs) q = some (.tup (c.map VL.D.int)) := by
            have e : ((q.toNat : Nat) : Int) = q := by omega
            rw [← e]; exact natA q.toNat (by rw [List.getElem?_map, hc]; rfl)
          have hatq : atI xs (1 + (i : Int) * 2) = some (.int q) := by
            rw [show 1 + (i : Int) * 2 = ((2 * i + 1 : Nat) : Int) by omega]; exact natA _ hq
          have hata : atI xs (1 + (i : Int) * 2 - 1) = some (.int a) := by
            rw [show 1 + (i : Int) * 2 - 1 = ((2 * i : Nat) : Int) by omega]; exact natA _ ha
          have hatb : atI xs ((1 + (i : Int) * 2 + 1) % (xs.length : Int)) = some (.int b) := by
            have e : (1 + (i : Int) * 2 + 1) % (xs.length : Int) = (((2 * i + 2) % xs.length : Nat) : Int) := by
              rw [Int.natCast_emod]; congr 1; omega
            rw [e]; exact natA _ hb
          walk_at "vw"
          refine ⟨_, _, _, hcd.symm, T.cls 50, T.noat 52, rfl, ?_⟩
          walk_at "vw"
          refine VL.o_ixQ rfl hxs hatq ?_
          refine VL.o_ixQ rfl rfl hatc ?_
          walk_at "vw"
          refine VL.o_ixQ rfl hxs hata ?_
          walk_at "vw"
          have hbadw : ¬ (a ∈ c ∧ b ∈ c) → Q (.str "wire") O4 := fun hb2 => kW hF fun w => hb2 (w (2 * i + 1) a q b c (by omega) ha hq (by rw [show 2 * i + 1 + 1 = 2 * i + 2 by omega]; exact hb) hc)
          by_cases hac : a ∈ c
          · rw [decide_eq_true hac]
            simp only [Bool.not_true, Bool.false_eq_true, if_false]
            walk_at "vw"
            refine VL.o_ixQ rfl hxs hatb ?_
            walk_at "vw"
            by_cases hbc : b ∈ c
            · rw [decide_eq_true hbc]
              simp only [Bool.not_true, Bool.false_eq_true, if_false]
              walk_at "vw"
              refine ⟨rfl, fun k a' q' b' c' hk h1 h2 h3 h4 => ?_, _, _, rfl⟩
              by_cases hki : k = i
              · subst hki
                rw [ha] at h1; rw [hq] at h2; rw [hb] at h3
                cases h1; cases h2; cases h3
                rw [hc] at h4; cases h4
                exact ⟨hac, hbc⟩
              · exact hwi k a' q' b' c' (by omega) h1 h2 h3 h4
            · rw [decide_eq_false hbc]
              simp only [Bool.not_false, if_true]
              walk_at "vw"
              exact hbadw fun z => hbc z.2
          · rw [decide_eq_false hac]
            simp only [Bool.not_false, if_true]
            walk_at "vw"
            exact hbadw fun z => hac z.1
        · rintro ρ' O4 ⟨rfl, hwi, x, y, rfl⟩
          rw [VL.rngC_len] at hwi
          walk_at "vw"
          refine kN hF fun k a q b c hk h1 h2 h3 h4 => ?_
          have hkl := (List.getElem?_eq_some_iff.mp h2).1
          refine hwi (k / 2) a q b c (by omega) ?_ ?_ ?_ h4
          · rw [show 2 * (k / 2) = k - 1 by omega]; exact h1
          · rw [show 2 * (k / 2) + 1 = k by omega]; exact h2
          · rw [show 2 * (k / 2) + 2 = k + 1 by omega]; exact h3
      · refine ⟨_, rfl, ?_⟩
        simp only [Bool.not_false, if_true]
        walk_at "vw"
        exact kB hF
end
end K80
namespace K80
open PySem PySem.Spec PyProof.Rows L2 MB
theorem natD_ix {r : List Nat} {k : Nat} {x : VL.D} (h : (VL.natD r)[k]? = some x) : ∃ p, r[k]? = some p ∧ x = .int (p : Int) := by
  unfold VL.natD at h
  rw [List.getElem?_map, Option.map_eq_some_iff] at h
  obtain ⟨p, hp, rfl⟩ := h
  exact ⟨p, hp, rfl⟩
theorem natD_len (r : List Nat) : (VL.natD r).length = r.length := List.length_map _
theorem natD_sm {r : List Nat} : ∀ x ∈ VL.natD r, SmD x := by
  intro x hx
  obtain ⟨p, _, rfl⟩ := List.mem_map.mp hx
  exact trivial
theorem ring_rform {n : Nat} {cs : List (List Int)} {r : List Nat} (h : VL.RingOk n cs r) : RForm n cs.length (VL.natD r) := by
  refine ⟨by rw [natD_len]; exact h.four, by rw [natD_len]; exact h.ev, fun k x hx => ?_, fun j k u v hjk hp hu hv => ?_⟩
  · obtain ⟨p, hp, rfl⟩ := natD_ix hx
    refine ⟨p, rfl, by omega, ?_⟩
    unfold mostOf
    by_cases hk : k % 2 = 0
    · rw [if_pos hk]; have := h.lt0 k p hp hk; omega
    · rw [if_neg hk]; have := h.lt1 k p hp (by omega); omega
  · obtain ⟨a, ha, e1⟩ := natD_ix hu
    obtain ⟨b, hb, e2⟩ := natD_ix hv
    cases e1; cases e2
    have := h.ne j k a b hjk hp ha hb
    omega
theorem ring_rwire {n : Nat} {cs : List (List Int)} {r : List Nat} (h : VL.RingOk n cs r) : RWire cs (VL.natD r) := by
  intro k a q b c hk ha hq hb hc
  obtain ⟨a', ha', e1⟩ := natD_ix ha
  obtain ⟨q', hq', e2⟩ := natD_ix hq
  rw [natD_len] at hb
  obtain ⟨b', hb', e3⟩ := natD_ix hb
  cases e1; cases e2; cases e3
  obtain ⟨a2, b2, h1, h2, h3, h4⟩ := h.wire k q' c hk hq' (by simpa using hc)
  rw [ha'] at h1; rw [hb'] at h2
  cases h1; cases h2
  exact ⟨h3, h4⟩
theorem ring_len {n : Nat} {cs : List (List Int)} {r : List Nat} (h : VL.RingOk n cs r) : r.length ≤ 2 * n := by
  have hl : (VL.ev2 r).length = r.length / 2 := by rw [VL.ev2_len]; have := h.ev; omega
  have hnd : (VL.ev2 r).Nodup := by
    refine List.pairwise_iff_getElem.mpr fun i j hi hj hij e => ?_
    have h1 : r[2 * i]? = some (VL.ev2 r)[i] := by rw [← VL.ev2_at]; exact List.getElem?_eq_getElem hi
    have h2 : r[2 * j]? = some (VL.ev2 r)[j] := by rw [← VL.ev2_at]; exact List.getElem?_eq_getElem hj
    exact h.ne (2 * i) (2 * j) _ _ (by omega) (by omega) h1 h2 e
  have hn2 : ((VL.ev2 r).map fun (k : Nat) => (k : Int)).Nodup := List.pairwise_map.mpr (hnd.imp fun {a b} h e => h (by omega))
  have := VL.nodup_len (n := (n : Int)) hn2 (fun b hb => by
    obtain ⟨x, hx, rfl⟩ := List.mem_map.mp hb
    obtain ⟨k, hk⟩ := List.getElem?_of_mem hx
    rw [VL.ev2_at] at hk
    have := h.lt0 _ _ hk (by omega)
    omega) (by omega)
  rw [List.length_map] at this
  have := h.ev
  omega
def SmL (xs : List VL.D) : Prop := xs.length ≤ 200 ∧ ∀ x ∈ xs, SmD x
theorem SmL.cut {xs : List VL.D} (h : SmL xs) (lo hi : Option Int) : SmL (VL.cutD xs lo hi) := by
  unfold VL.cutD
  refine ⟨?_, fun x hx => h.2 x (List.mem_of_mem_drop (List.mem_of_mem_take hx))⟩
  rw [List.length_take, List.length_drop]
  have := h.1
  omega
theorem SmL.rev {xs : List VL.D} (h : SmL xs) : SmL xs.reverse := ⟨by rw [List.length_reverse]; exact h.1, fun x hx => h.2 x (List.mem_reverse.mp hx)⟩
theorem SmL.turn {xs : List VL.D} (h : SmL xs) (k : Nat) : SmL (VL.cutD xs (some (k : Int)) none ++ VL.cutD xs none (some (k : Int))) := by
  refine ⟨?_, fun x hx => ?_⟩
  · rw [List.length_append]
    unfold VL.cutD
    rw [HT.sIx_nat, HT.sIx_nat, List.length_take, List.length_take, List.length_drop, List.length_drop]
    show min (xs.length - min k xs.length) (xs.length - min k xs.length) + min (min k xs.length - 0) (xs.length - 0) ≤ 200
    have := h.1
    omega
  · rcases List.mem_append.mp hx with hx | hx
    · exact (h.cut _ _).2 x hx
    · exact (h.cut _ _).2 x hx
def W_judged (K : PySem.W.Frag) : VL.WL := fun ds O Q _ => ∃ (n : Nat) (cs : List (List Int)) (xs : List VL.D), ds = [VL.codeD (He.ga K "Code") n cs, .int (n : Int), .lst (rowsT cs), .lst xs] ∧ (1 ≤ n ∧ n ≤ 60) ∧ cs.length ≤ 60 ∧ xs.length ≤ 200 ∧ (∀ x ∈ xs, SmD x) ∧ Q (.bl true) O
def W_spoilt : VL.WL := fun ds O Q _ => ∃ (p : Addr) (n : Int) (cs : List (List Int)) (xs : List VL.D), ds = [.ref p, .int n, .lst (rowsT cs), .tup xs] ∧ O p = some .hand ∧ cs.length ≤ 60 ∧ 4 ≤ xs.length ∧ xs.length ≤ 200 ∧ (∀ x ∈ xs, SmD x) ∧ ∀ ws : List (List VL.D), ws.length ≤ 10 → (∀ w ∈ ws, w.length ≤ 200 ∧ ∀ x ∈ w, SmD x) → Q (.lst (ws.map VL.D.lst)) O
section
variable {P : Program} {w : World} {K : PySem.W.Frag} {mg : Str → Option Value} {base : Heap}
theorem c_l_judged (T : Txt K mg) : Cal P w K mg base CX0 6 "_law_judged" ["_law_code_here", "_law_bits", "_law_checks", "_law_ring"] [] (VL.SpL K (W_judged K)) := by
  have c_ring_fault := @c_ring_fault P w K mg base T
  have c_l_fault := @c_l_fault P w K mg base T
  obtain ⟨fd, F⟩ := T.c.def_ 23 (d := dd_l_judged) rfl
  refine ⟨_, fd, [], VL.fnL' (CX := CX0) F sc_l_judged ?_ (fun cdv A outer s H E hr => ⟨_, PSs.nox (pss_cons (ps_set (i := 4) sc_l_judged.nd rfl (Or.inl rfl) (pe_cal c_ring_fault (hr.mono (by decide)) pass0 (pa_cons (pv 0) (pa_cons (pv 3) pa_nil))))
 (pss_cons (ps_set (i := 5) sc_l_judged.nd rfl (Or.inl rfl) (pe_cal c_l_fault (hr.mono (by decide)) pass0 (pa_cons (pv 1) (pa_cons (pv 2) (pa_cons (pe_callTy MB.k_listOf rfl (T.free 11) (by decide +kernel) (pa_cons (pv 3) pa_nil)) pa_nil)))))
 (pss_cons (ps_if (pt_cmpR MB.k_isN (pv 5) pe_non (nomark _))
  (pss_one (ps_ret (pe_cmpR MB.k_isN (pv 4) pe_non (nomark _))))
  pss_nil)
 (pss_one (ps_ret (pe_and (pe_callB call_isi rfl (T.free 0) (by decide +kernel) (pa_cons (pv 4) (pa_cons (pe_ty "str" rfl (T.free 17) (by decide +kernel)) pa_nil))) (pe_one (pe_cmpR (VL.op_eqX hr.units) (pv 4) (pv 5) (nomark _))))))))), ?_⟩), T.glo 45, F.kp, F.bindsN fun _ _ _ _ _ _ us hl => match us, hl with | [_, _, _, _], _ => rfl, .nil⟩

  · rintro ds O Q E ⟨n, cs, xs, rfl, _⟩; rfl
  · rintro ds O Q E ⟨n, cs, xs, rfl, hn, hcl, hl, hsm, k⟩
    by_cases hF : RForm n cs.length xs
    · by_cases hW : RWire cs xs
      · walk_at "vw"
        refine ⟨n, cs, _, rfl, by omega, hcl, VL.kn_lst, (fun h => by cases h), fun ys h => ?_⟩
        cases h
        refine ⟨hl, .inl rfl, hsm, fun h => absurd hF h, fun _ h => absurd hW h, fun _ _ => ?_⟩
        walk_at "vw"
        refine ⟨n, cs, xs, rfl, hcl, by omega, hl, hsm, fun h => absurd hF h, fun _ h => absurd hW h, fun _ _ => ?_⟩
        walk_at "vw"
        exact k
      · walk_at "vw"
        refine ⟨n, cs, _, rfl, by omega, hcl, VL.kn_lst, (fun h => by cases h), fun ys h => ?_⟩
        cases h
        refine ⟨hl, .inl rfl, hsm, fun h => absurd hF h, fun _ _ => ?_, fun _ h => absurd h hW⟩
        walk_at "vw"
        refine ⟨n, cs, xs, rfl, hcl, by omega, hl, hsm, fun h => absurd hF h, fun _ _ => ?_, fun _ h => absurd h hW⟩
        walk_at "vw"
        rw [decide_eq_true rfl]
        exact k
    · walk_at "vw"
      refine ⟨n, cs, _, rfl, by omega, hcl, VL.kn_lst, (fun h => by cases h), fun ys h => ?_⟩
      cases h
      refine ⟨hl, .inl rfl, hsm, fun _ => ?_, fun h => absurd h hF, fun h => absurd h hF⟩
      walk_at "vw"
      refine ⟨n, cs, xs, rfl, hcl, by omega, hl, hsm, fun _ => ?_, fun h => absurd h hF, fun h => absurd h hF⟩
      walk_at "vw"
      rw [decide_eq_true rfl]
      exact k
theorem c_l_spoilt_rings (T : Txt K mg) : Cal P w K mg base CX0 3 "_law_spoilt_rings" ["_law_hand_here", "_law_bits", "_law_checks", "_law_ring"] [] (VL.SpL K W_spoilt) := by
  have c_l_draw := @c_l_draw P w K mg base T
  obtain ⟨fd, F⟩ := T.c.def_ 24 (d := dd_l_spoilt_rings) rfl
  refine ⟨_, fd, [], VL.fnL' (CX := CX0) F sc_l_spoilt_rings ?_ (fun cdv A outer s H E hr => ⟨_, PSs.nox (pss_cons (ps_set (i := 4) sc_l_spoilt_rings.nd rfl (Or.inl rfl) (VL.pe_own (pe_lst (pa_cons (pe_callTy MB.k_listOf rfl (T.free 11) (by decide +kernel) (pa_cons (pe_op op_catA (pe_slice sl_tupA (pv 3) (po_some pe_int) po_none) (pe_slice sl_tupA (pv 3) po_none (po_some pe_int))) pa_nil)) (pa_cons (pe_callTy MB.k_listOf rfl (T.free 11) (by decide +kernel) (pa_cons (pe_slice sl_tupA (pv 3) po_none (po_some (pe_un un_neg pe_int))) pa_nil)) (pa_cons (pe_callTy MB.k_listOf rfl (T.free 11) (by decide +kernel) (pa_cons (pe_slice sl_tupA (pv 3) po_none (po_some (pe_un un_neg pe_int))) pa_nil)) (pa_cons (VL.pe_lstRev rfl rfl (T.free 11) rfl (T.free 16) (pv 3)) pa_nil)))))))
 (pss_cons (ps_set (i := 5) sc_l_spoilt_rings.nd rfl (Or.inl rfl) (VL.pe_own (pe_callTy MB.k_listOf rfl (T.free 11) (by decide +kernel) (pa_cons (pv 3) pa_nil))))
 (pss_cons (ps_set (i := 6) sc_l_spoilt_rings.nd rfl (Or.inl rfl) (pe_cal c_l_draw (hr.mono (by decide)) pass0 (pa_cons (pv 0) (pa_cons (pe_callB MB.k_len rfl (T.free 3) PySem.boot_len (pa_cons (pv 3) pa_nil)) pa_nil))))
 (pss_cons (ps_asg (pe_ix ix_seq (pe_tup (pa_cons pe_int (pa_cons pe_int (pa_cons (pe_op op_sub (pv 1) pe_int) (pa_cons (pv 1) (pa_cons (pe_un un_neg pe_int) (pa_cons pe_bl (pa_cons pe_non (pa_cons (pe_callB MB.k_len rfl (T.free 3) PySem.boot_len (pa_cons (pv 2) pa_nil)) pa_nil))))))))) (pe_cal c_l_draw (hr.mono (by decide)) pass0 (pa_cons (pv 0) (pa_cons pe_int pa_nil))) (fun _ _ => rfl)) (pg_sub (pv 5) (pv 6) set_list (by intros; rfl)))
 (pss_cons (ps_expr (pe_bm PySem.F.plainAttrs_list PySem.F.slot_list_append PySem.F.type_list_append mt_append (pv 4) (pa_cons (pv 5) pa_nil)))
 (pss_cons (ps_expr (pe_bm PySem.F.plainAttrs_list PySem.F.slot_list_append PySem.F.type_list_append mt_append (pv 4) (pa_cons (pe_callTy MB.k_listOf rfl (T.free 11) (by decide +kernel) (pa_cons (pe_op op_catA (pe_slice sl_tupA (pv 3) (po_some pe_int) po_none) (pe_slice sl_tupA (pv 3) po_none (po_some pe_int))) pa_nil)) pa_nil)))
 (pss_cons (ps_expr (pe_bm PySem.F.plainAttrs_list PySem.F.slot_list_append PySem.F.type_list_append mt_append (pv 4) (pa_cons (pe_op op_cat (pe_lst (pa_cons (pe_ix ix_seq (pv 3) pe_int (fun _ _ => rfl)) pa_nil)) (VL.pe_lstRev rfl rfl (T.free 11) rfl (T.free 16) (pe_slice sl_tupA (pv 3) (po_some pe_int) po_none))) pa_nil)))
 (pss_one (ps_ret (pv 4)))))))))), ?_⟩), T.glo 46, F.kp, F.bindsN fun _ _ _ _ _ _ us hl => match us, hl with | [_, _, _, _], _ => rfl, .nil⟩

  · rintro ds O Q E ⟨p, n, cs, xs, rfl, _⟩; rfl
  · rintro ds O Q E ⟨p, n, cs, xs, rfl, hp, hcl, h4, hl, hsm, k⟩
    walk_at "vw"
    have hS : SmL xs := ⟨hl, hsm⟩
    have t2 := (hS.turn 2).1
    have t1 := (hS.turn 1).1
    rw [List.length_append] at t1 t2
    refine VL.o_catT rfl (Nat.le_of_lt (VL.lt_line (Nat.lt_of_le_of_lt t2 (by decide)))) ?_
    walk_at "vw"
    refine VL.l_frz (VL.ln_lstRev rfl ?_)
    walk_at "vw"
    generalize hw1 : VL.cutD xs (some 2) none ++ VL.cutD xs none (some 2) = w1
    generalize hw2 : VL.cutD xs none (some (-2)) = w2
    generalize hw3 : VL.cutD xs none (some (-1)) = w3
    have s1 : SmL w1 := by rw [← hw1]; exact hS.turn 2
    have s2 : SmL w2 := by rw [← hw2]; exact hS.cut _ _
    have s3 : SmL w3 := by rw [← hw3]; exact hS.cut _ _
    intro r hr
    have npr := VL.ne_of hp hr
    walk_at "vw"
    intro q hq
    have npq := VL.ne_of (show VL.updO O r _ p = some .hand by walk_at "ol") hq
    have nrq := VL.ne_of (show VL.updO O r _ r = some _ from VL.updO_same) hq
    walk_at "vw"
    refine ⟨p, _, rfl, by walk_at "ol", by omega, by omega, fun d hd0 hd1 => ?_⟩
    walk_at "vw"
    refine ⟨p, _, rfl, by walk_at "ol", by decide, by decide, fun e he0 he1 => ?_⟩
    obtain ⟨y, hy, hys⟩ : ∃ y, atI [VL.D.int 0, .int 1, .int (n - 1), .int n, .int (-1), .bl true, .non, .int cs.length] e = some y ∧ SmD y := by
      rcases (by omega : e = 0 ∨ e = 1 ∨ e = 2 ∨ e = 3 ∨ e = 4 ∨ e = 5 ∨ e = 6 ∨ e = 7) with rfl | rfl | rfl | rfl | rfl | rfl | rfl | rfl <;> exact ⟨_, rfl, trivial⟩
    rw [List.length_map]
    refine VL.o_ixQ rfl rfl hy ?_
    walk_at "vw"
    refine VL.t_setL VL.updO_same (VL.ixN_in hd0 (by omega)) ?_
    have s4 : SmL (xs.set d.toNat y) := ⟨by rw [List.length_set]; exact hl, fun x hx => by
      rcases List.mem_or_eq_of_mem_set hx with h | h
      · exact hsm x h
      · subst h; exact hys⟩
    generalize xs.set d.toNat y = w4 at s4
    rw [VL.updO_updO]
    show VL.LS _ _ _ _ _
    refine VL.s_seq (VL.s_drop (VL.l_bm rfl (VL.l_var rfl ⟨⟨_, VL.asL_own (show VL.updO (VL.updO O r _) q _ r = some _ by walk_at "ol")⟩, VL.la_cons (VL.l_freeze (VL.l_var rfl ⟨q, _, rfl, VL.updO_same, ?_⟩))⟩)))
    rw [VL.delO_updO hq]
    walk_at "vw"
    refine VL.m_append VL.updO_same (VL.lt_line (show 4 < 100000 by decide)) ?_
    rw [VL.updO_updO]
    show VL.LS _ _ _ _ _
    walk_at "vw"
    refine VL.o_catT rfl (Nat.le_of_lt (VL.lt_line (Nat.lt_of_le_of_lt t1 (by decide)))) ?_
    generalize hw5 : VL.cutD xs (some 1) none ++ VL.cutD xs none (some 1) = w5
    have s5 : SmL w5 := by rw [← hw5]; exact hS.turn 1
    walk_at "vw"
    refine VL.m_append VL.updO_same (VL.lt_line (show 5 < 100000 by decide)) ?_
    rw [VL.updO_updO]
    show VL.LS _ _ _ _ _
    obtain ⟨x0, hx0⟩ : ∃ x0, atI xs 0 = some x0 := ⟨xs[0], natA 0 (List.getElem?_eq_getElem (by omega))⟩
    walk_at "vw"
    refine VL.o_ixQ rfl rfl hx0 ?_
    walk_at "vw"
    refine VL.l_frz (VL.ln_lstRev rfl ?_)
    walk_at "vw"
    have s6 : SmL ([x0] ++ (VL.cutD xs (some 1) none).reverse) := by
      have c1 := (hS.cut (some 1) none)
      refine ⟨?_, fun x hx => ?_⟩
      · rw [List.length_append, List.length_reverse]
        have h0 : (VL.cutD xs none (some 1)).length = 1 := by
          unfold VL.cutD
          rw [List.length_take, List.length_drop]
          show min (min (1 : Int).toNat xs.length - 0) (xs.length - 0) = 1
          rw [show (1 : Int).toNat = 1 from rfl]; omega
        show 1 + _ ≤ 200
        have t3 : (VL.cutD xs (some (1 : Int)) none).length + (VL.cutD xs none (some (1 : Int))).length ≤ 200 := t1
        omega
      · rcases List.mem_append.mp hx with h | h
        · rw [List.mem_singleton.mp h]
          refine hsm x0 ?_
          rw [show (0 : Int) = ((0 : Nat) : Int) from rfl, natA 0 (List.getElem?_eq_getElem (by omega : 0 < xs.length))] at hx0
          cases hx0; exact List.getElem_mem _
        · exact c1.2 x (List.mem_reverse.mp h)
    refine VL.o_cat rfl rfl (Nat.le_of_lt (VL.lt_line (by have := s6.1; rw [List.length_append] at this; omega))) ?_
    generalize [x0] ++ (VL.cutD xs (some 1) none).reverse = w6 at s6
    walk_at "vw"
    refine VL.m_append VL.updO_same (VL.lt_line (show 6 < 100000 by decide)) ?_
    rw [VL.updO_updO]
    show VL.LS _ _ _ _ _
    refine VL.s_ret (VL.l_freeze (VL.l_var rfl ⟨r, _, rfl, VL.updO_same, ?_⟩))
    rw [VL.delO_updO hr]
    refine k [w1, w2, w3, xs.reverse, w4, w5, w6] (show 7 ≤ 10 by decide) fun w hw => ?_
    simp only [List.mem_cons, List.not_mem_nil, or_false] at hw
    rcases hw with rfl | rfl | rfl | rfl | rfl | rfl | rfl
    · exact s1
    · exact s2
    · exact s3
    · exact hS.rev
    · exact s4
    · exact s5
    · exact s6
end
end K80
namespace K80
open PySem PySem.Spec PyProof.Rows L2 MB
def W_law : VL.WL := fun ds O Q _ => ∃ ns : List Int, ds = [.scr ns] ∧ ns.length ≤ 63 ∧ ∀ O', Q (.bl true) O'
def rowsN (G : List (List Nat)) : List (List Int) := G.map fun e => e.map fun (k : Nat) => (k : Int)
theorem rowsN_eq (G : List (List Nat)) : (G.map fun e => VL.D.tup (VL.natD e)) = rowsT (rowsN G) := by
  show _ = (rowsN G).map _
  unfold rowsN
  rw [List.map_map]
  refine List.map_congr_left fun e _ => ?_
  show VL.D.tup (VL.natD e) = .tup ((e.map fun (k : Nat) => (k : Int)).map VL.D.int)
  unfold VL.natD
  rw [List.map_map]; rfl
theorem sh_rowsM (cs : List (List Int)) : SeqAt.shaped (.list (cs.map fun c => .tuple (VL.pInts c))) = true := by
  unfold SeqAt.shaped
  rw [show PyData.canLay0 (.list (cs.map fun c => .tuple (VL.pInts c))) = true from VL.lay_map (g := fun c => .tuple (VL.pInts c)) (fun c => VL.lay_ints c) cs]
  have : PyData.depthAll (cs.map fun c => .tuple (VL.pInts c)) ≤ 1 := VL.depth_map (g := fun c => .tuple (VL.pInts c)) (fun c => Nat.succ_le_succ (VL.depth_ints c)) cs
  exact decide_eq_true (by show PyData.depthAll (cs.map fun c => .tuple (VL.pInts c)) + 1 ≤ 64; omega)
theorem grp_lens {L : Nat → Nat} {m : Nat} : ∀ g ∈ rowsN (VL.grp L m), g.length ≤ m := by
  intro g hg
  obtain ⟨e, he, rfl⟩ := List.mem_map.mp hg
  unfold VL.grp at he
  obtain ⟨b, _, rfl⟩ := List.mem_map.mp he
  rw [List.length_map]
  have := List.length_filter_le (fun x => decide (L x = L b)) (List.range m)
  rw [List.length_range] at this
  exact this
theorem grp_many {L : Nat → Nat} {m : Nat} : (VL.grp L m).length ≤ m := by
  unfold VL.grp
  rw [List.length_map]
  have := List.length_filter_le (fun b => (List.range b).all fun a => decide (L a ≠ L b)) (List.range m)
  rw [List.length_range] at this
  exact this
def lenT : VL.D → Int
  | .tup xs => xs.length
  | _ => 0
theorem lenT_rows (cs : List (List Int)) : ((rowsT cs).map fun d => VL.D.int (lenT d)) = (cs.map fun c => (c.length : Int)).map VL.D.int := by
  show (cs.map _).map _ = _
  rw [List.map_map, List.map_map]
  refine List.map_congr_left fun c _ => ?_
  show VL.D.int (((c.map VL.D.int).length : Nat) : Int) = _
  rw [List.length_map]; rfl
theorem sum_lens (cs : List (List Int)) : (cs.map fun c => (c.length : Int)).sum = (((cs.map List.length).sum : Nat) : Int) := by
  induction cs with
  | nil => rfl
  | cons c cs ih => rw [List.map_cons, List.sum_cons, ih, List.map_cons, List.sum_cons]; omega
theorem rowsN_len (G : List (List Nat)) : (rowsN G).length = G.length := List.length_map _
section
variable {P : Program} {w : World} {K : PySem.W.Frag} {mg : Str → Option Value} {base : Heap}
theorem ok_law (T : Txt K mg) {fd : FuncData} (F : FunD K "law" "law" (defArgs s_law) (defBody s_law) (defScope s_law) [] [] (He.ga K "law") fd) : FnOk P w K mg base CX0 8 (He.ga K "law") fd ["_law_script"] (VL.SpL K W_law) := by
  have c_l_hand := @c_l_hand P w K mg base T
  have c_l_code := @c_l_code P w K mg base T
  have c_l_made := @c_l_made P w K mg base T
  have c_l_pieces := @c_l_pieces P w K mg base T
  have c_code_pieces := @c_code_pieces P w K mg base T
  have c_web_ring := @c_web_ring P w K mg base T
  have c_l_draw := @c_l_draw P w K mg base T
  have c_l_spoilt_rings := @c_l_spoilt_rings P w K mg base T
  have c_l_judged := @c_l_judged P w K mg base T
  have c_ring_fault := @c_ring_fault P w K mg base T
  have c_l_fault := @c_l_fault P w K mg base T
  have c_l_wholes := @c_l_wholes P w K mg base T
  refine VL.fnL' (CX := CX0) F sc_law ?_ (fun cdv A outer s H E hr => ⟨_, PSs.nox (pss_cons (ps_set (i := 1) sc_law.nd rfl (Or.inl rfl) (pe_cal c_l_hand (hr.mono (by decide)) pass0 (pa_cons (pv 0) pa_nil)))
 (pss_cons (ps_asg (pe_cal c_l_code (hr.mono (by decide)) pass0 (pa_cons (pv 1) (pa_cons pe_int (pa_cons pe_int (pa_cons pe_int pa_nil))))) (pg_tup rfl (pgs_cons (pg_name (i := 2) sc_law.nd rfl (Or.inl rfl)) (pgs_cons (pg_name (i := 3) sc_law.nd rfl (Or.inl rfl)) pgs_nil))))
 (pss_cons (ps_set (i := 4) sc_law.nd rfl (Or.inl rfl) (pe_cal c_l_made (hr.mono (by decide)) pass0 (pa_cons (pv 2) (pa_cons (pv 3) pa_nil))))
 (pss_cons (ps_set (i := 5) sc_law.nd rfl (Or.inl rfl) (pe_cal c_l_pieces (hr.mono (by decide)) pass0 (pa_cons (pv 2) (pa_cons (pv 3) pa_nil))))
 (pss_cons (ps_set (i := 6) sc_law.nd rfl (Or.inl rfl) (pe_cal c_code_pieces (hr.mono (by decide)) pass0 (pa_cons (pv 4) pa_nil)))
 (pss_cons (ps_if (PW.pt (pw_or (pt_not (pt_val (pe_callB call_isi rfl (T.free 0) (by decide +kernel) (pa_cons (pv 6) (pa_cons (pe_ty "tuple" rfl (T.free 10) (by decide +kernel)) pa_nil))))) (pw_or (pt_cmpR (VL.op_neX hr.units) (pe_callTy MB.k_listOf rfl (T.free 11) (by decide +kernel) (pa_cons (pv 6) pa_nil)) (pv 5) (nomark _)) (pw_or1 (pt_not (pt_val (pe_callB (cr_all rfl) rfl (T.free 5) (by decide +kernel) (pa_cons (pe_lc (own := [("_law_piece", 13)]) (g := gName 13) (tt := tYes) rfl sc_law.nd (VL.pi_seq (pv 6)) (blkOk_by (N := ["_law_script", "_law_hand_here", "_law_bits", "_law_checks", "_law_code_here", "_law_pieces_here", "_law_told", "_law_links", "_law_ring", "_law_walks", "_law_walk", "_law_thing", "_law_lot_here", "_law_piece"]) (sc := defScope s_law) (by decide +kernel)) (fun _ _ _ _ _ => (pg_name (i := 13) sc_law.nd rfl (Or.inl rfl))) (fun _ _ _ _ _ => pts_nil) (fun _ _ _ _ _ => (pe_cal c_l_wholes (hr.mono (by decide)) pass0 (pa_cons (pv 13) (pa_cons (pe_callB (show CallR _ (.builtin "len") (MB.rLenQ K) from MB.k_len) rfl (T.free 3) PySem.boot_len (pa_cons (pv 13) pa_nil)) pa_nil))))) pa_nil))))))))
  (pss_one (ps_ret pe_bl))
  pss_nil)
 (pss_cons (ps_set (i := 7) sc_law.nd rfl (Or.inl rfl) (pe_callB (cr_sum rfl) rfl (T.free 7) (by decide +kernel) (pa_cons (pe_lc (own := [("_law_lot_here", 12)]) (g := gName 12) (tt := tYes) rfl sc_law.nd (VL.pi_seq (pv 3)) (blkOk_by (N := ["_law_script", "_law_hand_here", "_law_bits", "_law_checks", "_law_code_here", "_law_pieces_here", "_law_told", "_law_links", "_law_ring", "_law_walks", "_law_walk", "_law_thing", "_law_lot_here", "_law_piece"]) (sc := defScope s_law) (by decide +kernel)) (fun _ _ _ _ _ => (pg_name (i := 12) sc_law.nd rfl (Or.inl rfl))) (fun _ _ _ _ _ => pts_nil) (fun _ _ _ _ _ => (pe_callB (show CallR _ (.builtin "len") (MB.rLenQ K) from MB.k_len) rfl (T.free 3) PySem.boot_len (pa_cons (pv 12) pa_nil)))) pa_nil)))
 (pss_cons (ps_set (i := 8) sc_law.nd rfl (Or.inl rfl) (pe_cal c_web_ring (hr.mono (by decide)) pass0 (pa_cons (pv 4) pa_nil)))
 (pss_cons (ps_if (pt_cmpR (VL.op_neX hr.units) (pe_cmpR MB.k_isN (pv 8) pe_non (nomark _)) (pe_cmpR (VL.op_eqX hr.units) (pv 7) (pe_op op_sub (pe_op op_add (pv 2) (pe_callB MB.k_len rfl (T.free 3) PySem.boot_len (pa_cons (pv 3) pa_nil))) (pe_callB MB.k_len rfl (T.free 3) PySem.boot_len (pa_cons (pv 5) pa_nil))) (nomark _)) (nomark _))
  (pss_one (ps_ret pe_bl))
  pss_nil)
 (pss_cons (ps_set (i := 9) sc_law.nd rfl (Or.inl rfl) (pe_lst (pa_cons (pe_lst (pa_cons (pe_cal c_l_draw (hr.mono (by decide)) pass0 (pa_cons (pv 1) (pa_cons (pv 2) pa_nil))) (pa_cons pe_int (pa_cons (pe_cal c_l_draw (hr.mono (by decide)) pass0 (pa_cons (pv 1) (pa_cons (pv 2) pa_nil))) (pa_cons pe_int pa_nil))))) (pa_cons (pe_lst pa_nil) (pa_cons (pe_lst (pa_cons pe_int (pa_cons pe_int pa_nil))) pa_nil)))))
 (pss_cons (ps_if (pt_cmpR MB.k_notN (pv 8) pe_non (nomark _))
  (pss_cons (ps_if (PW.pt (pw_or (pt_not (pt_val (pe_callB call_isi rfl (T.free 0) (by decide +kernel) (pa_cons (pv 8) (pa_cons (pe_ty "tuple" rfl (T.free 10) (by decide +kernel)) pa_nil))))) (pw_or (pt_cmpR MB.k_notN (pe_cal c_l_fault (hr.mono (by decide)) pass0 (pa_cons (pv 2) (pa_cons (pv 3) (pa_cons (pe_callTy MB.k_listOf rfl (T.free 11) (by decide +kernel) (pa_cons (pv 8) pa_nil)) pa_nil)))) pe_non (nomark _)) (pw_or1 (pt_cmpR MB.k_notN (pe_cal c_ring_fault (hr.mono (by decide)) pass0 (pa_cons (pv 4) (pa_cons (pv 8) pa_nil))) pe_non (nomark _))))))
  (pss_one (ps_ret pe_bl))
  pss_nil)
 (pss_one (ps_set (i := 9) sc_law.nd rfl (Or.inl rfl) (pe_op op_cat (pv 9) (pe_cal c_l_spoilt_rings (hr.mono (by decide)) pass0 (pa_cons (pv 1) (pa_cons (pv 2) (pa_cons (pv 3) (pa_cons (pv 8) pa_nil)))))))))
  pss_nil)
 (pss_cons (ps_for PassesOwn.never rfl (VL.pi_seq (pv 9)) (pg_name (i := 10) sc_law.nd rfl (Or.inl rfl))
  (pss_one (ps_if (pt_not (pt_val (pe_cal c_l_judged (hr.mono (by decide)) pass0 (pa_cons (pv 4) (pa_cons (pv 2) (pa_cons (pv 3) (pa_cons (pv 10) pa_nil)))))))
  (pss_one (ps_ret pe_bl))
  pss_nil)))
 (pss_cons (ps_for PassesOwn.never rfl (VL.pi_seq (pe_tup (pa_cons pe_non (pa_cons pe_str (pa_cons pe_int pa_nil))))) (pg_name (i := 11) sc_law.nd rfl (Or.inl rfl))
  (pss_one (ps_if (pt_cmpR (VL.op_neX hr.units) (pe_cal c_ring_fault (hr.mono (by decide)) pass0 (pa_cons (pv 4) (pa_cons (pv 11) pa_nil))) pe_str (nomark _))
  (pss_one (ps_ret pe_bl))
  pss_nil)))
 (pss_one (ps_ret (pe_cmpR (VL.op_eqX hr.units) (pe_cal c_code_pieces (hr.mono (by decide)) pass0 (pa_cons (pv 4) pa_nil)) (pv 6) (nomark _))))))))))))))))), ?_⟩)
  · rintro ds O Q E ⟨ns, rfl, _⟩; rfl
  · rintro ds O Q E ⟨ns, rfl, hl, k⟩
    walk_at "vw"
    refine ⟨ns, rfl, hl, fun p hp => ?_⟩
    generalize hO : VL.updO O p .hand = O1
    have hp1 : O1 p = some .hand := by rw [← hO]; exact VL.updO_same
    walk_at "vw"
    refine ⟨p, 1, 8, 4, rfl, hp1, by decide, by decide, fun n cs hn hcl hcs => ?_⟩
    obtain ⟨m, rfl⟩ : ∃ m : Nat, n = (m : Int) := ⟨n.toNat, by omega⟩
    obtain ⟨L, hL⟩ := VL.Lab.ex (VL.edgs cs)
    have hcl60 : cs.length ≤ 60 := by omega
    walk_at "vw"
    refine ⟨m, cs, rfl, by omega, by omega, hcs, ?_⟩
    walk_at "vw"
    refine ⟨m, cs, rfl, by omega, by omega, hcs, fun L' hL' => ?_⟩
    walk_at "vw"
    refine ⟨m, cs, rfl, by omega, by omega, hcs, fun L2 hL2 => ?_⟩
    unfold grpD
    rw [VL.grp_same (VL.Lab.same hL' hL) m, VL.grp_same (VL.Lab.same hL2 hL) m, rowsN_eq]
    generalize hG : rowsN (VL.grp L m) = G
    walk_at "vw"
    have hGl : ∀ g ∈ G, g.length ≤ m := by rw [← hG]; exact grp_lens
    have hGn : G.length = (VL.grp L m).length := by rw [← hG]; exact rowsN_len _
    have hGe : PyData.eqv (.list (G.map fun c => .tuple (VL.pInts c))) (.list (G.map fun c => .tuple (VL.pInts c))) = true := by
      show PyData.eqvAll (G.map fun c => .tuple (VL.pInts c)) (G.map fun c => .tuple (VL.pInts c)) = true
      rw [VL.eqv_rows]; exact decide_eq_true rfl
    refine VL.o_neD rfl (.lst (VL.pd_rowsT G)) (.lst (VL.pd_rowsT G)) (sh_rowsM G) (sh_rowsM G) ?_
    rw [hGe]
    refine ⟨_, rfl, ?_⟩
    simp only [Bool.not_true, Bool.false_eq_true, if_false]
    walk_at "vw"
    have hGm : G.length ≤ m := by rw [hGn]; exact grp_many
    refine VL.ln_map (fun _ => .bl true) (VL.i_seq rfl ?_)
    walk_at "vw"
    refine ⟨_, rfl, (show (rowsT G).length ≤ 100000 by rw [List.length_map]; omega), fun _ _ => rfl, fun i d O2 hd ex => ?_, ?_⟩
    · obtain ⟨g, hg, rfl⟩ := VL.rows_at hd
      have hgl := hGl g (List.mem_of_getElem? hg)
      walk_at "vw"
      refine ⟨_, _, rfl, VL.kn_tup, fun xs hx => ?_, ?_⟩
      · cases hx
        exact ⟨by rw [List.length_map]; omega, fun x hx => by
          obtain ⟨y, _, rfl⟩ := List.mem_map.mp hx; exact VL.kn_int⟩
      · rw [List.length_map, wholes_ints]
        exact ⟨rfl, rfl⟩
    walk_at "vw"
    rw [show ((rowsT G).all fun x => true) = true by simp]
    simp only [Bool.not_true, Bool.false_eq_true, if_false]
    walk_at "vw"
    refine VL.ln_map (fun d => .int (lenT d)) (VL.i_seq rfl ?_)
    walk_at "vw"
    refine ⟨_, rfl, (show (rowsT cs).length ≤ 100000 by rw [List.length_map]; omega), fun _ _ => rfl, fun i d O2 hd ex => ?_, ?_⟩
    · obtain ⟨g, hg, rfl⟩ := VL.rows_at hd
      have hgl := VL.Lot.len (hcs g (List.mem_of_getElem? hg)).1 (by omega)
      walk_at "vw"
      exact ⟨rfl, rfl⟩
    rw [lenT_rows]
    walk_at "vw"
    rw [sum_lens]
    have hcount := VL.ring_count (n := m) hcs hL
    rw [← VL.bipF_len m cs 0] 
    have hlenT : ∀ ds : List (List Int), (rowsT ds).length = ds.length := fun ds => List.length_map _
    have hbip : (VL.bipF m 0 cs).length = (VL.bips m cs).length := rfl
    refine ⟨m, cs, rfl, by omega, hcl60, hcs, fun hfree => ?_, fun r hr hnf => ?_⟩
    · have hE := hcount.mpr hfree
      walk_at "vw"
      rw [show decide (V.int ((VL.bipF m 0 cs).length : Int) = V.int ((m : Int) + ((rowsT cs).length : Int) - ((rowsT G).length : Int))) = true from decide_eq_true (by rw [hlenT, hlenT, hbip]; congr 1; omega)]
      rw [show (VL.isNon VL.D.non) = true from rfl, decide_eq_true rfl]
      simp only [Bool.not_true, Bool.false_eq_true, if_false]
      walk_at "vw"
      refine ⟨p, (m : Int), rfl, hp1, by omega, by omega, fun d1 h10 h11 => ?_⟩
      walk_at "vw"
      refine ⟨p, (m : Int), rfl, hp1, by omega, by omega, fun d2 h20 h21 => ?_⟩
      walk_at "vw"
      have hw0 : ∀ w ∈ [[VL.D.int d1, .int 0, .int d2, .int 1], [], [.int 0, .int 0]], SmL w := by
        intro w hw
        simp only [List.mem_cons, List.not_mem_nil, or_false] at hw
        rcases hw with rfl | rfl | rfl
        · exact ⟨show 4 ≤ 200 by decide, fun x hx => by simp only [List.mem_cons, List.not_mem_nil, or_false] at hx; rcases hx with rfl | rfl | rfl | rfl <;> exact trivial⟩
        · exact ⟨show 0 ≤ 200 by decide, fun x hx => by cases hx⟩
        · exact ⟨show 2 ≤ 200 by decide, fun x hx => by simp only [List.mem_cons, List.not_mem_nil, or_false] at hx; rcases hx with rfl | rfl <;> exact trivial⟩
      have hwsL : ∀ w ∈ [[VL.D.int d1, .int 0, .int d2, .int 1], [], [.int 0, .int 0]], SmL w := hw0
      generalize hWs : [[VL.D.int d1, .int 0, .int d2, .int 1], [], [.int 0, .int 0]] = ws at hwsL
      refine VL.s_for (VL.i_seq rfl ?_)
      walk_at "vw"
      have hlst : [VL.D.lst [VL.D.int d1, .int 0, .int d2, .int 1], VL.D.lst [], VL.D.lst [.int 0, .int 0]] = ws.map VL.D.lst := by rw [← hWs]; rfl
      rw [hlst]
      refine ⟨_, rfl, fun i ρ' O2 => O2 = O1 ∧ ∃ x, ρ' = [some (.scr ns), some (.ref p), some (.int (m : Int)), some (.lst (rowsT cs)), some (VL.codeD (He.ga K "Code") m cs), some (.lst (rowsT G)), some (.tup (rowsT G)), some (.int ((VL.bipF m 0 cs).length : Int)), some (.non), some (.lst (ws.map VL.D.lst)), x, none, none, none],
        ⟨rfl, none, rfl⟩, fun _ _ _ _ => rfl, ?_, ?_⟩
      · rintro i d ρ' O2 hd ⟨rfl, x, rfl⟩
        rw [List.getElem?_map, Option.map_eq_some_iff] at hd
        obtain ⟨w1, hw1, rfl⟩ := hd
        have hs1 := hwsL w1 (List.mem_of_getElem? hw1)
        walk_at "vw"
        refine ⟨m, cs, w1, rfl, by omega, hcl60, hs1.1, hs1.2, ?_⟩
        refine ⟨_, rfl, ?_⟩
        simp only [Bool.not_true, Bool.false_eq_true, if_false]
        walk_at "vw"
        exact ⟨rfl, _, rfl⟩
      · rintro ρ' O2 ⟨rfl, x, rfl⟩
        walk_at "vw"
        refine VL.s_for (VL.i_seq rfl ?_)
        walk_at "vw"
        refine ⟨_, rfl, fun i ρ' O3 => O3 = O2 ∧ ∃ y, ρ' = [some (.scr ns), some (.ref p), some (.int (m : Int)), some (.lst (rowsT cs)), some (VL.codeD (He.ga K "Code") m cs), some (.lst (rowsT G)), some (.tup (rowsT G)), some (.int ((VL.bipF m 0 cs).length : Int)), some (.non), some (.lst (ws.map VL.D.lst)), x, y, none, none],
          ⟨rfl, none, rfl⟩, fun _ _ _ _ => rfl, ?_, ?_⟩
        · rintro i d ρ' O3 hd ⟨rfl, y, rfl⟩
          have hdk : VL.Kn O3 d ∧ VL.asS O3 d = none := by
            have hm := List.mem_of_getElem? hd
            simp only [List.mem_cons, List.not_mem_nil, or_false] at hm
            rcases hm with rfl | rfl | rfl
            · exact ⟨VL.kn_non, rfl⟩
            · exact ⟨VL.kn_str, rfl⟩
            · exact ⟨VL.kn_int, rfl⟩
          walk_at "vw"
          refine ⟨m, cs, d, rfl, by omega, hcl60, hdk.1, fun _ => ?_, fun xs hx => by rw [hdk.2] at hx; cases hx⟩
          walk_at "vw"
          rw [decide_eq_true rfl]
          simp only [Bool.not_true, Bool.false_eq_true, if_false]
          walk_at "vw"
          exact ⟨rfl, _, rfl⟩
        · rintro ρ' O3 ⟨rfl, y, rfl⟩
          walk_at "vw"
          refine ⟨m, cs, rfl, by omega, by omega, hcs, fun L3 hL3 => ?_⟩
          unfold grpD
          rw [VL.grp_same (VL.Lab.same hL3 hL) m, rowsN_eq, hG]
          walk_at "vw"
          refine VL.o_eqD rfl (.tup (VL.pd_rowsT G)) (.tup (VL.pd_rowsT G)) (VL.sh_rowsT G) (VL.sh_rowsT G) ?_
          rw [show PyData.eqv (.tuple (G.map fun c => .tuple (VL.pInts c))) (.tuple (G.map fun c => .tuple (VL.pInts c))) = true from hGe]
          exact k _
    · have hE : ¬ (m + cs.length = (VL.grp L m).length + (VL.bips m cs).length) := fun h => hnf (hcount.mp h)
      walk_at "vw"
      rw [show decide (V.int ((VL.bipF m 0 cs).length : Int) = V.int ((m : Int) + ((rowsT cs).length : Int) - ((rowsT G).length : Int))) = false from decide_eq_false (fun h => by rw [hlenT, hlenT, hbip] at h; injection h with h; omega)]
      rw [show (VL.isNon (VL.D.tup (VL.natD r))) = false from rfl, decide_eq_true rfl]
      simp only [Bool.not_true, Bool.false_eq_true, if_false]
      walk_at "vw"
      refine ⟨p, (m : Int), rfl, hp1, by omega, by omega, fun d1 h10 h11 => ?_⟩
      walk_at "vw"
      refine ⟨p, (m : Int), rfl, hp1, by omega, by omega, fun d2 h20 h21 => ?_⟩
      walk_at "vw"
      have hw0 : ∀ w ∈ [[VL.D.int d1, .int 0, .int d2, .int 1], [], [.int 0, .int 0]], SmL w := by
        intro w hw
        simp only [List.mem_cons, List.not_mem_nil, or_false] at hw
        rcases hw with rfl | rfl | rfl
        · exact ⟨show 4 ≤ 200 by decide, fun x hx => by simp only [List.mem_cons, List.not_mem_nil, or_false] at hx; rcases hx with rfl | rfl | rfl | rfl <;> exact trivial⟩
        · exact ⟨show 0 ≤ 200 by decide, fun x hx => by cases hx⟩
        · exact ⟨show 2 ≤ 200 by decide, fun x hx => by simp only [List.mem_cons, List.not_mem_nil, or_false] at hx; rcases hx with rfl | rfl <;> exact trivial⟩
      have hrl := ring_len hr
      have hrF := ring_rform hr
      have hrW := ring_rwire hr
      have hrs : SmL (VL.natD r) := ⟨by rw [natD_len]; omega, natD_sm⟩
      refine ⟨m, cs, _, rfl, hcl60, by omega, hrs.1, hrs.2, fun h => absurd hrF h, fun _ h => absurd hrW h, fun _ _ => ?_⟩
      walk_at "vw"
      refine ⟨m, cs, _, rfl, by omega, hcl60, VL.kn_tup, (fun h => by cases h), fun ys hy => ?_⟩
      cases hy
      refine ⟨hrs.1, .inr rfl, hrs.2, fun h => absurd hrF h, fun _ h => absurd hrW h, fun _ _ => ?_⟩
      walk_at "vw"
      refine ⟨p, (m : Int), cs, _, rfl, hp1, hcl60, hrF.four, hrs.1, hrs.2, fun ws2 hwl2 hws2 => ?_⟩
      refine VL.o_cat rfl rfl (Nat.le_of_lt (VL.lt_line (by rw [List.length_map]; show 3 + ws2.length < 100000; omega))) ?_
      walk_at "vw"
      have hwsL : ∀ w ∈ [[VL.D.int d1, .int 0, .int d2, .int 1], [], [.int 0, .int 0]] ++ ws2, SmL w := (fun w hw => (List.mem_append.mp hw).elim (hw0 w) (hws2 w))
      generalize hWs : [[VL.D.int d1, .int 0, .int d2, .int 1], [], [.int 0, .int 0]] ++ ws2 = ws at hwsL
      refine VL.s_for (VL.i_seq rfl ?_)
      walk_at "vw"
      have hlst : [VL.D.lst [VL.D.int d1, .int 0, .int d2, .int 1], VL.D.lst [], VL.D.lst [.int 0, .int 0]] ++ ws2.map VL.D.lst = ws.map VL.D.lst := by rw [← hWs]; first | rfl | (rw [List.map_append]; rfl)
      rw [hlst]
      refine ⟨_, rfl, fun i ρ' O2 => O2 = O1 ∧ ∃ x, ρ' = [some (.scr ns), some (.ref p), some (.int (m : Int)), some (.lst (rowsT cs)), some (VL.codeD (He.ga K "Code") m cs), some (.lst (rowsT G)), some (.tup (rowsT G)), some (.int ((VL.bipF m 0 cs).length : Int)), some (.tup (VL.natD r)), some (.lst (ws.map VL.D.lst)), x, none, none, none],
        ⟨rfl, none, rfl⟩, fun _ _ _ _ => rfl, ?_, ?_⟩
      · rintro i d ρ' O2 hd ⟨rfl, x, rfl⟩
        rw [List.getElem?_map, Option.map_eq_some_iff] at hd
        obtain ⟨w1, hw1, rfl⟩ := hd
        have hs1 := hwsL w1 (List.mem_of_getElem? hw1)
        walk_at "vw"
        refine ⟨m, cs, w1, rfl, by omega, hcl60, hs1.1, hs1.2, ?_⟩
        refine ⟨_, rfl, ?_⟩
        simp only [Bool.not_true, Bool.false_eq_true, if_false]
        walk_at "vw"
        exact ⟨rfl, _, rfl⟩
      · rintro ρ' O2 ⟨rfl, x, rfl⟩
        walk_at "vw"
        refine VL.s_for (VL.i_seq rfl ?_)
        walk_at "vw"
        refine ⟨_, rfl, fun i ρ' O3 => O3 = O2 ∧ ∃ y, ρ' = [some (.scr ns), some (.ref p), some (.int (m : Int)), some (.lst (rowsT cs)), some (VL.codeD (He.ga K "Code") m cs), some (.lst (rowsT G)), some (.tup (rowsT G)), some (.int ((VL.bipF m 0 cs).length : Int)), some (.tup (VL.natD r)), some (.lst (ws.map VL.D.lst)), x, y, none, none],
          ⟨rfl, none, rfl⟩, fun _ _ _ _ => rfl, ?_, ?_⟩
        · rintro i d ρ' O3 hd ⟨rfl, y, rfl⟩
          have hdk : VL.Kn O3 d ∧ VL.asS O3 d = none := by
            have hm := List.mem_of_getElem? hd
            simp only [List.mem_cons, List.not_mem_nil, or_false] at hm
            rcases hm with rfl | rfl | rfl
            · exact ⟨VL.kn_non, rfl⟩
            · exact ⟨VL.kn_str, rfl⟩
            · exact ⟨VL.kn_int, rfl⟩
          walk_at "vw"
          refine ⟨m, cs, d, rfl, by omega, hcl60, hdk.1, fun _ => ?_, fun xs hx => by rw [hdk.2] at hx; cases hx⟩
          walk_at "vw"
          rw [decide_eq_true rfl]
          simp only [Bool.not_true, Bool.false_eq_true, if_false]
          walk_at "vw"
          exact ⟨rfl, _, rfl⟩
        · rintro ρ' O3 ⟨rfl, y, rfl⟩
          walk_at "vw"
          refine ⟨m, cs, rfl, by omega, by omega, hcs, fun L3 hL3 => ?_⟩
          unfold grpD
          rw [VL.grp_same (VL.Lab.same hL3 hL) m, rowsN_eq, hG]
          walk_at "vw"
          refine VL.o_eqD rfl (.tup (VL.pd_rowsT G)) (.tup (VL.pd_rowsT G)) (VL.sh_rowsT G) (VL.sh_rowsT G) ?_
          rw [show PyData.eqv (.tuple (G.map fun c => .tuple (VL.pInts c))) (.tuple (G.map fun c => .tuple (VL.pInts c))) = true from hGe]
          exact k _
end
end K80
set_option maxHeartbeats 0
namespace K80
open PySem PySem.Spec PyProof.Rows L2 MB
/-- the whole law, as the end of the walk asks it -/
def spLaw (K : PySem.W.Frag) : Sp := fun vs H Q _ => ∃ (a : Addr) (ns : List Int), vs = [.ref a] ∧ SqL K H a (ns.map V.int) ∧ ns.length ≤ 63 ∧ ∀ H', Q (.bl true) H'
theorem law_sp {K : PySem.W.Frag} : ∀ vs H Q E, spLaw K vs H Q E → VL.SpL K W_law vs H Q E := by
  rintro vs H Q E ⟨a, ns, rfl, hS, hl, k⟩
  refine ⟨H, fun _ => none, [.scr ns], fun d _ => d = .bl true, VL.noX, .cons (.scr hS) .nil, ⟨Same.refl _, fun _ _ h => by cases h⟩, ⟨ns, rfl, hl, fun _ => rfl⟩, ?_, fun _ _ _ _ _ _ _ _ _ z => z.elim⟩
  rintro F' H' O' v d _ _ rd rfl
  cases rd
  exact k H'
theorem facts {P : Program} {w : World} {K : PySem.W.Frag} {h : Heap} {mg : Str → Option Value} {f : Addr} (X : K.In h) (GG : h.Ns mainGlobals mg) (hfa : mg ("law" : Str) = some (.ref f)) (c : He.SaysX fa fn [] [] exx w h K) :
    ∃ fd : FuncData, (∀ (s : Shared) (v : Value), BindsTo s fd ⟨[v], []⟩ [("_law_script", v)]) ∧ ∀ base : Heap, K.In base → base.Ns mainGlobals mg → FnOk P w K mg base CX0 8 f fd ["_law_script"] (spLaw K) := by
  have T : Txt K mg := ⟨⟨h, X, GG⟩, c.t.d, c.more⟩
  obtain ⟨fd, F⟩ := T.c.def_ 25 (d := dd_law) rfl
  have e := hfa.symm.trans (T.glo 47)
  cases e
  have b := FunD.bindsA (ps := ["_law_script"]) F fun _ _ _ _ _ _ us hl => match us, hl with | [_], _ => rfl
  exact ⟨fd, fun s v => b s [v] rfl, fun base _ _ => (ok_law T F).imp law_sp⟩
end K80
open PySem PySem.W PySem.Calls PyProof.Rows
theorem PySem.Challenge.cw_letbychecks_k80_whole_pieces_and_rings_o_holds : PySem.Challenge.rw_letbychecks_k80_whole_pieces_and_rings_o.Holds := by
  w_on; o_law
  refine HandSHeadRun.head_any (r := K80.R) (q := view K80.R.prog [35]) (H := K80.hk) (ob := K80.ob) (M := 12000) (loose := K80.names) (d := HandSHeadRun.topDef K80.R.prog 35) (kwd := []) K80.ob_eq (by kernel_rfl) (fun s => by kernel_rfl) K80.run
    (by kernel_rfl) (by kernel_rfl) (by kernel_rfl) (by rfl) (by first | assumption | decide +kernel) (by decide +kernel) ⟨rfl, rfl, rfl, rfl, rfl, by decide +kernel⟩ ?hw ?hc
  case hw => w_witness2
  case hc =>
    refine L2.walk_ofE (l := PySem.Challenge.rw_letbychecks_k80_whole_pieces_and_rings_o) (n := 63) (k := 8) (x := "_law_script") (CX := L2.CX0) rfl (by decide) (by kernel_rfl) ⟨rfl, by decide, by decide⟩ ?F (fun _ _ _ _ z => z)
    intro w mg fa h Y GG hmg0
    obtain ⟨K, KX, c⟩ := Y
    have hmg : mg ("law" : PySem.Str) = some (.ref fa) := by
      have e : (HandSHeadRun.topDef K80.R.prog 35).name = ("law" : PySem.Str) := by kernel_rfl
      rw [← e]
      exact hmg0
    obtain ⟨fd, hb, hF⟩ := K80.facts (P := (PySem.Challenge.rw_letbychecks_k80_whole_pieces_and_rings_o).prog) (w := w) KX GG hmg c
    exact ⟨K, fd, K80.spLaw K, KX, hb, fun H a ns hl _ hS => ⟨a, ns, rfl, hS, hl, fun _ => rfl⟩, hF⟩
