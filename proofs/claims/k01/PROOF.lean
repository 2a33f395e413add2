import PyProof.Rows.All
import HandS.Base
import HandS.Call
import HandS.List
import HandS.Comp
import HandS.Ends
import HandS.Words
import HandS.WordsList
import HandS.Text
import HandS.StrMore
import HandS.Iter
import HandS.Walk
import HandS.IsInst
import HandS.Conv
import HandS.Dict
import PySem.Challenge.RW_offside_k01_words_judged
set_option Elab.async false
set_option linter.all false
set_option maxRecDepth 100000
set_option maxHeartbeats 4000000
--HEADEND
namespace My
open PySem PySem.Spec PyProof.Rows L2
/-! ### rules that the layer lacks, and its own with their readings named -/
/-- the one-sign texts of a list of signs -/
def sg (cs : List Nat) : List V := cs.map fun c => .str ⟨#[c]⟩
section
variable {X : Cx}
def wListS : List V → Hp → VK → Prop := fun xs H Q => ∃ z : Str, xs = [.str z] ∧ z.length ≤ sizeLine ∧ ∀ l, H l = none → Q (.ref l) (upd H l (.lst (sg z.cps.toList)))
theorem c_listS (hc : X.calm = true) : CallR X (.type "list") wListS := by
  intro pins s σ H xs us Q I r h
  obtain ⟨z, rfl, hz, q⟩ := h
  obtain ⟨u, rfl, t, rfl⟩ := vals1 r
  refine call_list_str (I.ok.hd hc) z t (fun h' tk acc' c' hkeep hS hacc => ?_) hz
  refine ⟨.ref s.heap.objs.size, upd H s.heap.objs.size (.lst (sg z.cps.toList)), I.laid hkeep (Nat.le_refl _) (show ObjOk X.prog X.w _ _ _ (.lst (sg z.cps.toList)) from ⟨?_, acc'.toList, c', ?_, ?_⟩), rfl, q _ (I.hok.fresh (Nat.le_refl _))⟩
  · unfold sg
    rw [List.length_map, Array.length_toList]
    exact hz
  · refine vals_of_at (by unfold sg; rw [List.length_map, Array.length_toList, Array.length_toList, hacc.1]) fun j x w h1 h2 => ?_
    obtain ⟨c, u, hc1, e⟩ := hacc.2 j w (by rw [← Array.getElem?_toList]; exact h2)
    unfold sg at h1
    rw [List.getElem?_map, Array.getElem?_toList, hc1] at h1
    cases h1
    exact ⟨u, e⟩
  · rw [Array.toArray_toList]
    exact hS
theorem op_powW : OpR X (binaryOp .Pow) (rI (fun i j => 0 ≤ j ∧ (Builtin.Int.intBits i : Int) * j ≤ 2 ^ 27) fun i j => .int (i ^ j.toNat)) := opI fun _ _ _ _ _ _ _ hc q => pow_int hc.1 hc.2 q
def wReprB : List V → Hp → VK → Prop := fun xs H Q => ∃ b, xs = [.bl b] ∧ Q (.str (if b then "True" else "False")) H
theorem call_repr_bl : CallR X (.builtin "repr") wReprB := by
  intro pins s σ H xs us Q I r h
  obtain ⟨b, rfl, q⟩ := h
  obtain ⟨u, rfl, rx⟩ := vals1 r
  cases rx
  exact PySem.P.repr_of_bool ⟨.str _, H, I.tok _, ⟨_, rfl⟩, q⟩
def wInt1 : List V → Hp → VK → Prop := fun xs H Q => (∃ i, xs = [.int i] ∧ Q (.int i) H) ∨ ∃ k, xs = [.bl k] ∧ Q (.int (if k then 1 else 0)) H
theorem c_int1 : CallR X (.type "int") wInt1 := call_int1
def wAbs : List V → Hp → VK → Prop := fun xs H Q => ∃ i, xs = [.int i] ∧ Q (.int (if i < 0 then -i else i)) H
theorem c_abs : CallR X (.builtin "abs") wAbs := call_abs
def wMax2 : List V → Hp → VK → Prop := fun xs H Q => ∃ i j, xs = [.int i, .int j] ∧ Q (.int (if j > i then j else i)) H
theorem c_max2 (hc : X.calm = true) : CallR X (.builtin "max") wMax2 := call_max2 hc
def wMin2 : List V → Hp → VK → Prop := fun xs H Q => ∃ i j, xs = [.int i, .int j] ∧ Q (.int (if j < i then j else i)) H
theorem c_min2 (hc : X.calm = true) : CallR X (.builtin "min") wMin2 := call_min2 hc
def wLenS (K : PySem.W.Frag) : List V → Hp → VK → Prop := fun xs H Q => ∃ p ys, xs = [.ref p] ∧ (SqL K H p ys ∨ SqT K H p ys) ∧ Q (.int (ys.length : Int)) H
theorem c_len {K : PySem.W.Frag} (hK : X.K = K := by rfl) : CallR X (.builtin "len") (wLenS K) := by
  subst hK
  exact call_len_seq
def wLenT : List V → Hp → VK → Prop := fun xs H Q => ∃ z, xs = [.str z] ∧ z.length ≤ sizeLine ∧ Q (.int (z.length : Int)) H
theorem c_lenT : CallR X (.builtin "len") wLenT := call_len_str
def wListOf (K : PySem.W.Frag) : List V → Hp → VK → Prop := fun xs H Q => ∃ p ys, xs = [.ref p] ∧ (SqL K H p ys ∨ SqT K H p ys) ∧ ∀ l, H l = none → Q (.ref l) (upd H l (.lst ys))
theorem c_list {K : PySem.W.Frag} (hK : X.K = K := by rfl) : CallR X (.type "list") (wListOf K) := by
  subst hK
  exact call_list_of
def wTupleOf (K : PySem.W.Frag) : List V → Hp → VK → Prop := fun xs H Q => ∃ p ys, xs = [.ref p] ∧ ((SqL K H p ys ∧ ∀ l, H l = none → Q (.ref l) (upd H l (.tup ys))) ∨ (SqT K H p ys ∧ Q (.ref p) H))
theorem c_tuple {K : PySem.W.Frag} (hK : X.K = K := by rfl) : CallR X (.type "tuple") (wTupleOf K) := by
  subst hK
  exact call_tuple_of
def wStrB (f : Str → Bool) : V → List V → Hp → VK → Prop := fun x xs H Q => ∃ a, x = .str a ∧ xs = [] ∧ True ∧ Q (.bl (f a)) H
theorem c_isascii : MtR X "str.isascii" (wStrB Txt.isascii) := mt_isascii
theorem c_isalpha : MtR X "str.isalpha" (wStrB Txt.isalpha) := mt_isalpha
theorem c_islower : MtR X "str.islower" (wStrB Txt.islower) := mt_islower
def wAddS : R2 := fun x y H Q => ∃ i j, x = .str i ∧ y = .str j ∧ i.length + j.length ≤ sizeLine ∧ Q (.str (i ++ j)) H
theorem o_adds : OpR X (binaryOp .Add) wAddS := op_add_str
def wNotInC : R2 := fun x y H Q => ∃ (c : Nat) (z : Str), x = .str ⟨#[c]⟩ ∧ y = .str z ∧ Q (.bl (!decide (c ∈ z.cps.toList))) H
theorem o_notInC : OpR X (compareOp .NotIn) wNotInC := op_notIn_sign
def wJoin (K : PySem.W.Frag) : V → List V → Hp → VK → Prop := fun x xs H Q => ∃ a p, ∃ ys : List Str, x = .str a ∧ xs = [.ref p] ∧ (SqL K H p (ys.map V.str) ∨ SqT K H p (ys.map V.str)) ∧
    (ys.map (·.length)).sum + ys.length * a.length ≤ 16777216 ∧ Q (.str (Txt.join a ys)) H
theorem c_join {K : PySem.W.Frag} (hK : X.K = K := by rfl) : MtR X "str.join" (wJoin K) := by
  subst hK
  exact mt_join
theorem c_isi {K : PySem.W.Frag} (hK : X.K = K := by rfl) : CallR X (.builtin "isinstance") (rIsi K) := by
  subst hK
  exact call_isi
theorem o_eqD {K : PySem.W.Frag} (hu : X.A.units + 64 < cLine) (hK : X.K = K := by rfl) : OpR X (compareOp .Eq) (rEqD K) := by
  subst hK
  exact op_eqD hu
theorem o_neD {K : PySem.W.Frag} (hu : X.A.units + 64 < cLine) (hK : X.K = K := by rfl) : OpR X (compareOp .NotEq) (rNeD K) := by
  subst hK
  exact op_neD hu
theorem o_inL {K : PySem.W.Frag} (hK : X.K = K := by rfl) : OpR X (compareOp .In) (rIn K false) := by
  subst hK
  exact op_in_seq
theorem o_notInL {K : PySem.W.Frag} (hK : X.K = K := by rfl) : OpR X (compareOp .NotIn) (rIn K true) := by
  subst hK
  exact op_notIn_seq
theorem i_list {K : PySem.W.Frag} (hK : X.K = K := by rfl) : IxR X (rIxL K) := by
  subst hK
  exact ix_list
theorem i_tup {K : PySem.W.Frag} (hK : X.K = K := by rfl) : IxR X (rIxT K) := by
  subst hK
  exact ix_tup
theorem s_list {K : PySem.W.Frag} (hK : X.K = K := by rfl) : SlR X (rSlL K) := by
  subst hK
  exact sl_list
theorem p_list {K : PySem.W.Frag} {tg l : Expr} {tl : TE} (hl : PE X l tl) (hK : X.K = K := by rfl) : PI X tg l (iList K tl) := by
  subst hK
  exact pi_list hl
theorem e_bm0 {K : PySem.W.Frag} {T id : String} {name : Str} {r : V → List V → Hp → VK → Prop} {o : Expr} {to : TE} {apos cpos : Pos} (pa : PlainAttrs T) (slot : Slot T name id) (hty : typeOf (.builtin id) = pure (.type "method_descriptor")) (hm : MtR X id r) (ho : PE X o to) (hK : X.K = K := by rfl)
    (hbase : attributeBase o name X.env (eval o X.env) = eval o X.env := by rfl) (hline : (apos.endLine == cpos.line) = true := by rfl) : PE X (.Call (.Attribute o name apos) [] [] cpos) (tBM0 K T r to) := by
  subst hK
  exact pe_bm0 pa slot hty hm ho hbase hline
theorem e_bm {K : PySem.W.Frag} {T id : String} {name : Str} {r : V → List V → Hp → VK → Prop} {o e : Expr} {es : List Expr} {to : TE} {t : TA} {apos cpos : Pos} (pa : PlainAttrs T) (slot : Slot T name id) (hty : typeOf (.builtin id) = pure (.type "method_descriptor")) (hm : MtR X id r) (ho : PE X o to) (ha : PA X (e :: es) t) (hK : X.K = K := by rfl)
    (hbase : attributeBase o name X.env (eval o X.env) = eval o X.env := by rfl)
    (hfew : ((backTo cpos (starEach (e :: es) X.env)).all (fun x => !x.1) && (backToKw cpos (keywordEach [] X.env)).all (fun x => x.1.isSome)
      && decide ((e :: es).length + ([] : List Keyword).length + (if ([] : List Keyword).isEmpty then 0 else 1) < 30)) = true := by rfl)
    (hline : (apos.endLine == cpos.line) = true := by rfl) (hs : starEach (e :: es) X.env = (false, eval e X.env) :: starEach es X.env := by rfl) (hplain : (backTo cpos (starEach es X.env)).any (·.1) = false := by rfl) :
    PE X (.Call (.Attribute o name apos) (e :: es) [] cpos) (tBM K T r to t) := by
  subst hK
  exact pe_bm pa slot hty hm ho ha hbase hfew hline hs hplain
end
/-! ### steps of a reading -/
section
variable {K : PySem.W.Frag} {σ : L2.St} {H : Hp} {D : Ends}
theorem r_var {i : Nat} {v : V} {Q : VK} (h : σ[i]? = some (some v)) (q : Q v H) : tVar i σ H Q := ⟨v, h, q⟩
theorem r_c {v : V} {Q : VK} (q : Q v H) : tC v σ H Q := q
theorem r_op {r : R2} {ta tb : TE} {Q : VK} (q : ta σ H fun x H1 => tb σ H1 fun y H2 => r x y H2 Q) : tOp r ta tb σ H Q := q
theorem r_un {r : V → Hp → VK → Prop} {ta : TE} {Q : VK} (q : ta σ H fun x H1 => r x H1 Q) : tUn r ta σ H Q := q
theorem r_I0 {g : Int → Int → V} {i j : Int} {Q : VK} (q : Q (g i j) H) : rI0 g (.int i) (.int j) H Q := ⟨i, j, rfl, rfl, q⟩
theorem r_I {C : Int → Int → Prop} {g : Int → Int → V} {i j : Int} {Q : VK} (hc : C i j) (q : Q (g i j) H) : rI C g (.int i) (.int j) H Q := ⟨i, j, rfl, rfl, hc, q⟩
theorem r_U {g : Int → V} {i : Int} {Q : VK} (q : Q (g i) H) : rU g (.int i) H Q := ⟨i, rfl, q⟩
theorem r_eq {x y : V} {Q : VK} (hs : scal x y = true) (q : Q (.bl (decide (x = y))) H) : rEq x y H Q := ⟨hs, q⟩
theorem r_ne {x y : V} {Q : VK} (hs : scal x y = true) (q : Q (.bl (!decide (x = y))) H) : rNe x y H Q := ⟨hs, q⟩
theorem r_nil {Q : List V → Hp → Prop} (q : Q [] H) : tNil σ H Q := q
theorem r_cons {ta : TE} {tr : TA} {Q : List V → Hp → Prop} (q : ta σ H fun x H1 => tr σ H1 fun xs H2 => Q (x :: xs) H2) : tCons ta tr σ H Q := q
theorem r_cb {r : List V → Hp → VK → Prop} {t : TA} {Q : VK} (q : t σ H fun vs H1 => r vs H1 Q) : tCB r t σ H Q := q
theorem r_call {sp : Sp} {dvs : List V} {E : XK} {t : TA} {Q : VK} (q : t σ H fun vs H1 => sp (vs ++ dvs) H1 Q E) : tCall sp dvs E t σ H Q := q
theorem r_tup {t : TA} {Q : VK} (q : t σ H fun xs H1 => xs.length ≤ sizeLine ∧ ∀ p, H1 p = none → Q (.ref p) (upd H1 p (.tup xs))) : tTup t σ H Q := q
theorem r_lst {t : TA} {Q : VK} (q : t σ H fun xs H1 => xs.length ≤ sizeLine ∧ ∀ p, H1 p = none → Q (.ref p) (upd H1 p (.lst xs))) : tLst t σ H Q := q
theorem r_seq {t u : TS} (q : t { D with nx := u D } σ H) : tSeq t u D σ H := q
theorem r_next (q : D.nx σ H) : tNext D σ H := q
theorem r_asg {te : TE} {g : TG} (q : te σ H fun x H1 => g x σ H1 D.nx) : tAsg te g D σ H := q
theorem r_name {i : Nat} {x : V} {k : L2.St → Hp → Prop} (q : k (σ.set i (some x)) H) : gName i x σ H k := q
theorem r_sub {to ti : TE} {t : TSet} {v : V} {k : L2.St → Hp → Prop} (q : to σ H fun o H1 => ti σ H1 fun i H2 => t o i v H2 fun H3 => k σ H3) : gSub to ti t v σ H k := q
theorem r_setL {p : Addr} {xs : List V} {i : Int} {j : Nat} {v : V} {k : Hp → Prop} (h : H p = some (.lst xs)) (hi : ixN xs.length i = some j) (q : k (upd H p (.lst (xs.set j v)))) : rSetL (.ref p) (.int i) v H k := ⟨p, xs, i, j, rfl, rfl, h, hi, q⟩
theorem r_ifs {c : TT} {t u : TS} (q : c σ H fun b H1 => if b = true then t D σ H1 else u D σ H1) : tIfS c t u D σ H := q
theorem r_ret {te : TE} (q : te σ H D.rt) : tRet te D σ H := q
theorem r_drop {te : TE} (q : te σ H fun _ H1 => D.nx σ H1) : tDrop te D σ H := q
theorem r_test {t : TE} {Q : Bool → Hp → Prop} (q : t σ H fun x H' => ∃ k, x = .bl k ∧ Q k H') : tTest t σ H Q := q
theorem r_B {t : TE} {Q : Bool → Hp → Prop} (q : t σ H fun x H' => ∃ k, x = .bl k ∧ Q k H') : tB t σ H Q := q
theorem r_not {t : TT} {Q : Bool → Hp → Prop} (q : t σ H fun c H1 => Q (!c) H1) : tNot t σ H Q := q
theorem r_and {t u : TT} {Q : Bool → Hp → Prop} (q : t σ H fun c H1 => if c = true then u σ H1 Q else Q false H1) : tAnd t u σ H Q := q
theorem r_or {t u : TT} {Q : Bool → Hp → Prop} (q : t σ H fun c H1 => if c = true then Q true H1 else u σ H1 Q) : tOr t u σ H Q := q
theorem r_notV {ta : TE} {Q : VK} (q : ta σ H fun x H1 => ∃ c, x = .bl c ∧ Q (.bl (!c)) H1) : tNotV ta σ H Q := q
theorem r_andV {ta tb : TE} {Q : VK} (q : ta σ H fun x H1 => ∃ c, x = .bl c ∧ if c = true then tb σ H1 Q else Q (.bl false) H1) : tAndV ta tb σ H Q := q
theorem r_orV {ta tb : TE} {Q : VK} (q : ta σ H fun x H1 => ∃ c, x = .bl c ∧ if c = true then Q (.bl true) H1 else tb σ H1 Q) : tOrV ta tb σ H Q := q
theorem r_if {t : TT} {ta tb : TE} {Q : VK} (q : t σ H fun c H1 => if c = true then ta σ H1 Q else tb σ H1 Q) : tIf t ta tb σ H Q := q
theorem r_chain {r r' : R2} {ta tb tc : TE} {Q : VK} (q : ta σ H fun x H1 => tb σ H1 fun y H2 => r x y H2 fun z H3 => ∃ k, z = .bl k ∧ (if k = true then tc σ H3 fun w' H4 => r' y w' H4 Q else Q (.bl false) H3)) : tChain r r' ta tb tc σ H Q := q
theorem r_bl {b : Bool} {P : Bool → Prop} (q : P b) : ∃ k, V.bl b = V.bl k ∧ P k := ⟨b, rfl, q⟩
theorem r_ixL {p : Addr} {xs : List V} {i : Int} {v : V} {Q : VK} (h : H p = some (.lst xs)) (ha : atI xs i = some v) (q : Q v H) : rIxL K (.ref p) (.int i) H Q := ⟨p, xs, i, v, rfl, rfl, .inl (.inl h), ha, q⟩
theorem r_ixT {p : Addr} {xs : List V} {i : Int} {v : V} {Q : VK} (h : H p = some (.tup xs)) (ha : atI xs i = some v) (q : Q v H) : rIxT K (.ref p) (.int i) H Q := ⟨p, xs, i, v, rfl, rfl, .inl (.inl h), ha, q⟩
theorem r_int1 {i : Int} {Q : VK} (q : Q (.int i) H) : wInt1 [.int i] H Q := .inl ⟨i, rfl, q⟩
theorem r_int1b {b : Bool} {Q : VK} (q : Q (.int (if b then 1 else 0)) H) : wInt1 [.bl b] H Q := .inr ⟨b, rfl, q⟩
theorem r_abs {i : Int} {Q : VK} (q : Q (.int (if i < 0 then -i else i)) H) : wAbs [.int i] H Q := ⟨i, rfl, q⟩
theorem r_max2 {i j : Int} {Q : VK} (q : Q (.int (if j > i then j else i)) H) : wMax2 [.int i, .int j] H Q := ⟨i, j, rfl, q⟩
theorem r_min2 {i j : Int} {Q : VK} (q : Q (.int (if j < i then j else i)) H) : wMin2 [.int i, .int j] H Q := ⟨i, j, rfl, q⟩
theorem r_lenL {p : Addr} {ys : List V} {Q : VK} (h : H p = some (.lst ys)) (q : Q (.int (ys.length : Int)) H) : wLenS K [.ref p] H Q := ⟨p, ys, rfl, .inl (.inl (.inl h)), q⟩
theorem r_lenTp {p : Addr} {ys : List V} {Q : VK} (h : H p = some (.tup ys)) (q : Q (.int (ys.length : Int)) H) : wLenS K [.ref p] H Q := ⟨p, ys, rfl, .inr (.inl (.inl h)), q⟩
theorem r_lenT {z : Str} {Q : VK} (h : z.length ≤ sizeLine) (q : Q (.int (z.length : Int)) H) : wLenT [.str z] H Q := ⟨z, rfl, h, q⟩
theorem r_listL {p : Addr} {ys : List V} {Q : VK} (h : H p = some (.lst ys)) (q : ∀ l, H l = none → Q (.ref l) (upd H l (.lst ys))) : wListOf K [.ref p] H Q := ⟨p, ys, rfl, .inl (.inl (.inl h)), q⟩
theorem r_listS {z : Str} {Q : VK} (h : z.length ≤ sizeLine) (q : ∀ l, H l = none → Q (.ref l) (upd H l (.lst (sg z.cps.toList)))) : wListS [.str z] H Q := ⟨z, rfl, h, q⟩
theorem r_tupleL {p : Addr} {ys : List V} {Q : VK} (h : H p = some (.lst ys)) (q : ∀ l, H l = none → Q (.ref l) (upd H l (.tup ys))) : wTupleOf K [.ref p] H Q := ⟨p, ys, rfl, .inl ⟨.inl (.inl h), q⟩⟩
theorem r_reprB {b : Bool} {Q : VK} (q : Q (.str (if b then "True" else "False")) H) : wReprB [.bl b] H Q := ⟨b, rfl, q⟩
theorem r_bm {T : String} {r : V → List V → Hp → VK → Prop} {to : TE} {t : TA} {Q : VK} (q : to σ H fun x H1 => tyV K T x H1 ∧ t σ H1 fun xs H2 => r x xs H2 Q) : tBM K T r to t σ H Q := q
theorem r_bm0 {T : String} {r : V → List V → Hp → VK → Prop} {to : TE} {Q : VK} (q : to σ H fun x H1 => tyV K T x H1 ∧ r x [] H1 Q) : tBM0 K T r to σ H Q := q
theorem r_tyL {p : Addr} {xs : List V} {P : Prop} (h : H p = some (.lst xs)) (q : P) : tyV K "list" (.ref p) H ∧ P := ⟨.inl ⟨rfl, _, .inl (.inl h)⟩, q⟩
theorem r_tyS {z : Str} {P : Prop} (q : P) : tyV K "str" (.str z) H ∧ P := ⟨rfl, q⟩
theorem r_strB {f : Str → Bool} {a : Str} {Q : VK} (q : Q (.bl (f a)) H) : wStrB f (.str a) [] H Q := ⟨a, rfl, rfl, trivial, q⟩
theorem r_addS {i j : Str} {Q : VK} (h : i.length + j.length ≤ sizeLine) (q : Q (.str (i ++ j)) H) : wAddS (.str i) (.str j) H Q := ⟨i, j, rfl, rfl, h, q⟩
theorem r_notInC {c : Nat} {z : Str} {Q : VK} (q : Q (.bl (!decide (c ∈ z.cps.toList))) H) : wNotInC (.str ⟨#[c]⟩) (.str z) H Q := ⟨c, z, rfl, rfl, q⟩
theorem r_append {l : Addr} {xs : List V} {y : V} {Q : VK} (h : H l = some (.lst xs)) (hz : xs.length < sizeLine) (q : Q .non (upd H l (.lst (xs ++ [y])))) : rAppend (.ref l) [y] H Q := ⟨l, xs, y, rfl, rfl, h, hz, q⟩
theorem r_dnew {Q : VK} (q : ∀ p, H p = none → Q (.ref p) (upd H p (.dK []))) : tDNewK σ H Q := q
theorem r_cat {l b : Addr} {xs zs : List V} {Q : VK} (h : H l = some (.lst xs)) (h' : H b = some (.lst zs)) (hz : xs.length + zs.length ≤ sizeLine) (q : ∀ p, H p = none → Q (.ref p) (upd H p (.lst (xs ++ zs)))) : rCat (.ref l) (.ref b) H Q := ⟨l, b, xs, zs, rfl, rfl, h, h', hz, q⟩
theorem r_joinL {a : Str} {p : Addr} {ys : List Str} {Q : VK} (h : H p = some (.lst (ys.map V.str))) (hz : (ys.map (·.length)).sum + ys.length * a.length ≤ 16777216) (q : Q (.str (Txt.join a ys)) H) : wJoin K (.str a) [.ref p] H Q := ⟨a, p, ys, rfl, rfl, .inl (.inl (.inl h)), hz, q⟩
theorem r_popAt {l : Addr} {xs : List V} {k : Nat} {y : V} {Q : VK} (h : H l = some (.lst xs)) (hz : k < 9223372036854775808) (hy : xs[k]? = some y) (q : Q y (upd H l (.lst (xs.eraseIdx k)))) : rPopAt (.ref l) [.int (k : Int)] H Q := by
  have hk : k < xs.length := (List.getElem?_eq_some_iff.mp hy).1
  have hx : ixN xs.length (k : Int) = some k := by
    unfold ixN
    rw [if_pos (Int.natCast_nonneg k), if_pos (by omega)]
    rfl
  exact ⟨l, xs, k, k, y, rfl, rfl, h, by omega, by omega, (ixN_seq hx).1, hy, q⟩
theorem r_rng1 {ta : TA} {R : It → Hp → Prop} (q : ta σ H fun vs H1 => ∃ j : Int, vs = [.int j] ∧ -(2 ^ 62) ≤ j ∧ j < 2 ^ 62 ∧ R (Itr 0 j.toNat) H1) : iRng1 ta σ H R := q
theorem r_rng1j {j : Int} {P : Int → Prop} (h1 : -(2 ^ 62) ≤ j) (h2 : j < 2 ^ 62) (q : P j) : ∃ j' : Int, [V.int j] = [V.int j'] ∧ -(2 ^ 62) ≤ j' ∧ j' < 2 ^ 62 ∧ P j' := ⟨j, rfl, h1, h2, q⟩
theorem r_iList {tl : TE} {R : It → Hp → Prop} (q : tl σ H fun x H1 => ∃ a, x = .ref a ∧ (∃ xs, SqL K H1 a xs) ∧ R (Itl K a) H1) : iList K tl σ H R := q
theorem r_iListj {a : Addr} {xs : List V} {P : Addr → Prop} (h : H a = some (.lst xs)) (q : P a) : ∃ a', V.ref a = .ref a' ∧ (∃ xs, SqL K H a' xs) ∧ P a' := ⟨a, rfl, ⟨xs, .inl (.inl h)⟩, q⟩
theorem r_iStr {te : TE} {R : It → Hp → Prop} (q : te σ H fun v H1 => ∃ x, v = .str x ∧ R (Its x) H1) : iStr te σ H R := q
theorem r_iStrj {z : Str} {P : Str → Prop} (q : P z) : ∃ x, V.str z = .str x ∧ P x := ⟨z, rfl, q⟩
def LcB (J : It) (g : TG) (tt : TT) (te : TE) (vs : List Nat) (σ : L2.St) (H1 : Hp) (D : Addr) (Q : VK) : Prop := ∃ W : Nat → Nat → Hp → Prop, (∃ m, W 0 m (upd H1 D (.lst []))) ∧ ∀ i m H, W i m H →
  (J.stop i H ∧ Q (.ref D) H) ∨ (J.go i H ∧ ∃ Nx : Hp → Prop, (∀ H', Nx H' → ∃ m', m' < m ∧ W (i + 1) m' H') ∧ ∀ x H', J.yld i H x H' → g x (wipe σ vs) H' fun σ2 H2 => wipe σ2 vs = wipe σ vs ∧ tt σ2 H2 fun b H3 =>
    if b = true then te σ2 H3 fun y H4 => ∃ acc, H4 D = some (.lst acc) ∧ acc.length < sizeLine ∧ Nx (upd H4 D (.lst (acc ++ [y]))) else Nx H3)
theorem r_lc {wi : TI} {g : TG} {tt : TT} {te : TE} {vs : List Nat} {Q : VK} (q : wi σ H fun J H1 => ∀ D, H1 D = none → LcB J g tt te vs σ H1 D Q) : tLc wi g tt te vs σ H Q := q
def ForB (J : It) (g : TG) (tb : TS) (D : Ends) (σ : L2.St) (H1 : Hp) : Prop := ∃ W : Nat → Nat → L2.St → Hp → Prop, (∃ m, W 0 m σ H1) ∧ ∀ i m σ H, W i m σ H →
  (J.stop i H ∧ D.nx σ H) ∨ (J.go i H ∧ ∃ N : L2.St → Hp → Prop, (∀ σ' H', N σ' H' → ∃ m', m' < m ∧ W (i + 1) m' σ' H') ∧ ∀ x H', J.yld i H x H' → g x σ H' fun σ2 H2 => tb { D with nx := N, ct := N, bk := D.nx } σ2 H2)
theorem r_for {wi : TI} {g : TG} {tb : TS} (q : wi σ H fun J H1 => ForB J g tb D σ H1) : tFor wi g tb D σ H := q
theorem r_yes {Q : Bool → Hp → Prop} (q : Q true H) : tYes σ H Q := q
/-- a comprehension over a walk; Pv by the turn and the heap -/
theorem lcB {J : It} {n : Nat} {G : Hp → Prop} {Y : Nat → Hp → V → Hp → Prop} (w : Walk J n G Y) {g : TG} {tt : TT} {te : TE} {vs : List Nat} {H1 : Hp} {D : Addr} {Q : VK} (Pv : Nat → Hp → Prop) (h0 : Pv 0 (upd H1 D (.lst []))) (hG : ∀ i H, i ≤ n → Pv i H → G H)
    (hs : ∀ i x H H', i < n → Pv i H → Y i H x H' → g x (wipe σ vs) H' fun σ2 H2 => wipe σ2 vs = wipe σ vs ∧ tt σ2 H2 fun b H3 =>
      if b = true then te σ2 H3 fun y H4 => ∃ acc, H4 D = some (.lst acc) ∧ acc.length < sizeLine ∧ Pv (i + 1) (upd H4 D (.lst (acc ++ [y]))) else Pv (i + 1) H3) (hd : ∀ H, Pv n H → Q (.ref D) H) : LcB J g tt te vs σ H1 D Q := lc_it w (Qd := fun H => Q (.ref D) H) Pv h0 hG hs hd
theorem forB {J : It} {n : Nat} {G : Hp → Prop} {Y : Nat → Hp → V → Hp → Prop} (w : Walk J n G Y) {g : TG} {tb : TS} (Pv : Nat → L2.St → Hp → Prop) (h0 : Pv 0 σ H) (hG : ∀ i σ H, i ≤ n → Pv i σ H → G H)
    (hs : ∀ i x σ H H', i < n → Pv i σ H → Y i H x H' → g x σ H' fun σ2 H2 => tb { D with nx := Pv (i + 1), ct := Pv (i + 1), bk := D.nx } σ2 H2) (hd : ∀ σ H, Pv n σ H → D.nx σ H) : ForB J g tb D σ H := for_it w Pv h0 hG hs hd
end
theorem nx_pos {a n : Int} (h : 1 ≤ n) (h0 : 0 ≤ a) : (a % n).toNat < n ∧ ((a % n).toNat : Int) = a % n := by
  have h1 := Int.emod_nonneg a (show n ≠ 0 by omega)
  have h2 := Int.emod_lt_of_pos a (show 0 < n by omega)
  omega
theorem get_cons_erase {α : Type} : ∀ {l : List α} {i : Nat} (h : i < l.length), (l[i] :: l.eraseIdx i).Perm l
  | [], _, h => absurd h (Nat.not_lt_zero _)
  | x :: r, 0, _ => .refl _
  | x :: r, i + 1, h => by
    have hi : i < r.length := Nat.lt_of_succ_lt_succ h
    have ih := get_cons_erase (l := r) (i := i) hi
    show (r[i] :: x :: r.eraseIdx i).Perm (x :: r)
    exact (List.Perm.swap x r[i] _).trans (ih.cons x)
theorem iteF' {b : Bool} {A B : Prop} (h : b = false) (q : B) : if b = true then A else B := by
  subst h
  exact iteF q
theorem iteT' {b : Bool} {A B : Prop} (h : b = true) (q : A) : if b = true then A else B := by
  subst h
  exact iteT q
theorem sz_of {n : Nat} (h : n ≤ 100000) : n ≤ sizeLine := Nat.le_trans h (by decide)
theorem sz_lt {n : Nat} (h : n < 100000) : n < sizeLine := Nat.lt_of_lt_of_le h (by decide)
/-- the text of some signs -/
abbrev ofC (cs : List Nat) : Str := ⟨cs.toArray⟩
theorem ofC_len (cs : List Nat) : (ofC cs).length = cs.length := rfl
theorem joinL_nil : ∀ cs : List Nat, TL.joinL [] (cs.map fun c => [c]) = cs
  | [] => rfl
  | [_] => rfl
  | c :: e :: r => by
    have ih := joinL_nil (e :: r)
    show [c] ++ ([] ++ TL.joinL [] ((e :: r).map fun c => [c])) = c :: e :: r
    rw [ih]
    rfl
theorem join_one (cs : List Nat) : Txt.join (Str.ofString "") (cs.map fun c => (⟨#[c]⟩ : Str)) = ofC cs := by
  refine TL.ext_tl ?_
  unfold Txt.join
  rw [StrLaws.glued_eq_join, TL.tl_join]
  rw [List.map_map]
  exact joinL_nil cs
theorem sum_one (cs : List Nat) : ((cs.map fun c => (⟨#[c]⟩ : Str)).map (·.length)).sum = cs.length := by
  rw [List.map_map]
  induction cs with
  | nil => rfl
  | cons c r ih =>
    rw [List.map_cons, List.sum_cons, ih, List.length_cons]
    show 1 + r.length = r.length + 1
    omega
/-! ### the draws -/
/-- a list of three ints, the first not below nought -/
def Dice (H : Hp) (d : Addr) : Prop := ∃ a b c : Int, 0 ≤ a ∧ H d = some (.lst [.int a, .int b, .int c])
/-- what stood, stands, but for what is at d -/
def Ext (d : Addr) (H H' : Hp) : Prop := ∀ b o, b ≠ d → H b = some o → H' b = some o
theorem Ext.refl (d : Addr) (H : Hp) : Ext d H H := fun _ _ _ h => h
theorem Ext.trans {d : Addr} {H H1 H2 : Hp} (a : Ext d H H1) (b : Ext d H1 H2) : Ext d H H2 := fun c o n h => b c o n (a c o n h)
theorem Ext.at_ {d : Addr} {H H' : Hp} {o : HO} (e : Ext d H H') : Ext d H (upd H' d o) := fun b u n h => by
  rw [upd_ne n]
  exact e b u n h
theorem Ext.new {d p : Addr} {H : Hp} {o : HO} (n : H p = none) : Ext d H (upd H p o) := fun b u _ h => by
  rw [upd_ne (ne_of_none h n)]
  exact h
theorem same_upd {H : Hp} {p : Addr} {o : HO} (h : H p = none) : Same H (upd H p o) := fun b x e => by
  rw [upd_ne (ne_of_none e h)]
  exact e
theorem Ext.same {d : Addr} {H H1 H2 : Hp} (s : Same H H1) (e : Ext d H1 H2) (n : H d = Option.none) : Same H H2 := fun b o h => e b o (ne_of_none h n) (s b o h)
theorem Ext.of_same {d : Addr} {H H' : Hp} (s : Same H H') : Ext d H H' := fun b o _ h => s b o h
theorem Dice.mk3 {d : Addr} {H : Hp} {a b c : Int} (h : 0 ≤ a) : Dice (upd H d (.lst [.int a, .int b, .int c])) d := ⟨a, b, c, h, upd_same⟩
theorem Dice.new {d p : Addr} {H : Hp} {o : HO} (h : Dice H d) (n : H p = none) : Dice (upd H p o) d := by
  obtain ⟨a, b, c, h0, e⟩ := h
  exact ⟨a, b, c, h0, by rw [upd_ne (ne_of_none e n)]; exact e⟩
theorem Dice.off {d p : Addr} {H : Hp} {o : HO} (h : Dice H d) (n : p ≠ d) : Dice (upd H p o) d := by
  obtain ⟨a, b, c, h0, e⟩ := h
  exact ⟨a, b, c, h0, by rw [upd_ne n.symm]; exact e⟩
theorem Dice.ne {d p : Addr} {H : Hp} (h : Dice H d) (n : H p = none) : p ≠ d := by
  obtain ⟨a, b, c, h0, e⟩ := h
  exact (ne_of_none e n).symm
theorem Ext.free_ {d p : Addr} {H H' : Hp} (e : Ext d H H') (hd : Dice H' d) (n : H' p = none) : H p = none := by
  cases q : H p with
  | none => rfl
  | some o =>
    have z := e p o (hd.ne n) q
    rw [n] at z
    cases z
/-- a list that was made and is filled on: upd at a place that was free -/
theorem Ext.grown {d p : Addr} {H H' : Hp} {o : HO} (e : Ext d H H') (n : H p = none) : Ext d H (upd H' p o) := fun b u nb h => by
  rw [upd_ne (ne_of_none h n)]
  exact e b u nb h
end My

--MACROS
local macro_rules | `(tactic| walk_at "zsz") => `(tactic| exact Nat.le_trans (m := 100000) (Nat.le_of_ble_eq_true rfl) (by decide))
local macro_rules | `(tactic| walk_at "zcond") => `(tactic| first
  | (show (0 : Int) < _; omega)
  | (show (0 : Int) < _; decide +kernel)
  | (refine And.intro ?_ ?_ <;> omega)
  | (refine Or.inl (And.intro ?_ ?_) <;> omega)
  | (refine Or.inr (And.intro ?_ ?_) <;> omega)
  | (refine And.intro ?_ ?_ <;> decide +kernel))
local macro_rules | `(tactic| walk_at "zhp") => `(tactic| first
  | assumption
  | exact L2.upd_same
  | (rw [L2.upd_ne (by assumption)]; walk_at "zhp")
  | (rw [L2.upd_ne (Ne.symm (by assumption))]; walk_at "zhp"))
local macro_rules | `(tactic| walk_at "zrd") => `(tactic| repeat (first
  | with_reducible refine My.r_seq ?_
  | with_reducible refine My.r_op ?_
  | with_reducible refine My.r_var rfl ?_
  | with_reducible refine My.r_c ?_
  | with_reducible refine My.r_cons ?_
  | with_reducible refine My.r_nil ?_
  | with_reducible refine My.r_asg ?_
  | with_reducible refine My.r_name ?_
  | with_reducible refine My.r_cb ?_
  | with_reducible refine My.r_call ?_
  | with_reducible refine My.r_I0 ?_
  | ((with_reducible refine My.r_I ?hcond ?_); (case hcond => walk_at "zcond"))
  | with_reducible refine My.r_int1 ?_
  | with_reducible refine My.r_int1b ?_
  | with_reducible refine My.r_abs ?_
  | with_reducible refine My.r_max2 ?_
  | with_reducible refine My.r_min2 ?_
  | with_reducible refine My.r_reprB ?_
  | with_reducible refine My.r_ifs ?_
  | with_reducible refine My.r_ret ?_
  | with_reducible refine My.r_next ?_
  | with_reducible refine My.r_test ?_
  | with_reducible refine My.r_B ?_
  | with_reducible refine My.r_bl ?_
  | with_reducible refine My.r_un ?_
  | with_reducible refine My.r_U ?_
  | with_reducible refine My.r_eq rfl ?_
  | with_reducible refine My.r_ne rfl ?_
  | with_reducible refine My.r_lenL (by walk_at "zhp") ?_
  | with_reducible refine My.r_lenTp (by walk_at "zhp") ?_
  | with_reducible refine My.r_listL (by walk_at "zhp") ?_
  | with_reducible refine My.r_tupleL (by walk_at "zhp") ?_
  | with_reducible refine My.r_ixL (by walk_at "zhp") rfl ?_
  | with_reducible refine My.r_sub ?_
  | with_reducible refine My.r_setL (by walk_at "zhp") rfl ?_
  | with_reducible refine My.r_bm ?_
  | with_reducible refine My.r_bm0 ?_
  | with_reducible refine My.r_tyL (by walk_at "zhp") ?_
  | with_reducible refine My.r_tyS ?_
  | with_reducible refine My.r_strB ?_
  | with_reducible refine My.r_notInC ?_
  | with_reducible refine My.r_rng1 ?_
  | with_reducible refine My.r_iList ?_
  | with_reducible refine My.r_iListj (by walk_at "zhp") ?_
  | with_reducible refine My.r_iStr ?_
  | with_reducible refine My.r_iStrj ?_
  | with_reducible refine My.r_dnew ?_
  | with_reducible refine My.r_not ?_
  | with_reducible refine My.r_and ?_
  | with_reducible refine My.r_or ?_
  | with_reducible refine My.r_notV ?_
  | with_reducible refine My.r_andV ?_
  | with_reducible refine My.r_orV ?_
  | with_reducible refine My.r_if ?_
  | with_reducible refine My.r_chain ?_
  | with_reducible refine My.r_lc ?_
  | with_reducible refine My.r_for ?_
  | with_reducible refine My.r_yes ?_
  | with_reducible refine My.r_tup ?_
  | with_reducible refine My.r_lst ?_
  | with_reducible refine My.r_drop ?_
  | with_reducible refine L2.iteF ?_
  | with_reducible refine L2.iteT ?_
  | refine My.iteF' rfl ?_
  | refine My.iteT' rfl ?_))

--ENDMACROS
namespace My
open PySem PySem.Spec PyProof.Rows L2
/-! ### words -/
def goodC (c : Nat) : Bool := decide (97 ≤ c) && decide (c ≤ 122)
/-- a word: one to eight letters a to z -/
def isW (s : Str) : Bool := decide (0 < s.length) && decide (s.length ≤ 8) && s.cps.all goodC
def isWV : V → Bool
  | .str s => isW s
  | _ => false
theorem ascii_alpha : ∀ c : Nat, c < 128 → Unicode.isAlpha c = ((decide (65 ≤ c) && decide (c ≤ 90)) || goodC c) := by decide +kernel
theorem ascii_lower : ∀ c : Nat, c < 128 → Unicode.isLower c = goodC c := by decide +kernel
theorem ascii_upper : ∀ c : Nat, c < 128 → (Unicode.isUpper c || Unicode.isTitle c) = (decide (65 ≤ c) && decide (c ≤ 90)) := by decide +kernel
theorem word_signs (s : Str) : (Txt.isascii s && (Txt.isalpha s && Txt.islower s)) = (decide (0 < s.length) && s.cps.all goodC) := by
  obtain ⟨cs⟩ := s
  rw [Bool.eq_iff_iff]
  simp only [Txt.isascii, Txt.isalpha, Txt.islower, Str.length, Bool.and_eq_true, Array.all_eq_true_iff_forall_mem, Array.any_eq_true, decide_eq_true_eq, Bool.not_eq_true', gt_iff_lt]
  constructor
  · rintro ⟨h1, ⟨h2, h3⟩, h4, h5⟩
    refine ⟨decide_eq_true h2, fun c hc => ?_⟩
    have a := h3 c hc
    have b := h1 c hc
    rw [ascii_alpha c b] at a
    have d : (Unicode.isUpper c || Unicode.isTitle c) = false := by
      have := Array.any_eq_false.mp h5
      obtain ⟨i, hi, e⟩ := Array.mem_iff_getElem.mp hc
      rw [← e]
      simpa using this i hi
    rw [ascii_upper c b] at d
    rw [d, Bool.false_or] at a
    exact a
  · rintro ⟨h1', h2⟩
    have h1 : 0 < cs.size := of_decide_eq_true h1'
    have hb : ∀ c ∈ cs, c < 128 := fun c hc => by
      have := h2 c hc
      unfold goodC at this
      simp only [Bool.and_eq_true, decide_eq_true_eq] at this
      omega
    refine ⟨hb, ⟨h1, fun c hc => ?_⟩, ⟨0, h1, ?_⟩, ?_⟩
    · rw [ascii_alpha c (hb c hc), h2 c hc, Bool.or_true]
    · have hm : cs[0] ∈ cs := Array.getElem_mem h1
      rw [ascii_lower _ (hb _ hm)]
      exact h2 _ hm
    · refine Array.any_eq_false.mpr fun i hi => ?_
      have hm : cs[i] ∈ cs := Array.getElem_mem hi
      have g := h2 _ hm
      rw [ascii_upper _ (hb _ hm)]
      unfold goodC at g
      simp only [Bool.and_eq_true, decide_eq_true_eq] at g ⊢
      omega
/-- kinds of values whose type is known -/
inductive KindV (H : Hp) : V → Prop where
  | str {s : Str} (h : s.length ≤ 100000) (ha : s.cps.all (fun c => decide (c < 128)) = true) : KindV H (.str s)
  | non : KindV H .non
  | bl (b : Bool) : KindV H (.bl b)
  | int (i : Int) : KindV H (.int i)
  | tup {a : Addr} {xs : List V} (e : H a = some (.tup xs)) : KindV H (.ref a)
  | lst {a : Addr} {xs : List V} (e : H a = some (.lst xs)) : KindV H (.ref a)
  | dK {a : Addr} {kvs : List (Key × V)} (e : H a = some (.dK kvs)) : KindV H (.ref a)
def isStrV : V → Bool
  | .str _ => true
  | _ => false
theorem KindV.isi {K : PySem.W.Frag} {H : Hp} {v : V} {Q : VK} (h : KindV H v) (q : Q (.bl (isStrV v)) H) : rIsi K [v, .ty "str"] H Q := by
  cases h with
  | str h ha => exact ⟨_, _, .type "str", .type "str", true, rfl, .ty _, .base (.str _), kit_ty (by decide +kernel), q⟩
  | non => exact ⟨_, _, .type "NoneType", .type "str", false, rfl, .ty _, .base .non, kit_ty (by decide +kernel), q⟩
  | bl b => exact ⟨_, _, .type "bool", .type "str", false, rfl, .ty _, .base (.bl _), kit_ty (by decide +kernel), q⟩
  | int i => exact ⟨_, _, .type "int", .type "str", false, rfl, .ty _, .base (.int _), kit_ty (by decide +kernel), q⟩
  | tup e => exact ⟨_, _, .type "tuple", .type "str", false, rfl, .ty _, .base (.tup e), kit_ty (by decide +kernel), q⟩
  | lst e => exact ⟨_, _, .type "list", .type "str", false, rfl, .ty _, .base (.lst e), kit_ty (by decide +kernel), q⟩
  | dK e => exact ⟨_, _, .type "dict", .type "str", false, rfl, .ty _, .base (.dK e), kit_ty (by decide +kernel), q⟩
def dsg (cs : List Nat) : List PyData := cs.map fun c => .str ⟨#[c]⟩
theorem dp_sg {K : PySem.W.Frag} {H : Hp} : ∀ cs : List Nat, DpAll K H (sg cs) (dsg cs)
  | [] => .nil
  | c :: r => .cons (.str _) (dp_sg r)
theorem sg_lay : ∀ cs : List Nat, (∀ c ∈ cs, c < 128) → PyData.canLayAll0 (dsg cs) = true
  | [], _ => rfl
  | c :: r, h => by
    have ih := sg_lay r fun x hx => h x (List.mem_cons_of_mem _ hx)
    have hc := h c List.mem_cons_self
    show (PyData.strOk ⟨#[c]⟩ && PyData.canLayAll0 (dsg r)) = true
    rw [ih, Bool.and_true]
    unfold PyData.strOk
    simp
    omega
theorem sg_depth : ∀ cs : List Nat, PyData.depthAll (dsg cs) = 0
  | [] => rfl
  | c :: r => by
    show max 0 (PyData.depthAll (dsg r)) = 0
    rw [sg_depth r]
    rfl
theorem sg_shaped {cs : List Nat} (h : ∀ c ∈ cs, c < 128) : SeqAt.shaped (.list (dsg cs)) = true := by
  show (PyData.canLayAll0 (dsg cs) && decide (PyData.depthAll (dsg cs) + 1 ≤ 64)) = true
  rw [sg_lay cs h, sg_depth]
  rfl
theorem sg_nil : ∀ cs : List Nat, PyData.eqv (.list (dsg cs)) (.list []) = cs.isEmpty
  | [] => rfl
  | _ :: _ => rfl
theorem KindV.mono {d : Addr} {H H' : Hp} {v : V} (e : Ext d H H') (n : ∀ a, v = .ref a → a ≠ d) (h : KindV H v) : KindV H' v := by
  cases h with
  | str h ha => exact .str h ha
  | non => exact .non
  | bl b => exact .bl b
  | int i => exact .int i
  | tup h => exact .tup (e _ _ (n _ rfl) h)
  | lst h => exact .lst (e _ _ (n _ rfl) h)
  | dK h => exact .dK (e _ _ (n _ rfl) h)
/-- .. and it is not the dice -/
def KD (d : Addr) (H : Hp) (v : V) : Prop := KindV H v ∧ ∀ a, v = .ref a → a ≠ d
theorem KD.mono {d : Addr} {H H' : Hp} {v : V} (e : Ext d H H') (h : KD d H v) : KD d H' v := ⟨h.1.mono e h.2, h.2⟩
theorem KD.flat {d : Addr} {H : Hp} {v : V} (h : KindV H v) (n : ∀ a, v ≠ .ref a) : KD d H v := ⟨h, fun a e => absurd e (n a)⟩
theorem KD.at_ {d : Addr} {H : Hp} {a : Addr} (h : KindV H (.ref a)) (n : a ≠ d) : KD d H (.ref a) := ⟨h, fun b e => by cases e; exact n⟩
def Low (n : Nat) (cs : List Nat) : Prop := cs.length ≤ n ∧ ∀ c ∈ cs, c < 128
theorem Low.kd {d : Addr} {H : Hp} {n : Nat} {cs : List Nat} (h : Low n cs) (hn : n ≤ 100000) : KD d H (.str (ofC cs)) := by
  refine .flat (.str (Nat.le_trans h.1 hn) ?_) (fun a z => nomatch z)
  rw [Array.all_eq_true_iff_forall_mem]
  intro c hc
  exact decide_eq_true (h.2 c (by simpa using hc))
end My

--CUT
namespace My
open PySem PySem.Spec PyProof.Rows L2
def topS (i : Nat) : Stmt := PySem.Challenge.pw_offside_k01_words_judged.main.body.getD i (.Pass ⟨0, 0, 0, 0⟩)
abbrev s_is_word : Stmt := topS 6
abbrev s_dice : Stmt := topS 8
abbrev s_roll : Stmt := topS 9
abbrev s_pick : Stmt := topS 10
abbrev s_some : Stmt := topS 11
abbrev s_Lis_word : Stmt := topS 12
abbrev s_value : Stmt := topS 13
abbrev s_law : Stmt := topS 14
theorem sc_is_word : FnScope ["value"] ["value"] (defScope s_is_word) := ⟨rfl, rfl, rfl, by decide +kernel, rfl, by decide +kernel, by decide +kernel⟩
theorem sc_dice : FnScope ["_law_script", "_law_spot", "_law_cell", "_law_great", "_law_blend"] ["_law_script", "_law_spot"] (defScope s_dice) := ⟨rfl, rfl, rfl, by decide +kernel, rfl, by decide +kernel, by decide +kernel⟩
theorem sc_roll : FnScope ["_law_dice_here", "_law_total", "_law_found", "_law_one", "_law_two"] ["_law_dice_here", "_law_total"] (defScope s_roll) := ⟨rfl, rfl, rfl, by decide +kernel, rfl, by decide +kernel, by decide +kernel⟩
theorem sc_pick : FnScope ["_law_dice_here", "_law_items"] ["_law_dice_here", "_law_items"] (defScope s_pick) := ⟨rfl, rfl, rfl, by decide +kernel, rfl, by decide +kernel, by decide +kernel⟩
theorem sc_some : FnScope ["_law_dice_here", "_law_items", "_law_size", "_law_left", "_law_turn"] ["_law_dice_here", "_law_items", "_law_size"] (defScope s_some) := ⟨rfl, rfl, rfl, by decide +kernel, rfl, by decide +kernel, by decide +kernel⟩
theorem sc_Lis_word : FnScope ["_law_value_here", "_law_one"] ["_law_value_here"] (defScope s_Lis_word) := ⟨rfl, rfl, rfl, by decide +kernel, rfl, by decide +kernel, by decide +kernel⟩
theorem sc_value : FnScope ["_law_dice_here", "_law_letters", "_law_draw", "_law_turn", "_law_some_here", "_law_odd"] ["_law_dice_here"] (defScope s_value) := ⟨rfl, rfl, rfl, by decide +kernel, rfl, by decide +kernel, by decide +kernel⟩
theorem sc_law : FnScope ["_law_script", "_law_spot", "_law_dice_here", "_law_turn", "_law_value_here", "_law_one", "_law_told"] ["_law_script"] (defScope s_law) := ⟨rfl, rfl, rfl, by decide +kernel, rfl, by decide +kernel, by decide +kernel⟩
structure Txt (K : PySem.W.Frag) (mg : Str → Option Value) where
  f_is_word : Addr
  fd_is_word : FuncData
  F_is_word : Fun K "is_word" "is_word" s_is_word f_is_word fd_is_word
  g_is_word : mg "is_word" = some (.ref f_is_word)
  b_is_word : Binds K fd_is_word ["value"] []
  f_dice : Addr
  fd_dice : FuncData
  F_dice : Fun K "_law_dice" "_law_dice" s_dice f_dice fd_dice
  g_dice : mg "_law_dice" = some (.ref f_dice)
  b_dice : Binds K fd_dice ["_law_script", "_law_spot"] []
  f_roll : Addr
  fd_roll : FuncData
  F_roll : Fun K "_law_roll" "_law_roll" s_roll f_roll fd_roll
  g_roll : mg "_law_roll" = some (.ref f_roll)
  b_roll : Binds K fd_roll ["_law_dice_here", "_law_total"] []
  f_pick : Addr
  fd_pick : FuncData
  F_pick : Fun K "_law_pick" "_law_pick" s_pick f_pick fd_pick
  g_pick : mg "_law_pick" = some (.ref f_pick)
  b_pick : Binds K fd_pick ["_law_dice_here", "_law_items"] []
  f_some : Addr
  fd_some : FuncData
  F_some : Fun K "_law_some" "_law_some" s_some f_some fd_some
  g_some : mg "_law_some" = some (.ref f_some)
  b_some : Binds K fd_some ["_law_dice_here", "_law_items", "_law_size"] []
  f_Lis_word : Addr
  fd_Lis_word : FuncData
  F_Lis_word : Fun K "_law_is_word" "_law_is_word" s_Lis_word f_Lis_word fd_Lis_word
  g_Lis_word : mg "_law_is_word" = some (.ref f_Lis_word)
  b_Lis_word : Binds K fd_Lis_word ["_law_value_here"] []
  f_value : Addr
  fd_value : FuncData
  F_value : Fun K "_law_value" "_law_value" s_value f_value fd_value
  g_value : mg "_law_value" = some (.ref f_value)
  b_value : Binds K fd_value ["_law_dice_here"] []
  t_MAX_LETTERS : Tok
  c_MAX_LETTERS : mg "MAX_LETTERS" = some (.int (8) t_MAX_LETTERS)
  t_MAX_COLUMN : Tok
  c_MAX_COLUMN : mg "MAX_COLUMN" = some (.int (199) t_MAX_COLUMN)
  t_MAX_WORDS : Tok
  c_MAX_WORDS : mg "MAX_WORDS" = some (.int (6) t_MAX_WORDS)
  t_GROUND : Tok
  c_GROUND : mg "GROUND" = some (.int (-1) t_GROUND)
  a_SIGNS : Addr
  c_SIGNS : mg "SIGNS" = some (.ref a_SIGNS)
  q_SIGNS : ∀ H : Hp, SqT K H a_SIGNS [.str "{", .str "}", .str ";"]
  z_isinstance : mg "isinstance" = none
  z_str : mg "str" = none
  z_len : mg "len" = none
  z_int : mg "int" = none
  z_abs : mg "abs" = none
  z_max : mg "max" = none
  z_list : mg "list" = none
  z_range : mg "range" = none
  z_min : mg "min" = none
  z_repr : mg "repr" = none
end My
namespace My
open PySem PySem.Spec PyProof.Rows L2
section
variable {P : Program} {w : World} {K : PySem.W.Frag} {mg : Str → Option Value} {base : Heap}
/-! ### _law_dice -/
def spDice (K : PySem.W.Frag) : Sp := fun vs H Q _ => ∃ (a : Addr) (ns : List Int) (k : Nat), vs = [.ref a, .int k] ∧ SqL K H a (ns.map V.int) ∧ ∀ (d : Addr) (H' : Hp), H d = none → Same H H' → Dice H' d → Q (.ref d) H'
theorem ok_dice (T : Txt K mg) : FnOk P w K mg base CX0 1 T.f_dice T.fd_dice ["_law_script", "_law_spot"] (spDice K) := by
  refine T.F_dice.ok sc_dice (fun vs H Q E h => ?_) (fun cdv A outer s H vs Q E hr h => ?_)
  · obtain ⟨a, ns, k, rfl, _⟩ := h
    rfl
  · obtain ⟨a, ns, k, rfl, hs, q⟩ := h
    refine ⟨_, (pss_cons (ps_set (i := 2) sc_dice.nd rfl (.inl rfl) (pe_op op_add (pe_op op_mul pe_int (pv 1)) pe_int))
      (pss_cons (ps_if (pt_cmpR op_lt (pv 1) (pe_callB (c_len (K := K)) (by rfl) T.z_len (by decide +kernel) (pa_cons (pv 0) pa_nil)) (nomark _)) (pss_one (ps_set (i := 2) sc_dice.nd rfl (.inl rfl) (pe_ix (i_list (K := K)) (pv 0) (pv 1) (fun _ _ => rfl)))) pss_nil)
      (pss_cons (ps_set (i := 3) sc_dice.nd rfl (.inl rfl) (pe_op op_mod (pe_callTy c_int1 (by rfl) T.z_int (by decide +kernel) (pa_cons (pe_callB c_abs (by rfl) T.z_abs (by decide +kernel) (pa_cons (pv 2) pa_nil)) pa_nil)) (pe_op op_powW (pe_op op_powW pe_int pe_int) pe_int)))
      (pss_cons (ps_set (i := 4) sc_dice.nd rfl (.inl rfl) (pe_op op_add (pe_op op_add (pe_op op_add (pe_op op_mul (pe_op op_mod (pe_callTy c_int1 (by rfl) T.z_int (by decide +kernel) (pa_cons (pv 3) pa_nil)) pe_int) pe_int) (pe_op op_mul pe_int (pv 1))) (pe_op op_mul pe_int (pe_callTy c_int1 (by rfl) T.z_int (by decide +kernel) (pa_cons (pe_cmpR op_lt (pv 2) pe_int (nomark _)) pa_nil)))) pe_int))
      (pss_one (ps_ret (pe_lst (pa_cons (pe_callB (c_max2 rfl) (by rfl) T.z_max (by decide +kernel) (pa_cons pe_int (pa_cons (pe_op op_sub (pv 3) (pe_op op_powW pe_int pe_int)) pa_nil))) (pa_cons (pe_op op_mod (pe_callTy c_int1 (by rfl) T.z_int (by decide +kernel) (pa_cons (pv 4) pa_nil)) pe_int) (pa_cons pe_int pa_nil)))))))))), ?_⟩
    walk_at "zrd"
    refine ⟨a, _, rfl, .inl hs, ?_⟩
    walk_at "zrd"
    have fin : ∀ (x y z : Int) (p : Addr), 0 ≤ x → H p = none → Q (.ref p) (upd H p (.lst [.int x, .int y, .int z])) := fun x y z p h0 hp =>
      q p _ hp (fun b o e => by rw [upd_ne (ne_of_none e hp)]; exact e) (Dice.mk3 h0)
    have tail : ∀ (g : Int), 0 ≤ (if g > 0 then g else 0) := fun g => by
      by_cases h : g > 0
      · rw [if_pos h]; omega
      · rw [if_neg h]; omega
    refine ite2 (fun e => ?_) (fun e => ?_)
    · have hk : k < ns.length := by
        have e1 := of_decide_eq_true e
        rw [List.length_map] at e1
        omega
      walk_at "zrd"
      refine ⟨a, _, (k : Int), .int ns[k], rfl, rfl, hs, atI_nat ?_, ?_⟩
      · rw [List.getElem?_map, List.getElem?_eq_getElem hk]
        rfl
      walk_at "zrd"
      exact ⟨by show 3 ≤ sizeLine; decide, fun p hp => fin _ _ _ p (tail _) hp⟩
    · walk_at "zrd"
      exact ⟨by show 3 ≤ sizeLine; decide, fun p hp => fin _ _ _ p (tail _) hp⟩
/-! ### _law_roll -/
def spRoll : Sp := fun vs H Q _ => ∃ (d : Addr) (n : Int), vs = [.ref d, .int n] ∧ Dice H d ∧ 1 ≤ n ∧ n < 1073741824 ∧ ∀ (r : Nat) (H' : Hp), (r : Int) < n → Ext d H H' → Dice H' d → Q (.int r) H'
theorem ok_roll (T : Txt K mg) : FnOk P w K mg base CX0 1 T.f_roll T.fd_roll ["_law_dice_here", "_law_total"] spRoll := by
  refine T.F_roll.ok sc_roll (fun vs H Q E h => ?_) (fun cdv A outer s H vs Q E hr h => ?_)
  · obtain ⟨d, n, rfl, _⟩ := h
    rfl
  · obtain ⟨d, n, rfl, ⟨a, b, c, h0, hd⟩, h1, h2, q⟩ := h
    refine ⟨_, (pss_cons (ps_if (pt_cmpR op_gt (pe_ix (i_list (K := K)) (pv 0) pe_int (fun _ _ => rfl)) pe_int (nomark _)) (pss_cons (ps_set (i := 2) sc_roll.nd rfl (.inl rfl) (pe_op op_mod (pe_callTy c_int1 (by rfl) T.z_int (by decide +kernel) (pa_cons (pe_ix (i_list (K := K)) (pv 0) pe_int (fun _ _ => rfl)) pa_nil)) (pv 1)))
      (pss_cons (ps_asg (pe_op op_fdiv (pe_ix (i_list (K := K)) (pv 0) pe_int (fun _ _ => rfl)) (pv 1)) (pg_sub (pv 0) pe_int set_list))
      (pss_one (ps_ret (pv 2))))) pss_nil)
      (pss_cons (ps_asg (pe_op op_add (pe_ix (i_list (K := K)) (pv 0) pe_int (fun _ _ => rfl)) pe_int) (pg_sub (pv 0) pe_int set_list))
      (pss_cons (ps_set (i := 3) sc_roll.nd rfl (.inl rfl) (pe_op op_mod (pe_callTy c_int1 (by rfl) T.z_int (by decide +kernel) (pa_cons (pe_op op_add (pe_ix (i_list (K := K)) (pv 0) pe_int (fun _ _ => rfl)) (pe_op op_mul pe_int (pe_ix (i_list (K := K)) (pv 0) pe_int (fun _ _ => rfl)))) pa_nil)) pe_int))
      (pss_cons (ps_set (i := 4) sc_roll.nd rfl (.inl rfl) (pe_op op_add (pe_op op_mul (pe_op op_mod (pe_callTy c_int1 (by rfl) T.z_int (by decide +kernel) (pa_cons (pe_op op_mul (pv 3) (pv 3)) pa_nil)) pe_int) (pv 3)) (pe_op op_mul pe_int (pe_ix (i_list (K := K)) (pv 0) pe_int (fun _ _ => rfl)))))
      (pss_cons (ps_set (i := 4) sc_roll.nd rfl (.inl rfl) (pe_op op_mod (pe_callTy c_int1 (by rfl) T.z_int (by decide +kernel) (pa_cons (pv 4) pa_nil)) pe_int))
      (pss_one (ps_ret (pe_op op_mod (pe_callTy c_int1 (by rfl) T.z_int (by decide +kernel) (pa_cons (pe_op op_fdiv (pv 4) pe_int) pa_nil)) (pv 1))))))))), ?_⟩
    walk_at "zrd"
    refine ite2 (fun e => ?_) (fun e => ?_)
    · walk_at "zrd"
      obtain ⟨h3, h4⟩ := nx_pos h1 h0
      have q' := q (a % n).toNat (upd H d (.lst [.int (a / n), .int b, .int c])) h3 (Ext.refl d H).at_ (Dice.mk3 (Int.ediv_nonneg h0 (by omega)))
      rw [h4] at q'
      exact q'
    · walk_at "zrd"
      have key : ∀ z : Int, 0 ≤ z → Q (.int (z % n)) (upd H d (.lst [.int a, .int b, .int (c + 1)])) := fun z hz => by
        obtain ⟨h3, h4⟩ := nx_pos h1 hz
        have q' := q (z % n).toNat (upd H d (.lst [.int a, .int b, .int (c + 1)])) h3 (Ext.refl d H).at_ (Dice.mk3 h0)
        rw [h4] at q'
        exact q'
      exact key _ (Int.ediv_nonneg (Int.emod_nonneg _ (by decide)) (by decide))
/-! ### _law_pick -/
def spPick : Sp := fun vs H Q _ => ∃ (d l : Addr) (xs : List V), vs = [.ref d, .ref l] ∧ Dice H d ∧ H l = some (.lst xs) ∧ l ≠ d ∧ xs ≠ [] ∧ xs.length < 1073741824 ∧ ∀ (v : V) (H' : Hp), v ∈ xs → Ext d H H' → Dice H' d → Q v H'
theorem ok_pick (T : Txt K mg) : FnOk P w K mg base CX0 2 T.f_pick T.fd_pick ["_law_dice_here", "_law_items"] spPick := by
  refine T.F_pick.ok sc_pick (fun vs H Q E h => ?_) (fun cdv A outer s H vs Q E hr h => ?_)
  · obtain ⟨d, l, xs, rfl, _⟩ := h
    rfl
  · obtain ⟨d, l, xs, rfl, hd, hl, hne, h1, h2, q⟩ := h
    have h0 : 1 ≤ xs.length := List.length_pos_iff.mpr h1
    refine ⟨_, (pss_one (ps_ret (pe_ix (i_list (K := K)) (pv 1) (pe_call (ok_roll T) (hr.mono (by decide)) (by rfl) T.g_roll T.F_roll.kp T.b_roll .nil pass0 (pa_cons (pv 0) (pa_cons (pe_callB (c_len (K := K)) (by rfl) T.z_len (by decide +kernel) (pa_cons (pv 1) pa_nil)) pa_nil))) (fun _ _ => rfl)))), ?_⟩
    walk_at "zrd"
    refine ⟨d, (xs.length : Int), rfl, hd, by omega, by omega, fun r H1 hr1 e1 d1 => ?_⟩
    have hl1 : H1 l = some (.lst xs) := e1 _ _ hne hl
    have hr2 : r < xs.length := by omega
    refine ⟨l, xs, r, xs[r], rfl, rfl, .inl (.inl hl1), atI_nat (List.getElem?_eq_getElem hr2), ?_⟩
    exact q _ H1 (List.getElem_mem hr2) e1 d1
/-! ### _law_some -/
def spSome : Sp := fun vs H Q _ => ∃ (d l : Addr) (xs : List V) (n : Int), vs = [.ref d, .ref l, .int n] ∧ Dice H d ∧ H l = some (.lst xs) ∧ l ≠ d ∧ 0 ≤ n ∧ xs.length < 100000 ∧
  ∀ (p : Addr) (ys rest : List V) (H' : Hp), H p = none → (ys ++ rest).Perm xs → (ys.length : Int) = (if (xs.length : Int) < n then (xs.length : Int) else n) → Ext d H H' → Dice H' d → H' p = some (.lst ys) → Q (.ref p) H'
theorem ok_some (T : Txt K mg) : FnOk P w K mg base CX0 2 T.f_some T.fd_some ["_law_dice_here", "_law_items", "_law_size"] spSome := by
  refine T.F_some.ok sc_some (fun vs H Q E h => ?_) (fun cdv A outer s H vs Q E hr h => ?_)
  · obtain ⟨d, l, xs, n, rfl, _⟩ := h
    rfl
  · obtain ⟨d, l, xs, n, rfl, hd, hl, hne, h0, h1, q⟩ := h
    refine ⟨_, (pss_cons (ps_set (i := 3) sc_some.nd rfl (.inr rfl) (pe_callTy (c_list (K := K)) (by rfl) T.z_list (by decide +kernel) (pa_cons (pv 1) pa_nil)))
      (pss_one (ps_ret (pe_lc (own := [("_law_turn", 4)]) rfl sc_some.nd (pi_range1 (by rfl) T.z_range (pa_cons (pe_callB (c_min2 rfl) (by rfl) T.z_min (by decide +kernel) (pa_cons (pv 2) (pa_cons (pe_callB (c_len (K := K)) (by rfl) T.z_len (by decide +kernel) (pa_cons (pv 3) pa_nil)) pa_nil))) pa_nil)) (blkOk_by (own := [("_law_turn", 4)]) (N := ["_law_dice_here", "_law_items", "_law_size", "_law_left", "_law_turn"]) (sc := (defScope s_some)) (by decide +kernel)) (fun _ _ _ _ _ => (pg_name (i := 4) sc_some.nd rfl (.inl rfl))) (fun _ _ _ _ _ => pts_nil) (fun _ _ _ _ _ => (e_bm (K := K) PySem.F.plainAttrs_list PySem.F.slot_list_pop PySem.F.type_list_pop mt_popAt (pv 3) (pa_cons (pe_call (ok_roll T) (hr.mono (by decide)) (by rfl) T.g_roll T.F_roll.kp T.b_roll .nil pass0 (pa_cons (pv 0) (pa_cons (pe_callB (c_len (K := K)) (by rfl) T.z_len (by decide +kernel) (pa_cons (pv 3) pa_nil)) pa_nil))) pa_nil))))))), ?_⟩
    walk_at "zrd"
    intro m hm
    have hlm : l ≠ m := ne_of_none hl hm
    have hmd : m ≠ d := hd.ne hm
    walk_at "zrd"
    have hmin : (if (xs.length : Int) < n then (xs.length : Int) else n) < 100000 := by
      by_cases h : (xs.length : Int) < n
      · rw [if_pos h]; omega
      · rw [if_neg h]; omega
    have hmin0 : 0 ≤ (if (xs.length : Int) < n then (xs.length : Int) else n) := by
      by_cases h : (xs.length : Int) < n
      · rw [if_pos h]; omega
      · rw [if_neg h]; omega
    have hminx : (if (xs.length : Int) < n then (xs.length : Int) else n) ≤ xs.length := by
      by_cases h : (xs.length : Int) < n
      · rw [if_pos h]; omega
      · rw [if_neg h]; omega
    refine r_rng1j (by omega) (by omega) ?_
    intro D hD
    have hDm : D ≠ m := (ne_of_none (upd_same (H := H)) hD).symm
    have hDd : D ≠ d := (hd.new hm).ne hD
    have hDH : H D = none := by
      rw [upd_ne hDm] at hD
      exact hD
    generalize hn : (if (xs.length : Int) < n then (xs.length : Int) else n) = z at hmin hmin0 hminx q
    refine lcB walk_range (fun i H' => ∃ ys rest : List V, ys.length = i ∧ (ys ++ rest).Perm xs ∧ H' D = some (.lst ys) ∧ H' m = some (.lst rest) ∧ Dice H' d ∧ Ext d H H')
      ⟨[], xs, rfl, .refl _, upd_same, by rw [upd_ne hDm.symm, upd_same], (hd.new hm).new hD, ((Ext.refl d H).grown hm).grown hDH⟩ (fun _ _ _ _ => trivial) (fun i x H1 H2 hi hP hy => ?_) (fun H1 hP => ?_)
    · obtain ⟨rfl, rfl⟩ := hy
      obtain ⟨ys, rest, hl1, hp1, hD1, hm1, hd1, he1⟩ := hP
      have hlen : ys.length + rest.length = xs.length := by
        rw [← hp1.length_eq, List.length_append]
      have hpos : 1 ≤ rest.length := by omega
      walk_at "zrd"
      refine ⟨rfl, ?_⟩
      walk_at "zrd"
      refine ⟨d, (rest.length : Int), rfl, hd1, by omega, by omega, fun r H3 hr3 he3 hd3 => ?_⟩
      have hr4 : r < rest.length := by omega
      have hm3 : H3 m = some (.lst rest) := he3 _ _ hmd hm1
      have hD3 : H3 D = some (.lst ys) := he3 _ _ hDd hD1
      walk_at "zrd"
      refine r_popAt hm3 (by omega) (List.getElem?_eq_getElem hr4) ⟨ys, by rw [upd_ne hDm]; exact hD3, Nat.lt_of_lt_of_le (show ys.length < 100000 by omega) (by decide), ys ++ [rest[r]], rest.eraseIdx r, ?_, ?_, upd_same, ?_, ?_, ?_⟩
      · rw [List.length_append, hl1]
        rfl
      · rw [List.append_assoc]
        exact ((get_cons_erase hr4).append_left ys).trans hp1
      · rw [upd_ne hDm.symm, upd_same]
      · exact (hd3.off hmd).off hDd
      · exact ((he1.trans he3).grown hm).grown hDH
    · obtain ⟨ys, rest, hl1, hp1, hD1, hm1, hd1, he1⟩ := hP
      exact q D ys rest H1 hDH hp1 (by omega) he1 hd1 hD1
end
end My

--CUT
namespace My
open PySem PySem.Spec PyProof.Rows L2
section
variable {P : Program} {w : World} {K : PySem.W.Frag} {mg : Str → Option Value} {base : Heap}
/-! ### is_word -/
def spWord : Sp := fun vs H Q _ => ∃ v : V, vs = [v] ∧ KindV H v ∧ Q (.bl (isWV v)) H
theorem ok_is_word (T : Txt K mg) : FnOk P w K mg base CX0 1 T.f_is_word T.fd_is_word ["value"] spWord := by
  refine T.F_is_word.ok sc_is_word (fun vs H Q E h => ?_) (fun cdv A outer s H vs Q E hr h => ?_)
  · obtain ⟨v, rfl, _⟩ := h
    rfl
  · obtain ⟨v, rfl, hk, q⟩ := h
    refine ⟨_, (pss_cons (ps_if (PW.pt (pw_or (pt_not (pt_val (pe_callB (c_isi (K := K)) (by rfl) T.z_isinstance (by decide +kernel) (pa_cons (pv 0) (pa_cons (pe_bltn (v := .ty "str") (by rfl) T.z_str (by decide +kernel) rfl) pa_nil))))) (pw_or1 (pt_cmpR op_gt (pe_callB c_lenT (by rfl) T.z_len (by decide +kernel) (pa_cons (pv 0) pa_nil)) (pe_glob (v := .int (8)) rfl T.c_MAX_LETTERS ⟨_, rfl⟩) (nomark _))))) (pss_one (ps_ret pe_bl)) pss_nil)
      (pss_one (ps_ret (pe_and (e_bm0 (K := K) PySem.F.plainAttrs_str PySem.F.slot_str_isascii PySem.F.type_str_isascii c_isascii (pv 0)) (pe_and (e_bm0 (K := K) PySem.F.plainAttrs_str PySem.F.slot_str_isalpha PySem.F.type_str_isalpha c_isalpha (pv 0)) (pe_one (e_bm0 (K := K) PySem.F.plainAttrs_str PySem.F.slot_str_islower PySem.F.type_str_islower c_islower (pv 0)))))))), ?_⟩
    walk_at "zrd"
    refine hk.isi ?_
    cases hk with
    | @str s hs ha =>
      walk_at "zrd"
      refine r_lenT (Nat.le_trans hs (by decide)) ?_
      walk_at "zrd"
      have q : Q (.bl (isW s)) H := q
      refine ite2 (fun e => ?_) (fun e => ?_)
      · walk_at "zrd"
        have h8 : (8 : Int) < s.length := of_decide_eq_true e
        have : isW s = false := by
          unfold isW
          rw [show decide (s.length ≤ 8) = false from decide_eq_false (by omega), Bool.and_false, Bool.false_and]
        rw [this] at q
        exact q
      · have h8 : ¬ (8 : Int) < s.length := fun z => e (decide_eq_true z)
        have e8 : isW s = (Txt.isascii s && (Txt.isalpha s && Txt.islower s)) := by
          rw [word_signs]
          unfold isW
          rw [show decide (s.length ≤ 8) = true from decide_eq_true (by omega), Bool.and_true]
        rw [e8] at q
        walk_at "zrd"
        cases h1 : Txt.isascii s with
        | false =>
          rw [h1] at q
          exact iteF q
        | true =>
          rw [h1] at q
          walk_at "zrd"
          cases h2 : Txt.isalpha s with
          | false =>
            rw [h2] at q
            exact iteF q
          | true =>
            rw [h2] at q
            walk_at "zrd"
            exact q
    | _ =>
      walk_at "zrd"
      exact q
/-! ### the law's own look at words -/
theorem okC_iff (c : Nat) : decide (c ∈ ("abcdefghijklmnopqrstuvwxyz" : Str).cps.toList) = goodC c := by
  have e : ("abcdefghijklmnopqrstuvwxyz" : Str).cps.toList = (List.range 26).map (· + 97) := by decide +kernel
  rw [e]
  unfold goodC
  rw [← Bool.decide_and]
  refine decide_eq_decide.mpr ?_
  simp only [List.mem_map, List.mem_range]
  constructor
  · rintro ⟨i, h, rfl⟩
    omega
  · rintro ⟨h1, h2⟩
    exact ⟨c - 97, by omega, by omega⟩
def spWord2 : Sp := fun vs H Q _ => ∃ v : V, vs = [v] ∧ KindV H v ∧ ∀ H', Same H H' → Q (.bl (isWV v)) H'
theorem isW_small {s : Str} (h : ¬ 0 < s.length) : isW s = false := by
  unfold isW
  rw [decide_eq_false h, Bool.false_and, Bool.false_and]
theorem isW_great {s : Str} (h : ¬ s.length ≤ 8) : isW s = false := by
  unfold isW
  rw [decide_eq_false h, Bool.and_false, Bool.false_and]
theorem isW_mid {s : Str} (h : 0 < s.length) (h' : s.length ≤ 8) : isW s = (s.cps.toList.filter (fun c => !goodC c)).isEmpty := by
  unfold isW
  rw [decide_eq_true h, decide_eq_true h', Bool.true_and, Bool.true_and, Bool.eq_iff_iff, List.isEmpty_iff, List.filter_eq_nil_iff, Array.all_eq_true_iff_forall_mem]
  simp
theorem ok_Lis_word (T : Txt K mg) : FnOk P w K mg base CX0 1 T.f_Lis_word T.fd_Lis_word ["_law_value_here"] spWord2 := by
  refine T.F_Lis_word.ok sc_Lis_word (fun vs H Q E h => ?_) (fun cdv A outer s H vs Q E hr h => ?_)
  · obtain ⟨v, rfl, _⟩ := h
    rfl
  · obtain ⟨v, rfl, hk, q⟩ := h
    refine ⟨_, (pss_cons (ps_if (PW.pt (pw_or (pt_not (pt_val (pe_callB (c_isi (K := K)) (by rfl) T.z_isinstance (by decide +kernel) (pa_cons (pv 0) (pa_cons (pe_bltn (v := .ty "str") (by rfl) T.z_str (by decide +kernel) rfl) pa_nil))))) (pw_or1 (pt_not (pt_chain op_lt op_lt pe_int (pe_callB c_lenT (by rfl) T.z_len (by decide +kernel) (pa_cons (pv 0) pa_nil)) pe_int))))) (pss_one (ps_ret pe_bl)) pss_nil)
      (pss_one (ps_ret (pe_cmpR (o_eqD (K := K) hr.units) (pe_lc (own := [("_law_one", 1)]) rfl sc_Lis_word.nd (pi_str (pv 0)) (blkOk_by (own := [("_law_one", 1)]) (N := ["_law_value_here", "_law_one"]) (sc := (defScope s_Lis_word)) (by decide +kernel)) (fun _ _ _ _ _ => (pg_name (i := 1) sc_Lis_word.nd rfl (.inl rfl))) (fun _ _ _ _ _ => (pts_one (pt_cmpR o_notInC (pv 1) pe_str (by rfl)))) (fun _ _ _ _ _ => (pv 1))) (pe_lst pa_nil) (nomark _))))), ?_⟩
    walk_at "zrd"
    refine hk.isi ?_
    cases hk with
    | @str s hs ha =>
      walk_at "zrd"
      have q : ∀ H', Same H H' → Q (.bl (isW s)) H' := q
      refine r_lenT (Nat.le_trans hs (by decide)) ?_
      walk_at "zrd"
      refine ite2 (fun e => ?_) (fun e => ?_)
      · have h1 : 0 < s.length := by
          have := of_decide_eq_true e
          omega
        walk_at "zrd"
        refine ite2 (fun e2 => ?_) (fun e2 => ?_)
        · have h2 : ¬ s.length ≤ 8 := fun z => by
            rw [decide_eq_true (show (s.length : Int) < 9 by omega)] at e2
            cases e2
          walk_at "zrd"
          have q' := q H (Same.refl H)
          rw [isW_great h2] at q'
          exact q'
        · have h2 : s.length ≤ 8 := Classical.byContradiction fun z => e2 (by rw [decide_eq_false (show ¬ (s.length : Int) < 9 by omega)]; rfl)
          rw [isW_mid h1 h2] at q
          walk_at "zrd"
          intro D hD
          have hc : ∀ c ∈ s.cps.toList, c < 128 := fun c hc => by
            have := Array.all_eq_true_iff_forall_mem.mp ha c (Array.mem_toList_iff.mp hc)
            exact of_decide_eq_true this
          refine lcB walk_str (fun i H' => ∃ cs, cs = (s.cps.toList.take i).filter (fun c => !goodC c) ∧ H' D = some (.lst (sg cs)) ∧ Same H H') ⟨[], rfl, upd_same, fun b o n => by rw [upd_ne (ne_of_none n hD)]; exact n⟩ (fun _ _ _ _ => trivial) (fun i x H1 H2 hi hP hy => ?_) (fun H1 hP => ?_)
          · obtain ⟨rfl, c, hc1, rfl⟩ := hy
            obtain ⟨cs, rfl, hD1, hs1⟩ := hP
            have hl : s.cps.toList[i]? = some c := by
              rw [Array.getElem?_toList]
              exact hc1
            walk_at "zrd"
            refine ⟨rfl, ?_⟩
            walk_at "zrd"
            rw [okC_iff]
            have step : (s.cps.toList.take (i + 1)).filter (fun c => !goodC c) = (s.cps.toList.take i).filter (fun c => !goodC c) ++ (if (!goodC c) = true then [c] else []) := by
              rw [List.take_add_one, hl, List.filter_append]
              have e4 : List.filter (fun c => !goodC c) (some c).toList = (if (!goodC c) = true then [c] else []) := by
                show List.filter (fun c => !goodC c) [c] = _
                rw [List.filter_cons]
                rfl
              rw [e4]
            have hlen : ((s.cps.toList.take i).filter (fun c => !goodC c)).length ≤ 100000 := by
              refine Nat.le_trans (List.length_filter_le _ _) ?_
              rw [List.length_take]
              refine Nat.le_trans (Nat.min_le_right _ _) ?_
              exact hs
            refine ite2 (fun e3 => ?_) (fun e3 => ?_)
            · rw [if_pos e3] at step
              walk_at "zrd"
              refine ⟨_, hD1, ?_, _, rfl, ?_, fun b o n => ?_⟩
              · unfold sg
                rw [List.length_map]
                exact Nat.lt_of_le_of_lt hlen (by decide)
              · rw [upd_same, step]
                unfold sg
                rw [List.map_append]
                rfl
              · rw [upd_ne (ne_of_none n hD)]
                exact hs1 b o n
            · rw [if_neg e3, List.append_nil] at step
              exact ⟨_, step.symm, hD1, hs1⟩
          · obtain ⟨cs, rfl, hD1, hs1⟩ := hP
            rw [List.take_of_length_le (by rw [Array.length_toList]; exact Nat.le_refl _)] at hD1
            walk_at "zrd"
            refine ⟨Nat.zero_le _, fun E2 hE2 => ?_⟩
            have hDE : D ≠ E2 := ne_of_none hD1 hE2
            refine ⟨_, _, .lst (.inl (.inl (by rw [upd_ne hDE]; exact hD1))) (dp_sg _), .lst (.inl (.inl upd_same)) .nil, sg_shaped (fun c h => hc c (List.mem_filter.mp h).1), rfl, ?_⟩
            rw [sg_nil]
            exact q _ fun b o n => by
              rw [upd_ne (ne_of_none (hs1 b o n) hE2)]
              exact hs1 b o n
      · walk_at "zrd"
        have h1 : ¬ 0 < s.length := fun z => e (decide_eq_true (by omega))
        have q' := q H (Same.refl H)
        rw [isW_small h1] at q'
        exact q'
    | _ =>
      walk_at "zrd"
      exact q H (Same.refl H)
end
end My

--CUT
namespace My
open PySem PySem.Spec PyProof.Rows L2
section
variable {P : Program} {w : World} {K : PySem.W.Frag} {mg : Str → Option Value} {base : Heap}
/-! ### the values that are judged -/
abbrev odds (p1 p2 p3 p4 : Addr) : List V := (V.non :: V.int 0 :: V.bl true :: V.ref p1 :: V.ref p2 :: V.ref p3 :: V.ref p4 :: V.int (10 ^ Int.toNat 59) :: [V.str (Str.ofString "Of"), V.str (Str.ofString "{"), V.str (Str.ofString ";"), V.str (Str.ofString ""), V.str (Str.ofString "abcdefghi"), V.str (Str.ofString "abcdefgh"), V.str (Str.ofString "is"), V.str (Str.ofString "class")])
def spValue : Sp := fun vs H Q _ => ∃ d : Addr, vs = [.ref d] ∧ Dice H d ∧ ∀ (v : V) (H' : Hp), KD d H' v → Ext d H H' → Dice H' d → Q v H'
theorem ok_value (T : Txt K mg) : FnOk P w K mg base CX0 3 T.f_value T.fd_value ["_law_dice_here"] spValue := by
  refine T.F_value.ok sc_value (fun vs H Q E h => ?_) (fun cdv A outer s H vs Q E hr h => ?_)
  · obtain ⟨d, rfl, _⟩ := h
    rfl
  · obtain ⟨d, rfl, hd, q⟩ := h
    refine ⟨_, (pss_cons (ps_set (i := 1) sc_value.nd rfl (.inr rfl) (pe_op o_adds pe_str (pe_call (ok_pick T) (hr.mono (by decide)) (by rfl) T.g_pick T.F_pick.kp T.b_pick .nil pass0 (pa_cons (pv 0) (pa_cons (pe_lst (pa_cons pe_str (pa_cons pe_str (pa_cons pe_str (pa_cons pe_str (pa_cons pe_str (pa_cons pe_str (pa_cons pe_str (pa_cons pe_str (pa_cons pe_str (pa_cons pe_str (pa_cons pe_str pa_nil)))))))))))) pa_nil)))))
      (pss_cons (ps_setLc (i := 4) (own := [("_law_draw", 2)]) rfl sc_value.nd rfl rfl (sw_true rfl rfl rfl (by decide +kernel)) (pi_range1 (by rfl) T.z_range (pa_cons pe_int pa_nil)) (blkOk_by (own := [("_law_draw", 2)]) (N := ["_law_dice_here", "_law_letters", "_law_draw", "_law_turn", "_law_some_here", "_law_odd"]) (sc := (defScope s_value)) (by decide +kernel)) (fun _ _ _ _ _ => (pg_name (i := 2) sc_value.nd rfl (.inl rfl))) (fun _ _ _ _ _ => pts_nil) (fun _ _ _ _ _ => (e_bm (K := K) PySem.F.plainAttrs_str PySem.F.slot_str_join PySem.F.type_str_join (c_join (K := K)) pe_str (pa_cons (pe_lc (own := [("_law_turn", 3)]) rfl sc_value.nd (pi_range1 (by rfl) T.z_range (pa_cons (pe_call (ok_roll T) (hr.mono (by decide)) (by rfl) T.g_roll T.F_roll.kp T.b_roll .nil pass0 (pa_cons (pv 0) (pa_cons pe_int pa_nil))) pa_nil)) (blkOk_by (own := [("_law_turn", 3)]) (N := ["_law_dice_here", "_law_letters", "_law_draw", "_law_turn", "_law_some_here", "_law_odd"]) (sc := (relS { kind := PySem.ScopeKind.function, names := [ (PySem.Str.ofString ".0", PySem.NameKind.local), (PySem.Str.ofString "_law_draw", PySem.NameKind.local), (PySem.Str.ofString "range", PySem.NameKind.globalImplicit), (PySem.Str.ofString "_law_roll", PySem.NameKind.globalImplicit), (PySem.Str.ofString "_law_dice_here", PySem.NameKind.free), (PySem.Str.ofString "_law_letters", PySem.NameKind.free)], isGenerator := false, isCoroutine := false, more := [] : PySem.Scope } (defScope s_value))) (by decide +kernel)) (fun _ _ _ _ _ => (pg_name (i := 3) sc_value.nd rfl (.inl rfl))) (fun _ _ _ _ _ => pts_nil) (fun _ _ _ _ _ => (pe_call (ok_pick T) (hr.mono (by decide)) (by rfl) T.g_pick T.F_pick.kp T.b_pick .nil pass0 (pa_cons (pv 0) (pa_cons (pe_callTy (c_listS rfl) (by rfl) T.z_list (by decide +kernel) (pa_cons (pv 1) pa_nil)) pa_nil))))) pa_nil))))
      (pss_cons (ps_set (i := 5) sc_value.nd rfl (.inl rfl) (pe_lst (pa_cons pe_non (pa_cons pe_int (pa_cons pe_bl (pa_cons (pe_tup pa_nil) (pa_cons (pe_tup (pa_cons pe_str pa_nil)) (pa_cons (pe_lst (pa_cons pe_str pa_nil)) (pa_cons pe_dnewK (pa_cons (pe_op op_powW pe_int pe_int) (pa_cons pe_str (pa_cons pe_str (pa_cons pe_str (pa_cons pe_str (pa_cons pe_str (pa_cons pe_str (pa_cons pe_str (pa_cons pe_str pa_nil))))))))))))))))))
      (pss_one (ps_ret (pe_call (ok_pick T) (hr.mono (by decide)) (by rfl) T.g_pick T.F_pick.kp T.b_pick .nil pass0 (pa_cons (pv 0) (pa_cons (pe_op op_cat (pv 4) (pe_call (ok_some T) (hr.mono (by decide)) (by rfl) T.g_some T.F_some.kp T.b_some .nil pass0 (pa_cons (pv 0) (pa_cons (pv 5) (pa_cons pe_int pa_nil))))) pa_nil)))))))), ?_⟩
    walk_at "zrd"
    refine ⟨by walk_at "zsz", fun p hp => ?_⟩
    walk_at "zrd"
    refine ⟨d, p, _, rfl, hd.new hp, upd_same, hd.ne hp, by simp, by decide, fun v H1 hv e1 d1 => ?_⟩
    -- the letters
    obtain ⟨t, ht, rfl⟩ := List.mem_map.mp (show v ∈ List.map (fun t => V.str (ofC t)) [[], [], [65], [32], [45], [48], [95], [123], [125], [59], [10]] from hv)
    have ht2 : t.length ≤ 1 ∧ ∀ c ∈ t, c < 128 := by
      have : ∀ t ∈ ([[], [], [65], [32], [45], [48], [95], [123], [125], [59], [10]] : List (List Nat)), t.length ≤ 1 ∧ ∀ c ∈ t, c < 128 := by decide
      exact this t ht
    have h17 : (Str.ofString "aabcdehklnorstyzz").length = 17 := by decide +kernel
    refine r_addS (sz_of (by rw [h17, ofC_len]; omega)) ?_
    have eL : (Str.ofString "aabcdehklnorstyzz") ++ ofC t = ofC ([97, 97, 98, 99, 100, 101, 104, 107, 108, 110, 111, 114, 115, 116, 121, 122, 122] ++ t) := by
      refine TL.ext_tl ?_
      rw [TL.tl_append]
      have : TL.tl (Str.ofString "aabcdehklnorstyzz") = [97, 97, 98, 99, 100, 101, 104, 107, 108, 110, 111, 114, 115, 116, 121, 122, 122] := by decide +kernel
      rw [this]
    rw [eL]
    have hL : Low 18 ([97, 97, 98, 99, 100, 101, 104, 107, 108, 110, 111, 114, 115, 116, 121, 122, 122] ++ t) ∧ [97, 97, 98, 99, 100, 101, 104, 107, 108, 110, 111, 114, 115, 116, 121, 122, 122] ++ t ≠ [] := by
      refine ⟨⟨?_, fun c hc => ?_⟩, by simp⟩
      · rw [List.length_append]
        have : ([97, 97, 98, 99, 100, 101, 104, 107, 108, 110, 111, 114, 115, 116, 121, 122, 122] : List Nat).length = 17 := rfl
        omega
      · rcases List.mem_append.mp hc with h | h
        · have : ∀ c ∈ ([97, 97, 98, 99, 100, 101, 104, 107, 108, 110, 111, 114, 115, 116, 121, 122, 122] : List Nat), c < 128 := by decide
          exact this c h
        · exact ht2.2 c h
    generalize [97, 97, 98, 99, 100, 101, 104, 107, 108, 110, 111, 114, 115, 116, 121, 122, 122] ++ t = Lt at hL
    obtain ⟨hL, hL0⟩ := hL
    have e01 : Ext d H H1 := (Ext.new hp).trans e1
    clear eL ht ht2 hv
    walk_at "zrd"
    refine r_rng1j (by decide) (by decide) ?_
    intro D hD
    have hD0 : H D = none := e01.free_ d1 hD
    have hDd : D ≠ d := d1.ne hD
    refine lcB walk_range (fun i H' => ∃ css : List (List Nat), css.length = i ∧ (∀ cs ∈ css, Low 10 cs) ∧ H' D = some (.lst (css.map fun cs => .str (ofC cs))) ∧ Ext d H H' ∧ Dice H' d)
      ⟨[], rfl, (fun _ h => nomatch h), upd_same, e01.trans (Ext.new hD), d1.new hD⟩ (fun _ _ _ _ => trivial) (fun i x H2 H3 hi hP hy => ?_) (fun H2 hP => ?_)
    · obtain ⟨rfl, rfl⟩ := hy
      obtain ⟨css, hl, hcs, hD2, e2, d2⟩ := hP
      walk_at "zrd"
      refine ⟨rfl, ?_⟩
      walk_at "zrd"
      refine ⟨d, 11, rfl, d2, by decide, by decide, fun r H4 hr4 e4 d4 => ?_⟩
      refine r_rng1j (by omega) (by omega) ?_
      intro D' hD'
      have hD4 : H4 D = some (.lst (css.map fun cs => .str (ofC cs))) := e4 _ _ hDd hD2
      have hDD : D ≠ D' := ne_of_none hD4 hD'
      have e24 : Ext d H H4 := e2.trans e4
      have hD'0 : H D' = none := e24.free_ d4 hD'
      have hD'd : D' ≠ d := d4.ne hD'
      refine lcB walk_range (fun i H' => ∃ cs : List Nat, cs.length = i ∧ (∀ c ∈ cs, c < 128) ∧ H' D' = some (.lst (sg cs)) ∧ H' D = some (.lst (css.map fun cs => .str (ofC cs))) ∧ Ext d H H' ∧ Dice H' d)
        ⟨[], rfl, (fun _ h => nomatch h), upd_same, by rw [upd_ne hDD]; exact hD4, e24.trans (Ext.new hD'), d4.new hD'⟩ (fun _ _ _ _ => trivial) (fun i x H5 H6 hi hP hy => ?_) (fun H5 hP => ?_)
      · obtain ⟨rfl, rfl⟩ := hy
        obtain ⟨cs, hl5, hc5, hD5, hDo5, e5, d5⟩ := hP
        walk_at "zrd"
        refine ⟨rfl, ?_⟩
        walk_at "zrd"
        refine r_listS (sz_of (by rw [ofC_len]; exact Nat.le_trans hL.1 (by decide))) fun m hm => ?_
        walk_at "zrd"
        refine ⟨d, m, _, rfl, d5.new hm, upd_same, d5.ne hm, ?_, ?_, fun v H7 hv e7 d7 => ?_⟩
        · intro z
          exact hL0 (List.map_eq_nil_iff.mp z)
        · unfold sg
          rw [List.length_map]
          exact Nat.lt_of_le_of_lt hL.1 (by decide)
        · obtain ⟨c, hc, rfl⟩ := List.mem_map.mp hv
          have hm5 : m ≠ D' := (ne_of_none hD5 hm).symm
          have hm6 : m ≠ D := (ne_of_none hDo5 hm).symm
          have hD7 : H7 D' = some (.lst (sg cs)) := e7 _ _ hD'd (by rw [upd_ne hm5.symm]; exact hD5)
          refine ⟨_, hD7, ?_, cs ++ [c], ?_, ?_, ?_, ?_, ?_, ?_⟩
          · unfold sg
            rw [List.length_map]
            exact sz_lt (by omega)
          · rw [List.length_append, hl5]
            rfl
          · intro x hx
            rcases List.mem_append.mp hx with h | h
            · exact hc5 x h
            · rw [List.mem_singleton.mp h]
              exact hL.2 c hc
          · rw [upd_same]
            unfold sg
            rw [List.map_append]
            rfl
          · rw [upd_ne hDD]
            exact e7 _ _ hDd (by rw [upd_ne hm6.symm]; exact hDo5)
          · exact ((e5.trans (Ext.new hm)).trans e7).grown hD'0
          · exact d7.off hD'd
      · obtain ⟨cs, hl5, hc5, hD5, hDo5, e5, d5⟩ := hP
        walk_at "zrd"
        refine r_joinL (ys := cs.map fun c => ⟨#[c]⟩) (by rw [List.map_map]; exact hD5) (by rw [sum_one, List.length_map]; show _ + _ * 0 ≤ _; omega) ?_
        rw [join_one]
        refine ⟨_, hDo5, ?_, css ++ [cs], ?_, ?_, ?_, ?_, ?_⟩
        · rw [List.length_map]
          exact sz_lt (by omega)
        · rw [List.length_append, hl]
          rfl
        · intro x hx
          rcases List.mem_append.mp hx with h | h
          · exact hcs x h
          · rw [List.mem_singleton.mp h]
            exact ⟨by omega, hc5⟩
        · rw [upd_same, List.map_append]
          rfl
        · exact e5.grown hD0
        · exact d5.off hDd
    · obtain ⟨css, hl, hcs, hD2, e2, d2⟩ := hP
      walk_at "zrd"
      refine ⟨by walk_at "zsz", fun p1 h1 => ?_⟩
      walk_at "zrd"
      refine ⟨by walk_at "zsz", fun p2 h2 => ?_⟩
      walk_at "zrd"
      refine ⟨by walk_at "zsz", fun p3 h3 => ?_⟩
      walk_at "zrd"
      intro p4 h4
      walk_at "zrd"
      refine ⟨by walk_at "zsz", fun p5 h5 => ?_⟩
      walk_at "zrd"
      have s5 := same_upd (o := .lst (odds p1 p2 p3 p4)) h5
      have s4 := (same_upd (o := .dK []) h4).trans s5
      have s3 := (same_upd (o := .lst [V.str (Str.ofString "a")]) h3).trans s4
      have s2 := (same_upd (o := .tup [V.str (Str.ofString "a")]) h2).trans s3
      have s1 := (same_upd (o := .tup []) h1).trans s2
      have d5 := ((((d2.new (o := .tup []) h1).new (o := .tup [V.str (Str.ofString "a")]) h2).new (o := .lst [V.str (Str.ofString "a")]) h3).new (o := .dK []) h4).new (o := .lst (odds p1 p2 p3 p4)) h5
      have n1 : p1 ≠ d := d2.ne h1
      have n2 := (d2.new (o := .tup []) h1).ne h2
      have n3 := ((d2.new (o := .tup []) h1).new (o := .tup [V.str (Str.ofString "a")]) h2).ne h3
      have n4 := (((d2.new (o := .tup []) h1).new (o := .tup [V.str (Str.ofString "a")]) h2).new (o := .lst [V.str (Str.ofString "a")]) h3).ne h4
      have n5 := ((((d2.new (o := .tup []) h1).new (o := .tup [V.str (Str.ofString "a")]) h2).new (o := .lst [V.str (Str.ofString "a")]) h3).new (o := .dK []) h4).ne h5
      have k1 := s2 p1 _ (upd_same (H := H2))
      have k2 := s3 p2 _ upd_same
      have k3 := s4 p3 _ upd_same
      have k4 := s5 p4 _ upd_same
      have kD := s1 D _ hD2
      have e5 := e2.trans (Ext.of_same s1)
      generalize hH : upd (upd (upd (upd (upd H2 p1 (.tup [])) p2 (.tup [V.str (Str.ofString "a")])) p3 (.lst [V.str (Str.ofString "a")])) p4 (.dK [])) p5 (.lst (odds p1 p2 p3 p4)) = H5 at k1 k2 k3 k4 kD d5 e5
      have k5 : H5 p5 = some (.lst (odds p1 p2 p3 p4)) := by
        rw [← hH]
        exact upd_same
      have hs : ∀ x : String, (Str.ofString x).length ≤ 100000 → (Str.ofString x).cps.all (fun c => decide (c < 128)) = true → KD d H5 (.str (Str.ofString x)) := fun x h h' => .flat (.str h h') fun a z => nomatch z
      have hk : ∀ v ∈ (odds p1 p2 p3 p4), KD d H5 v := by
        intro v hv
        simp only [List.mem_cons, List.not_mem_nil, or_false] at hv
        rcases hv with rfl | rfl | rfl | rfl | rfl | rfl | rfl | rfl | rfl | rfl | rfl | rfl | rfl | rfl | rfl | rfl
        · exact .flat .non fun a z => nomatch z
        · exact .flat (.int _) fun a z => nomatch z
        · exact .flat (.bl _) fun a z => nomatch z
        · exact .at_ (.tup k1) n1
        · exact .at_ (.tup k2) n2
        · exact .at_ (.lst k3) n3
        · exact .at_ (.dK k4) n4
        · exact .flat (.int _) fun a z => nomatch z
        all_goals exact hs _ (by decide +kernel) (by decide +kernel)
      refine ⟨d, p5, _, 3, rfl, d5, k5, n5, by decide, (by show 16 < 100000; decide), fun p6 ys rest H6 h6 hperm hlen e6 d6 k6 => ?_⟩
      have hylen : ys.length ≤ 16 := by
        have := hperm.length_eq
        rw [List.length_append] at this
        have h16 : (odds p1 p2 p3 p4).length = 16 := rfl
        omega
      have kD6 := e6 D _ hDd kD
      refine r_cat kD6 k6 (sz_of (by rw [List.length_map, hl]; omega)) fun p7 h7 => ?_
      walk_at "zrd"
      refine ⟨d, p7, _, rfl, d6.new h7, upd_same, d6.ne h7, ?_, ?_, fun v H8 hv e8 d8 => ?_⟩
      · intro z
        have := congrArg List.length z
        rw [List.length_append, List.length_map, hl] at this
        simp at this
      · rw [List.length_append, List.length_map, hl]
        omega
      · have e58 : Ext d H5 H8 := (e6.trans (Ext.new h7)).trans e8
        refine q v H8 ?_ (e5.trans e58) d8
        rcases List.mem_append.mp hv with h | h
        · obtain ⟨cs, hcs1, rfl⟩ := List.mem_map.mp h
          exact (hcs cs hcs1).kd (by decide)
        · exact (hk v (hperm.subset (List.mem_append_left _ h))).mono e58
end
end My

--CUT
namespace My
open PySem PySem.Spec PyProof.Rows L2
section
variable {P : Program} {w : World} {K : PySem.W.Frag} {mg : Str → Option Value} {base : Heap}
/-! ### the law -/
theorem turns_ok (n : Nat) : ∃ m : Nat, (if (if (n : Int) < 8 then (n : Int) else 8) > 1 then (if (n : Int) < 8 then (n : Int) else 8) else 1) = (m : Int) ∧ m ≤ 8 := by
  by_cases h : (n : Int) < 8
  · rw [if_pos h]
    by_cases h2 : (n : Int) > 1
    · rw [if_pos h2]
      exact ⟨n, rfl, by omega⟩
    · rw [if_neg h2]
      exact ⟨1, rfl, by omega⟩
  · rw [if_neg h]
    exact ⟨8, rfl, by omega⟩
def spLaw (K : PySem.W.Frag) : Sp := fun vs H Q _ => ∃ (a : Addr) (ns : List Int), vs = [.ref a] ∧ SqL K H a (ns.map V.int) ∧ ns.length ≤ 63 ∧ ∀ H', Q (.bl true) H'
theorem ok_law (T : Txt K mg) {f : Addr} {fd : FuncData} (F : Fun K "law" "law" s_law f fd) : FnOk P w K mg base CX0 4 f fd ["_law_script"] (spLaw K) := by
  refine F.ok sc_law (fun vs H Q E h => ?_) (fun cdv A outer s H vs Q E hr h => ?_)
  · obtain ⟨a, ns, rfl, _⟩ := h
    rfl
  · obtain ⟨a, ns, rfl, hS, hlen, q⟩ := h
    refine ⟨_, (pss_cons (ps_for PassesOwn.never rfl (pi_range1 (by rfl) T.z_range (pa_cons (pe_callB (c_max2 rfl) (by rfl) T.z_max (by decide +kernel) (pa_cons pe_int (pa_cons (pe_callB (c_min2 rfl) (by rfl) T.z_min (by decide +kernel) (pa_cons pe_int (pa_cons (pe_callB (c_len (K := K)) (by rfl) T.z_len (by decide +kernel) (pa_cons (pv 0) pa_nil)) pa_nil))) pa_nil))) pa_nil)) (pg_name (i := 1) sc_law.nd rfl (.inl rfl)) (pss_cons (ps_set (i := 2) sc_law.nd rfl (.inl rfl) (pe_call (ok_dice T) (hr.mono (by decide)) (by rfl) T.g_dice T.F_dice.kp T.b_dice .nil pass0 (pa_cons (pv 0) (pa_cons (pv 1) pa_nil))))
      (pss_one (ps_for PassesOwn.never rfl (pi_range1 (by rfl) T.z_range (pa_cons pe_int pa_nil)) (pg_name (i := 3) sc_law.nd rfl (.inl rfl)) (pss_cons (ps_set (i := 4) sc_law.nd rfl (.inl rfl) (pe_call (ok_value T) (hr.mono (by decide)) (by rfl) T.g_value T.F_value.kp T.b_value .nil pass0 (pa_cons (pv 2) pa_nil)))
      (pss_one (ps_if (pt_cmpR op_ne (pe_callB call_repr_bl (by rfl) T.z_repr (by decide +kernel) (pa_cons (pe_call (ok_is_word T) (hr.mono (by decide)) (by rfl) T.g_is_word T.F_is_word.kp T.b_is_word .nil pass0 (pa_cons (pv 4) pa_nil)) pa_nil)) (pe_callB call_repr_bl (by rfl) T.z_repr (by decide +kernel) (pa_cons (pe_call (ok_Lis_word T) (hr.mono (by decide)) (by rfl) T.g_Lis_word T.F_Lis_word.kp T.b_Lis_word .nil pass0 (pa_cons (pv 4) pa_nil)) pa_nil)) (nomark _)) (pss_one (ps_ret pe_bl)) pss_nil)))))))
      (pss_cons (ps_setLc (i := 6) (own := [("_law_one", 5)]) rfl sc_law.nd rfl rfl (sw_true rfl rfl rfl (by decide +kernel)) (p_list (K := K) (pe_lst (pa_cons pe_str (pa_cons pe_str (pa_cons pe_str (pa_cons pe_str (pa_cons pe_str (pa_cons pe_str pa_nil)))))))) (blkOk_by (own := [("_law_one", 5)]) (N := ["_law_script", "_law_spot", "_law_dice_here", "_law_turn", "_law_value_here", "_law_one", "_law_told"]) (sc := (defScope s_law)) (by decide +kernel)) (fun _ _ _ _ _ => (pg_name (i := 5) sc_law.nd rfl (.inl rfl))) (fun _ _ _ _ _ => pts_nil) (fun _ _ _ _ _ => (pe_call (ok_is_word T) (hr.mono (by decide)) (by rfl) T.g_is_word T.F_is_word.kp T.b_is_word .nil pass0 (pa_cons (pv 5) pa_nil))))
      (pss_cons (ps_if (pt_cmpR (o_neD (K := K) hr.units) (pv 6) (pe_lst (pa_cons pe_bl (pa_cons pe_bl (pa_cons pe_bl (pa_cons pe_bl (pa_cons pe_bl (pa_cons pe_bl pa_nil))))))) (nomark _)) (pss_one (ps_ret pe_bl)) pss_nil)
      (pss_one (ps_ret (pe_cmpR (o_eqD (K := K) hr.units) (pe_lst (pa_cons (pe_glob (v := .int (8)) rfl T.c_MAX_LETTERS ⟨_, rfl⟩) (pa_cons (pe_glob (v := .int (199)) rfl T.c_MAX_COLUMN ⟨_, rfl⟩) (pa_cons (pe_glob (v := .int (6)) rfl T.c_MAX_WORDS ⟨_, rfl⟩) (pa_cons (pe_glob (v := .int (-1)) rfl T.c_GROUND ⟨_, rfl⟩) (pa_cons (pe_glob (v := .ref T.a_SIGNS) rfl T.c_SIGNS rfl) pa_nil)))))) (pe_lst (pa_cons pe_int (pa_cons pe_int (pa_cons pe_int (pa_cons (pe_un un_neg pe_int) (pa_cons (pe_tup (pa_cons pe_str (pa_cons pe_str (pa_cons pe_str pa_nil)))) pa_nil)))))) (nomark _))))))), ?_⟩
    walk_at "zrd"
    refine ⟨a, _, rfl, .inl hS, ?_⟩
    walk_at "zrd"
    obtain ⟨m, em, hm⟩ := turns_ok (ns.map V.int).length
    rw [em]
    refine r_rng1j (by omega) (by omega) ?_
    refine forB walk_range (fun i σ H' => ∃ y1 y2 y3 y4 y5 y6, σ = [some (.ref a), y1, y2, y3, y4, y5, y6] ∧ Same H H') ⟨_, _, _, _, _, _, rfl, Same.refl H⟩ (fun _ _ _ _ _ => trivial) (fun i x σ H1 H2 hi hP hy => ?_) (fun σ H1 hP => ?_)
    · obtain ⟨rfl, rfl⟩ := hy
      obtain ⟨y1, y2, y3, y4, y5, y6, rfl, s1⟩ := hP
      walk_at "zrd"
      refine ⟨a, ns, i, by show [V.ref a, V.int (0 + (i : Int))] = _; rw [Int.zero_add], s1.seq hS, fun d H3 hd s3 d3 => ?_⟩
      have hd0 : H d = none := s1.free hd
      walk_at "zrd"
      refine r_rng1j (by decide) (by decide) ?_
      refine forB walk_range (fun j σ H' => ∃ y3 y4 y5 y6, σ = [some (.ref a), some (.int (0 + (i : Int))), some (.ref d), y3, y4, y5, y6] ∧ Same H H' ∧ Dice H' d) ⟨_, _, _, _, rfl, s1.trans s3, d3⟩ (fun _ _ _ _ _ => trivial) (fun j x σ H4 H5 hj hP hy => ?_) (fun σ H4 hP => ?_)
      · obtain ⟨rfl, rfl⟩ := hy
        obtain ⟨z3, z4, z5, z6, rfl, s4, d4⟩ := hP
        walk_at "zrd"
        refine ⟨d, rfl, d4, fun v H6 hv e6 d6 => ?_⟩
        walk_at "zrd"
        refine ⟨v, rfl, hv.1, ?_⟩
        walk_at "zrd"
        refine ⟨v, rfl, hv.1, fun H7 s7 => ?_⟩
        walk_at "zrd"
        refine iteF' (by rw [decide_eq_true rfl]; rfl) ?_
        walk_at "zrd"
        obtain ⟨c1, c2, c3, h0, e⟩ := d6
        exact ⟨_, _, _, _, rfl, (e6.same s4 hd0).trans s7, c1, c2, c3, h0, s7 _ _ e⟩
      · obtain ⟨z3, z4, z5, z6, rfl, s4, d4⟩ := hP
        exact ⟨_, _, _, _, _, _, rfl, s4⟩
    · obtain ⟨y1, y2, y3, y4, y5, y6, rfl, s1⟩ := hP
      walk_at "zrd"
      refine ⟨by walk_at "zsz", fun l hl => ?_⟩
      refine r_iListj upd_same ?_
      intro D hD
      have hlD : l ≠ D := ne_of_none (upd_same (H := H1)) hD
      refine lcB walk_list (fun i H' => H' l = some (.lst [V.str (Str.ofString "do"), V.str (Str.ofString ""), V.str (Str.ofString "abcdefgh"), V.str (Str.ofString "abcdefghi"), V.str (Str.ofString "a b"), V.str (Str.ofString "{")]) ∧
        H' D = some (.lst (([V.str (Str.ofString "do"), V.str (Str.ofString ""), V.str (Str.ofString "abcdefgh"), V.str (Str.ofString "abcdefghi"), V.str (Str.ofString "a b"), V.str (Str.ofString "{")].take i).map fun v => V.bl (isWV v))))
        ⟨by rw [upd_ne hlD]; exact upd_same, upd_same⟩ (fun _ _ _ h => .inl (.inl h.1)) (fun i x H3 H4 hi hP hy => ?_) (fun H3 hP => ?_)
      · obtain ⟨rfl, hx⟩ := hy
        obtain ⟨h1, h2⟩ := hP
        walk_at "zrd"
        refine ⟨rfl, ?_⟩
        have hk : KindV H4 x := by
          have hm := List.mem_of_getElem? hx
          simp only [List.mem_cons, List.not_mem_nil, or_false] at hm
          rcases hm with rfl | rfl | rfl | rfl | rfl | rfl <;> exact .str (by decide +kernel) (by decide +kernel)
        walk_at "zrd"
        refine ⟨x, rfl, hk, _, h2, ?_, ?_, ?_⟩
        · rw [List.length_map, List.length_take]
          exact sz_lt (Nat.lt_of_le_of_lt (Nat.min_le_right _ _) (by decide))
        · rw [upd_ne hlD]
          exact h1
        · rw [upd_same, List.take_add_one, hx, List.map_append]
          rfl
      · obtain ⟨h1, h2⟩ := hP
        have e6 : (([V.str (Str.ofString "do"), V.str (Str.ofString ""), V.str (Str.ofString "abcdefgh"), V.str (Str.ofString "abcdefghi"), V.str (Str.ofString "a b"), V.str (Str.ofString "{")].take 6).map fun v => V.bl (isWV v)) = [V.bl true, V.bl false, V.bl true, V.bl false, V.bl false, V.bl false] := by decide +kernel
        rw [show [V.str (Str.ofString "do"), V.str (Str.ofString ""), V.str (Str.ofString "abcdefgh"), V.str (Str.ofString "abcdefghi"), V.str (Str.ofString "a b"), V.str (Str.ofString "{")].length = 6 from rfl, e6] at h2
        walk_at "zrd"
        refine ⟨by walk_at "zsz", fun p hp => ?_⟩
        have hDp : D ≠ p := ne_of_none h2 hp
        refine ⟨.list [.bool true, .bool false, .bool true, .bool false, .bool false, .bool false], .list [.bool true, .bool false, .bool true, .bool false, .bool false, .bool false],
          .lst (.inl (.inl (by rw [upd_ne hDp]; exact h2))) (.cons (.bl _) (.cons (.bl _) (.cons (.bl _) (.cons (.bl _) (.cons (.bl _) (.cons (.bl _) .nil)))))),
          .lst (.inl (.inl upd_same)) (.cons (.bl _) (.cons (.bl _) (.cons (.bl _) (.cons (.bl _) (.cons (.bl _) (.cons (.bl _) .nil)))))), rfl, rfl, ?_⟩
        walk_at "zrd"
        refine ⟨by walk_at "zsz", fun p2 hp2 => ?_⟩
        walk_at "zrd"
        refine ⟨by walk_at "zsz", fun p3 hp3 => ?_⟩
        walk_at "zrd"
        refine ⟨by walk_at "zsz", fun p4 hp4 => ?_⟩
        have h23 : p2 ≠ p3 := ne_of_none upd_same hp3
        have h24 : p2 ≠ p4 := ne_of_none (by rw [upd_ne h23]; exact upd_same) hp4
        have h34 : p3 ≠ p4 := ne_of_none upd_same hp4
        refine ⟨.list [.int 8, .int 199, .int 6, .int (-1), .tuple [.str "{", .str "}", .str ";"]], .list [.int 8, .int 199, .int 6, .int (-1), .tuple [.str "{", .str "}", .str ";"]],
          .lst (.inl (.inl (by rw [upd_ne h24, upd_ne h23]; exact upd_same))) (.cons (.int _) (.cons (.int _) (.cons (.int _) (.cons (.int _) (.cons (.tup (T.q_SIGNS _) (.cons (.str _) (.cons (.str _) (.cons (.str _) .nil)))) .nil))))),
          .lst (.inl (.inl upd_same)) (.cons (.int _) (.cons (.int _) (.cons (.int _) (.cons (.int _) (.cons (.tup (.inl (.inl (by rw [upd_ne h34]; exact upd_same))) (.cons (.str _) (.cons (.str _) (.cons (.str _) .nil)))) .nil))))), by decide +kernel, by decide +kernel, ?_⟩
        have ev : PyData.eqv (.list [.int 8, .int 199, .int 6, .int (-1), .tuple [.str "{", .str "}", .str ";"]]) (.list [.int 8, .int 199, .int 6, .int (-1), .tuple [.str "{", .str "}", .str ";"]]) = true := by decide +kernel
        rw [ev]
        exact q _
end
end My
--CUT
namespace My
open PySem PySem.Spec PyProof.Rows L2
theorem all_mk {l : PySem.W.OpenLaw} {w : World} {K : PySem.W.Frag} {h : Heap} {mg : Str → Option Value} {fa : Addr} (X : K.In h) (G : h.Ns mainGlobals mg) (hfa : mg "law" = some (.ref fa))
    {f_is_word : Addr} {od_is_word an_is_word : Option Addr} {sl_is_word : Array (Option Value)} {oc_is_word kV_is_word dc_is_word pm_is_word cd_is_word ct_is_word : Value}
    (a_is_word : PySem.W.nsIn K mainGlobals "is_word" = some (some (.ref f_is_word))) (l_is_word : K.lookup f_is_word = some ⟨oc_is_word, od_is_word, .func (PySem.W.fnOf "is_word" "is_word" (defArgs s_is_word) (defBody s_is_word) (defScope s_is_word) .none kV_is_word dc_is_word pm_is_word an_is_word cd_is_word ct_is_word), sl_is_word⟩) (c_is_word : PySem.W.codeIn K cd_is_word "is_word" = true) (k_is_word : PySem.W.keepIn K (.ref f_is_word) = true)
    {f_dice : Addr} {od_dice an_dice : Option Addr} {sl_dice : Array (Option Value)} {oc_dice kV_dice dc_dice pm_dice cd_dice ct_dice : Value}
    (a_dice : PySem.W.nsIn K mainGlobals "_law_dice" = some (some (.ref f_dice))) (l_dice : K.lookup f_dice = some ⟨oc_dice, od_dice, .func (PySem.W.fnOf "_law_dice" "_law_dice" (defArgs s_dice) (defBody s_dice) (defScope s_dice) .none kV_dice dc_dice pm_dice an_dice cd_dice ct_dice), sl_dice⟩) (c_dice : PySem.W.codeIn K cd_dice "_law_dice" = true) (k_dice : PySem.W.keepIn K (.ref f_dice) = true)
    {f_roll : Addr} {od_roll an_roll : Option Addr} {sl_roll : Array (Option Value)} {oc_roll kV_roll dc_roll pm_roll cd_roll ct_roll : Value}
    (a_roll : PySem.W.nsIn K mainGlobals "_law_roll" = some (some (.ref f_roll))) (l_roll : K.lookup f_roll = some ⟨oc_roll, od_roll, .func (PySem.W.fnOf "_law_roll" "_law_roll" (defArgs s_roll) (defBody s_roll) (defScope s_roll) .none kV_roll dc_roll pm_roll an_roll cd_roll ct_roll), sl_roll⟩) (c_roll : PySem.W.codeIn K cd_roll "_law_roll" = true) (k_roll : PySem.W.keepIn K (.ref f_roll) = true)
    {f_pick : Addr} {od_pick an_pick : Option Addr} {sl_pick : Array (Option Value)} {oc_pick kV_pick dc_pick pm_pick cd_pick ct_pick : Value}
    (a_pick : PySem.W.nsIn K mainGlobals "_law_pick" = some (some (.ref f_pick))) (l_pick : K.lookup f_pick = some ⟨oc_pick, od_pick, .func (PySem.W.fnOf "_law_pick" "_law_pick" (defArgs s_pick) (defBody s_pick) (defScope s_pick) .none kV_pick dc_pick pm_pick an_pick cd_pick ct_pick), sl_pick⟩) (c_pick : PySem.W.codeIn K cd_pick "_law_pick" = true) (k_pick : PySem.W.keepIn K (.ref f_pick) = true)
    {f_some : Addr} {od_some an_some : Option Addr} {sl_some : Array (Option Value)} {oc_some kV_some dc_some pm_some cd_some ct_some : Value}
    (a_some : PySem.W.nsIn K mainGlobals "_law_some" = some (some (.ref f_some))) (l_some : K.lookup f_some = some ⟨oc_some, od_some, .func (PySem.W.fnOf "_law_some" "_law_some" (defArgs s_some) (defBody s_some) (defScope s_some) .none kV_some dc_some pm_some an_some cd_some ct_some), sl_some⟩) (c_some : PySem.W.codeIn K cd_some "_law_some" = true) (k_some : PySem.W.keepIn K (.ref f_some) = true)
    {f_Lis_word : Addr} {od_Lis_word an_Lis_word : Option Addr} {sl_Lis_word : Array (Option Value)} {oc_Lis_word kV_Lis_word dc_Lis_word pm_Lis_word cd_Lis_word ct_Lis_word : Value}
    (a_Lis_word : PySem.W.nsIn K mainGlobals "_law_is_word" = some (some (.ref f_Lis_word))) (l_Lis_word : K.lookup f_Lis_word = some ⟨oc_Lis_word, od_Lis_word, .func (PySem.W.fnOf "_law_is_word" "_law_is_word" (defArgs s_Lis_word) (defBody s_Lis_word) (defScope s_Lis_word) .none kV_Lis_word dc_Lis_word pm_Lis_word an_Lis_word cd_Lis_word ct_Lis_word), sl_Lis_word⟩) (c_Lis_word : PySem.W.codeIn K cd_Lis_word "_law_is_word" = true) (k_Lis_word : PySem.W.keepIn K (.ref f_Lis_word) = true)
    {f_value : Addr} {od_value an_value : Option Addr} {sl_value : Array (Option Value)} {oc_value kV_value dc_value pm_value cd_value ct_value : Value}
    (a_value : PySem.W.nsIn K mainGlobals "_law_value" = some (some (.ref f_value))) (l_value : K.lookup f_value = some ⟨oc_value, od_value, .func (PySem.W.fnOf "_law_value" "_law_value" (defArgs s_value) (defBody s_value) (defScope s_value) .none kV_value dc_value pm_value an_value cd_value ct_value), sl_value⟩) (c_value : PySem.W.codeIn K cd_value "_law_value" = true) (k_value : PySem.W.keepIn K (.ref f_value) = true)
    {f_law : Addr} {od_law an_law : Option Addr} {sl_law : Array (Option Value)} {oc_law kV_law dc_law pm_law cd_law ct_law : Value}
    (a_law : PySem.W.nsIn K mainGlobals "law" = some (some (.ref f_law))) (l_law : K.lookup f_law = some ⟨oc_law, od_law, .func (PySem.W.fnOf "law" "law" (defArgs s_law) (defBody s_law) (defScope s_law) .none kV_law dc_law pm_law an_law cd_law ct_law), sl_law⟩) (c_law : PySem.W.codeIn K cd_law "law" = true) (k_law : PySem.W.keepIn K (.ref f_law) = true)
    {t_MAX_LETTERS : Tok} (m_MAX_LETTERS : PySem.W.nsIn K mainGlobals "MAX_LETTERS" = some (some (.int (8) t_MAX_LETTERS)))
    {t_MAX_COLUMN : Tok} (m_MAX_COLUMN : PySem.W.nsIn K mainGlobals "MAX_COLUMN" = some (some (.int (199) t_MAX_COLUMN)))
    {t_MAX_WORDS : Tok} (m_MAX_WORDS : PySem.W.nsIn K mainGlobals "MAX_WORDS" = some (some (.int (6) t_MAX_WORDS)))
    {t_GROUND : Tok} (m_GROUND : PySem.W.nsIn K mainGlobals "GROUND" = some (some (.int (-1) t_GROUND)))
    {ad_SIGNS : Addr} {dd_SIGNS : Option Addr} {n_SIGNS : Nat} {sd_SIGNS : Array (Option Value)} {tk0_SIGNS tk1_SIGNS tk2_SIGNS : Tok} (m_SIGNS : PySem.W.nsIn K mainGlobals "SIGNS" = some (some (.ref ad_SIGNS))) (ml_SIGNS : K.lookup ad_SIGNS = some ⟨.type "tuple", dd_SIGNS, .seq #[.str "{" tk0_SIGNS, .str "}" tk1_SIGNS, .str ";" tk2_SIGNS] n_SIGNS, sd_SIGNS⟩)
    (z_isinstance : PySem.W.nsIn K mainGlobals "isinstance" = some none)
    (z_str : PySem.W.nsIn K mainGlobals "str" = some none)
    (z_len : PySem.W.nsIn K mainGlobals "len" = some none)
    (z_int : PySem.W.nsIn K mainGlobals "int" = some none)
    (z_abs : PySem.W.nsIn K mainGlobals "abs" = some none)
    (z_max : PySem.W.nsIn K mainGlobals "max" = some none)
    (z_list : PySem.W.nsIn K mainGlobals "list" = some none)
    (z_range : PySem.W.nsIn K mainGlobals "range" = some none)
    (z_min : PySem.W.nsIn K mainGlobals "min" = some none)
    (z_repr : PySem.W.nsIn K mainGlobals "repr" = some none) :
    ∃ fd : FuncData, (∀ (s : Shared) (v : Value), BindsTo s fd ⟨[v], []⟩ [("_law_script", v)]) ∧ ∀ base : Heap, K.In base → base.Ns mainGlobals mg → FnOk l.prog w K mg base CX0 4 fa fd ["_law_script"] (spLaw K) := by
  have e := hfa.symm.trans (PySem.W.mg_of X G a_law)
  cases e
  let T : Txt K mg := {
    f_is_word := f_is_word, fd_is_word := _, F_is_word := fun_mk (st := s_is_word) l_is_word c_is_word k_is_word, g_is_word := PySem.W.mg_of X G a_is_word, b_is_word := (fun_mk (st := s_is_word) l_is_word c_is_word k_is_word).binds (ps := ["value"]) (fun _ _ _ _ _ _ us hl => match us, hl with | [_], _ => rfl),
    f_dice := f_dice, fd_dice := _, F_dice := fun_mk (st := s_dice) l_dice c_dice k_dice, g_dice := PySem.W.mg_of X G a_dice, b_dice := (fun_mk (st := s_dice) l_dice c_dice k_dice).binds (ps := ["_law_script", "_law_spot"]) (fun _ _ _ _ _ _ us hl => match us, hl with | [_, _], _ => rfl),
    f_roll := f_roll, fd_roll := _, F_roll := fun_mk (st := s_roll) l_roll c_roll k_roll, g_roll := PySem.W.mg_of X G a_roll, b_roll := (fun_mk (st := s_roll) l_roll c_roll k_roll).binds (ps := ["_law_dice_here", "_law_total"]) (fun _ _ _ _ _ _ us hl => match us, hl with | [_, _], _ => rfl),
    f_pick := f_pick, fd_pick := _, F_pick := fun_mk (st := s_pick) l_pick c_pick k_pick, g_pick := PySem.W.mg_of X G a_pick, b_pick := (fun_mk (st := s_pick) l_pick c_pick k_pick).binds (ps := ["_law_dice_here", "_law_items"]) (fun _ _ _ _ _ _ us hl => match us, hl with | [_, _], _ => rfl),
    f_some := f_some, fd_some := _, F_some := fun_mk (st := s_some) l_some c_some k_some, g_some := PySem.W.mg_of X G a_some, b_some := (fun_mk (st := s_some) l_some c_some k_some).binds (ps := ["_law_dice_here", "_law_items", "_law_size"]) (fun _ _ _ _ _ _ us hl => match us, hl with | [_, _, _], _ => rfl),
    f_Lis_word := f_Lis_word, fd_Lis_word := _, F_Lis_word := fun_mk (st := s_Lis_word) l_Lis_word c_Lis_word k_Lis_word, g_Lis_word := PySem.W.mg_of X G a_Lis_word, b_Lis_word := (fun_mk (st := s_Lis_word) l_Lis_word c_Lis_word k_Lis_word).binds (ps := ["_law_value_here"]) (fun _ _ _ _ _ _ us hl => match us, hl with | [_], _ => rfl),
    f_value := f_value, fd_value := _, F_value := fun_mk (st := s_value) l_value c_value k_value, g_value := PySem.W.mg_of X G a_value, b_value := (fun_mk (st := s_value) l_value c_value k_value).binds (ps := ["_law_dice_here"]) (fun _ _ _ _ _ _ us hl => match us, hl with | [_], _ => rfl),
    t_MAX_LETTERS := t_MAX_LETTERS, c_MAX_LETTERS := PySem.W.mg_of X G m_MAX_LETTERS,
    t_MAX_COLUMN := t_MAX_COLUMN, c_MAX_COLUMN := PySem.W.mg_of X G m_MAX_COLUMN,
    t_MAX_WORDS := t_MAX_WORDS, c_MAX_WORDS := PySem.W.mg_of X G m_MAX_WORDS,
    t_GROUND := t_GROUND, c_GROUND := PySem.W.mg_of X G m_GROUND,
    a_SIGNS := ad_SIGNS, c_SIGNS := PySem.W.mg_of X G m_SIGNS, q_SIGNS := fun H => .inr ⟨_, _, _, ml_SIGNS, rfl, rfl, Nat.le_trans (m := 100000) (Nat.le_of_ble_eq_true rfl) (by decide), (.cons ⟨_, rfl⟩ (.cons ⟨_, rfl⟩ (.cons ⟨_, rfl⟩ .nil)))⟩,
    z_isinstance := PySem.W.mg_none_of X G z_isinstance,
    z_str := PySem.W.mg_none_of X G z_str,
    z_len := PySem.W.mg_none_of X G z_len,
    z_int := PySem.W.mg_none_of X G z_int,
    z_abs := PySem.W.mg_none_of X G z_abs,
    z_max := PySem.W.mg_none_of X G z_max,
    z_list := PySem.W.mg_none_of X G z_list,
    z_range := PySem.W.mg_none_of X G z_range,
    z_min := PySem.W.mg_none_of X G z_min,
    z_repr := PySem.W.mg_none_of X G z_repr }
  exact ⟨_, fun s v => .of_eq rfl, fun base _ _ => ok_law T (fun_mk (st := s_law) l_law c_law k_law)⟩
end My
open PySem PySem.W PyProof.Rows
set_option maxHeartbeats 0 in
theorem PySem.Challenge.cw_offside_k01_words_judged_holds : PySem.Challenge.rw_offside_k01_words_judged.Holds := by
  w_on; o_law; k_head; (case hw => w_witness2)
  k_fill
  refine L2.walk_of (l := PySem.Challenge.rw_offside_k01_words_judged) (n := 63) (k := 4) (x := "_law_script") (CX := fun _ => L2.CX0) (sp := fun w => My.spLaw _) rfl (by decide) rfl ⟨rfl, by decide, by decide⟩ (fun w h Y => PySem.W.kIn_of Y) ?F (fun _ _ a ns hl _ hS => ⟨a, ns, rfl, hS, hl, fun _ => rfl⟩) (fun _ _ _ _ _ h => h)
  case F =>
    intro w mg fa h KX G hmg
    refine' My.all_mk KX G hmg ?a_is_word ?l_is_word ?c_is_word ?k_is_word ?a_dice ?l_dice ?c_dice ?k_dice ?a_roll ?l_roll ?c_roll ?k_roll ?a_pick ?l_pick ?c_pick ?k_pick ?a_some ?l_some ?c_some ?k_some ?a_Lis_word ?l_Lis_word ?c_Lis_word ?k_Lis_word ?a_value ?l_value ?c_value ?k_value ?a_law ?l_law ?c_law ?k_law ?m_MAX_LETTERS ?m_MAX_COLUMN ?m_MAX_WORDS ?m_GROUND ?m_SIGNS ?ml_SIGNS ?z_isinstance ?z_str ?z_len ?z_int ?z_abs ?z_max ?z_list ?z_range ?z_min ?z_repr
    (case a_is_word => k_is); (case l_is_word => k_is); (case c_is_word => k_is); (case k_is_word => k_is); (case a_dice => k_is); (case l_dice => k_is); (case c_dice => k_is); (case k_dice => k_is); (case a_roll => k_is); (case l_roll => k_is); (case c_roll => k_is); (case k_roll => k_is); (case a_pick => k_is); (case l_pick => k_is); (case c_pick => k_is); (case k_pick => k_is); (case a_some => k_is); (case l_some => k_is); (case c_some => k_is); (case k_some => k_is); (case a_Lis_word => k_is); (case l_Lis_word => k_is); (case c_Lis_word => k_is); (case k_Lis_word => k_is); (case a_value => k_is); (case l_value => k_is); (case c_value => k_is); (case k_value => k_is); (case a_law => k_is); (case l_law => k_is); (case c_law => k_is); (case k_law => k_is); (case m_MAX_LETTERS => k_is); (case m_MAX_COLUMN => k_is); (case m_MAX_WORDS => k_is); (case m_GROUND => k_is); (case m_SIGNS => k_is); (case ml_SIGNS => k_is); (case z_isinstance => k_is); (case z_str => k_is); (case z_len => k_is); (case z_int => k_is); (case z_abs => k_is); (case z_max => k_is); (case z_list => k_is); (case z_range => k_is); (case z_min => k_is); (case z_repr => k_is)

