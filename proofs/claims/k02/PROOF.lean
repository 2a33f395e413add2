import PyProof.Rows.All
import HandS.Base
import HandS.Call
import HandS.List
import HandS.Comp
import HandS.Ends
import HandS.Words
import HandS.WordsList
import HandS.Text
import HandS.StrMore
import HandS.Iter
import HandS.Walk
import HandS.IsInst
import HandS.Conv
import HandS.Dict
import HandS.NoneIn
import PyProof.ReprRoads
import PyProof.ReprReads
import PySem.Challenge.RW_offside_k02_columns_and_integers_judged
set_option Elab.async false
set_option linter.all false
set_option maxRecDepth 100000
set_option maxHeartbeats 4000000
--HEADEND
namespace My
open PySem PySem.Spec PyProof.Rows L2
/-! ### rules that the layer lacks, and its own with their readings named -/
/-- the one-sign texts of a list of signs -/
def sg (cs : List Nat) : List V := cs.map fun c => .str ⟨#[c]⟩
section
variable {X : Cx}
def wListS : List V → Hp → VK → Prop := fun xs H Q => ∃ z : Str, xs = [.str z] ∧ z.length ≤ sizeLine ∧ ∀ l, H l = none → Q (.ref l) (upd H l (.lst (sg z.cps.toList)))
theorem c_listS (hc : X.calm = true) : CallR X (.type "list") wListS := by
  intro pins s σ H xs us Q I r h
  obtain ⟨z, rfl, hz, q⟩ := h
  obtain ⟨u, rfl, t, rfl⟩ := vals1 r
  refine call_list_str (I.ok.hd hc) z t (fun h' tk acc' c' hkeep hS hacc => ?_) hz
  refine ⟨.ref s.heap.objs.size, upd H s.heap.objs.size (.lst (sg z.cps.toList)), I.laid hkeep (Nat.le_refl _) (show ObjOk X.prog X.w _ _ _ (.lst (sg z.cps.toList)) from ⟨?_, acc'.toList, c', ?_, ?_⟩), rfl, q _ (I.hok.fresh (Nat.le_refl _))⟩
  · unfold sg
    rw [List.length_map, Array.length_toList]
    exact hz
  · refine vals_of_at (by unfold sg; rw [List.length_map, Array.length_toList, Array.length_toList, hacc.1]) fun j x w h1 h2 => ?_
    obtain ⟨c, u, hc1, e⟩ := hacc.2 j w (by rw [← Array.getElem?_toList]; exact h2)
    unfold sg at h1
    rw [List.getElem?_map, Array.getElem?_toList, hc1] at h1
    cases h1
    exact ⟨u, e⟩
  · rw [Array.toArray_toList]
    exact hS
theorem op_powW : OpR X (binaryOp .Pow) (rI (fun i j => 0 ≤ j ∧ (Builtin.Int.intBits i : Int) * j ≤ 2 ^ 27) fun i j => .int (i ^ j.toNat)) := opI fun _ _ _ _ _ _ _ hc q => pow_int hc.1 hc.2 q
def wReprB : List V → Hp → VK → Prop := fun xs H Q => ∃ b, xs = [.bl b] ∧ Q (.str (if b then "True" else "False")) H
theorem call_repr_bl : CallR X (.builtin "repr") wReprB := by
  intro pins s σ H xs us Q I r h
  obtain ⟨b, rfl, q⟩ := h
  obtain ⟨u, rfl, rx⟩ := vals1 r
  cases rx
  exact PySem.P.repr_of_bool ⟨.str _, H, I.tok _, ⟨_, rfl⟩, q⟩
def wInt1 : List V → Hp → VK → Prop := fun xs H Q => (∃ i, xs = [.int i] ∧ Q (.int i) H) ∨ ∃ k, xs = [.bl k] ∧ Q (.int (if k then 1 else 0)) H
theorem c_int1 : CallR X (.type "int") wInt1 := call_int1
def wAbs : List V → Hp → VK → Prop := fun xs H Q => ∃ i, xs = [.int i] ∧ Q (.int (if i < 0 then -i else i)) H
theorem c_abs : CallR X (.builtin "abs") wAbs := call_abs
def wMax2 : List V → Hp → VK → Prop := fun xs H Q => ∃ i j, xs = [.int i, .int j] ∧ Q (.int (if j > i then j else i)) H
theorem c_max2 (hc : X.calm = true) : CallR X (.builtin "max") wMax2 := call_max2 hc
def wMin2 : List V → Hp → VK → Prop := fun xs H Q => ∃ i j, xs = [.int i, .int j] ∧ Q (.int (if j < i then j else i)) H
theorem c_min2 (hc : X.calm = true) : CallR X (.builtin "min") wMin2 := call_min2 hc
def wLenS (K : PySem.W.Frag) : List V → Hp → VK → Prop := fun xs H Q => ∃ p ys, xs = [.ref p] ∧ (SqL K H p ys ∨ SqT K H p ys) ∧ Q (.int (ys.length : Int)) H
theorem c_len {K : PySem.W.Frag} (hK : X.K = K := by rfl) : CallR X (.builtin "len") (wLenS K) := by
  subst hK
  exact call_len_seq
def wLenT : List V → Hp → VK → Prop := fun xs H Q => ∃ z, xs = [.str z] ∧ z.length ≤ sizeLine ∧ Q (.int (z.length : Int)) H
theorem c_lenT : CallR X (.builtin "len") wLenT := call_len_str
def wListOf (K : PySem.W.Frag) : List V → Hp → VK → Prop := fun xs H Q => ∃ p ys, xs = [.ref p] ∧ (SqL K H p ys ∨ SqT K H p ys) ∧ ∀ l, H l = none → Q (.ref l) (upd H l (.lst ys))
theorem c_list {K : PySem.W.Frag} (hK : X.K = K := by rfl) : CallR X (.type "list") (wListOf K) := by
  subst hK
  exact call_list_of
def wTupleOf (K : PySem.W.Frag) : List V → Hp → VK → Prop := fun xs H Q => ∃ p ys, xs = [.ref p] ∧ ((SqL K H p ys ∧ ∀ l, H l = none → Q (.ref l) (upd H l (.tup ys))) ∨ (SqT K H p ys ∧ Q (.ref p) H))
theorem c_tuple {K : PySem.W.Frag} (hK : X.K = K := by rfl) : CallR X (.type "tuple") (wTupleOf K) := by
  subst hK
  exact call_tuple_of
def wStrB (f : Str → Bool) : V → List V → Hp → VK → Prop := fun x xs H Q => ∃ a, x = .str a ∧ xs = [] ∧ True ∧ Q (.bl (f a)) H
theorem c_isascii : MtR X "str.isascii" (wStrB Txt.isascii) := mt_isascii
theorem c_isalpha : MtR X "str.isalpha" (wStrB Txt.isalpha) := mt_isalpha
theorem c_islower : MtR X "str.islower" (wStrB Txt.islower) := mt_islower
def wAddS : R2 := fun x y H Q => ∃ i j, x = .str i ∧ y = .str j ∧ i.length + j.length ≤ sizeLine ∧ Q (.str (i ++ j)) H
theorem o_adds : OpR X (binaryOp .Add) wAddS := op_add_str
def wNotInC : R2 := fun x y H Q => ∃ (c : Nat) (z : Str), x = .str ⟨#[c]⟩ ∧ y = .str z ∧ Q (.bl (!decide (c ∈ z.cps.toList))) H
theorem o_notInC : OpR X (compareOp .NotIn) wNotInC := op_notIn_sign
def wJoin (K : PySem.W.Frag) : V → List V → Hp → VK → Prop := fun x xs H Q => ∃ a p, ∃ ys : List Str, x = .str a ∧ xs = [.ref p] ∧ (SqL K H p (ys.map V.str) ∨ SqT K H p (ys.map V.str)) ∧
    (ys.map (·.length)).sum + ys.length * a.length ≤ 16777216 ∧ Q (.str (Txt.join a ys)) H
theorem c_join {K : PySem.W.Frag} (hK : X.K = K := by rfl) : MtR X "str.join" (wJoin K) := by
  subst hK
  exact mt_join
theorem c_isi {K : PySem.W.Frag} (hK : X.K = K := by rfl) : CallR X (.builtin "isinstance") (rIsi K) := by
  subst hK
  exact call_isi
theorem o_eqD {K : PySem.W.Frag} (hu : X.A.units + 64 < cLine) (hK : X.K = K := by rfl) : OpR X (compareOp .Eq) (rEqD K) := by
  subst hK
  exact op_eqD hu
theorem o_neD {K : PySem.W.Frag} (hu : X.A.units + 64 < cLine) (hK : X.K = K := by rfl) : OpR X (compareOp .NotEq) (rNeD K) := by
  subst hK
  exact op_neD hu
theorem o_inL {K : PySem.W.Frag} (hK : X.K = K := by rfl) : OpR X (compareOp .In) (rIn K false) := by
  subst hK
  exact op_in_seq
theorem o_notInL {K : PySem.W.Frag} (hK : X.K = K := by rfl) : OpR X (compareOp .NotIn) (rIn K true) := by
  subst hK
  exact op_notIn_seq
theorem i_list {K : PySem.W.Frag} (hK : X.K = K := by rfl) : IxR X (rIxL K) := by
  subst hK
  exact ix_list
theorem i_tup {K : PySem.W.Frag} (hK : X.K = K := by rfl) : IxR X (rIxT K) := by
  subst hK
  exact ix_tup
theorem s_list {K : PySem.W.Frag} (hK : X.K = K := by rfl) : SlR X (rSlL K) := by
  subst hK
  exact sl_list
theorem p_list {K : PySem.W.Frag} {tg l : Expr} {tl : TE} (hl : PE X l tl) (hK : X.K = K := by rfl) : PI X tg l (iList K tl) := by
  subst hK
  exact pi_list hl
theorem e_bm0 {K : PySem.W.Frag} {T id : String} {name : Str} {r : V → List V → Hp → VK → Prop} {o : Expr} {to : TE} {apos cpos : Pos} (pa : PlainAttrs T) (slot : Slot T name id) (hty : typeOf (.builtin id) = pure (.type "method_descriptor")) (hm : MtR X id r) (ho : PE X o to) (hK : X.K = K := by rfl)
    (hbase : attributeBase o name X.env (eval o X.env) = eval o X.env := by rfl) (hline : (apos.endLine == cpos.line) = true := by rfl) : PE X (.Call (.Attribute o name apos) [] [] cpos) (tBM0 K T r to) := by
  subst hK
  exact pe_bm0 pa slot hty hm ho hbase hline
theorem e_bm {K : PySem.W.Frag} {T id : String} {name : Str} {r : V → List V → Hp → VK → Prop} {o e : Expr} {es : List Expr} {to : TE} {t : TA} {apos cpos : Pos} (pa : PlainAttrs T) (slot : Slot T name id) (hty : typeOf (.builtin id) = pure (.type "method_descriptor")) (hm : MtR X id r) (ho : PE X o to) (ha : PA X (e :: es) t) (hK : X.K = K := by rfl)
    (hbase : attributeBase o name X.env (eval o X.env) = eval o X.env := by rfl)
    (hfew : ((backTo cpos (starEach (e :: es) X.env)).all (fun x => !x.1) && (backToKw cpos (keywordEach [] X.env)).all (fun x => x.1.isSome)
      && decide ((e :: es).length + ([] : List Keyword).length + (if ([] : List Keyword).isEmpty then 0 else 1) < 30)) = true := by rfl)
    (hline : (apos.endLine == cpos.line) = true := by rfl) (hs : starEach (e :: es) X.env = (false, eval e X.env) :: starEach es X.env := by rfl) (hplain : (backTo cpos (starEach es X.env)).any (·.1) = false := by rfl) :
    PE X (.Call (.Attribute o name apos) (e :: es) [] cpos) (tBM K T r to t) := by
  subst hK
  exact pe_bm pa slot hty hm ho ha hbase hfew hline hs hplain
end
/-! ### steps of a reading -/
section
variable {K : PySem.W.Frag} {σ : L2.St} {H : Hp} {D : Ends}
theorem r_var {i : Nat} {v : V} {Q : VK} (h : σ[i]? = some (some v)) (q : Q v H) : tVar i σ H Q := ⟨v, h, q⟩
theorem r_c {v : V} {Q : VK} (q : Q v H) : tC v σ H Q := q
theorem r_op {r : R2} {ta tb : TE} {Q : VK} (q : ta σ H fun x H1 => tb σ H1 fun y H2 => r x y H2 Q) : tOp r ta tb σ H Q := q
theorem r_un {r : V → Hp → VK → Prop} {ta : TE} {Q : VK} (q : ta σ H fun x H1 => r x H1 Q) : tUn r ta σ H Q := q
theorem r_I0 {g : Int → Int → V} {i j : Int} {Q : VK} (q : Q (g i j) H) : rI0 g (.int i) (.int j) H Q := ⟨i, j, rfl, rfl, q⟩
theorem r_I {C : Int → Int → Prop} {g : Int → Int → V} {i j : Int} {Q : VK} (hc : C i j) (q : Q (g i j) H) : rI C g (.int i) (.int j) H Q := ⟨i, j, rfl, rfl, hc, q⟩
theorem r_U {g : Int → V} {i : Int} {Q : VK} (q : Q (g i) H) : rU g (.int i) H Q := ⟨i, rfl, q⟩
theorem r_eq {x y : V} {Q : VK} (hs : scal x y = true) (q : Q (.bl (decide (x = y))) H) : rEq x y H Q := ⟨hs, q⟩
theorem r_ne {x y : V} {Q : VK} (hs : scal x y = true) (q : Q (.bl (!decide (x = y))) H) : rNe x y H Q := ⟨hs, q⟩
theorem r_nil {Q : List V → Hp → Prop} (q : Q [] H) : tNil σ H Q := q
theorem r_cons {ta : TE} {tr : TA} {Q : List V → Hp → Prop} (q : ta σ H fun x H1 => tr σ H1 fun xs H2 => Q (x :: xs) H2) : tCons ta tr σ H Q := q
theorem r_cb {r : List V → Hp → VK → Prop} {t : TA} {Q : VK} (q : t σ H fun vs H1 => r vs H1 Q) : tCB r t σ H Q := q
theorem r_call {sp : Sp} {dvs : List V} {E : XK} {t : TA} {Q : VK} (q : t σ H fun vs H1 => sp (vs ++ dvs) H1 Q E) : tCall sp dvs E t σ H Q := q
theorem r_tup {t : TA} {Q : VK} (q : t σ H fun xs H1 => xs.length ≤ sizeLine ∧ ∀ p, H1 p = none → Q (.ref p) (upd H1 p (.tup xs))) : tTup t σ H Q := q
theorem r_lst {t : TA} {Q : VK} (q : t σ H fun xs H1 => xs.length ≤ sizeLine ∧ ∀ p, H1 p = none → Q (.ref p) (upd H1 p (.lst xs))) : tLst t σ H Q := q
theorem r_seq {t u : TS} (q : t { D with nx := u D } σ H) : tSeq t u D σ H := q
theorem r_next (q : D.nx σ H) : tNext D σ H := q
theorem r_asg {te : TE} {g : TG} (q : te σ H fun x H1 => g x σ H1 D.nx) : tAsg te g D σ H := q
theorem r_name {i : Nat} {x : V} {k : L2.St → Hp → Prop} (q : k (σ.set i (some x)) H) : gName i x σ H k := q
theorem r_sub {to ti : TE} {t : TSet} {v : V} {k : L2.St → Hp → Prop} (q : to σ H fun o H1 => ti σ H1 fun i H2 => t o i v H2 fun H3 => k σ H3) : gSub to ti t v σ H k := q
theorem r_setL {p : Addr} {xs : List V} {i : Int} {j : Nat} {v : V} {k : Hp → Prop} (h : H p = some (.lst xs)) (hi : ixN xs.length i = some j) (q : k (upd H p (.lst (xs.set j v)))) : rSetL (.ref p) (.int i) v H k := ⟨p, xs, i, j, rfl, rfl, h, hi, q⟩
theorem r_ifs {c : TT} {t u : TS} (q : c σ H fun b H1 => if b = true then t D σ H1 else u D σ H1) : tIfS c t u D σ H := q
theorem r_ret {te : TE} (q : te σ H D.rt) : tRet te D σ H := q
theorem r_drop {te : TE} (q : te σ H fun _ H1 => D.nx σ H1) : tDrop te D σ H := q
theorem r_test {t : TE} {Q : Bool → Hp → Prop} (q : t σ H fun x H' => ∃ k, x = .bl k ∧ Q k H') : tTest t σ H Q := q
theorem r_B {t : TE} {Q : Bool → Hp → Prop} (q : t σ H fun x H' => ∃ k, x = .bl k ∧ Q k H') : tB t σ H Q := q
theorem r_not {t : TT} {Q : Bool → Hp → Prop} (q : t σ H fun c H1 => Q (!c) H1) : tNot t σ H Q := q
theorem r_and {t u : TT} {Q : Bool → Hp → Prop} (q : t σ H fun c H1 => if c = true then u σ H1 Q else Q false H1) : tAnd t u σ H Q := q
theorem r_or {t u : TT} {Q : Bool → Hp → Prop} (q : t σ H fun c H1 => if c = true then Q true H1 else u σ H1 Q) : tOr t u σ H Q := q
theorem r_notV {ta : TE} {Q : VK} (q : ta σ H fun x H1 => ∃ c, x = .bl c ∧ Q (.bl (!c)) H1) : tNotV ta σ H Q := q
theorem r_andV {ta tb : TE} {Q : VK} (q : ta σ H fun x H1 => ∃ c, x = .bl c ∧ if c = true then tb σ H1 Q else Q (.bl false) H1) : tAndV ta tb σ H Q := q
theorem r_orV {ta tb : TE} {Q : VK} (q : ta σ H fun x H1 => ∃ c, x = .bl c ∧ if c = true then Q (.bl true) H1 else tb σ H1 Q) : tOrV ta tb σ H Q := q
theorem r_if {t : TT} {ta tb : TE} {Q : VK} (q : t σ H fun c H1 => if c = true then ta σ H1 Q else tb σ H1 Q) : tIf t ta tb σ H Q := q
theorem r_chain {r r' : R2} {ta tb tc : TE} {Q : VK} (q : ta σ H fun x H1 => tb σ H1 fun y H2 => r x y H2 fun z H3 => ∃ k, z = .bl k ∧ (if k = true then tc σ H3 fun w' H4 => r' y w' H4 Q else Q (.bl false) H3)) : tChain r r' ta tb tc σ H Q := q
theorem r_bl {b : Bool} {P : Bool → Prop} (q : P b) : ∃ k, V.bl b = V.bl k ∧ P k := ⟨b, rfl, q⟩
theorem r_ixL {p : Addr} {xs : List V} {i : Int} {v : V} {Q : VK} (h : H p = some (.lst xs)) (ha : atI xs i = some v) (q : Q v H) : rIxL K (.ref p) (.int i) H Q := ⟨p, xs, i, v, rfl, rfl, .inl (.inl h), ha, q⟩
theorem r_ixT {p : Addr} {xs : List V} {i : Int} {v : V} {Q : VK} (h : H p = some (.tup xs)) (ha : atI xs i = some v) (q : Q v H) : rIxT K (.ref p) (.int i) H Q := ⟨p, xs, i, v, rfl, rfl, .inl (.inl h), ha, q⟩
theorem r_int1 {i : Int} {Q : VK} (q : Q (.int i) H) : wInt1 [.int i] H Q := .inl ⟨i, rfl, q⟩
theorem r_int1b {b : Bool} {Q : VK} (q : Q (.int (if b then 1 else 0)) H) : wInt1 [.bl b] H Q := .inr ⟨b, rfl, q⟩
theorem r_abs {i : Int} {Q : VK} (q : Q (.int (if i < 0 then -i else i)) H) : wAbs [.int i] H Q := ⟨i, rfl, q⟩
theorem r_max2 {i j : Int} {Q : VK} (q : Q (.int (if j > i then j else i)) H) : wMax2 [.int i, .int j] H Q := ⟨i, j, rfl, q⟩
theorem r_min2 {i j : Int} {Q : VK} (q : Q (.int (if j < i then j else i)) H) : wMin2 [.int i, .int j] H Q := ⟨i, j, rfl, q⟩
theorem r_lenL {p : Addr} {ys : List V} {Q : VK} (h : H p = some (.lst ys)) (q : Q (.int (ys.length : Int)) H) : wLenS K [.ref p] H Q := ⟨p, ys, rfl, .inl (.inl (.inl h)), q⟩
theorem r_lenTp {p : Addr} {ys : List V} {Q : VK} (h : H p = some (.tup ys)) (q : Q (.int (ys.length : Int)) H) : wLenS K [.ref p] H Q := ⟨p, ys, rfl, .inr (.inl (.inl h)), q⟩
theorem r_lenT {z : Str} {Q : VK} (h : z.length ≤ sizeLine) (q : Q (.int (z.length : Int)) H) : wLenT [.str z] H Q := ⟨z, rfl, h, q⟩
theorem r_listL {p : Addr} {ys : List V} {Q : VK} (h : H p = some (.lst ys)) (q : ∀ l, H l = none → Q (.ref l) (upd H l (.lst ys))) : wListOf K [.ref p] H Q := ⟨p, ys, rfl, .inl (.inl (.inl h)), q⟩
theorem r_listS {z : Str} {Q : VK} (h : z.length ≤ sizeLine) (q : ∀ l, H l = none → Q (.ref l) (upd H l (.lst (sg z.cps.toList)))) : wListS [.str z] H Q := ⟨z, rfl, h, q⟩
theorem r_tupleL {p : Addr} {ys : List V} {Q : VK} (h : H p = some (.lst ys)) (q : ∀ l, H l = none → Q (.ref l) (upd H l (.tup ys))) : wTupleOf K [.ref p] H Q := ⟨p, ys, rfl, .inl ⟨.inl (.inl h), q⟩⟩
theorem r_reprB {b : Bool} {Q : VK} (q : Q (.str (if b then "True" else "False")) H) : wReprB [.bl b] H Q := ⟨b, rfl, q⟩
theorem r_bm {T : String} {r : V → List V → Hp → VK → Prop} {to : TE} {t : TA} {Q : VK} (q : to σ H fun x H1 => tyV K T x H1 ∧ t σ H1 fun xs H2 => r x xs H2 Q) : tBM K T r to t σ H Q := q
theorem r_bm0 {T : String} {r : V → List V → Hp → VK → Prop} {to : TE} {Q : VK} (q : to σ H fun x H1 => tyV K T x H1 ∧ r x [] H1 Q) : tBM0 K T r to σ H Q := q
theorem r_tyL {p : Addr} {xs : List V} {P : Prop} (h : H p = some (.lst xs)) (q : P) : tyV K "list" (.ref p) H ∧ P := ⟨.inl ⟨rfl, _, .inl (.inl h)⟩, q⟩
theorem r_tyS {z : Str} {P : Prop} (q : P) : tyV K "str" (.str z) H ∧ P := ⟨rfl, q⟩
theorem r_strB {f : Str → Bool} {a : Str} {Q : VK} (q : Q (.bl (f a)) H) : wStrB f (.str a) [] H Q := ⟨a, rfl, rfl, trivial, q⟩
theorem r_addS {i j : Str} {Q : VK} (h : i.length + j.length ≤ sizeLine) (q : Q (.str (i ++ j)) H) : wAddS (.str i) (.str j) H Q := ⟨i, j, rfl, rfl, h, q⟩
theorem r_notInC {c : Nat} {z : Str} {Q : VK} (q : Q (.bl (!decide (c ∈ z.cps.toList))) H) : wNotInC (.str ⟨#[c]⟩) (.str z) H Q := ⟨c, z, rfl, rfl, q⟩
theorem r_append {l : Addr} {xs : List V} {y : V} {Q : VK} (h : H l = some (.lst xs)) (hz : xs.length < sizeLine) (q : Q .non (upd H l (.lst (xs ++ [y])))) : rAppend (.ref l) [y] H Q := ⟨l, xs, y, rfl, rfl, h, hz, q⟩
theorem r_dnew {Q : VK} (q : ∀ p, H p = none → Q (.ref p) (upd H p (.dK []))) : tDNewK σ H Q := q
theorem r_cat {l b : Addr} {xs zs : List V} {Q : VK} (h : H l = some (.lst xs)) (h' : H b = some (.lst zs)) (hz : xs.length + zs.length ≤ sizeLine) (q : ∀ p, H p = none → Q (.ref p) (upd H p (.lst (xs ++ zs)))) : rCat (.ref l) (.ref b) H Q := ⟨l, b, xs, zs, rfl, rfl, h, h', hz, q⟩
theorem r_joinL {a : Str} {p : Addr} {ys : List Str} {Q : VK} (h : H p = some (.lst (ys.map V.str))) (hz : (ys.map (·.length)).sum + ys.length * a.length ≤ 16777216) (q : Q (.str (Txt.join a ys)) H) : wJoin K (.str a) [.ref p] H Q := ⟨a, p, ys, rfl, rfl, .inl (.inl (.inl h)), hz, q⟩
theorem r_popAt {l : Addr} {xs : List V} {k : Nat} {y : V} {Q : VK} (h : H l = some (.lst xs)) (hz : k < 9223372036854775808) (hy : xs[k]? = some y) (q : Q y (upd H l (.lst (xs.eraseIdx k)))) : rPopAt (.ref l) [.int (k : Int)] H Q := by
  have hk : k < xs.length := (List.getElem?_eq_some_iff.mp hy).1
  have hx : ixN xs.length (k : Int) = some k := by
    unfold ixN
    rw [if_pos (Int.natCast_nonneg k), if_pos (by omega)]
    rfl
  exact ⟨l, xs, k, k, y, rfl, rfl, h, by omega, by omega, (ixN_seq hx).1, hy, q⟩
theorem r_rng1 {ta : TA} {R : It → Hp → Prop} (q : ta σ H fun vs H1 => ∃ j : Int, vs = [.int j] ∧ -(2 ^ 62) ≤ j ∧ j < 2 ^ 62 ∧ R (Itr 0 j.toNat) H1) : iRng1 ta σ H R := q
theorem r_rng1j {j : Int} {P : Int → Prop} (h1 : -(2 ^ 62) ≤ j) (h2 : j < 2 ^ 62) (q : P j) : ∃ j' : Int, [V.int j] = [V.int j'] ∧ -(2 ^ 62) ≤ j' ∧ j' < 2 ^ 62 ∧ P j' := ⟨j, rfl, h1, h2, q⟩
theorem r_iList {tl : TE} {R : It → Hp → Prop} (q : tl σ H fun x H1 => ∃ a, x = .ref a ∧ (∃ xs, SqL K H1 a xs) ∧ R (Itl K a) H1) : iList K tl σ H R := q
theorem r_iListj {a : Addr} {xs : List V} {P : Addr → Prop} (h : H a = some (.lst xs)) (q : P a) : ∃ a', V.ref a = .ref a' ∧ (∃ xs, SqL K H a' xs) ∧ P a' := ⟨a, rfl, ⟨xs, .inl (.inl h)⟩, q⟩
theorem r_iStr {te : TE} {R : It → Hp → Prop} (q : te σ H fun v H1 => ∃ x, v = .str x ∧ R (Its x) H1) : iStr te σ H R := q
theorem r_iStrj {z : Str} {P : Str → Prop} (q : P z) : ∃ x, V.str z = .str x ∧ P x := ⟨z, rfl, q⟩
def LcB (J : It) (g : TG) (tt : TT) (te : TE) (vs : List Nat) (σ : L2.St) (H1 : Hp) (D : Addr) (Q : VK) : Prop := ∃ W : Nat → Nat → Hp → Prop, (∃ m, W 0 m (upd H1 D (.lst []))) ∧ ∀ i m H, W i m H →
  (J.stop i H ∧ Q (.ref D) H) ∨ (J.go i H ∧ ∃ Nx : Hp → Prop, (∀ H', Nx H' → ∃ m', m' < m ∧ W (i + 1) m' H') ∧ ∀ x H', J.yld i H x H' → g x (wipe σ vs) H' fun σ2 H2 => wipe σ2 vs = wipe σ vs ∧ tt σ2 H2 fun b H3 =>
    if b = true then te σ2 H3 fun y H4 => ∃ acc, H4 D = some (.lst acc) ∧ acc.length < sizeLine ∧ Nx (upd H4 D (.lst (acc ++ [y]))) else Nx H3)
theorem r_lc {wi : TI} {g : TG} {tt : TT} {te : TE} {vs : List Nat} {Q : VK} (q : wi σ H fun J H1 => ∀ D, H1 D = none → LcB J g tt te vs σ H1 D Q) : tLc wi g tt te vs σ H Q := q
def ForB (J : It) (g : TG) (tb : TS) (D : Ends) (σ : L2.St) (H1 : Hp) : Prop := ∃ W : Nat → Nat → L2.St → Hp → Prop, (∃ m, W 0 m σ H1) ∧ ∀ i m σ H, W i m σ H →
  (J.stop i H ∧ D.nx σ H) ∨ (J.go i H ∧ ∃ N : L2.St → Hp → Prop, (∀ σ' H', N σ' H' → ∃ m', m' < m ∧ W (i + 1) m' σ' H') ∧ ∀ x H', J.yld i H x H' → g x σ H' fun σ2 H2 => tb { D with nx := N, ct := N, bk := D.nx } σ2 H2)
theorem r_for {wi : TI} {g : TG} {tb : TS} (q : wi σ H fun J H1 => ForB J g tb D σ H1) : tFor wi g tb D σ H := q
theorem r_yes {Q : Bool → Hp → Prop} (q : Q true H) : tYes σ H Q := q
/-- a comprehension over a walk; Pv by the turn and the heap -/
theorem lcB {J : It} {n : Nat} {G : Hp → Prop} {Y : Nat → Hp → V → Hp → Prop} (w : Walk J n G Y) {g : TG} {tt : TT} {te : TE} {vs : List Nat} {H1 : Hp} {D : Addr} {Q : VK} (Pv : Nat → Hp → Prop) (h0 : Pv 0 (upd H1 D (.lst []))) (hG : ∀ i H, i ≤ n → Pv i H → G H)
    (hs : ∀ i x H H', i < n → Pv i H → Y i H x H' → g x (wipe σ vs) H' fun σ2 H2 => wipe σ2 vs = wipe σ vs ∧ tt σ2 H2 fun b H3 =>
      if b = true then te σ2 H3 fun y H4 => ∃ acc, H4 D = some (.lst acc) ∧ acc.length < sizeLine ∧ Pv (i + 1) (upd H4 D (.lst (acc ++ [y]))) else Pv (i + 1) H3) (hd : ∀ H, Pv n H → Q (.ref D) H) : LcB J g tt te vs σ H1 D Q := lc_it w (Qd := fun H => Q (.ref D) H) Pv h0 hG hs hd
theorem forB {J : It} {n : Nat} {G : Hp → Prop} {Y : Nat → Hp → V → Hp → Prop} (w : Walk J n G Y) {g : TG} {tb : TS} (Pv : Nat → L2.St → Hp → Prop) (h0 : Pv 0 σ H) (hG : ∀ i σ H, i ≤ n → Pv i σ H → G H)
    (hs : ∀ i x σ H H', i < n → Pv i σ H → Y i H x H' → g x σ H' fun σ2 H2 => tb { D with nx := Pv (i + 1), ct := Pv (i + 1), bk := D.nx } σ2 H2) (hd : ∀ σ H, Pv n σ H → D.nx σ H) : ForB J g tb D σ H := for_it w Pv h0 hG hs hd
end
theorem nx_pos {a n : Int} (h : 1 ≤ n) (h0 : 0 ≤ a) : (a % n).toNat < n ∧ ((a % n).toNat : Int) = a % n := by
  have h1 := Int.emod_nonneg a (show n ≠ 0 by omega)
  have h2 := Int.emod_lt_of_pos a (show 0 < n by omega)
  omega
theorem get_cons_erase {α : Type} : ∀ {l : List α} {i : Nat} (h : i < l.length), (l[i] :: l.eraseIdx i).Perm l
  | [], _, h => absurd h (Nat.not_lt_zero _)
  | x :: r, 0, _ => .refl _
  | x :: r, i + 1, h => by
    have hi : i < r.length := Nat.lt_of_succ_lt_succ h
    have ih := get_cons_erase (l := r) (i := i) hi
    show (r[i] :: x :: r.eraseIdx i).Perm (x :: r)
    exact (List.Perm.swap x r[i] _).trans (ih.cons x)
theorem iteF' {b : Bool} {A B : Prop} (h : b = false) (q : B) : if b = true then A else B := by
  subst h
  exact iteF q
theorem iteT' {b : Bool} {A B : Prop} (h : b = true) (q : A) : if b = true then A else B := by
  subst h
  exact iteT q
theorem sz_of {n : Nat} (h : n ≤ 100000) : n ≤ sizeLine := Nat.le_trans h (by decide)
theorem sz_lt {n : Nat} (h : n < 100000) : n < sizeLine := Nat.lt_of_lt_of_le h (by decide)
/-- the text of some signs -/
abbrev ofC (cs : List Nat) : Str := ⟨cs.toArray⟩
theorem ofC_len (cs : List Nat) : (ofC cs).length = cs.length := rfl
theorem joinL_nil : ∀ cs : List Nat, TL.joinL [] (cs.map fun c => [c]) = cs
  | [] => rfl
  | [_] => rfl
  | c :: e :: r => by
    have ih := joinL_nil (e :: r)
    show [c] ++ ([] ++ TL.joinL [] ((e :: r).map fun c => [c])) = c :: e :: r
    rw [ih]
    rfl
theorem join_one (cs : List Nat) : Txt.join (Str.ofString "") (cs.map fun c => (⟨#[c]⟩ : Str)) = ofC cs := by
  refine TL.ext_tl ?_
  unfold Txt.join
  rw [StrLaws.glued_eq_join, TL.tl_join]
  rw [List.map_map]
  exact joinL_nil cs
theorem sum_one (cs : List Nat) : ((cs.map fun c => (⟨#[c]⟩ : Str)).map (·.length)).sum = cs.length := by
  rw [List.map_map]
  induction cs with
  | nil => rfl
  | cons c r ih =>
    rw [List.map_cons, List.sum_cons, ih, List.length_cons]
    show 1 + r.length = r.length + 1
    omega
/-! ### the draws -/
/-- a list of three ints, the first not below nought -/
def Dice (H : Hp) (d : Addr) : Prop := ∃ a b c : Int, 0 ≤ a ∧ H d = some (.lst [.int a, .int b, .int c])
/-- what stood, stands, but for what is at d -/
def Ext (d : Addr) (H H' : Hp) : Prop := ∀ b o, b ≠ d → H b = some o → H' b = some o
theorem Ext.refl (d : Addr) (H : Hp) : Ext d H H := fun _ _ _ h => h
theorem Ext.trans {d : Addr} {H H1 H2 : Hp} (a : Ext d H H1) (b : Ext d H1 H2) : Ext d H H2 := fun c o n h => b c o n (a c o n h)
theorem Ext.at_ {d : Addr} {H H' : Hp} {o : HO} (e : Ext d H H') : Ext d H (upd H' d o) := fun b u n h => by
  rw [upd_ne n]
  exact e b u n h
theorem Ext.new {d p : Addr} {H : Hp} {o : HO} (n : H p = none) : Ext d H (upd H p o) := fun b u _ h => by
  rw [upd_ne (ne_of_none h n)]
  exact h
theorem same_upd {H : Hp} {p : Addr} {o : HO} (h : H p = none) : Same H (upd H p o) := fun b x e => by
  rw [upd_ne (ne_of_none e h)]
  exact e
theorem ne_any {H : Hp} {a b : Addr} (h : ∃ o, H a = some o) (h' : H b = Option.none) : a ≠ b := by
  obtain ⟨o, h⟩ := h
  exact ne_of_none h h'
theorem there_here {H : Hp} {p : Addr} {o : HO} : ∃ u, upd H p o p = some u := ⟨o, upd_same⟩
theorem there_old {H : Hp} {p a : Addr} {o : HO} (n : H p = Option.none) (h : ∃ u, H a = some u) : ∃ u, upd H p o a = some u := by
  obtain ⟨u, h⟩ := h
  exact ⟨u, by rw [upd_ne (ne_of_none h n)]; exact h⟩
theorem Ext.same {d : Addr} {H H1 H2 : Hp} (s : Same H H1) (e : Ext d H1 H2) (n : H d = Option.none) : Same H H2 := fun b o h => e b o (ne_of_none h n) (s b o h)
theorem Ext.of_same {d : Addr} {H H' : Hp} (s : Same H H') : Ext d H H' := fun b o _ h => s b o h
theorem Dice.mk3 {d : Addr} {H : Hp} {a b c : Int} (h : 0 ≤ a) : Dice (upd H d (.lst [.int a, .int b, .int c])) d := ⟨a, b, c, h, upd_same⟩
theorem Dice.new {d p : Addr} {H : Hp} {o : HO} (h : Dice H d) (n : H p = none) : Dice (upd H p o) d := by
  obtain ⟨a, b, c, h0, e⟩ := h
  exact ⟨a, b, c, h0, by rw [upd_ne (ne_of_none e n)]; exact e⟩
theorem Dice.off {d p : Addr} {H : Hp} {o : HO} (h : Dice H d) (n : p ≠ d) : Dice (upd H p o) d := by
  obtain ⟨a, b, c, h0, e⟩ := h
  exact ⟨a, b, c, h0, by rw [upd_ne n.symm]; exact e⟩
theorem Dice.ne {d p : Addr} {H : Hp} (h : Dice H d) (n : H p = none) : p ≠ d := by
  obtain ⟨a, b, c, h0, e⟩ := h
  exact (ne_of_none e n).symm
theorem Ext.free_ {d p : Addr} {H H' : Hp} (e : Ext d H H') (hd : Dice H' d) (n : H' p = none) : H p = none := by
  cases q : H p with
  | none => rfl
  | some o =>
    have z := e p o (hd.ne n) q
    rw [n] at z
    cases z
/-- a list that was made and is filled on: upd at a place that was free -/
theorem Ext.grown {d p : Addr} {H H' : Hp} {o : HO} (e : Ext d H H') (n : H p = none) : Ext d H (upd H' p o) := fun b u nb h => by
  rw [upd_ne (ne_of_none h n)]
  exact e b u nb h
end My

namespace My
theorem turns_ok (n : Nat) : ∃ m : Nat, (if (if (n : Int) < 8 then (n : Int) else 8) > 1 then (if (n : Int) < 8 then (n : Int) else 8) else 1) = (m : Int) ∧ m ≤ 8 := by
  by_cases h : (n : Int) < 8
  · rw [if_pos h]
    by_cases h2 : (n : Int) > 1
    · rw [if_pos h2]
      exact ⟨n, rfl, by omega⟩
    · rw [if_neg h2]
      exact ⟨1, rfl, by omega⟩
  · rw [if_neg h]
    exact ⟨8, rfl, by omega⟩
end My

--MACROS
local macro_rules | `(tactic| walk_at "zget") => `(tactic| first
  | assumption
  | exact L2.upd_same
  | (refine My.same_upd (by assumption) _ _ ?_; walk_at "zget"))
local macro_rules | `(tactic| walk_at "zgetx") => `(tactic| first
  | exact ⟨_, by assumption⟩
  | exact My.there_here
  | (refine My.there_old (by assumption) ?_; walk_at "zgetx"))
local macro_rules | `(tactic| walk_at "zdice") => `(tactic| first
  | assumption
  | (refine My.Dice.new ?_ (by assumption); walk_at "zdice"))
local macro_rules | `(tactic| walk_at "zext") => `(tactic| first
  | assumption
  | exact My.Ext.refl _ _
  | (refine My.Ext.trans ?_ (My.Ext.new (by assumption)); walk_at "zext"))
local macro_rules | `(tactic| walk_at "zsz") => `(tactic| exact Nat.le_trans (m := 100000) (Nat.le_of_ble_eq_true rfl) (by decide))
local macro_rules | `(tactic| walk_at "zcond") => `(tactic| first
  | (show (0 : Int) < _; omega)
  | (show (0 : Int) < _; decide +kernel)
  | (refine And.intro ?_ ?_ <;> omega)
  | (refine Or.inl (And.intro ?_ ?_) <;> omega)
  | (refine Or.inr (And.intro ?_ ?_) <;> omega)
  | (refine And.intro ?_ ?_ <;> decide +kernel))
local macro_rules | `(tactic| walk_at "zhp") => `(tactic| first
  | assumption
  | exact L2.upd_same
  | (rw [L2.upd_ne (by assumption)]; walk_at "zhp")
  | (rw [L2.upd_ne (Ne.symm (by assumption))]; walk_at "zhp"))
local macro_rules | `(tactic| walk_at "zrd") => `(tactic| repeat (first
  | with_reducible refine My.r_seq ?_
  | with_reducible refine My.r_op ?_
  | with_reducible refine My.r_var rfl ?_
  | with_reducible refine My.r_c ?_
  | with_reducible refine My.r_cons ?_
  | with_reducible refine My.r_nil ?_
  | with_reducible refine My.r_asg ?_
  | with_reducible refine My.r_name ?_
  | with_reducible refine My.r_cb ?_
  | with_reducible refine My.r_call ?_
  | with_reducible refine My.r_I0 ?_
  | ((with_reducible refine My.r_I ?hcond ?_); (case hcond => walk_at "zcond"))
  | with_reducible refine My.r_int1 ?_
  | with_reducible refine My.r_int1b ?_
  | with_reducible refine My.r_abs ?_
  | with_reducible refine My.r_max2 ?_
  | with_reducible refine My.r_min2 ?_
  | with_reducible refine My.r_reprB ?_
  | with_reducible refine My.r_ifs ?_
  | with_reducible refine My.r_ret ?_
  | with_reducible refine My.r_next ?_
  | with_reducible refine My.r_test ?_
  | with_reducible refine My.r_B ?_
  | with_reducible refine My.r_bl ?_
  | with_reducible refine My.r_un ?_
  | with_reducible refine My.r_U ?_
  | with_reducible refine My.r_eq rfl ?_
  | with_reducible refine My.r_ne rfl ?_
  | with_reducible refine My.r_lenL (by walk_at "zhp") ?_
  | with_reducible refine My.r_lenTp (by walk_at "zhp") ?_
  | with_reducible refine My.r_listL (by walk_at "zhp") ?_
  | with_reducible refine My.r_tupleL (by walk_at "zhp") ?_
  | with_reducible refine My.r_ixL (by walk_at "zhp") rfl ?_
  | with_reducible refine My.r_sub ?_
  | with_reducible refine My.r_setL (by walk_at "zhp") rfl ?_
  | with_reducible refine My.r_bm ?_
  | with_reducible refine My.r_bm0 ?_
  | with_reducible refine My.r_tyL (by walk_at "zhp") ?_
  | with_reducible refine My.r_tyS ?_
  | with_reducible refine My.r_strB ?_
  | with_reducible refine My.r_notInC ?_
  | with_reducible refine My.r_rng1 ?_
  | with_reducible refine My.r_iList ?_
  | with_reducible refine My.r_iListj (by walk_at "zhp") ?_
  | with_reducible refine My.r_iStr ?_
  | with_reducible refine My.r_iStrj ?_
  | with_reducible refine My.r_dnew ?_
  | with_reducible refine My.r_not ?_
  | with_reducible refine My.r_and ?_
  | with_reducible refine My.r_or ?_
  | with_reducible refine My.r_notV ?_
  | with_reducible refine My.r_andV ?_
  | with_reducible refine My.r_orV ?_
  | with_reducible refine My.r_if ?_
  | with_reducible refine My.r_chain ?_
  | with_reducible refine My.r_lc ?_
  | with_reducible refine My.r_for ?_
  | with_reducible refine My.r_yes ?_
  | with_reducible refine My.r_tup ?_
  | with_reducible refine My.r_lst ?_
  | with_reducible refine My.r_drop ?_
  | with_reducible refine L2.iteF ?_
  | with_reducible refine L2.iteT ?_
  | refine My.iteF' rfl ?_
  | refine My.iteT' rfl ?_))

--ENDMACROS
namespace My
open PySem PySem.Spec PyProof.Rows L2
/-- kinds of values whose type is known -/
inductive KindV (H : Hp) : V → Prop where
  | str {s : Str} (h : s.length ≤ 100000) (ha : s.cps.all (fun c => decide (c < 128)) = true) : KindV H (.str s)
  | non : KindV H .non
  | bl (b : Bool) : KindV H (.bl b)
  | int (i : Int) : KindV H (.int i)
  | tup {a : Addr} {xs : List V} (e : H a = some (.tup xs)) : KindV H (.ref a)
  | lst {a : Addr} {xs : List V} (e : H a = some (.lst xs)) : KindV H (.ref a)
  | dK {a : Addr} {kvs : List (Key × V)} (e : H a = some (.dK kvs)) : KindV H (.ref a)
def isStrV : V → Bool
  | .str _ => true
  | _ => false
theorem KindV.isi {K : PySem.W.Frag} {H : Hp} {v : V} {Q : VK} (h : KindV H v) (q : Q (.bl (isStrV v)) H) : rIsi K [v, .ty "str"] H Q := by
  cases h with
  | str h ha => exact ⟨_, _, .type "str", .type "str", true, rfl, .ty _, .base (.str _), kit_ty (by decide +kernel), q⟩
  | non => exact ⟨_, _, .type "NoneType", .type "str", false, rfl, .ty _, .base .non, kit_ty (by decide +kernel), q⟩
  | bl b => exact ⟨_, _, .type "bool", .type "str", false, rfl, .ty _, .base (.bl _), kit_ty (by decide +kernel), q⟩
  | int i => exact ⟨_, _, .type "int", .type "str", false, rfl, .ty _, .base (.int _), kit_ty (by decide +kernel), q⟩
  | tup e => exact ⟨_, _, .type "tuple", .type "str", false, rfl, .ty _, .base (.tup e), kit_ty (by decide +kernel), q⟩
  | lst e => exact ⟨_, _, .type "list", .type "str", false, rfl, .ty _, .base (.lst e), kit_ty (by decide +kernel), q⟩
  | dK e => exact ⟨_, _, .type "dict", .type "str", false, rfl, .ty _, .base (.dK e), kit_ty (by decide +kernel), q⟩
theorem KindV.mono {d : Addr} {H H' : Hp} {v : V} (e : Ext d H H') (n : ∀ a, v = .ref a → a ≠ d) (h : KindV H v) : KindV H' v := by
  cases h with
  | str h ha => exact .str h ha
  | non => exact .non
  | bl b => exact .bl b
  | int i => exact .int i
  | tup h => exact .tup (e _ _ (n _ rfl) h)
  | lst h => exact .lst (e _ _ (n _ rfl) h)
  | dK h => exact .dK (e _ _ (n _ rfl) h)
/-- .. and it is not the dice -/
def KD (d : Addr) (H : Hp) (v : V) : Prop := KindV H v ∧ ∀ a, v = .ref a → a ≠ d
theorem KD.mono {d : Addr} {H H' : Hp} {v : V} (e : Ext d H H') (h : KD d H v) : KD d H' v := ⟨h.1.mono e h.2, h.2⟩
theorem KD.flat {d : Addr} {H : Hp} {v : V} (h : KindV H v) (n : ∀ a, v ≠ .ref a) : KD d H v := ⟨h, fun a e => absurd e (n a)⟩
theorem KD.at_ {d : Addr} {H : Hp} {a : Addr} (h : KindV H (.ref a)) (n : a ≠ d) : KD d H (.ref a) := ⟨h, fun b e => by cases e; exact n⟩
theorem KindV.isiT {K : PySem.W.Frag} {H : Hp} {v : V} {Q : VK} (T : String) (f : V → Bool) (h : KindV H v) (hs : ∀ s, kitB "str" T = some (f (.str s))) (hn : kitB "NoneType" T = some (f .non)) (hb : ∀ b, kitB "bool" T = some (f (.bl b)))
    (hi : ∀ i, kitB "int" T = some (f (.int i))) (ht : ∀ a xs, H a = some (.tup xs) → kitB "tuple" T = some (f (.ref a))) (hl : ∀ a xs, H a = some (.lst xs) → kitB "list" T = some (f (.ref a))) (hd : ∀ a kvs, H a = some (.dK kvs) → kitB "dict" T = some (f (.ref a)))
    (q : Q (.bl (f v)) H) : rIsi K [v, .ty T] H Q := by
  cases h with
  | str h ha => exact ⟨_, _, .type "str", .type T, _, rfl, .ty _, .base (.str _), kit_ty (hs _), q⟩
  | non => exact ⟨_, _, .type "NoneType", .type T, _, rfl, .ty _, .base .non, kit_ty hn, q⟩
  | bl b => exact ⟨_, _, .type "bool", .type T, _, rfl, .ty _, .base (.bl _), kit_ty (hb _), q⟩
  | int i => exact ⟨_, _, .type "int", .type T, _, rfl, .ty _, .base (.int _), kit_ty (hi _), q⟩
  | tup e => exact ⟨_, _, .type "tuple", .type T, _, rfl, .ty _, .base (.tup e), kit_ty (ht _ _ e), q⟩
  | lst e => exact ⟨_, _, .type "list", .type T, _, rfl, .ty _, .base (.lst e), kit_ty (hl _ _ e), q⟩
  | dK e => exact ⟨_, _, .type "dict", .type T, _, rfl, .ty _, .base (.dK e), kit_ty (hd _ _ e), q⟩
def isIntishV : V → Bool
  | .int _ => true
  | .bl _ => true
  | _ => false
def isBoolV : V → Bool
  | .bl _ => true
  | _ => false
theorem KindV.isiInt {K : PySem.W.Frag} {H : Hp} {v : V} {Q : VK} (h : KindV H v) (q : Q (.bl (isIntishV v)) H) : rIsi K [v, .ty "int"] H Q :=
  h.isiT "int" isIntishV (fun _ => by show _ = some false; decide +kernel) (by show _ = some false; decide +kernel) (fun _ => by show _ = some true; decide +kernel) (fun _ => by show _ = some true; decide +kernel) (fun _ _ _ => by show _ = some false; decide +kernel) (fun _ _ _ => by show _ = some false; decide +kernel) (fun _ _ _ => by show _ = some false; decide +kernel) q
theorem KindV.isiBool {K : PySem.W.Frag} {H : Hp} {v : V} {Q : VK} (h : KindV H v) (q : Q (.bl (isBoolV v)) H) : rIsi K [v, .ty "bool"] H Q :=
  h.isiT "bool" isBoolV (fun _ => by show _ = some false; decide +kernel) (by show _ = some false; decide +kernel) (fun _ => by show _ = some true; decide +kernel) (fun _ => by show _ = some false; decide +kernel) (fun _ _ _ => by show _ = some false; decide +kernel) (fun _ _ _ => by show _ = some false; decide +kernel) (fun _ _ _ => by show _ = some false; decide +kernel) q
end My

namespace My
open PySem PySem.Spec PyProof.Rows L2
/-! ### integers and columns -/
def big60 : Int := 10 ^ 60
def isIntV : V → Bool
  | .int i => decide ((if i < 0 then -i else i) < 10 ^ 60)
  | _ => false
def isColV : V → Bool
  | .int i => decide (0 ≤ i) && decide (i ≤ 199)
  | _ => false
theorem isInt_small {i : Int} (h0 : -200 ≤ i) (h1 : i ≤ 1000) : isIntV (.int i) = true := by
  refine decide_eq_true ?_
  by_cases h : i < 0
  · rw [if_pos h]; omega
  · rw [if_neg h]; omega
theorem isInt_of {i : Int} (h0 : -(10 ^ 60) < i) (h1 : i < 10 ^ 60) : isIntV (.int i) = true := by
  refine decide_eq_true ?_
  by_cases h : i < 0
  · rw [if_pos h]; omega
  · rw [if_neg h]; omega
theorem isInt_not {i : Int} (h : i ≤ -(10 ^ 60) ∨ 10 ^ 60 ≤ i) : isIntV (.int i) = false := by
  refine decide_eq_false ?_
  by_cases h2 : i < 0
  · rw [if_pos h2]; omega
  · rw [if_neg h2]; omega
theorem isCol_of {i : Int} (h0 : 0 ≤ i) (h1 : i ≤ 199) : isColV (.int i) = true := by
  show (decide (0 ≤ i) && decide (i ≤ 199)) = true
  rw [decide_eq_true h0, decide_eq_true h1]
  rfl
theorem isCol_not {i : Int} (h : i < 0 ∨ 199 < i) : isColV (.int i) = false := by
  show (decide (0 ≤ i) && decide (i ≤ 199)) = false
  rcases h with h | h
  · rw [decide_eq_false (by omega), Bool.false_and]
  · rw [decide_eq_false (show ¬ i ≤ 199 by omega), Bool.and_false]
/-- a row: a value, whether it is an integer, whether it is a column -/
def Row (N : List Addr) (H : Hp) (r : V) : Prop := ∃ p v, r = .ref p ∧ p ∉ N ∧ H p = some (.lst [v, .bl (isIntV v), .bl (isColV v)]) ∧ KindV H v ∧ ∀ a, v = .ref a → a ∉ N
def ExtN (N : List Addr) (H H' : Hp) : Prop := ∀ b o, b ∉ N → H b = some o → H' b = some o
theorem KindV.monoN {N : List Addr} {H H' : Hp} {v : V} (e : ExtN N H H') (n : ∀ a, v = .ref a → a ∉ N) (h : KindV H v) : KindV H' v := by
  cases h with
  | str h ha => exact .str h ha
  | non => exact .non
  | bl b => exact .bl b
  | int i => exact .int i
  | tup h => exact .tup (e _ _ (n _ rfl) h)
  | lst h => exact .lst (e _ _ (n _ rfl) h)
  | dK h => exact .dK (e _ _ (n _ rfl) h)
theorem Row.mono {N : List Addr} {H H' : Hp} {r : V} (e : ExtN N H H') (h : Row N H r) : Row N H' r := by
  obtain ⟨p, v, rfl, n, hp, hk, hn⟩ := h
  exact ⟨p, v, rfl, n, e _ _ n hp, hk.monoN e hn, hn⟩
theorem rowI {N : List Addr} {H : Hp} {p : Addr} {z : Int} {a b : Bool} (n : p ∉ N) (h : H p = some (.lst [.int z, .bl a, .bl b])) (ha : isIntV (.int z) = a) (hb : isColV (.int z) = b) : Row N H (.ref p) := by
  subst ha hb
  exact ⟨p, _, rfl, n, h, .int _, fun _ z => nomatch z⟩
theorem rowF {N : List Addr} {H : Hp} {p : Addr} {v : V} (n : p ∉ N) (h : H p = some (.lst [v, .bl false, .bl false])) (hk : KindV H v) (hn : ∀ a, v = .ref a → a ∉ N) (ha : isIntV v = false) (hb : isColV v = false) : Row N H (.ref p) :=
  ⟨p, v, rfl, n, by rw [ha, hb]; exact h, hk, hn⟩
theorem ExtN.of_ext {d : Addr} {N : List Addr} {H H' : Hp} (hd : d ∈ N) (e : Ext d H H') : ExtN N H H' := fun b o n h => e b o (fun z => n (z ▸ hd)) h
theorem ExtN.of_same {N : List Addr} {H H' : Hp} (e : Same H H') : ExtN N H H' := fun b o _ h => e b o h
theorem ExtN.trans {N : List Addr} {H H1 H2 : Hp} (a : ExtN N H H1) (b : ExtN N H1 H2) : ExtN N H H2 := fun c o n h => b c o n (a c o n h)
theorem ExtN.at_ {N : List Addr} {H : Hp} {p : Addr} {o : HO} (hp : p ∈ N) : ExtN N H (upd H p o) := fun b u n h => by
  have nb : b ≠ p := fun z => n (by rw [z]; exact hp)
  rw [upd_ne nb]
  exact h
theorem nin2 {p d S : Addr} (h1 : p ≠ d) (h2 : p ≠ S) : p ∉ [d, S] := by
  simp only [List.mem_cons, List.not_mem_nil, or_false, not_or]
  exact ⟨h1, h2⟩
end My

--CUT
namespace My
open PySem PySem.Spec PyProof.Rows L2
/-! ### promises that know that nothing is being shown (no repr is under way) -/
structure FnG (P : Program) (w : World) (K : PySem.W.Frag) (mg : Str → Option Value) (base : Heap) (CX : CXT) (k : Nat) (f : Addr) (fd : FuncData) (ps : List Str) (sp : Sp) : Prop where
  len : ∀ vs H Q E, sp vs H Q E → vs.length = ps.length
  run : ∀ (A : Around) (outer : List Env) (s : Shared) (H : Hp) (args : Args) (us : List Value) (vs : List V) (Q : VK) (E : XK), A.guards = some [] → Room k A → Env0 P w K mg base A outer s H →
    BindsTo s fd args (ps.zip us) → Vals vs us → sp vs H Q E → codeAny (model P w) A (.call (.ref f) args) (CR CX outer P w H s Q E) s
section
variable {P : Program} {w : World} {K : PySem.W.Frag} {mg : Str → Option Value} {base : Heap} {CX : CXT} {k : Nat} {f : Addr} {fd : FuncData} {ps : List Str} {sp : Sp}
theorem FnG.of (F : FnOk P w K mg base CX k f fd ps sp) : FnG P w K mg base CX k f fd ps sp := ⟨F.len, fun A outer s H args us vs Q E _ => F.run A outer s H args us vs Q E⟩
theorem okG {x qual : Str} {st : Stmt} {N : List Str} (F : Fun K x qual st f fd) (S : FnScope N ps (defScope st)) (len : ∀ vs H Q E, sp vs H Q E → vs.length = ps.length)
    (hbody : ∀ (cdv : Value) (A : Around) (outer : List Env) (s : Shared) (H : Hp) (vs : List V) (Q : VK) (E : XK), A.guards = some [] → Room k (A.deeper (envOfC qual (defScope st) s.heap.objs.size f cdv)) → sp vs H Q E →
      ∃ t, PSs (cxOf CX0 P w K mg base N qual (defScope st) f cdv A outer s H E).nox (defBody st) t ∧ t { nx := fun _ H' => Q .non H', rt := Q } (start N vs) H) : FnG P w K mg base CX0 (k + 1) f fd ps sp := by
  obtain ⟨oc, od, kV, doc, pm, an, cdv, ct, osl, rfl, lk, hcd⟩ := F.ex
  constructor
  · exact len
  intro A outer s H args us vs Q E hg hr e0 hb r hsp
  have stay : ∀ b o, base.get? b = some o → s.heap.get? b = some o := fun b o e => (e0.bs b o e).1
  have kinds : ∀ y ∈ ps.zip us, (defScope st).names.lookup y.1 = some .local ∨ ((defScope st).names.lookup y.1 = some .cell ∧ ((cellsFrom (s.heap.objs.size + 1) (defScope st).names []).lookup y.1).isSome = true) := by
    intro y hy
    obtain ⟨n, v⟩ := y
    have := S.par n (List.of_mem_zip hy).1
    rcases this with q | q
    · left; exact q
    · right; exact ⟨q, PySem.W.cellsFrom_some _ _ _ (.inl q)⟩
  refine codeAny_call_function hr.depth ((e0.mod.kin.keeps stay) _ _ lk) rfl S.co S.gen rfl (PySem.W.codeRec_of (e0.mod.kin.keeps stay) hcd) (hb _ _ _ _ ?_)
  apply wpAny_newFunctionEnv_cells S.kind kinds
  intro env he s1 x
  subst he
  constructor
  · exact (e0.mod.nolimit.keeps stay).keeps x.toInCall.keep
  apply codeAny_func
  obtain ⟨t, ht, hq⟩ := hbody cdv A outer s H vs Q E hg (hr.deeper _) hsp
  have I := inv_start (CX := CX0) (E := E) S hr.hd e0 (len _ _ _ _ hsp) r x
  apply wpAny_mono (ht.nox.run [] s1 (start N vs) H _ I hq)
  · intro fl s' hs
    cases fl with
    | ret u =>
      obtain ⟨v, _, H', J, rv, q⟩ := hs
      exact ⟨v, H', J.os, J.bare, J.base, J.hok, rv, q⟩
    | next =>
      obtain ⟨_, H', J, q⟩ := hs
      exact ⟨V.non, H', J.os, J.bare, J.base, J.hok, rfl, q⟩
    | brk => exact hs.elim fun _ z => z.elim fun _ z => z.2.elim
    | cont => exact hs.elim fun _ z => z.elim fun _ z => z.2.elim
  · exact fun _ _ z => z
/-- the law is called: nothing is under way there -/
theorem lawG {mb : Str → Option Value} {fa a : Addr} {x : Str} {s1 : Shared} {vs : List Value} {ns : List Int} (KX : K.In s1.heap) (hns : s1.heap.Ns mainGlobals mg) (hb : s1.heap.Ns builtinsNs mb)
    (hbb : ∀ x : Str, x ≠ "__name__" → mb x = bootBuiltins x) (hlim : s1.heap.NoLimit) (hg : s1.gens = #[]) (ha : s1.heap.get? a = some { cls := .type "list", data := .seq vs.toArray }) (hi : IntsAre vs ns) (hl : ns.length ≤ sizeLine) (hr : Room k callerA)
    (F : ∀ base : Heap, K.In base → base.Ns mainGlobals mg → FnG P w K mg base CX k fa fd [x] sp) (hbind : ∀ (s : Shared) (u : Value), BindsTo s fd ⟨[u], []⟩ [(x, u)])
    (hsp : ∀ H : Hp, Only H → SqL K H a (ns.map V.int) → sp [.ref a] H (fun v _ => v = .bl true) fun _ _ _ => False) (hCX : ∀ H e s', CX [] H s1 (fun _ _ _ => False) e s' → False) :
    codeAny (model P w) callerA (.call (.ref fa) ⟨[.ref a], []⟩) (fun r s' => r = .ok (.ret (.bool true)) ∧ PySem.OldK s1.heap s'.heap ∧ s'.os = s1.os ∧ AllBare s'.gens) s1 := by
  have rv := vals_ints hi
  have core : ∀ H : Hp, Only H → SqL K H a (ns.map V.int) → HOk P w H s1.heap → (∀ b, H b ≠ none → b = a) → (H a ≠ none → K.lookup a = none) →
      codeAny (model P w) callerA (.call (.ref fa) ⟨[.ref a], []⟩) (fun r s' => r = .ok (.ret (.bool true)) ∧ PySem.OldK s1.heap s'.heap ∧ s'.os = s1.os ∧ AllBare s'.gens) s1 := by
    intro H hO hS hok hA hK
    have isA : ∀ b u, H b = some u → b = a := fun b u e => hA b (by rw [e]; exact fun z => nomatch z)
    have dictK : ∀ {b : Addr} {m : Str → Option Value}, s1.heap.Ns b m → (hidT s1.heap H).Ns b m := by
      intro b m hN
      obtain ⟨o, es, ep, e, d, r⟩ := hN
      refine ⟨o, es, ep, hidT_get e ?_, d, r⟩
      cases q : H b with
      | none => rfl
      | some u =>
        cases isA b u q
        rw [ha] at e
        cases e
        exact nomatch (show Data.seq vs.toArray _ = Data.dict es ep from d)
    have kB : K.In (hidT s1.heap H) := by
      intro b o e
      refine hidT_get (KX b o e) ?_
      cases q : H b with
      | none => rfl
      | some u =>
        cases isA b u q
        rw [hK (by rw [q]; exact fun z => nomatch z)] at e
        cases e
    obtain ⟨mc, l1, l2⟩ := hlim
    have e0 : Env0 P w K mg (hidT s1.heap H) callerA [] s1 H :=
      { frames := rfl, mod := { kin := kB, glob := dictK hns, blt := ⟨mb, dictK hb, hbb⟩, nolimit := ⟨mc, dictK l1, l2⟩ }, bs := fun b o e => of_hidT e, bsz := Nat.le_of_eq (hidT_size _ _), funs := trivial, frf := (fun b hb => nomatch (show b ∈ ([] : List Addr) from hb)), hok := hok, bare := .of_eq hg }
    apply codeAny_mono ((F _ kB (dictK hns)).run callerA [] s1 H ⟨[.ref a], []⟩ [.ref a] [.ref a] _ _ rfl hr e0 (hbind s1 (.ref a)) (.cons rfl .nil) (hsp H hO hS))
    intro r s' h
    match r, h with
    | .error e, h => exact (hCX H e s' h).elim
    | .ok .next, h => exact False.elim h
    | .ok .brk, h => exact False.elim h
    | .ok .cont, h => exact False.elim h
    | .ok (.ret u), h =>
      obtain ⟨v, H', os, bare, un, hok', r', q⟩ := h
      cases (show v = .bl true from q)
      cases (show u = Value.bool true from r')
      refine ⟨rfl, PySem.OldK.of_keep fun b o e => ?_, os, bare⟩
      cases q : H b with
      | none => exact un.keep b o e q (fun z => nomatch (show b ∈ ([] : List Addr) from z)) (fun z => nomatch z)
      | some u =>
        rcases hO b with z | ⟨ob, xs, z⟩
        · rw [q] at z
          cases z
        · obtain ⟨e1, _⟩ := hok b _ z
          obtain ⟨e2, _⟩ := hok' b _ (un.frzs b ob _ z)
          rw [e] at e1
          cases e1
          exact e2
  cases hk : K.lookup a with
  | some o =>
    have e := KX a o hk
    rw [ha] at e
    cases e
    apply core (fun _ => none) (fun _ => Or.inl rfl)
    · exact .inr ⟨_, vs.toArray, _, hk, rfl, rfl, rfl, by rw [List.size_toArray, hi.length]; exact hl, by simpa using rv⟩
    · exact fun b u z => nomatch (show (none : Option HO) = some u from z)
    · exact fun b z => absurd rfl z
    · exact fun z => absurd rfl z
  | none =>
    have at1 : ∀ b u, (if b = a then some (HO.frz { cls := .type "list", data := .seq vs.toArray } (.lst (ns.map V.int))) else none) = some u → b = a := fun b u z => by
      by_cases h : b = a
      · exact h
      · rw [if_neg h] at z
        cases z
    apply core (fun b => if b = a then some (.frz { cls := .type "list", data := .seq vs.toArray } (.lst (ns.map V.int))) else none)
    · intro b
      by_cases h : b = a
      · right; exact ⟨_, _, if_pos h⟩
      · left; exact if_neg h
    · exact .inl (.inr ⟨{ cls := .type "list", data := .seq vs.toArray }, if_pos rfl⟩)
    · intro b u z
      cases at1 b u z
      have z2 := (if_pos rfl).symm.trans z
      cases z2
      exact ⟨ha, by rw [List.length_map]; exact hl, vs, _, rv, ha⟩
    · intro b z
      by_cases h : b = a
      · exact h
      · exact absurd (if_neg h) z
    · exact fun _ => hk
end
theorem walkG {l : PySem.W.OpenLaw} {n k : Nat} {q : Program} {loose : List Str} {XP : (Str → Option Value) → Heap → Prop} {YP : World → Heap → Prop} {d : DefRec} {K : Params → PySem.W.Frag} {CX : World → CXT} {sp : World → Sp} {x : Str}
    (hn : l.most = some n) (hn2 : n ≤ sizeLine) (hdf : d.params.defaults = []) (hr : Room k callerA) (hY : ∀ (w : World) (h : Heap), YP w h → (K w.params).In h)
    (F : ∀ (w : World) (mg : Str → Option Value) (fa : Addr) (h : Heap), (K w.params).In h → h.Ns mainGlobals mg → mg d.name = some (.ref fa) → ∃ fd : FuncData, (∀ (s : Shared) (u : Value), BindsTo s fd ⟨[u], []⟩ [(x, u)]) ∧
      ∀ base : Heap, (K w.params).In base → base.Ns mainGlobals mg → FnG l.prog w (K w.params) mg base (CX w) k fa fd [x] (sp w))
    (hsp : ∀ (w : World) (H : Hp) (a : Addr) (ns : List Int), ns.length ≤ n → Only H → SqL (K w.params) H a (ns.map V.int) → sp w [.ref a] H (fun v _ => v = .bl true) fun _ _ _ => False)
    (hCX : ∀ (w : World) (H : Hp) (s : Shared) (e : Value) (s' : Shared), CX w [] H s (fun _ _ _ => False) e s' → False) : PySem.W.WalkO q loose XP YP l.row.toRowW d [] (fun f vs => PySem.call f vs) := by
  apply Att.attach_call hn hdf
  intro w s0 s1 mg mb fa o pm cd doc a vs ns G Y ho hd hcd hmg hobj hints hlen hg
  obtain ⟨fd, hb, hF⟩ := F w mg fa _ (hY w _ Y) G.T.g hmg
  exact lawG (hY w _ Y) G.T.g G.T.b G.T.builtins G.T.nolimit hg hobj hints (Nat.le_trans hlen hn2) hr hF hb (fun H hO hS => hsp w H a ns hlen hO hS) fun H e s' => hCX w H s1 e s'
/-! ### calls of such -/
section
variable {X : Cx} {CX : CXT} {k : Nat} {f : Addr} {fd : FuncData} {ps : List Str} {sp : Sp} {dvs : List V} {ds : List Value} {E : XK} {x : Str} {p pos : Pos} {e : Expr} {es : List Expr} {t : TA}
theorem runG {pins : List (Addr × Obj)} {σ : L2.St} {H : Hp} {s : Shared} {Q : VK} {us : List Value} {vs : List V} (F : FnG X.prog X.w X.K X.mg X.base CX k f fd ps sp) (hG : X.A.guards = some []) (hr : Room k X.A) (hb : Binds X.K fd ps ds) (hd : Vals dvs ds) (hx : Passes CX X E)
    (I : Inv X pins σ H s) (r : Vals vs us) (h : sp (vs ++ dvs) H Q E) : wpAny (model X.prog X.w) X.A (call (.ref f) us) (EP X pins σ Q) X.xe s := by
  have r2 := r.append hd
  apply wpAny_call
  apply codeAny_mono (F.run X.A X.stack s H ⟨us, []⟩ (us ++ ds) (vs ++ dvs) Q E hG hr I.env0 (hb s us I.kIn (by rw [← r2.length]; exact F.len _ _ _ _ h)) r2 h)
  intro r s' hq
  match r, hq with
  | .error e, hq => exact hx pins σ H s e s' I hq
  | .ok (.ret u), hq => exact I.after hq
  | .ok .next, hq => exact False.elim hq
  | .ok .brk, hq => exact False.elim hq
  | .ok .cont, hq => exact False.elim hq
theorem callG (F : FnG X.prog X.w X.K X.mg X.base CX k f fd ps sp) (hG : X.A.guards = some []) (hr : Room k X.A) (hg : Gl X x) (hm : X.mg x = some (.ref f)) (hk : PySem.W.keepIn X.K (.ref f) = true) (hb : Binds X.K fd ps ds) (hd : Vals dvs ds) (hx : Passes CX X E)
    (ha : PA X (e :: es) t) (hdb : (x == ("__debug__" : Str)) = false := by decide) (he : starEach (e :: es) X.env = (false, eval e X.env) :: starEach es X.env := by rfl) (hpl : (backTo pos (starEach es X.env)).any (·.1) = false := by rfl) : PE X (.Call (.Name x p) (e :: es) [] pos) (tCall sp dvs E t) := by
  constructor
  intro pins s σ H Q I h
  apply wpAny_Call_Name_kw
  apply ld_glob I hg hm _ hdb
  apply PySem.W.callWith_K (h₀ := X.base) I.ok.mod.kin hk _ he hpl
  exact thn (ha.run pos pins s σ H _ I h) fun us s1 ⟨vs, H1, I1, r, q⟩ => ⟨I1.kIn, runG F hG hr hb hd hx I1 r q⟩
end
/-! ### repr of data -/
/-- repr(x), x data: None, bools, ints below 1920 bits, texts, lists and tuples of such -/
def wReprD (K : PySem.W.Frag) : List V → Hp → VK → Prop := fun xs H Q => ∃ (a : Addr) (d : PyData), xs = [.ref a] ∧ Dp K H (.ref a) d ∧ d.showable = true ∧ d.hasDict = false ∧ d.depth ≤ 50 ∧ d.shown.length ≤ sizeLine ∧ Q (.str d.shown) H
theorem c_reprD {X : Cx} {K : PySem.W.Frag} (hG : X.A.guards = some []) (hu : X.A.units + 64 < cLine) (hK : X.K = K := by rfl) : CallR X (.builtin "repr") (wReprD K) := by
  subst hK
  intro pins s σ H xs us Q I r h
  obtain ⟨a, d, rfl, hd, h1, h2, h3, h4, q⟩ := h
  obtain ⟨u, rfl, rx⟩ := vals1 r
  obtain ⟨as, rd⟩ := Dp.reads I d (.ref a) u hd rx
  cases rx
  exact repr_of_reads' rd h1 (PyData.noDict_hsm h2) hG (by omega) (fun _ _ e => e) (fun h' u tk k => ⟨.str d.shown, H, I.kept k, ⟨_, rfl⟩, q⟩) h4
end My

--CUT
namespace My
open PySem PySem.Spec PyProof.Rows L2
def topS (i : Nat) : Stmt := PySem.Challenge.pw_offside_k02_columns_and_integers_judged.main.body.getD i (.Pass ⟨0, 0, 0, 0⟩)
abbrev s_is_integer : Stmt := topS 2
abbrev s_is_column : Stmt := topS 3
abbrev s_dice : Stmt := topS 5
abbrev s_roll : Stmt := topS 6
abbrev s_pick : Stmt := topS 7
abbrev s_row : Stmt := topS 8
abbrev s_law : Stmt := topS 9
theorem sc_is_integer : FnScope ["value"] ["value"] (defScope s_is_integer) := ⟨rfl, rfl, rfl, by decide +kernel, rfl, by decide +kernel, by decide +kernel⟩
theorem sc_is_column : FnScope ["value"] ["value"] (defScope s_is_column) := ⟨rfl, rfl, rfl, by decide +kernel, rfl, by decide +kernel, by decide +kernel⟩
theorem sc_dice : FnScope ["_law_script", "_law_spot", "_law_cell", "_law_great", "_law_blend"] ["_law_script", "_law_spot"] (defScope s_dice) := ⟨rfl, rfl, rfl, by decide +kernel, rfl, by decide +kernel, by decide +kernel⟩
theorem sc_roll : FnScope ["_law_dice_here", "_law_total", "_law_found", "_law_one", "_law_two"] ["_law_dice_here", "_law_total"] (defScope s_roll) := ⟨rfl, rfl, rfl, by decide +kernel, rfl, by decide +kernel, by decide +kernel⟩
theorem sc_pick : FnScope ["_law_dice_here", "_law_items"] ["_law_dice_here", "_law_items"] (defScope s_pick) := ⟨rfl, rfl, rfl, by decide +kernel, rfl, by decide +kernel, by decide +kernel⟩
theorem sc_row : FnScope ["_law_dice_here", "_law_size", "_law_small", "_law_some", "_law_odd"] ["_law_dice_here"] (defScope s_row) := ⟨rfl, rfl, rfl, by decide +kernel, rfl, by decide +kernel, by decide +kernel⟩
theorem sc_law : FnScope ["_law_script", "_law_spot", "_law_dice_here", "_law_turn", "_law_value", "_law_is_number", "_law_fits", "_law_one", "_law_told"] ["_law_script"] (defScope s_law) := ⟨rfl, rfl, rfl, by decide +kernel, rfl, by decide +kernel, by decide +kernel⟩
structure Txt (K : PySem.W.Frag) (mg : Str → Option Value) where
  f_is_integer : Addr
  fd_is_integer : FuncData
  F_is_integer : Fun K "is_integer" "is_integer" s_is_integer f_is_integer fd_is_integer
  g_is_integer : mg "is_integer" = some (.ref f_is_integer)
  b_is_integer : Binds K fd_is_integer ["value"] []
  f_is_column : Addr
  fd_is_column : FuncData
  F_is_column : Fun K "is_column" "is_column" s_is_column f_is_column fd_is_column
  g_is_column : mg "is_column" = some (.ref f_is_column)
  b_is_column : Binds K fd_is_column ["value"] []
  f_dice : Addr
  fd_dice : FuncData
  F_dice : Fun K "_law_dice" "_law_dice" s_dice f_dice fd_dice
  g_dice : mg "_law_dice" = some (.ref f_dice)
  b_dice : Binds K fd_dice ["_law_script", "_law_spot"] []
  f_roll : Addr
  fd_roll : FuncData
  F_roll : Fun K "_law_roll" "_law_roll" s_roll f_roll fd_roll
  g_roll : mg "_law_roll" = some (.ref f_roll)
  b_roll : Binds K fd_roll ["_law_dice_here", "_law_total"] []
  f_pick : Addr
  fd_pick : FuncData
  F_pick : Fun K "_law_pick" "_law_pick" s_pick f_pick fd_pick
  g_pick : mg "_law_pick" = some (.ref f_pick)
  b_pick : Binds K fd_pick ["_law_dice_here", "_law_items"] []
  f_row : Addr
  fd_row : FuncData
  F_row : Fun K "_law_row" "_law_row" s_row f_row fd_row
  g_row : mg "_law_row" = some (.ref f_row)
  b_row : Binds K fd_row ["_law_dice_here"] []
  t_MAX_COLUMN : Tok
  c_MAX_COLUMN : mg "MAX_COLUMN" = some (.int (199) t_MAX_COLUMN)
  z_isinstance : mg "isinstance" = none
  z_int : mg "int" = none
  z_bool : mg "bool" = none
  z_abs : mg "abs" = none
  z_len : mg "len" = none
  z_max : mg "max" = none
  z_range : mg "range" = none
  z_min : mg "min" = none
  z_repr : mg "repr" = none
end My
namespace My
open PySem PySem.Spec PyProof.Rows L2
section
variable {P : Program} {w : World} {K : PySem.W.Frag} {mg : Str → Option Value} {base : Heap}
/-! ### _law_dice -/
def spDice (K : PySem.W.Frag) : Sp := fun vs H Q _ => ∃ (a : Addr) (ns : List Int) (k : Nat), vs = [.ref a, .int k] ∧ SqL K H a (ns.map V.int) ∧ ∀ (d : Addr) (H' : Hp), H d = none → Same H H' → Dice H' d → Q (.ref d) H'
theorem ok_dice (T : Txt K mg) : FnOk P w K mg base CX0 1 T.f_dice T.fd_dice ["_law_script", "_law_spot"] (spDice K) := by
  refine T.F_dice.ok sc_dice (fun vs H Q E h => ?_) (fun cdv A outer s H vs Q E hr h => ?_)
  · obtain ⟨a, ns, k, rfl, _⟩ := h
    rfl
  · obtain ⟨a, ns, k, rfl, hs, q⟩ := h
    refine ⟨_, (pss_cons (ps_set (i := 2) sc_dice.nd rfl (.inl rfl) (pe_op op_add (pe_op op_mul pe_int (pv 1)) pe_int))
      (pss_cons (ps_if (pt_cmpR op_lt (pv 1) (pe_callB (c_len (K := K)) (by rfl) T.z_len (by decide +kernel) (pa_cons (pv 0) pa_nil)) (nomark _)) (pss_one (ps_set (i := 2) sc_dice.nd rfl (.inl rfl) (pe_ix (i_list (K := K)) (pv 0) (pv 1) (fun _ _ => rfl)))) pss_nil)
      (pss_cons (ps_set (i := 3) sc_dice.nd rfl (.inl rfl) (pe_op op_mod (pe_callTy c_int1 (by rfl) T.z_int (by decide +kernel) (pa_cons (pe_callB c_abs (by rfl) T.z_abs (by decide +kernel) (pa_cons (pv 2) pa_nil)) pa_nil)) (pe_op op_powW (pe_op op_powW pe_int pe_int) pe_int)))
      (pss_cons (ps_set (i := 4) sc_dice.nd rfl (.inl rfl) (pe_op op_add (pe_op op_add (pe_op op_add (pe_op op_mul (pe_op op_mod (pe_callTy c_int1 (by rfl) T.z_int (by decide +kernel) (pa_cons (pv 3) pa_nil)) pe_int) pe_int) (pe_op op_mul pe_int (pv 1))) (pe_op op_mul pe_int (pe_callTy c_int1 (by rfl) T.z_int (by decide +kernel) (pa_cons (pe_cmpR op_lt (pv 2) pe_int (nomark _)) pa_nil)))) pe_int))
      (pss_one (ps_ret (pe_lst (pa_cons (pe_callB (c_max2 rfl) (by rfl) T.z_max (by decide +kernel) (pa_cons pe_int (pa_cons (pe_op op_sub (pv 3) (pe_op op_powW pe_int pe_int)) pa_nil))) (pa_cons (pe_op op_mod (pe_callTy c_int1 (by rfl) T.z_int (by decide +kernel) (pa_cons (pv 4) pa_nil)) pe_int) (pa_cons pe_int pa_nil)))))))))), ?_⟩
    walk_at "zrd"
    refine ⟨a, _, rfl, .inl hs, ?_⟩
    walk_at "zrd"
    have fin : ∀ (x y z : Int) (p : Addr), 0 ≤ x → H p = none → Q (.ref p) (upd H p (.lst [.int x, .int y, .int z])) := fun x y z p h0 hp =>
      q p _ hp (fun b o e => by rw [upd_ne (ne_of_none e hp)]; exact e) (Dice.mk3 h0)
    have tail : ∀ (g : Int), 0 ≤ (if g > 0 then g else 0) := fun g => by
      by_cases h : g > 0
      · rw [if_pos h]; omega
      · rw [if_neg h]; omega
    refine ite2 (fun e => ?_) (fun e => ?_)
    · have hk : k < ns.length := by
        have e1 := of_decide_eq_true e
        rw [List.length_map] at e1
        omega
      walk_at "zrd"
      refine ⟨a, _, (k : Int), .int ns[k], rfl, rfl, hs, atI_nat ?_, ?_⟩
      · rw [List.getElem?_map, List.getElem?_eq_getElem hk]
        rfl
      walk_at "zrd"
      exact ⟨by show 3 ≤ sizeLine; decide, fun p hp => fin _ _ _ p (tail _) hp⟩
    · walk_at "zrd"
      exact ⟨by show 3 ≤ sizeLine; decide, fun p hp => fin _ _ _ p (tail _) hp⟩
/-! ### _law_roll -/
def spRoll : Sp := fun vs H Q _ => ∃ (d : Addr) (n : Int), vs = [.ref d, .int n] ∧ Dice H d ∧ 1 ≤ n ∧ n < 1073741824 ∧ ∀ (r : Nat) (H' : Hp), (r : Int) < n → Ext d H H' → Dice H' d → Q (.int r) H'
theorem ok_roll (T : Txt K mg) : FnOk P w K mg base CX0 1 T.f_roll T.fd_roll ["_law_dice_here", "_law_total"] spRoll := by
  refine T.F_roll.ok sc_roll (fun vs H Q E h => ?_) (fun cdv A outer s H vs Q E hr h => ?_)
  · obtain ⟨d, n, rfl, _⟩ := h
    rfl
  · obtain ⟨d, n, rfl, ⟨a, b, c, h0, hd⟩, h1, h2, q⟩ := h
    refine ⟨_, (pss_cons (ps_if (pt_cmpR op_gt (pe_ix (i_list (K := K)) (pv 0) pe_int (fun _ _ => rfl)) pe_int (nomark _)) (pss_cons (ps_set (i := 2) sc_roll.nd rfl (.inl rfl) (pe_op op_mod (pe_callTy c_int1 (by rfl) T.z_int (by decide +kernel) (pa_cons (pe_ix (i_list (K := K)) (pv 0) pe_int (fun _ _ => rfl)) pa_nil)) (pv 1)))
      (pss_cons (ps_asg (pe_op op_fdiv (pe_ix (i_list (K := K)) (pv 0) pe_int (fun _ _ => rfl)) (pv 1)) (pg_sub (pv 0) pe_int set_list))
      (pss_one (ps_ret (pv 2))))) pss_nil)
      (pss_cons (ps_asg (pe_op op_add (pe_ix (i_list (K := K)) (pv 0) pe_int (fun _ _ => rfl)) pe_int) (pg_sub (pv 0) pe_int set_list))
      (pss_cons (ps_set (i := 3) sc_roll.nd rfl (.inl rfl) (pe_op op_mod (pe_callTy c_int1 (by rfl) T.z_int (by decide +kernel) (pa_cons (pe_op op_add (pe_ix (i_list (K := K)) (pv 0) pe_int (fun _ _ => rfl)) (pe_op op_mul pe_int (pe_ix (i_list (K := K)) (pv 0) pe_int (fun _ _ => rfl)))) pa_nil)) pe_int))
      (pss_cons (ps_set (i := 4) sc_roll.nd rfl (.inl rfl) (pe_op op_add (pe_op op_mul (pe_op op_mod (pe_callTy c_int1 (by rfl) T.z_int (by decide +kernel) (pa_cons (pe_op op_mul (pv 3) (pv 3)) pa_nil)) pe_int) (pv 3)) (pe_op op_mul pe_int (pe_ix (i_list (K := K)) (pv 0) pe_int (fun _ _ => rfl)))))
      (pss_cons (ps_set (i := 4) sc_roll.nd rfl (.inl rfl) (pe_op op_mod (pe_callTy c_int1 (by rfl) T.z_int (by decide +kernel) (pa_cons (pv 4) pa_nil)) pe_int))
      (pss_one (ps_ret (pe_op op_mod (pe_callTy c_int1 (by rfl) T.z_int (by decide +kernel) (pa_cons (pe_op op_fdiv (pv 4) pe_int) pa_nil)) (pv 1))))))))), ?_⟩
    walk_at "zrd"
    refine ite2 (fun e => ?_) (fun e => ?_)
    · walk_at "zrd"
      obtain ⟨h3, h4⟩ := nx_pos h1 h0
      have q' := q (a % n).toNat (upd H d (.lst [.int (a / n), .int b, .int c])) h3 (Ext.refl d H).at_ (Dice.mk3 (Int.ediv_nonneg h0 (by omega)))
      rw [h4] at q'
      exact q'
    · walk_at "zrd"
      have key : ∀ z : Int, 0 ≤ z → Q (.int (z % n)) (upd H d (.lst [.int a, .int b, .int (c + 1)])) := fun z hz => by
        obtain ⟨h3, h4⟩ := nx_pos h1 hz
        have q' := q (z % n).toNat (upd H d (.lst [.int a, .int b, .int (c + 1)])) h3 (Ext.refl d H).at_ (Dice.mk3 h0)
        rw [h4] at q'
        exact q'
      exact key _ (Int.ediv_nonneg (Int.emod_nonneg _ (by decide)) (by decide))
/-! ### _law_pick -/
def spPick : Sp := fun vs H Q _ => ∃ (d l : Addr) (xs : List V), vs = [.ref d, .ref l] ∧ Dice H d ∧ H l = some (.lst xs) ∧ l ≠ d ∧ xs ≠ [] ∧ xs.length < 1073741824 ∧ ∀ (v : V) (H' : Hp), v ∈ xs → Ext d H H' → Dice H' d → Q v H'
theorem ok_pick (T : Txt K mg) : FnOk P w K mg base CX0 2 T.f_pick T.fd_pick ["_law_dice_here", "_law_items"] spPick := by
  refine T.F_pick.ok sc_pick (fun vs H Q E h => ?_) (fun cdv A outer s H vs Q E hr h => ?_)
  · obtain ⟨d, l, xs, rfl, _⟩ := h
    rfl
  · obtain ⟨d, l, xs, rfl, hd, hl, hne, h1, h2, q⟩ := h
    have h0 : 1 ≤ xs.length := List.length_pos_iff.mpr h1
    refine ⟨_, (pss_one (ps_ret (pe_ix (i_list (K := K)) (pv 1) (pe_call (ok_roll T) (hr.mono (by decide)) (by rfl) T.g_roll T.F_roll.kp T.b_roll .nil pass0 (pa_cons (pv 0) (pa_cons (pe_callB (c_len (K := K)) (by rfl) T.z_len (by decide +kernel) (pa_cons (pv 1) pa_nil)) pa_nil))) (fun _ _ => rfl)))), ?_⟩
    walk_at "zrd"
    refine ⟨d, (xs.length : Int), rfl, hd, by omega, by omega, fun r H1 hr1 e1 d1 => ?_⟩
    have hl1 : H1 l = some (.lst xs) := e1 _ _ hne hl
    have hr2 : r < xs.length := by omega
    refine ⟨l, xs, r, xs[r], rfl, rfl, .inl (.inl hl1), atI_nat (List.getElem?_eq_getElem hr2), ?_⟩
    exact q _ H1 (List.getElem_mem hr2) e1 d1
end
end My

--CUT
namespace My
open PySem PySem.Spec PyProof.Rows L2
section
variable {P : Program} {w : World} {K : PySem.W.Frag} {mg : Str → Option Value} {base : Heap}
/-! ### is_integer, is_column -/
def spIs (f : V → Bool) : Sp := fun vs H Q _ => ∃ v : V, vs = [v] ∧ KindV H v ∧ Q (.bl (f v)) H
theorem ok_is_integer (T : Txt K mg) : FnOk P w K mg base CX0 1 T.f_is_integer T.fd_is_integer ["value"] (spIs isIntV) := by
  refine T.F_is_integer.ok sc_is_integer (fun vs H Q E h => ?_) (fun cdv A outer s H vs Q E hr h => ?_)
  · obtain ⟨v, rfl, _⟩ := h
    rfl
  · obtain ⟨v, rfl, hk, q⟩ := h
    refine ⟨_, (pss_cons (ps_if (PW.pt (pw_or (pt_not (pt_val (pe_callB (c_isi (K := K)) (by rfl) T.z_isinstance (by decide +kernel) (pa_cons (pv 0) (pa_cons (pe_bltn (v := .ty "int") (by rfl) T.z_int (by decide +kernel) rfl) pa_nil))))) (pw_or1 (pt_val (pe_callB (c_isi (K := K)) (by rfl) T.z_isinstance (by decide +kernel) (pa_cons (pv 0) (pa_cons (pe_bltn (v := .ty "bool") (by rfl) T.z_bool (by decide +kernel) rfl) pa_nil))))))) (pss_one (ps_ret pe_bl)) pss_nil)
      (pss_one (ps_ret (pe_cmpR op_lt (pe_callB c_abs (by rfl) T.z_abs (by decide +kernel) (pa_cons (pv 0) pa_nil)) (pe_op op_powW pe_int pe_int) (nomark _))))), ?_⟩
    walk_at "zrd"
    refine hk.isiInt ?_
    cases v with
    | int i =>
      walk_at "zrd"
      refine hk.isiBool ?_
      walk_at "zrd"
      exact q
    | bl b =>
      walk_at "zrd"
      refine hk.isiBool ?_
      walk_at "zrd"
      exact q
    | _ =>
      walk_at "zrd"
      exact q
theorem ok_is_column (T : Txt K mg) : FnOk P w K mg base CX0 2 T.f_is_column T.fd_is_column ["value"] (spIs isColV) := by
  refine T.F_is_column.ok sc_is_column (fun vs H Q E h => ?_) (fun cdv A outer s H vs Q E hr h => ?_)
  · obtain ⟨v, rfl, _⟩ := h
    rfl
  · obtain ⟨v, rfl, hk, q⟩ := h
    refine ⟨_, (pss_one (ps_ret (pe_and (pe_call (ok_is_integer T) (hr.mono (by decide)) (by rfl) T.g_is_integer T.F_is_integer.kp T.b_is_integer .nil pass0 (pa_cons (pv 0) pa_nil)) (pe_one (pe_chain op_le op_le pe_int (pv 0) (pe_glob (v := .int (199)) rfl T.c_MAX_COLUMN ⟨_, rfl⟩)))))), ?_⟩
    walk_at "zrd"
    refine ⟨v, rfl, hk, ?_⟩
    cases v with
    | int i =>
      walk_at "zrd"
      refine ite2 (fun e => ?_) (fun e => ?_)
      · walk_at "zrd"
        refine ite2 (fun e2 => ?_) (fun e2 => ?_)
        · walk_at "zrd"
          have q2 : Q (.bl (decide (0 ≤ i) && decide (i ≤ 199))) H := q
          rw [e2, Bool.true_and] at q2
          exact q2
        · walk_at "zrd"
          have q2 : Q (.bl (decide (0 ≤ i) && decide (i ≤ 199))) H := q
          rw [Bool.eq_false_iff.mpr e2, Bool.false_and] at q2
          exact q2
      · have h1 : ¬ ((if i < 0 then -i else i) < 10 ^ 60) := fun z => e (decide_eq_true z)
        have h2 : isColV (.int i) = false := isCol_not (by
          by_cases h : i < 0
          · exact .inl h
          · rw [if_neg h] at h1
            right
            omega)
        rw [h2] at q
        exact q
    | _ =>
      walk_at "zrd"
      exact q
end
end My

--CUT
namespace My
open PySem PySem.Spec PyProof.Rows L2
section
variable {P : Program} {w : World} {K : PySem.W.Frag} {mg : Str → Option Value} {base : Heap}
/-! ### the rows that are drawn -/
def spRow : Sp := fun vs H Q _ => ∃ d : Addr, vs = [.ref d] ∧ Dice H d ∧ ∀ (r : V) (H' : Hp), Row [d] H' r → Ext d H H' → Dice H' d → Q r H'
theorem ok_row (T : Txt K mg) : FnOk P w K mg base CX0 3 T.f_row T.fd_row ["_law_dice_here"] spRow := by
  refine T.F_row.ok sc_row (fun vs H Q E h => ?_) (fun cdv A outer s H vs Q E hr h => ?_)
  · obtain ⟨d, rfl, _⟩ := h
    rfl
  · obtain ⟨d, rfl, hd, q⟩ := h
    refine ⟨_, (pss_cons (ps_set (i := 1) sc_row.nd rfl (.inl rfl) (pe_call (ok_pick T) (hr.mono (by decide)) (by rfl) T.g_pick T.F_pick.kp T.b_pick .nil pass0 (pa_cons (pv 0) (pa_cons (pe_lst (pa_cons (pe_op op_powW pe_int pe_int) (pa_cons (pe_op op_sub (pe_op op_powW pe_int pe_int) pe_int) (pa_cons pe_int (pa_cons pe_int (pa_cons (pe_op op_powW pe_int pe_int) pa_nil)))))) pa_nil))))
      (pss_cons (ps_set (i := 2) sc_row.nd rfl (.inl rfl) (pe_call (ok_pick T) (hr.mono (by decide)) (by rfl) T.g_pick T.F_pick.kp T.b_pick .nil pass0 (pa_cons (pv 0) (pa_cons (pe_lst (pa_cons pe_int (pa_cons pe_int (pa_cons pe_int (pa_cons pe_int (pa_cons pe_int (pa_cons pe_int (pa_cons pe_int pa_nil)))))))) pa_nil))))
      (pss_cons (ps_set (i := 3) sc_row.nd rfl (.inl rfl) (pe_lst (pa_cons (pe_lst (pa_cons (pv 1) (pa_cons pe_bl (pa_cons pe_bl pa_nil)))) (pa_cons (pe_lst (pa_cons (pe_un un_neg (pv 1)) (pa_cons pe_bl (pa_cons pe_bl pa_nil)))) (pa_cons (pe_lst (pa_cons (pe_op op_add (pe_op op_powW pe_int pe_int) (pv 2)) (pa_cons pe_bl (pa_cons pe_bl pa_nil)))) (pa_cons (pe_lst (pa_cons (pv 2) (pa_cons pe_bl (pa_cons pe_bl pa_nil)))) pa_nil))))))
      (pss_cons (ps_set (i := 3) sc_row.nd rfl (.inl rfl) (pe_op op_cat (pv 3) (pe_lst (pa_cons (pe_lst (pa_cons (pe_op op_sub (pe_un un_neg pe_int) (pv 2)) (pa_cons pe_bl (pa_cons pe_bl pa_nil)))) (pa_cons (pe_lst (pa_cons (pe_op op_sub (pe_un un_neg (pe_op op_powW pe_int pe_int)) (pv 2)) (pa_cons pe_bl (pa_cons pe_bl pa_nil)))) (pa_cons (pe_lst (pa_cons (pe_cmpR op_eq (pv 2) pe_int (nomark _)) (pa_cons pe_bl (pa_cons pe_bl pa_nil)))) pa_nil))))))
      (pss_cons (ps_for PassesOwn.never rfl (p_list (K := K) (pe_lst (pa_cons pe_non (pa_cons pe_str (pa_cons pe_str (pa_cons (pe_tup (pa_cons pe_int pa_nil)) (pa_cons (pe_lst pa_nil) (pa_cons pe_dnewK (pa_cons (pe_tup pa_nil) (pa_cons (pe_lst (pa_cons (pv 2) pa_nil)) (pa_cons (pe_tup (pa_cons (pv 2) pa_nil)) pa_nil))))))))))) (pg_name (i := 4) sc_row.nd rfl (.inl rfl)) (pss_one (ps_expr (e_bm (K := K) PySem.F.plainAttrs_list PySem.F.slot_list_append PySem.F.type_list_append mt_append (pv 3) (pa_cons (pe_lst (pa_cons (pv 4) (pa_cons pe_bl (pa_cons pe_bl pa_nil)))) pa_nil)))))
      (pss_one (ps_ret (pe_call (ok_pick T) (hr.mono (by decide)) (by rfl) T.g_pick T.F_pick.kp T.b_pick .nil pass0 (pa_cons (pv 0) (pa_cons (pv 3) pa_nil)))))))))), ?_⟩
    walk_at "zrd"
    refine ⟨by walk_at "zsz", fun p hp => ?_⟩
    walk_at "zrd"
    refine ⟨d, p, _, rfl, hd.new hp, upd_same, hd.ne hp, by simp, by decide, fun v H1 hv e1 d1 => ?_⟩
    obtain ⟨z, rfl, hz1, hz2⟩ : ∃ z, v = .int z ∧ 200 ≤ z ∧ z < 10 ^ 60 := by
      simp only [List.mem_cons, List.not_mem_nil, or_false] at hv
      rcases hv with rfl | rfl | rfl | rfl | rfl <;> exact ⟨_, rfl, by decide +kernel, by decide +kernel⟩
    clear hv
    have e01 : Ext d H H1 := (Ext.new hp).trans e1
    walk_at "zrd"
    refine ⟨by walk_at "zsz", fun p2 hp2 => ?_⟩
    walk_at "zrd"
    refine ⟨d, p2, _, rfl, d1.new hp2, upd_same, d1.ne hp2, by simp, by decide, fun v H2 hv e2 d2 => ?_⟩
    obtain ⟨y, rfl, hy1, hy2⟩ : ∃ y, v = .int y ∧ 0 ≤ y ∧ y ≤ 199 := by
      simp only [List.mem_cons, List.not_mem_nil, or_false] at hv
      rcases hv with rfl | rfl | rfl | rfl | rfl | rfl | rfl <;> exact ⟨_, rfl, by decide +kernel, by decide +kernel⟩
    clear hv
    have e02 : Ext d H H2 := (e01.trans (Ext.new hp2)).trans e2
    clear e01 e1 e2 hp2 hp
    walk_at "zrd"
    refine ⟨by walk_at "zsz", fun a1 g1 => ?_⟩
    walk_at "zrd"
    refine ⟨by walk_at "zsz", fun a2 g2 => ?_⟩
    walk_at "zrd"
    refine ⟨by walk_at "zsz", fun a3 g3 => ?_⟩
    walk_at "zrd"
    refine ⟨by walk_at "zsz", fun a4 g4 => ?_⟩
    walk_at "zrd"
    refine ⟨by walk_at "zsz", fun l1 gl1 => ?_⟩
    walk_at "zrd"
    refine ⟨by walk_at "zsz", fun b1 g5 => ?_⟩
    walk_at "zrd"
    refine ⟨by walk_at "zsz", fun b2 g6 => ?_⟩
    walk_at "zrd"
    refine ⟨by walk_at "zsz", fun b3 g7 => ?_⟩
    walk_at "zrd"
    refine ⟨by walk_at "zsz", fun l2 gl2 => ?_⟩
    refine r_cat (by walk_at "zget") (by walk_at "zget") (by walk_at "zsz") fun S gS => ?_
    walk_at "zrd"
    refine ⟨by walk_at "zsz", fun t1 c1 => ?_⟩
    walk_at "zrd"
    refine ⟨by walk_at "zsz", fun t2 c2 => ?_⟩
    walk_at "zrd"
    intro t3 c3
    walk_at "zrd"
    refine ⟨by walk_at "zsz", fun t4 c4 => ?_⟩
    walk_at "zrd"
    refine ⟨by walk_at "zsz", fun t5 c5 => ?_⟩
    walk_at "zrd"
    refine ⟨by walk_at "zsz", fun t6 c6 => ?_⟩
    walk_at "zrd"
    refine ⟨by walk_at "zsz", fun l3 c7 => ?_⟩
    have nSd : S ≠ d := Dice.ne (by walk_at "zdice") gS
    refine r_iListj upd_same ?_
    refine forB (walk_list (xs := [V.non, V.str (Str.ofString "1"), V.str (Str.ofString ""), V.ref t1, V.ref t2, V.ref t3, V.ref t4, V.ref t5, V.ref t6])) (fun i σ H' => ∃ y4, σ = [some (.ref d), some (.int z), some (.int y), some (.ref S), y4] ∧ (∃ rs : List V, H' S = some (.lst rs) ∧ rs ≠ [] ∧ rs.length ≤ 7 + i ∧ ∀ r ∈ rs, Row [d, S] H' r) ∧ Dice H' d ∧ Ext d H H' ∧
      H' l3 = some (.lst [V.non, V.str (Str.ofString "1"), V.str (Str.ofString ""), V.ref t1, V.ref t2, V.ref t3, V.ref t4, V.ref t5, V.ref t6]) ∧
      ∀ v ∈ [V.non, V.str (Str.ofString "1"), V.str (Str.ofString ""), V.ref t1, V.ref t2, V.ref t3, V.ref t4, V.ref t5, V.ref t6], KindV H' v ∧ (∀ a, v = .ref a → a ∉ [d, S]) ∧ isIntV v = false ∧ isColV v = false)
      ⟨_, rfl, ⟨_, by walk_at "zget", by simp, (by show 7 ≤ 7 + 0; decide), ?_⟩, by walk_at "zdice", by walk_at "zext", upd_same, ?_⟩ (fun i σ H' _ h => ?_) (fun i x σ H3 H4 hi hP hy => ?_) (fun σ H3 hP => ?_)
    · intro r hr
      simp only [List.cons_append, List.nil_append, List.mem_cons, List.not_mem_nil, or_false] at hr
      rcases hr with rfl | rfl | rfl | rfl | rfl | rfl | rfl
      · exact rowI (nin2 (Dice.ne (by walk_at "zdice") g1) (ne_any (by walk_at "zgetx") gS)) (by walk_at "zget") (isInt_of (by omega) (by omega)) (isCol_not (by omega))
      · exact rowI (nin2 (Dice.ne (by walk_at "zdice") g2) (ne_any (by walk_at "zgetx") gS)) (by walk_at "zget") (isInt_of (by omega) (by omega)) (isCol_not (by omega))
      · have e60 : (10 : Int) ^ Int.toNat 60 = 10 ^ 60 := by decide +kernel
        exact rowI (nin2 (Dice.ne (by walk_at "zdice") g3) (ne_any (by walk_at "zgetx") gS)) (by walk_at "zget") (isInt_not (by rw [e60]; omega)) (isCol_not (by rw [e60]; omega))
      · exact rowI (nin2 (Dice.ne (by walk_at "zdice") g4) (ne_any (by walk_at "zgetx") gS)) (by walk_at "zget") (isInt_of (by omega) (by omega)) (isCol_of (by omega) (by omega))
      · exact rowI (nin2 (Dice.ne (by walk_at "zdice") g5) (ne_any (by walk_at "zgetx") gS)) (by walk_at "zget") (isInt_of (by omega) (by omega)) (isCol_not (by omega))
      · have e60 : (10 : Int) ^ Int.toNat 60 = 10 ^ 60 := by decide +kernel
        exact rowI (nin2 (Dice.ne (by walk_at "zdice") g6) (ne_any (by walk_at "zgetx") gS)) (by walk_at "zget") (isInt_not (by rw [e60]; omega)) (isCol_not (by rw [e60]; omega))
      · exact rowF (nin2 (Dice.ne (by walk_at "zdice") g7) (ne_any (by walk_at "zgetx") gS)) (by walk_at "zget") (.bl _) (fun _ z => nomatch z) rfl rfl
    · intro v hv
      have new : ∀ t : Addr, t ≠ d → t ≠ S → ∀ a, V.ref t = .ref a → a ∉ [d, S] := fun t h1 h2 a e => by
        cases e
        exact nin2 h1 h2
      simp only [List.mem_cons, List.not_mem_nil, or_false] at hv
      rcases hv with rfl | rfl | rfl | rfl | rfl | rfl | rfl | rfl | rfl
      · exact ⟨.non, (fun _ z => nomatch z), rfl, rfl⟩
      · exact ⟨.str (by decide +kernel) (by decide +kernel), (fun _ z => nomatch z), rfl, rfl⟩
      · exact ⟨.str (by decide +kernel) (by decide +kernel), (fun _ z => nomatch z), rfl, rfl⟩
      · exact ⟨.tup (by walk_at "zget"), new _ (Dice.ne (by walk_at "zdice") c1) (ne_any (by walk_at "zgetx") c1).symm, rfl, rfl⟩
      · exact ⟨.lst (by walk_at "zget"), new _ (Dice.ne (by walk_at "zdice") c2) (ne_any (by walk_at "zgetx") c2).symm, rfl, rfl⟩
      · exact ⟨.dK (by walk_at "zget"), new _ (Dice.ne (by walk_at "zdice") c3) (ne_any (by walk_at "zgetx") c3).symm, rfl, rfl⟩
      · exact ⟨.tup (by walk_at "zget"), new _ (Dice.ne (by walk_at "zdice") c4) (ne_any (by walk_at "zgetx") c4).symm, rfl, rfl⟩
      · exact ⟨.lst (by walk_at "zget"), new _ (Dice.ne (by walk_at "zdice") c5) (ne_any (by walk_at "zgetx") c5).symm, rfl, rfl⟩
      · exact ⟨.tup (by walk_at "zget"), new _ (Dice.ne (by walk_at "zdice") c6) (ne_any (by walk_at "zgetx") c6).symm, rfl, rfl⟩
    · obtain ⟨_, _, _, _, _, h, _⟩ := h
      exact .inl (.inl h)
    · obtain ⟨rfl, hx⟩ := hy
      have hd0 : H S = none := Ext.free_ (d := d) (H' := _) (by walk_at "zext") (by walk_at "zdice") gS
      obtain ⟨y4, rfl, ⟨rs, hS, hne, hlen, hrs⟩, d3, e3, hl3, hod⟩ := hP
      have hv := hod x (List.mem_of_getElem? hx)
      have nl3 : l3 ≠ S := (ne_any (by walk_at "zgetx") c7).symm
      have hi9 : i < 9 := hi
      walk_at "zrd"
      refine ⟨by walk_at "zsz", fun c gc => ?_⟩
      have ncS : S ≠ c := ne_of_none hS gc
      have ncl : l3 ≠ c := ne_of_none hl3 gc
      have eN : ExtN [d, S] H4 (upd (upd H4 c (.lst [x, .bl false, .bl false])) S (.lst (rs ++ [.ref c]))) := (ExtN.of_same (same_upd gc)).trans (ExtN.at_ (by simp))
      walk_at "zrd"
      refine r_append (by rw [upd_ne ncS]; exact hS) (sz_lt (by omega)) ?_
      refine ⟨_, rfl, ⟨_, upd_same, by simp, by rw [List.length_append]; exact Nat.succ_le_succ hlen, ?_⟩, (d3.new gc).off nSd, (e3.trans (Ext.new gc)).grown hd0, by rw [upd_ne nl3, upd_ne ncl]; exact hl3, ?_⟩
      · intro r hr
        rcases List.mem_append.mp hr with h | h
        · exact (hrs r h).mono eN
        · rw [List.mem_singleton.mp h]
          exact rowF (nin2 (d3.ne gc) ncS.symm) (by rw [upd_ne ncS.symm]; exact upd_same) (hv.1.monoN eN hv.2.1) hv.2.1 hv.2.2.1 hv.2.2.2
      · intro v hv2
        have h := hod v hv2
        exact ⟨h.1.monoN eN h.2.1, h.2⟩
    · obtain ⟨y4, rfl, ⟨rs, hS, hne, hlen, hrs⟩, d3, e3, hl3, hod⟩ := hP
      walk_at "zrd"
      have h9 : rs.length ≤ 7 + 9 := hlen
      refine ⟨d, S, rs, rfl, d3, hS, nSd, hne, by omega, fun v H4 hv e4 d4 => ?_⟩
      obtain ⟨p, u, rfl, n, hp, hk, hn⟩ := hrs v hv
      have npd : p ∉ [d] := fun z => n (List.mem_cons_of_mem _ (by cases z with | head => exact absurd (List.Mem.head _) n | tail _ z => exact nomatch z))
      refine q _ H4 ⟨p, u, rfl, npd, e4 p _ (fun z => npd (by rw [z]; exact List.mem_singleton.mpr rfl)) hp, hk.mono e4 (fun a e z => hn a e (by rw [z]; exact List.Mem.head _)), fun a e z => hn a e (by rw [List.mem_singleton.mp z]; exact List.Mem.head _)⟩ (e3.trans e4) d4
end
end My

--CUT
namespace My
open PySem PySem.Spec PyProof.Rows L2
section
variable {P : Program} {w : World} {K : PySem.W.Frag} {mg : Str → Option Value} {base : Heap}
/-! ### the law -/
theorem two_shown : ∀ a b : Bool, (PyData.shown (.list [.bool a, .bool b])).length ≤ 100000 := by decide +kernel
def spLaw (K : PySem.W.Frag) : Sp := fun vs H Q _ => ∃ (a : Addr) (ns : List Int), vs = [.ref a] ∧ SqL K H a (ns.map V.int) ∧ ns.length ≤ 63 ∧ ∀ H', Q (.bl true) H'
theorem ok_law (T : Txt K mg) {f : Addr} {fd : FuncData} (F : Fun K "law" "law" s_law f fd) : FnG P w K mg base CX0 4 f fd ["_law_script"] (spLaw K) := by
  refine okG F sc_law (fun vs H Q E h => ?_) (fun cdv A outer s H vs Q E hg hr h => ?_)
  · obtain ⟨a, ns, rfl, _⟩ := h
    rfl
  · obtain ⟨a, ns, rfl, hS, hlen, q⟩ := h
    refine ⟨_, (pss_cons (ps_for PassesOwn.never rfl (pi_range1 (by rfl) T.z_range (pa_cons (pe_callB (c_max2 rfl) (by rfl) T.z_max (by decide +kernel) (pa_cons pe_int (pa_cons (pe_callB (c_min2 rfl) (by rfl) T.z_min (by decide +kernel) (pa_cons pe_int (pa_cons (pe_callB (c_len (K := K)) (by rfl) T.z_len (by decide +kernel) (pa_cons (pv 0) pa_nil)) pa_nil))) pa_nil))) pa_nil)) (pg_name (i := 1) sc_law.nd rfl (.inl rfl)) (pss_cons (ps_set (i := 2) sc_law.nd rfl (.inl rfl) (pe_call (ok_dice T) (hr.mono (by decide)) (by rfl) T.g_dice T.F_dice.kp T.b_dice .nil pass0 (pa_cons (pv 0) (pa_cons (pv 1) pa_nil))))
      (pss_one (ps_for PassesOwn.never rfl (pi_range1 (by rfl) T.z_range (pa_cons pe_int pa_nil)) (pg_name (i := 3) sc_law.nd rfl (.inl rfl)) (pss_cons (ps_asg (pe_call (ok_row T) (hr.mono (by decide)) (by rfl) T.g_row T.F_row.kp T.b_row .nil pass0 (pa_cons (pv 2) pa_nil)) (pg_unl (by rfl) (pgs_cons (pg_name (i := 4) sc_law.nd rfl (.inl rfl)) (pgs_cons (pg_name (i := 5) sc_law.nd rfl (.inl rfl)) (pgs_cons (pg_name (i := 6) sc_law.nd rfl (.inl rfl)) pgs_nil)))))
      (pss_one (ps_if (pt_cmpR op_ne (pe_callB (c_reprD (K := K) hg hr.units) (by rfl) T.z_repr (by decide +kernel) (pa_cons (pe_lst (pa_cons (pe_call (ok_is_integer T) (hr.mono (by decide)) (by rfl) T.g_is_integer T.F_is_integer.kp T.b_is_integer .nil pass0 (pa_cons (pv 4) pa_nil)) (pa_cons (pe_call (ok_is_column T) (hr.mono (by decide)) (by rfl) T.g_is_column T.F_is_column.kp T.b_is_column .nil pass0 (pa_cons (pv 4) pa_nil)) pa_nil))) pa_nil)) (pe_callB (c_reprD (K := K) hg hr.units) (by rfl) T.z_repr (by decide +kernel) (pa_cons (pe_lst (pa_cons (pv 5) (pa_cons (pv 6) pa_nil))) pa_nil)) (nomark _)) (pss_one (ps_ret pe_bl)) pss_nil)))))))
      (pss_cons (ps_setLc (i := 8) (own := [("_law_one", 7)]) rfl sc_law.nd rfl rfl (sw_true rfl rfl rfl (by decide +kernel)) (p_list (K := K) (pe_lst (pa_cons pe_int (pa_cons pe_int (pa_cons pe_int (pa_cons (pe_un un_neg pe_int) (pa_cons pe_bl (pa_cons pe_bl (pa_cons pe_non pa_nil))))))))) (blkOk_by (own := [("_law_one", 7)]) (N := ["_law_script", "_law_spot", "_law_dice_here", "_law_turn", "_law_value", "_law_is_number", "_law_fits", "_law_one", "_law_told"]) (sc := (defScope s_law)) (by decide +kernel)) (fun _ _ _ _ _ => (pg_name (i := 7) sc_law.nd rfl (.inl rfl))) (fun _ _ _ _ _ => pts_nil) (fun _ _ _ _ _ => (pe_call (ok_is_column T) (hr.mono (by decide)) (by rfl) T.g_is_column T.F_is_column.kp T.b_is_column .nil pass0 (pa_cons (pv 7) pa_nil))))
      (pss_cons (ps_if (pt_cmpR (o_neD (K := K) hr.units) (pv 8) (pe_lst (pa_cons pe_bl (pa_cons pe_bl (pa_cons pe_bl (pa_cons pe_bl (pa_cons pe_bl (pa_cons pe_bl (pa_cons pe_bl pa_nil)))))))) (nomark _)) (pss_one (ps_ret pe_bl)) pss_nil)
      (pss_one (ps_ret (pe_cmpR (o_eqD (K := K) hr.units) (pe_lst (pa_cons (pe_call (ok_is_integer T) (hr.mono (by decide)) (by rfl) T.g_is_integer T.F_is_integer.kp T.b_is_integer .nil pass0 (pa_cons (pe_op op_sub (pe_op op_powW pe_int pe_int) pe_int) pa_nil)) (pa_cons (pe_call (ok_is_integer T) (hr.mono (by decide)) (by rfl) T.g_is_integer T.F_is_integer.kp T.b_is_integer .nil pass0 (pa_cons (pe_op op_powW pe_int pe_int) pa_nil)) (pa_cons (pe_call (ok_is_integer T) (hr.mono (by decide)) (by rfl) T.g_is_integer T.F_is_integer.kp T.b_is_integer .nil pass0 (pa_cons (pe_un un_neg (pe_op op_powW pe_int pe_int)) pa_nil)) pa_nil)))) (pe_lst (pa_cons pe_bl (pa_cons pe_bl (pa_cons pe_bl pa_nil)))) (nomark _))))))), ?_⟩
    walk_at "zrd"
    refine ⟨a, _, rfl, .inl hS, ?_⟩
    walk_at "zrd"
    obtain ⟨m, em, hm⟩ := turns_ok (ns.map V.int).length
    rw [em]
    refine r_rng1j (by omega) (by omega) ?_
    refine forB walk_range (fun i σ H' => ∃ y1 y2 y3 y4 y5 y6 y7 y8, σ = [some (.ref a), y1, y2, y3, y4, y5, y6, y7, y8] ∧ Same H H') ⟨_, _, _, _, _, _, _, _, rfl, Same.refl H⟩ (fun _ _ _ _ _ => trivial) (fun i x σ H1 H2 hi hP hy => ?_) (fun σ H1 hP => ?_)
    · obtain ⟨rfl, rfl⟩ := hy
      obtain ⟨y1, y2, y3, y4, y5, y6, y7, y8, rfl, s1⟩ := hP
      walk_at "zrd"
      refine ⟨a, ns, i, by show [V.ref a, V.int (0 + (i : Int))] = _; rw [Int.zero_add], s1.seq hS, fun d H3 hd s3 d3 => ?_⟩
      have hd0 : H d = none := s1.free hd
      walk_at "zrd"
      refine r_rng1j (by decide) (by decide) ?_
      refine forB walk_range (fun j σ H' => ∃ y3 y4 y5 y6 y7 y8, σ = [some (.ref a), some (.int (0 + (i : Int))), some (.ref d), y3, y4, y5, y6, y7, y8] ∧ Same H H' ∧ Dice H' d) ⟨_, _, _, _, _, _, rfl, s1.trans s3, d3⟩ (fun _ _ _ _ _ => trivial) (fun j x σ H4 H5 hj hP hy => ?_) (fun σ H4 hP => ?_)
      · obtain ⟨rfl, rfl⟩ := hy
        obtain ⟨z3, z4, z5, z6, z7, z8, rfl, s4, d4⟩ := hP
        walk_at "zrd"
        refine ⟨d, rfl, d4, fun r H6 hrow e6 d6 => ?_⟩
        obtain ⟨p, v, rfl, n, hp, hk, hn⟩ := hrow
        refine ⟨p, _, rfl, .inl (.inl hp), rfl, _, _, rfl, ?_⟩
        walk_at "zrd"
        refine ⟨_, _, rfl, ?_⟩
        walk_at "zrd"
        refine ⟨_, _, rfl, ?_⟩
        walk_at "zrd"
        refine ⟨rfl, ?_⟩
        walk_at "zrd"
        refine ⟨v, rfl, hk, ?_⟩
        walk_at "zrd"
        refine ⟨v, rfl, hk, ?_⟩
        walk_at "zrd"
        refine ⟨by walk_at "zsz", fun l1 g1 => ?_⟩
        walk_at "zrd"
        refine ⟨l1, .list [.bool (isIntV v), .bool (isColV v)], rfl, .lst (.inl (.inl upd_same)) (.cons (.bl _) (.cons (.bl _) .nil)), rfl, rfl, (by show 1 ≤ 50; decide), sz_of (two_shown _ _), ?_⟩
        walk_at "zrd"
        refine ⟨by walk_at "zsz", fun l2 g2 => ?_⟩
        walk_at "zrd"
        refine ⟨l2, .list [.bool (isIntV v), .bool (isColV v)], rfl, .lst (.inl (.inl upd_same)) (.cons (.bl _) (.cons (.bl _) .nil)), rfl, rfl, (by show 1 ≤ 50; decide), sz_of (two_shown _ _), ?_⟩
        walk_at "zrd"
        refine iteF' (by rw [decide_eq_true rfl]; rfl) ?_
        walk_at "zrd"
        exact ⟨_, _, _, _, _, _, rfl, ((e6.same s4 hd0).trans (same_upd g1)).trans (same_upd g2), by walk_at "zdice"⟩
      · obtain ⟨z3, z4, z5, z6, z7, z8, rfl, s4, d4⟩ := hP
        exact ⟨_, _, _, _, _, _, _, _, rfl, s4⟩
    · obtain ⟨y1, y2, y3, y4, y5, y6, y7, y8, rfl, s1⟩ := hP
      walk_at "zrd"
      refine ⟨by walk_at "zsz", fun l hl => ?_⟩
      refine r_iListj upd_same ?_
      intro D hD
      have hlD : l ≠ D := ne_of_none (upd_same (H := H1)) hD
      refine lcB walk_list (fun i H' => H' l = some (.lst [V.int 0, V.int 199, V.int 200, V.int (-1), V.bl true, V.bl false, V.non]) ∧
        H' D = some (.lst (([V.int 0, V.int 199, V.int 200, V.int (-1), V.bl true, V.bl false, V.non].take i).map fun v => V.bl (isColV v))))
        ⟨by rw [upd_ne hlD]; exact upd_same, upd_same⟩ (fun _ _ _ h => .inl (.inl h.1)) (fun i x H3 H4 hi hP hy => ?_) (fun H3 hP => ?_)
      · obtain ⟨rfl, hx⟩ := hy
        obtain ⟨h1, h2⟩ := hP
        walk_at "zrd"
        refine ⟨rfl, ?_⟩
        have hk : KindV H4 x := by
          have hm := List.mem_of_getElem? hx
          simp only [List.mem_cons, List.not_mem_nil, or_false] at hm
          rcases hm with rfl | rfl | rfl | rfl | rfl | rfl | rfl <;> constructor
        walk_at "zrd"
        refine ⟨x, rfl, hk, _, h2, ?_, ?_, ?_⟩
        · rw [List.length_map, List.length_take]
          exact sz_lt (Nat.lt_of_le_of_lt (Nat.min_le_right _ _) (by decide))
        · rw [upd_ne hlD]
          exact h1
        · rw [upd_same, List.take_add_one, hx, List.map_append]
          rfl
      · obtain ⟨h1, h2⟩ := hP
        have e6 : (([V.int 0, V.int 199, V.int 200, V.int (-1), V.bl true, V.bl false, V.non].take 7).map fun v => V.bl (isColV v)) = [V.bl true, V.bl true, V.bl false, V.bl false, V.bl false, V.bl false, V.bl false] := by decide +kernel
        rw [show [V.int 0, V.int 199, V.int 200, V.int (-1), V.bl true, V.bl false, V.non].length = 7 from rfl, e6] at h2
        walk_at "zrd"
        refine ⟨by walk_at "zsz", fun p hp => ?_⟩
        have hDp : D ≠ p := ne_of_none h2 hp
        refine ⟨.list [.bool true, .bool true, .bool false, .bool false, .bool false, .bool false, .bool false], .list [.bool true, .bool true, .bool false, .bool false, .bool false, .bool false, .bool false],
          .lst (.inl (.inl (by rw [upd_ne hDp]; exact h2))) (.cons (.bl _) (.cons (.bl _) (.cons (.bl _) (.cons (.bl _) (.cons (.bl _) (.cons (.bl _) (.cons (.bl _) .nil))))))),
          .lst (.inl (.inl upd_same)) (.cons (.bl _) (.cons (.bl _) (.cons (.bl _) (.cons (.bl _) (.cons (.bl _) (.cons (.bl _) (.cons (.bl _) .nil))))))), rfl, rfl, ?_⟩
        walk_at "zrd"
        refine ⟨_, rfl, .int _, ?_⟩
        walk_at "zrd"
        refine ⟨_, rfl, .int _, ?_⟩
        walk_at "zrd"
        refine ⟨_, rfl, .int _, ?_⟩
        have i1 : isIntV (.int (10 ^ Int.toNat 60 - 1)) = true := by decide +kernel
        have i2 : isIntV (.int (10 ^ Int.toNat 60)) = false := by decide +kernel
        have i3 : isIntV (.int (-10 ^ Int.toNat 60)) = false := by decide +kernel
        rw [i1, i2, i3]
        walk_at "zrd"
        refine ⟨by walk_at "zsz", fun p3 hp3 => ?_⟩
        walk_at "zrd"
        refine ⟨by walk_at "zsz", fun p4 hp4 => ?_⟩
        have h34 : p3 ≠ p4 := ne_of_none upd_same hp4
        refine ⟨.list [.bool true, .bool false, .bool false], .list [.bool true, .bool false, .bool false],
          .lst (.inl (.inl (by rw [upd_ne h34]; exact upd_same))) (.cons (.bl _) (.cons (.bl _) (.cons (.bl _) .nil))),
          .lst (.inl (.inl upd_same)) (.cons (.bl _) (.cons (.bl _) (.cons (.bl _) .nil))), rfl, rfl, ?_⟩
        exact q _
end
end My
--CUT
namespace My
open PySem PySem.Spec PyProof.Rows L2
theorem all_mk {l : PySem.W.OpenLaw} {w : World} {K : PySem.W.Frag} {h : Heap} {mg : Str → Option Value} {fa : Addr} (X : K.In h) (G : h.Ns mainGlobals mg) (hfa : mg "law" = some (.ref fa))
    {f_is_integer : Addr} {od_is_integer an_is_integer : Option Addr} {sl_is_integer : Array (Option Value)} {oc_is_integer kV_is_integer dc_is_integer pm_is_integer cd_is_integer ct_is_integer : Value}
    (a_is_integer : PySem.W.nsIn K mainGlobals "is_integer" = some (some (.ref f_is_integer))) (l_is_integer : K.lookup f_is_integer = some ⟨oc_is_integer, od_is_integer, .func (PySem.W.fnOf "is_integer" "is_integer" (defArgs s_is_integer) (defBody s_is_integer) (defScope s_is_integer) .none kV_is_integer dc_is_integer pm_is_integer an_is_integer cd_is_integer ct_is_integer), sl_is_integer⟩) (c_is_integer : PySem.W.codeIn K cd_is_integer "is_integer" = true) (k_is_integer : PySem.W.keepIn K (.ref f_is_integer) = true)
    {f_is_column : Addr} {od_is_column an_is_column : Option Addr} {sl_is_column : Array (Option Value)} {oc_is_column kV_is_column dc_is_column pm_is_column cd_is_column ct_is_column : Value}
    (a_is_column : PySem.W.nsIn K mainGlobals "is_column" = some (some (.ref f_is_column))) (l_is_column : K.lookup f_is_column = some ⟨oc_is_column, od_is_column, .func (PySem.W.fnOf "is_column" "is_column" (defArgs s_is_column) (defBody s_is_column) (defScope s_is_column) .none kV_is_column dc_is_column pm_is_column an_is_column cd_is_column ct_is_column), sl_is_column⟩) (c_is_column : PySem.W.codeIn K cd_is_column "is_column" = true) (k_is_column : PySem.W.keepIn K (.ref f_is_column) = true)
    {f_dice : Addr} {od_dice an_dice : Option Addr} {sl_dice : Array (Option Value)} {oc_dice kV_dice dc_dice pm_dice cd_dice ct_dice : Value}
    (a_dice : PySem.W.nsIn K mainGlobals "_law_dice" = some (some (.ref f_dice))) (l_dice : K.lookup f_dice = some ⟨oc_dice, od_dice, .func (PySem.W.fnOf "_law_dice" "_law_dice" (defArgs s_dice) (defBody s_dice) (defScope s_dice) .none kV_dice dc_dice pm_dice an_dice cd_dice ct_dice), sl_dice⟩) (c_dice : PySem.W.codeIn K cd_dice "_law_dice" = true) (k_dice : PySem.W.keepIn K (.ref f_dice) = true)
    {f_roll : Addr} {od_roll an_roll : Option Addr} {sl_roll : Array (Option Value)} {oc_roll kV_roll dc_roll pm_roll cd_roll ct_roll : Value}
    (a_roll : PySem.W.nsIn K mainGlobals "_law_roll" = some (some (.ref f_roll))) (l_roll : K.lookup f_roll = some ⟨oc_roll, od_roll, .func (PySem.W.fnOf "_law_roll" "_law_roll" (defArgs s_roll) (defBody s_roll) (defScope s_roll) .none kV_roll dc_roll pm_roll an_roll cd_roll ct_roll), sl_roll⟩) (c_roll : PySem.W.codeIn K cd_roll "_law_roll" = true) (k_roll : PySem.W.keepIn K (.ref f_roll) = true)
    {f_pick : Addr} {od_pick an_pick : Option Addr} {sl_pick : Array (Option Value)} {oc_pick kV_pick dc_pick pm_pick cd_pick ct_pick : Value}
    (a_pick : PySem.W.nsIn K mainGlobals "_law_pick" = some (some (.ref f_pick))) (l_pick : K.lookup f_pick = some ⟨oc_pick, od_pick, .func (PySem.W.fnOf "_law_pick" "_law_pick" (defArgs s_pick) (defBody s_pick) (defScope s_pick) .none kV_pick dc_pick pm_pick an_pick cd_pick ct_pick), sl_pick⟩) (c_pick : PySem.W.codeIn K cd_pick "_law_pick" = true) (k_pick : PySem.W.keepIn K (.ref f_pick) = true)
    {f_row : Addr} {od_row an_row : Option Addr} {sl_row : Array (Option Value)} {oc_row kV_row dc_row pm_row cd_row ct_row : Value}
    (a_row : PySem.W.nsIn K mainGlobals "_law_row" = some (some (.ref f_row))) (l_row : K.lookup f_row = some ⟨oc_row, od_row, .func (PySem.W.fnOf "_law_row" "_law_row" (defArgs s_row) (defBody s_row) (defScope s_row) .none kV_row dc_row pm_row an_row cd_row ct_row), sl_row⟩) (c_row : PySem.W.codeIn K cd_row "_law_row" = true) (k_row : PySem.W.keepIn K (.ref f_row) = true)
    {f_law : Addr} {od_law an_law : Option Addr} {sl_law : Array (Option Value)} {oc_law kV_law dc_law pm_law cd_law ct_law : Value}
    (a_law : PySem.W.nsIn K mainGlobals "law" = some (some (.ref f_law))) (l_law : K.lookup f_law = some ⟨oc_law, od_law, .func (PySem.W.fnOf "law" "law" (defArgs s_law) (defBody s_law) (defScope s_law) .none kV_law dc_law pm_law an_law cd_law ct_law), sl_law⟩) (c_law : PySem.W.codeIn K cd_law "law" = true) (k_law : PySem.W.keepIn K (.ref f_law) = true)
    {t_MAX_COLUMN : Tok} (m_MAX_COLUMN : PySem.W.nsIn K mainGlobals "MAX_COLUMN" = some (some (.int (199) t_MAX_COLUMN)))
    (z_isinstance : PySem.W.nsIn K mainGlobals "isinstance" = some none)
    (z_int : PySem.W.nsIn K mainGlobals "int" = some none)
    (z_bool : PySem.W.nsIn K mainGlobals "bool" = some none)
    (z_abs : PySem.W.nsIn K mainGlobals "abs" = some none)
    (z_len : PySem.W.nsIn K mainGlobals "len" = some none)
    (z_max : PySem.W.nsIn K mainGlobals "max" = some none)
    (z_range : PySem.W.nsIn K mainGlobals "range" = some none)
    (z_min : PySem.W.nsIn K mainGlobals "min" = some none)
    (z_repr : PySem.W.nsIn K mainGlobals "repr" = some none) :
    ∃ fd : FuncData, (∀ (s : Shared) (v : Value), BindsTo s fd ⟨[v], []⟩ [("_law_script", v)]) ∧ ∀ base : Heap, K.In base → base.Ns mainGlobals mg → FnG l.prog w K mg base CX0 4 fa fd ["_law_script"] (spLaw K) := by
  have e := hfa.symm.trans (PySem.W.mg_of X G a_law)
  cases e
  let T : Txt K mg := {
    f_is_integer := f_is_integer, fd_is_integer := _, F_is_integer := fun_mk (st := s_is_integer) l_is_integer c_is_integer k_is_integer, g_is_integer := PySem.W.mg_of X G a_is_integer, b_is_integer := (fun_mk (st := s_is_integer) l_is_integer c_is_integer k_is_integer).binds (ps := ["value"]) (fun _ _ _ _ _ _ us hl => match us, hl with | [_], _ => rfl),
    f_is_column := f_is_column, fd_is_column := _, F_is_column := fun_mk (st := s_is_column) l_is_column c_is_column k_is_column, g_is_column := PySem.W.mg_of X G a_is_column, b_is_column := (fun_mk (st := s_is_column) l_is_column c_is_column k_is_column).binds (ps := ["value"]) (fun _ _ _ _ _ _ us hl => match us, hl with | [_], _ => rfl),
    f_dice := f_dice, fd_dice := _, F_dice := fun_mk (st := s_dice) l_dice c_dice k_dice, g_dice := PySem.W.mg_of X G a_dice, b_dice := (fun_mk (st := s_dice) l_dice c_dice k_dice).binds (ps := ["_law_script", "_law_spot"]) (fun _ _ _ _ _ _ us hl => match us, hl with | [_, _], _ => rfl),
    f_roll := f_roll, fd_roll := _, F_roll := fun_mk (st := s_roll) l_roll c_roll k_roll, g_roll := PySem.W.mg_of X G a_roll, b_roll := (fun_mk (st := s_roll) l_roll c_roll k_roll).binds (ps := ["_law_dice_here", "_law_total"]) (fun _ _ _ _ _ _ us hl => match us, hl with | [_, _], _ => rfl),
    f_pick := f_pick, fd_pick := _, F_pick := fun_mk (st := s_pick) l_pick c_pick k_pick, g_pick := PySem.W.mg_of X G a_pick, b_pick := (fun_mk (st := s_pick) l_pick c_pick k_pick).binds (ps := ["_law_dice_here", "_law_items"]) (fun _ _ _ _ _ _ us hl => match us, hl with | [_, _], _ => rfl),
    f_row := f_row, fd_row := _, F_row := fun_mk (st := s_row) l_row c_row k_row, g_row := PySem.W.mg_of X G a_row, b_row := (fun_mk (st := s_row) l_row c_row k_row).binds (ps := ["_law_dice_here"]) (fun _ _ _ _ _ _ us hl => match us, hl with | [_], _ => rfl),
    t_MAX_COLUMN := t_MAX_COLUMN, c_MAX_COLUMN := PySem.W.mg_of X G m_MAX_COLUMN,
    z_isinstance := PySem.W.mg_none_of X G z_isinstance,
    z_int := PySem.W.mg_none_of X G z_int,
    z_bool := PySem.W.mg_none_of X G z_bool,
    z_abs := PySem.W.mg_none_of X G z_abs,
    z_len := PySem.W.mg_none_of X G z_len,
    z_max := PySem.W.mg_none_of X G z_max,
    z_range := PySem.W.mg_none_of X G z_range,
    z_min := PySem.W.mg_none_of X G z_min,
    z_repr := PySem.W.mg_none_of X G z_repr }
  exact ⟨_, fun s v => .of_eq rfl, fun base _ _ => ok_law T (fun_mk (st := s_law) l_law c_law k_law)⟩
end My
open PySem PySem.W PyProof.Rows
set_option maxHeartbeats 0 in
theorem PySem.Challenge.cw_offside_k02_columns_and_integers_judged_holds : PySem.Challenge.rw_offside_k02_columns_and_integers_judged.Holds := by
  w_on; o_law; k_head; (case hw => w_witness2)
  k_fill
  refine My.walkG (l := PySem.Challenge.rw_offside_k02_columns_and_integers_judged) (n := 63) (k := 4) (x := "_law_script") (CX := fun _ => L2.CX0) (sp := fun w => My.spLaw _) rfl (by decide) rfl ⟨rfl, by decide, by decide⟩ (fun w h Y => PySem.W.kIn_of Y) ?F (fun _ _ a ns hl _ hS => ⟨a, ns, rfl, hS, hl, fun _ => rfl⟩) (fun _ _ _ _ _ h => h)
  case F =>
    intro w mg fa h KX G hmg
    refine' My.all_mk KX G hmg ?a_is_integer ?l_is_integer ?c_is_integer ?k_is_integer ?a_is_column ?l_is_column ?c_is_column ?k_is_column ?a_dice ?l_dice ?c_dice ?k_dice ?a_roll ?l_roll ?c_roll ?k_roll ?a_pick ?l_pick ?c_pick ?k_pick ?a_row ?l_row ?c_row ?k_row ?a_law ?l_law ?c_law ?k_law ?m_MAX_COLUMN ?z_isinstance ?z_int ?z_bool ?z_abs ?z_len ?z_max ?z_range ?z_min ?z_repr
    (case a_is_integer => k_is); (case l_is_integer => k_is); (case c_is_integer => k_is); (case k_is_integer => k_is); (case a_is_column => k_is); (case l_is_column => k_is); (case c_is_column => k_is); (case k_is_column => k_is); (case a_dice => k_is); (case l_dice => k_is); (case c_dice => k_is); (case k_dice => k_is); (case a_roll => k_is); (case l_roll => k_is); (case c_roll => k_is); (case k_roll => k_is); (case a_pick => k_is); (case l_pick => k_is); (case c_pick => k_is); (case k_pick => k_is); (case a_row => k_is); (case l_row => k_is); (case c_row => k_is); (case k_row => k_is); (case a_law => k_is); (case l_law => k_is); (case c_law => k_is); (case k_law => k_is); (case m_MAX_COLUMN => k_is); (case z_isinstance => k_is); (case z_int => k_is); (case z_bool => k_is); (case z_abs => k_is); (case z_len => k_is); (case z_max => k_is); (case z_range => k_is); (case z_min => k_is); (case z_repr => k_is)

